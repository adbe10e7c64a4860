import PyProof.Rows.All
import Wide.All
import OpenK.AllK
import Wide.FinOn
import KE.KStateDown
import HandS.ForMost
import HandS.ForExc
import HandS.ExcInit
import HandS.ExcIs
import HandS.ExcField
import HandS.WideBits
import HandS.IsInst
import HandS.MakeKwOnly
import HandS.Defaults
import HandS.Head0
import HandS.Head1
import HandS.Head2
import HandS.HeadEnd
import HandS.HeadHook1
import HandS.HeadHook2
import HandS.EndBits
import HandS.RaiseMore
import HandS.Style
import KE.KExcIs
import KE.KDictDisplayH
import KE.KEqNest
import HandS.Strs
import KE.GoesMore
import PyProof.Draws
import PyProof.EnumMake
import HandS.Text
import HandS.DictComp
import HandS.Property
import HandS.Conv
import HandS.ListItems
import KE.KDictList
import HandS.Lambda
import KE.KNestM
import HandS.ExcValue
import KE.SortData
import KE.DataMinMax
import PyProof.EqLayable
import HandS.SortKw
import HandS.More
import HandS.WordsDict
import HandS.OwnEq
import HandS.TryMany
import HandS.WordsExc
import PyProof.P3Eq
import HandS.DictTup
import KE.KItemsList
import HandS.Walk
import KE.KDictPairs
import HandS.TryOnly
import PyProof.StrWalks
import KE.KxText
import HandS.TupMul
import HandS.CallSlots
import HandS.NoneIn
import PySem.Challenge.RW_farhandles_k03_books_refused
set_option Elab.async false
set_option linter.all false
set_option maxRecDepth 100000
set_option maxHeartbeats 40000000
namespace Fh
open PySem PySem.Spec PyProof.Rows L2

/-! ### defs that are called where no repr is under way -/
structure FnG (P : Program) (w : World) (K : PySem.W.Frag) (mg : Str → Option Value) (base : Heap) (CX : CXT) (k : Nat) (f : Addr) (fd : FuncData) (ps : List Str) (sp : Sp) : Prop where
  len : ∀ vs H Q E, sp vs H Q E → vs.length = ps.length
  go : ∀ (A : Around) (outer : List Env) (s : Shared) (H : Hp) (args : Args) (us : List Value) (vs : List V) (Q : VK) (E : XK), A.guards = some [] → Room k A →
    Env0 P w K mg base A outer s H → BindsTo s fd args (ps.zip us) → Vals vs us → sp vs H Q E → codeAny (model P w) A (.call (.ref f) args) (CR CX outer P w H s Q E) s
section
variable {P : Program} {w : World} {K : PySem.W.Frag} {mg : Str → Option Value} {base : Heap} {CX : CXT} {k : Nat} {f : Addr} {fd : FuncData} {ps : List Str} {sp : Sp}
theorem FnG.of (F : FnOk P w K mg base CX k f fd ps sp) : FnG P w K mg base CX k f fd ps sp :=
  ⟨F.len, fun A outer s H args us vs Q E _ hr => F.run A outer s H args us vs Q E hr⟩
/-- a def by its body, the callers' repr known to be at rest -/
theorem fnG_of {name qual : Str} {params : Arguments} {body : List Stmt} {scope : Scope} {dV kV doc pm cdv ct oc : Value} {an od : Option Addr} {osl : Array (Option Value)} {N : List Str}
    (lk : K.lookup f = some ⟨oc, od, .func (PySem.W.fnOf name qual params body scope dV kV doc pm an cdv ct), osl⟩) (hcd : PySem.W.codeIn K cdv qual = true) (S : FnScope N ps scope)
    (len : ∀ vs H Q E, sp vs H Q E → vs.length = ps.length)
    (hbody : ∀ (A : Around) (outer : List Env) (s : Shared) (H : Hp) (vs : List V) (Q : VK) (E : XK), A.guards = some [] → Room k (A.deeper (envOfC qual scope s.heap.objs.size f cdv)) → sp vs H Q E →
      ∃ t, PSs (cxOf CX P w K mg base N qual scope f cdv A outer s H E) body t ∧ t { nx := fun _ H' => Q .non H', rt := Q } (start N vs) H) :
    FnG P w K mg base CX (k + 1) f (PySem.W.fnOf name qual params body scope dV kV doc pm an cdv ct) ps sp := by
  refine ⟨len, fun A outer s H args us vs Q E hgd hr e0 hb r hsp => ?_⟩
  have hl := len _ _ _ _ hsp
  have KX : K.In s.heap := e0.mod.kin.keeps fun b o e => (e0.bs b o e).1
  have lim : s.heap.NoLimit := e0.mod.nolimit.keeps fun b o e => (e0.bs b o e).1
  have kinds : ∀ y ∈ ps.zip us, scope.names.lookup y.1 = some .local ∨ (scope.names.lookup y.1 = some .cell ∧ ((cellsFrom (s.heap.objs.size + 1) scope.names []).lookup y.1).isSome = true) := by
    rintro ⟨n, v⟩ hy
    rcases S.par n (List.of_mem_zip hy).1 with q | q
    · exact Or.inl q
    · exact Or.inr ⟨q, PySem.W.cellsFrom_some _ _ _ (Or.inl q)⟩
  refine codeAny_call_function hr.depth (KX _ _ lk) rfl S.co S.gen rfl (PySem.W.codeRec_of KX hcd) (hb _ _ _ _ ?_)
  refine wpAny_newFunctionEnv_cells S.kind kinds fun env he s1 x => ?_
  subst he
  refine ⟨lim.keeps x.toInCall.keep, codeAny_func ?_⟩
  obtain ⟨t, ht, hq⟩ := hbody A outer s H vs Q E hgd (hr.deeper _) hsp
  have I : Inv (cxOf CX P w K mg base N qual scope f cdv A outer s H E) [] (start N vs) H s1 := inv_start S hr.hd e0 hl r x
  refine wpAny_mono (ht.run [] s1 (start N vs) H _ I hq) (fun fl s' hs => ?_) (fun e s' hs => hs)
  have fin : ∀ {σ' : L2.St} {H' : Hp} {v : V} {u : Value}, Inv (cxOf CX P w K mg base N qual scope f cdv A outer s H E) [] σ' H' s' → RelV v u → Q v H' → CE outer P w H s Q u s' :=
    fun {_ H' v _} J rv q => ⟨v, H', J.os, J.bare, J.base, J.hok, rv, q⟩
  cases fl with
  | ret u => obtain ⟨v, σ', H', J, rv, q⟩ := hs; exact fin J rv q
  | next => obtain ⟨σ', H', J, q⟩ := hs; exact fin (v := V.non) (u := Value.none) J rfl q
  | brk => obtain ⟨_, _, _, q⟩ := hs; exact q.elim
  | cont => obtain ⟨_, _, _, q⟩ := hs; exact q.elim
end
/-- a FunD's def, by its body -/
theorem funG {P : Program} {w : World} {K : PySem.W.Frag} {mg : Str → Option Value} {base : Heap} {CX : CXT} {k : Nat} {f : Addr} {fd : FuncData} {N ps : List Str} {sp : Sp} {x qual : Str} {params : Arguments} {body : List Stmt} {scope : Scope} {dvs : List V} {kws : List (Str × V)}
    (F : FunD K x qual params body scope dvs kws f fd) (S : FnScope N ps scope) (len : ∀ vs H Q E, sp vs H Q E → vs.length = ps.length)
    (hbody : ∀ (cdv : Value) (A : Around) (outer : List Env) (s : Shared) (H : Hp) (vs : List V) (Q : VK) (E : XK), A.guards = some [] → Room k (A.deeper (envOfC qual scope s.heap.objs.size f cdv)) → sp vs H Q E →
      ∃ t, PSs (cxOf CX P w K mg base N qual scope f cdv A outer s H E) body t ∧ t { nx := fun _ H' => Q .non H', rt := Q } (start N vs) H) : FnG P w K mg base CX (k + 1) f fd ps sp := by
  obtain ⟨oc, od, dV, kV, doc, pm, an, cdv, ct, osl, rfl, lk, hcd, _, _⟩ := F.ex
  exact fnG_of lk hcd S len fun A outer s H vs Q E hg hr hsp => hbody cdv A outer s H vs Q E hg hr hsp
section
variable {X : Cx} {CX : CXT} {k : Nat} {f : Addr} {fd : FuncData} {ps : List Str} {sp : Sp} {dvs : List V} {ds : List Value} {E : XK} {x : Str} {p pos : Pos} {e : Expr} {es : List Expr} {t : TA}
theorem goG {pins : List (Addr × Obj)} {σ : L2.St} {H : Hp} {s : Shared} {Q : VK} {us : List Value} {vs : List V} (F : FnG X.prog X.w X.K X.mg X.base CX k f fd ps sp) (hgd : X.A.guards = some []) (hr : Room k X.A) (hb : Binds X.K fd ps ds) (hd : Vals dvs ds)
    (hx : Passes CX X E) (I : Inv X pins σ H s) (r : Vals vs us) (h : sp (vs ++ dvs) H Q E) : wpAny (model X.prog X.w) X.A (call (.ref f) us) (EP X pins σ Q) X.xe s := by
  have r2 : Vals (vs ++ dvs) (us ++ ds) := r.append hd
  have hl : (us ++ ds).length = ps.length := by
    rw [← r2.length]
    exact F.len _ _ _ _ h
  refine wpAny_call (codeAny_mono (F.go X.A X.stack s H ⟨us, []⟩ (us ++ ds) (vs ++ dvs) Q E hgd hr I.env0 (hb s us I.kIn hl) r2 h) fun r s' hq => ?_)
  cases r with
  | error er => exact hx pins σ H s er s' I hq
  | ok fl => cases fl with
    | ret u => exact I.after hq
    | next => exact hq.elim
    | brk => exact hq.elim
    | cont => exact hq.elim
theorem peG_call (F : FnG X.prog X.w X.K X.mg X.base CX k f fd ps sp) (hgd : X.A.guards = some []) (hr : Room k X.A) (hg : Gl X x) (hm : X.mg x = some (.ref f)) (hk : PySem.W.keepIn X.K (.ref f) = true) (hb : Binds X.K fd ps ds) (hd : Vals dvs ds) (hx : Passes CX X E)
    (ha : PA X (e :: es) t) (hdb : (x == ("__debug__" : Str)) = false := by decide) (he : starEach (e :: es) X.env = (false, eval e X.env) :: starEach es X.env := by rfl) (hpl : (backTo pos (starEach es X.env)).any (·.1) = false := by rfl) :
    PE X (.Call (.Name x p) (e :: es) [] pos) (tCall sp dvs E t) := by
  refine ⟨fun pins s σ H Q I h => ?_⟩
  refine wpAny_Call_Name_kw (ld_glob I hg hm ?_ hdb)
  exact PySem.W.callWith_K (h₀ := X.base) I.ok.mod.kin hk (thn (ha.run pos pins s σ H _ I h) fun us s1 ⟨vs, H1, I1, r, q⟩ => ⟨I1.kIn, goG F hgd hr hb hd hx I1 r q⟩) he hpl
end

end Fh
namespace Fh
open PySem PySem.Spec PyProof.Rows L2
abbrev Sto := L2.St
/-! ### data in the abstract heap -/
def keyD : Key → PyData
  | .inl i => .int i
  | .inr x => .str x
mutual
def Dq (H : Hp) : PyData → V → Prop
  | .none, v => v = .non
  | .bool b, v => v = .bl b
  | .int i, v => v = .int i
  | .str x, v => v = .str x
  | .list ds, v => ∃ a xs, v = .ref a ∧ a ≠ sysModules ∧ H a = some (.lst xs) ∧ DqAll H ds xs
  | .tuple ds, v => ∃ a xs, v = .ref a ∧ H a = some (.tup xs) ∧ DqAll H ds xs
  | .dict kvs, v => ∃ a, v = .ref a ∧ ((∃ ps : List (Key × V), H a = some (.dK ps) ∧ DqK H kvs ps) ∨ ∃ ps : List (List Key × V), H a = some (.dT ps) ∧ DqT H kvs ps)
def DqAll (H : Hp) : List PyData → List V → Prop
  | [], vs => vs = []
  | d :: ds, vs => ∃ v r, vs = v :: r ∧ Dq H d v ∧ DqAll H ds r
def DqK (H : Hp) : List (PyData × PyData) → List (Key × V) → Prop
  | [], ps => ps = []
  | (k, d) :: r, ps => ∃ key v q, ps = (key, v) :: q ∧ k = keyD key ∧ Dq H d v ∧ DqK H r q
def DqT (H : Hp) : List (PyData × PyData) → List (List Key × V) → Prop
  | [], ps => ps = []
  | (k, d) :: r, ps => ∃ ks v q, ps = (ks, v) :: q ∧ k = .tuple (ks.map keyD) ∧ Dq H d v ∧ DqT H r q
end
mutual
theorem Dq.up {H H' : Hp} (e : Same H H') : ∀ (d : PyData) (v : V), Dq H d v → Dq H' d v
  | .none, _, h => by simpa only [Dq] using h
  | .bool _, _, h => by simpa only [Dq] using h
  | .int _, _, h => by simpa only [Dq] using h
  | .str _, _, h => by simpa only [Dq] using h
  | .list ds, v, h => by
    simp only [Dq] at h ⊢
    obtain ⟨a, xs, rfl, n, q, r⟩ := h
    exact ⟨a, xs, rfl, n, e _ _ q, DqAll.up e ds xs r⟩
  | .tuple ds, v, h => by
    simp only [Dq] at h ⊢
    obtain ⟨a, xs, rfl, q, r⟩ := h
    exact ⟨a, xs, rfl, e _ _ q, DqAll.up e ds xs r⟩
  | .dict kvs, v, h => by
    simp only [Dq] at h ⊢
    obtain ⟨a, rfl, ⟨ps, q, r⟩ | ⟨ps, q, r⟩⟩ := h
    · exact ⟨a, rfl, .inl ⟨ps, e _ _ q, DqK.up e kvs ps r⟩⟩
    · exact ⟨a, rfl, .inr ⟨ps, e _ _ q, DqT.up e kvs ps r⟩⟩
theorem DqAll.up {H H' : Hp} (e : Same H H') : ∀ (ds : List PyData) (vs : List V), DqAll H ds vs → DqAll H' ds vs
  | [], _, h => by simpa only [DqAll] using h
  | d :: ds, _, h => by
    simp only [DqAll] at h ⊢
    obtain ⟨v, r, rfl, h1, h2⟩ := h
    exact ⟨v, r, rfl, Dq.up e d v h1, DqAll.up e ds r h2⟩
theorem DqK.up {H H' : Hp} (e : Same H H') : ∀ (ds : List (PyData × PyData)) (vs : List (Key × V)), DqK H ds vs → DqK H' ds vs
  | [], _, h => by simpa only [DqK] using h
  | (k, d) :: ds, _, h => by
    simp only [DqK] at h ⊢
    obtain ⟨key, v, q, rfl, h0, h1, h2⟩ := h
    exact ⟨key, v, q, rfl, h0, Dq.up e d v h1, DqK.up e ds q h2⟩
theorem DqT.up {H H' : Hp} (e : Same H H') : ∀ (ds : List (PyData × PyData)) (vs : List (List Key × V)), DqT H ds vs → DqT H' ds vs
  | [], _, h => by simpa only [DqT] using h
  | (k, d) :: ds, _, h => by
    simp only [DqT] at h ⊢
    obtain ⟨key, v, q, rfl, h0, h1, h2⟩ := h
    exact ⟨key, v, q, rfl, h0, Dq.up e d v h1, DqT.up e ds q h2⟩
end
theorem reads_keys {h : Heap} : ∀ (ks : List Key) (us : List Value), Vals (ks.map kV) us → ReadsAll h us (ks.map keyD) []
  | [], us, r => by cases r; exact .nil
  | .inl i :: ks, us, r => by
    cases r with
    | cons r1 r2 =>
      obtain ⟨t, rfl⟩ := r1
      exact ReadsAll.cons (as := []) (bs := []) (.int i t) (reads_keys ks _ r2)
  | .inr x :: ks, us, r => by
    cases r with
    | cons r1 r2 =>
      obtain ⟨t, rfl⟩ := r1
      exact ReadsAll.cons (as := []) (bs := []) (.str x t) (reads_keys ks _ r2)
section
variable {P : Program} {w : World} {H : Hp} {h : Heap}
theorem key_reads {k : Key} {u : Value} (e : keyIs k u = true) : Reads h u (keyD k) [] := by
  rcases keyIs_shape e with ⟨i, t, rfl, rfl⟩ | ⟨x, t, rfl, rfl⟩
  · exact .int i t
  · exact .str x t
mutual
theorem Dq.reads (ok : HOk P w H h) : ∀ (d : PyData) (v : V) (u : Value), Dq H d v → RelV v u → ∃ as, Reads h u d as ∧ sysModules ∉ as
  | .none, v, u, e, r => by
    simp only [Dq] at e; subst e; cases r
    exact ⟨[], .none, List.not_mem_nil⟩
  | .bool b, v, u, e, r => by
    simp only [Dq] at e; subst e; cases r
    exact ⟨[], .bool b, List.not_mem_nil⟩
  | .int i, v, u, e, r => by
    simp only [Dq] at e; subst e; obtain ⟨t, rfl⟩ := r
    exact ⟨[], .int i t, List.not_mem_nil⟩
  | .str x, v, u, e, r => by
    simp only [Dq] at e; subst e; obtain ⟨t, rfl⟩ := r
    exact ⟨[], .str x t, List.not_mem_nil⟩
  | .list ds, v, u, e, r => by
    simp only [Dq] at e
    obtain ⟨a, xs, rfl, n, q, s⟩ := e
    cases r
    obtain ⟨_, its, m, rv, hg⟩ := (show ObjOk P w H h a (.lst xs) from ok a _ q)
    obtain ⟨as, ra, na⟩ := DqAll.reads ok ds xs its s rv
    refine ⟨_, Reads.list hg rfl rfl ra, fun z => ?_⟩
    rcases List.mem_cons.mp z with z | z
    · exact n z.symm
    · exact na z
  | .tuple ds, v, u, e, r => by
    simp only [Dq] at e
    obtain ⟨a, xs, rfl, q, s⟩ := e
    cases r
    obtain ⟨_, its, rv, o, hg, hc, m, hd⟩ := (show ObjOk P w H h a (.tup xs) from ok a _ q)
    obtain ⟨as, ra, na⟩ := DqAll.reads ok ds xs its s rv
    exact ⟨_, Reads.tuple hg hc hd ra, na⟩
  | .dict kvs, v, u, e, r => by
    simp only [Dq] at e
    obtain ⟨a, rfl, ⟨ps, q, s⟩ | ⟨ps, q, s⟩⟩ := e
    · cases r
      obtain ⟨_, hy, vs, rel, dd⟩ := dk_of ok q
      obtain ⟨o, es, ep, ho, hx, hd, _, hp, _⟩ := dd
      obtain ⟨bs, ka, kb, nb⟩ := DqK.reads ok kvs ps vs es.toList s rel hp
      refine ⟨_, Reads.dict ho hx.1 hd ka kb, fun z => ?_⟩
      rcases List.mem_append.mp z with z | z
      · rcases List.mem_cons.mp z with z | z
        · exact (beq_eq_false_iff_ne.mp hy) z.symm
        · exact absurd z List.not_mem_nil
      · exact nb z
    · cases r
      obtain ⟨_, hy, xs, rel, dd⟩ := dt_of ok q
      obtain ⟨o, es, ep, ho, hx, hd, he, _, _⟩ := dd
      obtain ⟨bs, ka, kb, nb⟩ := DqT.reads ok kvs ps xs s rel
      refine ⟨_, Reads.dict ho hx.1 hd (as := []) (bs := bs) ?_ ?_, fun z => ?_⟩
      · rw [he, List.map_map]; exact ka
      · rw [he, List.map_map]; exact kb
      · rcases List.mem_append.mp z with z | z
        · rcases List.mem_cons.mp z with z | z
          · exact (beq_eq_false_iff_ne.mp hy) z.symm
          · exact absurd z List.not_mem_nil
        · exact nb z
theorem DqAll.reads (ok : HOk P w H h) : ∀ (ds : List PyData) (vs : List V) (us : List Value), DqAll H ds vs → Vals vs us → ∃ as, ReadsAll h us ds as ∧ sysModules ∉ as
  | [], vs, us, e, r => by
    simp only [DqAll] at e; subst e; cases r
    exact ⟨[], .nil, List.not_mem_nil⟩
  | d :: ds, vs, us, e, r => by
    simp only [DqAll] at e
    obtain ⟨v, q, rfl, e1, e2⟩ := e
    cases r with
    | cons r1 r2 =>
      obtain ⟨as, x1, n1⟩ := Dq.reads ok d v _ e1 r1
      obtain ⟨bs, x2, n2⟩ := DqAll.reads ok ds q _ e2 r2
      exact ⟨_, .cons x1 x2, fun z => (List.mem_append.mp z).elim n1 n2⟩
theorem DqK.reads (ok : HOk P w H h) : ∀ (kvs : List (PyData × PyData)) (ps : List (Key × V)) (vs : List (Key × Value)) (es : List DictEntry), DqK H kvs ps → KV ps vs → Pairs (mixKind P w) es vs →
    ∃ bs, ReadsAll h (es.map (·.key)) (kvs.map (·.1)) [] ∧ ReadsAll h (es.map (·.val)) (kvs.map (·.2)) bs ∧ sysModules ∉ bs
  | [], ps, vs, es, e, r, k => by
    simp only [DqK] at e; subst e; cases r; cases k
    exact ⟨[], .nil, .nil, List.not_mem_nil⟩
  | (k, d) :: kvs, ps, vs, es, e, r, m => by
    simp only [DqK] at e
    obtain ⟨key, v, q, rfl, rfl, e1, e2⟩ := e
    cases r with
    | cons r1 r2 =>
      cases m with
      | cons m0 m1 m2 =>
        obtain ⟨bs, x1, n1⟩ := Dq.reads ok d v _ e1 r1.2
        obtain ⟨cs, y1, y2, y3⟩ := DqK.reads ok kvs q _ _ e2 r2 m2
        have q1 : key = _ := r1.1
        refine ⟨bs ++ cs, ReadsAll.cons (as := []) (bs := []) (key_reads (by rw [q1]; exact m0)) y1, ReadsAll.cons (by show Reads h _ d bs; rw [show (fun (x : DictEntry) => x.val) _ = _ from m1]; exact x1) y2, fun z => (List.mem_append.mp z).elim n1 y3⟩
theorem DqT.reads (ok : HOk P w H h) : ∀ (kvs : List (PyData × PyData)) (ps : List (List Key × V)) (xs : List (List Key × Addr × Value)), DqT H kvs ps → KT H ps xs →
    ∃ bs, ReadsAll h (xs.map fun x => Value.ref x.2.1) (kvs.map (·.1)) [] ∧ ReadsAll h (xs.map fun x => x.2.2) (kvs.map (·.2)) bs ∧ sysModules ∉ bs
  | [], ps, xs, e, r => by
    simp only [DqT] at e; subst e; cases r
    exact ⟨[], .nil, .nil, List.not_mem_nil⟩
  | (k, d) :: kvs, ps, xs, e, r => by
    simp only [DqT] at e
    obtain ⟨ks, v, q, rfl, rfl, e1, e2⟩ := e
    cases r with
    | @cons _ x _ xs r1 r2 =>
      obtain ⟨bs, x1, n1⟩ := Dq.reads ok d v _ e1 r1.2.2
      obtain ⟨cs, y1, y2, y3⟩ := DqT.reads ok kvs q _ e2 r2
      obtain ⟨_, its, rv, o, hg, hc, m, hd⟩ := (show ObjOk P w H h x.2.1 (.tup (ks.map kV)) from ok _ _ r1.2.1)
      refine ⟨bs ++ cs, ReadsAll.cons (as := []) (bs := []) (Reads.tuple hg hc hd (reads_keys ks its rv)) y1, ReadsAll.cons x1 y2, fun z => (List.mem_append.mp z).elim n1 y3⟩
end
end
/-! ### repr -/
structure DOk (d : PyData) : Prop where
  sh : d.showable = true
  dp : d.depth ≤ 60
  sz : d.shown.length ≤ sizeLine
  ok : PyData.strOk d.shown = true
def rRepr : List V → Hp → VK → Prop := fun xs H Q => ∃ v d, xs = [v] ∧ Dq H d v ∧ DOk d ∧ Q (.str d.shown) H
theorem call_repr {X : Cx} (hg : X.A.guards = some []) (hu : X.A.units + 64 < cLine) : CallR X (.builtin "repr") rRepr := by
  intro pins s σ H xs us Q I r h
  obtain ⟨v, d, rfl, hd, ok, q⟩ := h
  obtain ⟨u, rfl, ru⟩ := vals1 r
  obtain ⟨as, hr, hn⟩ := Dq.reads I.hok d v u hd ru
  have sh := ok.sh
  have dp := ok.dp
  have sz := ok.sz
  cases d with
  | none =>
    simp only [Dq] at hd; subst hd; cases ru
    exact P.repr_of_none ⟨V.str _, H, I.tok _, ⟨_, rfl⟩, by simpa only [PyData.shown] using q⟩
  | bool b =>
    simp only [Dq] at hd; subst hd; cases ru
    exact P.repr_of_bool ⟨V.str _, H, I.tok _, ⟨_, rfl⟩, by simpa only [PyData.shown] using q⟩
  | int i =>
    simp only [Dq] at hd; subst hd; obtain ⟨t, rfl⟩ := ru
    exact P.repr_of_int (by simpa [PyData.showable] using sh) ⟨V.str _, H, I.tok _, ⟨_, rfl⟩, by simpa only [PyData.shown] using q⟩
  | str x =>
    simp only [Dq] at hd; subst hd; obtain ⟨t, rfl⟩ := ru
    exact P.repr_of_str ⟨V.str _, H, I.tok _, ⟨_, rfl⟩, by simpa only [PyData.shown] using q⟩ (by simpa only [PyData.shown] using sz)
  | list ds =>
    simp only [Dq] at hd; obtain ⟨a, _, rfl, _⟩ := hd; cases ru
    exact repr_of_reads' hr sh (fun _ => hn) hg (by omega) (fun _ _ e => e) (fun h' u tk hk => ⟨V.str _, H, I.kept hk, ⟨_, rfl⟩, q⟩) sz
  | tuple ds =>
    simp only [Dq] at hd; obtain ⟨a, _, rfl, _⟩ := hd; cases ru
    exact repr_of_reads' hr sh (fun _ => hn) hg (by omega) (fun _ _ e => e) (fun h' u tk hk => ⟨V.str _, H, I.kept hk, ⟨_, rfl⟩, q⟩) sz
  | dict kvs =>
    simp only [Dq] at hd; obtain ⟨a, rfl, _⟩ := hd; cases ru
    exact repr_of_reads' hr sh (fun _ => hn) hg (by omega) (fun _ _ e => e) (fun h' u tk hk => ⟨V.str _, H, I.kept hk, ⟨_, rfl⟩, q⟩) sz

/-! ### weaker readings -/
theorem pe_imp {X : Cx} {e : Expr} {t t' : TE} (h : PE X e t) (i : ∀ σ H Q, t' σ H Q → t σ H Q) : PE X e t' := ⟨fun pins s σ H Q I q => h.run pins s σ H Q I (i _ _ _ q)⟩
theorem pa_imp {X : Cx} {es : List Expr} {t t' : TA} (h : PA X es t) (i : ∀ σ H Q, t' σ H Q → t σ H Q) : PA X es t' := ⟨fun pos pins s σ H Q I q => h.run pos pins s σ H Q I (i _ _ _ q)⟩
/-- [..]: the new list isn't sys.modules -/
theorem pe_lstS {X : Cx} {es : List Expr} {t : TA} {pos : Pos} (h : PA X es t) : PE X (.List es pos) (fun σ H Q => t σ H fun xs H1 => xs.length ≤ sizeLine ∧ ∀ p, H1 p = none → p ≠ sysModules → Q (.ref p) (upd H1 p (.lst xs))) := by
  refine ⟨fun pins s σ H Q I hq => ?_⟩
  refine wpAny_List_spliced (thn (h.run pos pins s σ H _ I hq) fun us s1 hx => ?_)
  obtain ⟨xs, H1, I1, r, z, q⟩ := hx
  have hf : H1 s1.heap.objs.size = none := I1.hok.fresh (Nat.le_refl _)
  refine ⟨by rw [← r.length]; exact z, .ref s1.heap.objs.size, upd H1 s1.heap.objs.size (.lst xs), I1.laid (t' := s1.toks) (fun b u e => Heap.get?_push_of_some _ e) (Nat.le_refl _) ?_, rfl, q _ hf (Nat.ne_of_gt I1.big)⟩
  exact ⟨z, us, 0, r, Heap.get?_push_size _ rfl⟩
/-! ### data that is written out -/
/-- what H' has that H had not -/
def newH (H H' : Hp) : Hp := fun b => match H b with
  | some _ => none
  | none => H' b
theorem newH_none {H H' : Hp} {b : Addr} (h : H b = none) : newH H H' b = H' b := by unfold newH; rw [h]
theorem newH_up {H H' : Hp} : Same (newH H H') H' := fun b o e => by
  unfold newH at e
  cases h : H b with
  | none => rw [h] at e; exact e
  | some _ => rw [h] at e; cases e
theorem newH_r {H H1 H2 : Hp} (s : Same H1 H2) : Same (newH H H1) (newH H H2) := fun b o e => by
  unfold newH at e ⊢
  cases h : H b with
  | none => rw [h] at e; exact s b o e
  | some _ => rw [h] at e; cases e
theorem newH_l {H H1 H2 : Hp} (s : Same H H1) : Same (newH H1 H2) (newH H H2) := fun b o e => by
  unfold newH at e ⊢
  cases h1 : H1 b with
  | none => rw [h1] at e; rw [s.free h1]; exact e
  | some _ => rw [h1] at e; cases e
theorem same_upd {H : Hp} {p : Addr} {o : HO} (h : H p = none) : Same H (upd H p o) := fun b u e => by
  rw [upd_ne (ne_of_none e h)]; exact e
def tDat (d : PyData) : TE := fun _ H Q => ∀ v H', Same H H' → Dq (newH H H') d v → Q v H'
def tDats (ds : List PyData) : TA := fun _ H Q => ∀ vs H', Same H H' → DqAll (newH H H') ds vs → Q vs H'
section
variable {X : Cx} {e : Expr} {es : List Expr} {pos : Pos} {d : PyData} {ds : List PyData}
theorem dat_of {v : V} {t : TE} (h : PE X e t) (i : ∀ σ H (Q : VK), Q v H → t σ H Q) (hd : ∀ H, Dq H d v) : PE X e (tDat d) :=
  pe_imp h fun σ H Q q => i σ H Q (q v H (Same.refl H) (hd _))
theorem dat_int {i : Int} {j : Nat} : PE X (.Constant (.int i) j pos) (tDat (.int i)) := dat_of pe_int (fun _ _ _ q => q) fun _ => by simp only [Dq]
theorem dat_str {x : Str} {j : Nat} : PE X (.Constant (.str x) j pos) (tDat (.str x)) := dat_of pe_str (fun _ _ _ q => q) fun _ => by simp only [Dq]
theorem dat_bl {b : Bool} {j : Nat} : PE X (.Constant (.bool b) j pos) (tDat (.bool b)) := dat_of pe_bl (fun _ _ _ q => q) fun _ => by simp only [Dq]
theorem dat_non {j : Nat} : PE X (.Constant .none j pos) (tDat .none) := dat_of pe_non (fun _ _ _ q => q) fun _ => by simp only [Dq]
theorem dat_sub {i j : Int} {a b : Nat} {p1 p2 : Pos} : PE X (.BinOp (.Constant (.int i) a p1) .Sub (.Constant (.int j) b p2) pos) (tDat (.int (i - j))) := dat_of (pe_op op_sub pe_int pe_int) (fun _ _ _ q => ⟨_, _, rfl, rfl, q⟩) fun _ => by simp only [Dq]
theorem dat_pow {i j : Int} {a b : Nat} {p1 p2 : Pos} (h0 : 0 ≤ j) (h1 : j ≤ 1000000) (h2 : i.natAbs < 2 ^ 64) : PE X (.BinOp (.Constant (.int i) a p1) .Pow (.Constant (.int j) b p2) pos) (tDat (.int (i ^ j.toNat))) :=
  dat_of (pe_op op_pow pe_int pe_int) (fun _ _ _ q => ⟨_, _, rfl, rfl, ⟨h0, h1, h2⟩, q⟩) fun _ => by simp only [Dq]
theorem dats_nil : PA X [] (tDats []) := pa_imp pa_nil fun σ H Q q => q [] H (Same.refl H) (by simp only [DqAll])
theorem dats_cons (h : PE X e (tDat d)) (hs : PA X es (tDats ds)) (hst : starEach (e :: es) X.env = (false, eval e X.env) :: starEach es X.env := by rfl) : PA X (e :: es) (tDats (d :: ds)) := pa_imp (pa_cons h hs hst) fun σ H Q q => by
  intro v H1 s1 h1 vs H2 s2 h2
  refine q (v :: vs) H2 (s1.trans s2) ?_
  simp only [DqAll]
  exact ⟨v, vs, rfl, Dq.up (newH_r s2) _ _ h1, DqAll.up (newH_l s1) _ _ h2⟩
theorem dqAll_len {H : Hp} : ∀ (ds : List PyData) (vs : List V), DqAll H ds vs → vs.length = ds.length
  | [], _, h => by simp only [DqAll] at h; rw [h]; rfl
  | d :: ds, _, h => by
    simp only [DqAll] at h
    obtain ⟨v, r, rfl, _, h2⟩ := h
    rw [List.length_cons, List.length_cons, dqAll_len ds r h2]
theorem dat_lst (h : PA X es (tDats ds)) (hz : ds.length ≤ sizeLine) : PE X (.List es pos) (tDat (.list ds)) := pe_imp (pe_lstS h) fun σ H Q q => by
  intro vs H1 s1 h1
  refine ⟨by rw [dqAll_len _ _ h1]; exact hz, fun p hp hn => q (.ref p) _ (s1.trans (same_upd hp)) ?_⟩
  simp only [Dq]
  have p0 : H p = none := s1.free hp
  exact ⟨p, vs, rfl, hn, by rw [newH_none p0, upd_same], DqAll.up (newH_r (same_upd hp)) _ _ h1⟩
theorem dat_tup {x1 : Nat} (h : PA X es (tDats ds)) (hz : ds.length ≤ sizeLine) : PE X (.Tuple es x1 pos) (tDat (.tuple ds)) := pe_imp (pe_tup h) fun σ H Q q => by
  intro vs H1 s1 h1
  refine ⟨by rw [dqAll_len _ _ h1]; exact hz, fun p hp => q (.ref p) _ (s1.trans (same_upd hp)) ?_⟩
  simp only [Dq]
  have p0 : H p = none := s1.free hp
  exact ⟨p, vs, rfl, by rw [newH_none p0, upd_same], DqAll.up (newH_r (same_upd hp)) _ _ h1⟩
theorem dat_dict0 : PE X (.Dict [] [] pos) (tDat (.dict [])) := pe_imp pe_dnewK fun σ H Q q => by
  intro p hp
  refine q (.ref p) _ (same_upd hp) ?_
  simp only [Dq]
  exact ⟨p, rfl, .inl ⟨[], by rw [newH_none hp, upd_same], by simp only [DqK]⟩⟩
end
end Fh
namespace Fh
open PySem PySem.Spec PyProof.Rows L2
open PySem.HandSPX (excO refsVE)
open Builtin Builtin.ObjectAttr
/-! ### an own exception class called with keywords -/
section
variable {prog : Program} {w : World} {A : Around} {E : Value → Shared → Prop} {R : Result → Shared → Prop} {h : Heap} {g : Array GenState} {d : Drawn} {t : Nat} {os : OsState}
variable {nm q : Str} {C N : Addr} {bs bm bmB : List Value} {hdct : Bool} {sn : List Str} {sub : List Value} {ab : Bool} {col : Option Bool} {dd : Option Addr} {k0 k1 k2 k3 k5 : Option Value} {B newId initId : String} {us : List Value} {kw : List (Str × Value)}
theorem kwCheckNew {M : Model} (F : ExcBaseFacts B newId initId bmB) (hT : ∀ X : String, bm.contains (.type X) = bmB.contains (.type X)) {Q : Unit → Shared → Prop}
    (hC : h.get? C = some (excClassObj nm q C N bs bm hdct sn sub ab col dd k0 k1 k2 k3 k5 newId)) (hq : Q () ⟨h, g, d, t, os⟩) : wpAny M A (checkBuiltinCall newId ⟨.ref C :: us, kw⟩) Q E ⟨h, g, d, t, os⟩ := by
  have hcont : (Value.ref C :: bm).contains (.type B) = true := by rw [List.contains_cons, hT, F.hasB, Bool.or_true]
  have hstar := F.noStar
  simp only [checkBuiltinCall, F.newKind, F.newSplit, F.newRow]
  repeat (first | refine wpAny_loadPart_at hC ?_ | (refine wpAny_isSubtype_exc hC ?_; rw [hcont]) | refine wpAny_staticBase_exc hC ?_ | refine wpAny_madeBy_exc hC ?_ | simp only [bne_self_eq_false, Bool.false_eq_true, if_false] | wp_step)
  exact hq
theorem kwNew (F : ExcBaseFacts B newId initId bmB) (hT : ∀ X : String, bm.contains (.type X) = bmB.contains (.type X)) (hC : h.get? C = some (excClassObj nm q C N bs bm hdct sn sub ab col dd k0 k1 k2 k3 k5 newId))
    (hq : R (.ok (.ret (.ref (h.objs.size + 1)))) ⟨(h.push { cls := .type "tuple", data := .seq us.toArray }).push { cls := .ref C, data := .fields #[.ref h.objs.size, .none, .none, .none, .bool false, .none] }, g, d, t, os⟩) (hl : us.length ≤ sizeLine) :
    codeAny (model prog w) A (.builtin newId ⟨.ref C :: us, kw⟩) R ⟨h, g, d, t, os⟩ := by
  have hends := F.ends
  have c1 : (Value.ref C :: bm).contains (.type B) = true := by rw [List.contains_cons, hT, F.hasB, Bool.or_true]
  have c2 : (Value.ref C :: bm).contains (.type "AttributeError") = false := by rw [List.contains_cons, hT, F.noAttr]; rfl
  have c3 : (Value.ref C :: bm).contains (.type "NameError") = false := by rw [List.contains_cons, hT, F.noName]; rfl
  refine codeAny_builtinAt F.entry ?_
  unfold Builtin.«BaseException.__new__»
  refine PySem.wpAt_bind ?_
  show PySem.wpAt _ _ _ (stack >>= _) _ _ _
  refine PySem.wpAt_bind (PySem.wpAt_stack fun p below => PySem.wpAt_of_wpAny ?_)
  wp_walk
  refine PySem.wpAt_of_wpAny ?_
  rw [F.owner]
  repeat (first | with_reducible refine wpAny_madeHere_exc F.canon hC ?_ | with_reducible refine wpAny_loadPart_at hC ?_ | (with_reducible refine wpAny_isSubtype_exc hC ?_; first | rw [c1] | rw [c2] | rw [c3]) | wp_step)
  show R _ _
  rw [Heap.size_push]
  exact hq
theorem kwTypeCall (F : ExcBaseFacts B newId initId bmB) (hT : ∀ X : String, bm.contains (.type X) = bmB.contains (.type X)) {fI : Addr} {Q : Fin → Shared → Prop} (hC : h.get? C = some (excClassObj nm q C N bs bm hdct sn sub ab col dd k0 k1 k2 k3 k5 newId))
    (hi : W.Looks (model prog w) h (typeLookup (.ref C) "__init__") (some (.ref fI))) (hb : ∀ self, W.Looks (model prog w) h (bindSpecial (.ref fI) self) (.ref fI, [self])) (hl : us.length ≤ sizeLine)
    (hq : codeAny (model prog w) A (.call (.ref fI) ⟨.ref (h.objs.size + 1) :: us, kw⟩)
      (fun r s' => match r with | .ok (.ret v) => v = .none ∧ Q (.done (.ret (.ref (h.objs.size + 1)))) s' | .ok _ => False | .error e => E e s') ⟨(h.push (W.kdv_tup us)).push (excO C h.objs.size), g, d, t, os⟩) :
    wpAny (model prog w) A (Builtin.«type.__call__» ⟨.ref C :: us, kw⟩) Q E ⟨h, g, d, t, os⟩ := by
  repeat (first | with_reducible refine wpAny_loadPart_at hC ?_ | with_reducible refine wpAny_madeBy_exc hC ?_ | wp_step)
  refine codeAny_call_builtin_code (Code.quiet_builtin _ F.quiet) (kwCheckNew F hT hC ?_)
  refine kwNew F hT hC ?_ hl
  show wpAny _ _ _ _ _ _
  have k : ∀ b o, h.get? b = some o → ((h.push (W.kdv_tup us)).push (excO C h.objs.size)).get? b = some o := fun b o e => Heap.get?_push_of_some _ (Heap.get?_push_of_some _ e)
  have hC2 := k _ _ hC
  have hget : ((h.push (W.kdv_tup us)).push (excO C h.objs.size)).get? (h.objs.size + 1) = some (excO C h.objs.size) := by heap_get
  have hcC : (Value.ref C :: bm).contains (.ref C) = true := by simp
  have i1 := hi.keeps k
  have b1 := (hb (.ref (h.objs.size + 1))).keeps k
  unfold isInstance
  repeat (first | with_reducible refine wpAny_loadPart_at hget ?_ | (with_reducible refine wpAny_isSubtype_exc hC2 ?_; rw [hcC]) | wp_step)
  show wpAny _ _ (typeLookup (.ref C) _) _ _ _
  refine i1.at ?_
  refine wpAny_holding (wpAny_bind (b1.at ?_))
  refine wpAny_bind (wpAny_call (codeAny_mono hq fun r s' z => ?_))
  rcases r with e | (v | _ | _ | _) <;> first | exact z | exact z.elim | skip
  obtain ⟨rfl, z⟩ := z
  first
    | exact wpAny_pure (wpAny_pure z)
    | (wp_walk; exact z)
theorem kwCall (F : ExcBaseFacts B newId initId bmB) (hT : ∀ X : String, bm.contains (.type X) = bmB.contains (.type X)) {fI : Addr} (hC : h.get? C = some (excClassObj nm q C N bs bm hdct sn sub ab col dd k0 k1 k2 k3 k5 newId))
    (hi : W.Looks (model prog w) h (typeLookup (.ref C) "__init__") (some (.ref fI))) (hb : ∀ self, W.Looks (model prog w) h (bindSpecial (.ref fI) self) (.ref fI, [self])) (hl : us.length ≤ sizeLine)
    (hq : codeAny (model prog w) (A.under (.builtin "type.__call__" ⟨.ref C :: us, kw⟩)) (.call (.ref fI) ⟨.ref (h.objs.size + 1) :: us, kw⟩) (W.InitBack (h.objs.size + 1) R) ⟨(h.push (W.kdv_tup us)).push (excO C h.objs.size), g, d, t, os⟩) :
    codeAny (model prog w) A (.call (.ref C) ⟨us, kw⟩) R ⟨h, g, d, t, os⟩ := by
  have f1 := tc_lookup
  have f2 := tc_bind (.ref C)
  have hTy : (⟨h, g, d, t, os⟩ : Shared).TypeIs (.ref C) "type" := ⟨_, hC, rfl⟩
  refine codeAny_of_tree ?_
  show wpAny _ _ (callAny (.ref C) _) _ _ _
  repeat (any_goals (first | assumption | with_reducible refine wpAny_loadPart_at hC ?_ | wp_step))
  refine ⟨rfl, ?_⟩
  refine codeAny_call_builtin_at (Code.quiet_builtin _ (by decide +kernel)) entry_typeCall (W.check_slot tc_kind tc_split ?_ (W.tc_args _ _ _) (kwTypeCall F hT hC hi hb hl ?_))
  · have lt : W.Looks (model prog w) h (typeOf (.ref C)) (.type "type") := (W.Looks.ld hC).andThen .now
    exact lt.andThen (W.Looks.of_pure tc_sub)
  refine codeAny_mono hq fun r s' z => ?_
  rcases r with e | (v | _ | _ | _) <;> exact z
end
end Fh
namespace Fh
open PySem PySem.Spec PyProof.Rows L2
open PySem.HandSPX (excO refsVE)
/-! ### own exceptions as values -/
/-- v is an exception of the class at C whose field f holds y -/
def ExAt (H : Hp) (v : V) (C : Addr) (f : Str) (y : V) : Prop := ∃ a dx, v = .ref a ∧ H a = some (exo a C (some dx)) ∧ H dx = some (exd dx [(f, y)])
/-- v is an exception of the class at C, without a field -/
def ExAt0 (H : Hp) (v : V) (C : Addr) : Prop := ∃ a, v = .ref a ∧ H a = some (exo a C none)
theorem ExAt.up {H H' : Hp} {v y : V} {C : Addr} {f : Str} (s : Same H H') (h : ExAt H v C f y) : ExAt H' v C f y := by
  obtain ⟨a, dx, e, h1, h2⟩ := h
  exact ⟨a, dx, e, s _ _ h1, s _ _ h2⟩
theorem ExAt0.up {H H' : Hp} {v : V} {C : Addr} (s : Same H H') (h : ExAt0 H v C) : ExAt0 H' v C := by
  obtain ⟨a, e, h1⟩ := h
  exact ⟨a, e, s _ _ h1⟩
/-- def __init__(self, f): self.f = f -/
def spXi (K : PySem.W.Frag) (C : Addr) (f : Str) : Sp := fun vs H Q _ => ∃ a y, vs = [.ref a, y] ∧ OexC K C ∧ PySem.W.findIn K (.ref C) f = some none ∧ H a = some (exo a C none) ∧ ∀ dx, H dx = none → dx ≠ a → Q .non (upd (upd H dx (exd dx [(f, y)])) a (exo a C (some dx)))
/-- def __init__(self): pass -/
def spXo : Sp := fun vs H Q _ => ∃ a, vs = [.ref a] ∧ Q .non H
section
variable {X : Cx} {CX : CXT} {k : Nat} {C fI : Addr} {fd : FuncData} {ps : List Str} {sp : Sp} {pins : List (Addr × Obj)} {σ : Sto} {H : Hp} {s : Shared} {Q : VK}
theorem run_ex {us ws : List Value} {kw : List (Str × Value)} {zs : List V} (T : OexC X.K C) (iC : PySem.W.findIn X.K (.ref C) "__init__" = some (some (.ref fI))) (tI : PySem.W.typeIn X.K (.ref fI) = some (.type "function"))
    (F1 : FnOk X.prog X.w X.K X.mg X.base CX k fI fd ps sp) (hr : Room (k + 1) X.A) (hb : ∀ (s : Shared) (a : Value), BindsTo s fd ⟨a :: us, kw⟩ (ps.zip (a :: ws))) (hx : Passes CX X (fun _ _ _ => False)) (hl : us.length ≤ sizeLine)
    (I : Inv X pins σ H s) (r : Vals zs ws) (h : ∀ a, H a = none → sp (.ref a :: zs) (upd H a (exo a C none)) (fun v H2 => v = .non ∧ Q (.ref a) H2) (fun _ _ _ => False)) :
    wpAny (model X.prog X.w) X.A (call (.ref C) us kw) (EP X pins σ Q) X.xe s := by
  obtain ⟨nm, q, N, bs, bm, sn, sub, ab, col, dd, k0, k1, k2, k3, k5, hC, hbm⟩ := T.cls
  obtain ⟨hp, g, dr, tk, os⟩ := s
  have hsz : hp.objs.size ≤ hp.objs.size + 1 := Nat.le_succ _
  have hq := h (hp.objs.size + 1) (I.hok.fresh hsz)
  have kk : ∀ b o, hp.get? b = some o → ((hp.push (PySem.W.kdv_tup us)).push (excO C hp.objs.size)).get? b = some o := fun b o e => Heap.get?_push_of_some _ (Heap.get?_push_of_some _ e)
  have hget : ((hp.push (PySem.W.kdv_tup us)).push (excO C hp.objs.size)).get? (hp.objs.size + 1) = some (excO C hp.objs.size) := by heap_get
  have I2 : Inv X pins σ (upd H (hp.objs.size + 1) (exo (hp.objs.size + 1) C none)) ⟨(hp.push (PySem.W.kdv_tup us)).push (excO C hp.objs.size), g, dr, tk, os⟩ :=
    I.laid (t' := tk) (a := hp.objs.size + 1) (o := exo (hp.objs.size + 1) C none) (h' := (hp.push (PySem.W.kdv_tup us)).push (excO C hp.objs.size)) kk hsz (exo_ok hget)
  have r2 : Vals (V.ref (hp.objs.size + 1) :: zs) (Value.ref (hp.objs.size + 1) :: ws) := .cons rfl r
  refine wpAny_call (kwCall F.excBase_ValueError (fun Y => PySem.HandSPX.refsVE_contains Y bm hbm) (I.kIn _ _ hC) (PySem.W.looks_findIn I.kIn iC) (fun self => PySem.W.bind_fn I.kIn self tI) hl
    (codeAny_mono (F1.run _ X.stack _ _ ⟨Value.ref (hp.objs.size + 1) :: us, kw⟩ (Value.ref (hp.objs.size + 1) :: ws) _ _ (fun _ _ _ => False) (hr.make C us kw) (I2.env0.make C us kw) (hb _ _) r2 hq) fun r s' hq' => ?_))
  cases r with
  | error er => exact hx pins σ _ _ er s' I2 hq'
  | ok fl => cases fl with
    | ret u =>
      obtain ⟨v, H', I3, rv, ev, q3⟩ := I2.after hq'
      subst ev
      exact ⟨rv, ⟨V.ref (hp.objs.size + 1), H', I3, rfl, q3⟩⟩
    | next => exact False.elim hq'
    | brk => exact False.elim hq'
    | cont => exact False.elim hq'
end
section
variable {X : Cx} {CX : CXT} {k : Nat} {C fI : Addr} {fd : FuncData} {f x : Str} {p pos kp : Pos} {e : Expr} {te : TE}
def tEx (C : Addr) (f : Str) (te : TE) : TE := fun σ H Q => te σ H fun y H1 => ∀ v H', Same H1 H' → ExAt H' v C f y → Q v H'
theorem ex_end {K : PySem.W.Frag} {H : Hp} {y : V} {Q : VK} (T : OexC K C) (hf : PySem.W.findIn K (.ref C) f = some none) (q : ∀ v H', Same H H' → ExAt H' v C f y → Q v H') (a : Addr) (ha : H a = none) :
    spXi K C f [.ref a, y] (upd H a (exo a C none)) (fun v H2 => v = .non ∧ Q (.ref a) H2) (fun _ _ _ => False) := by
  refine ⟨a, y, rfl, T, hf, upd_same, fun dx hd hne => ⟨rfl, q _ _ (fun b o e => ?_) ⟨a, dx, rfl, upd_same, ?_⟩⟩⟩
  · have hd0 : H dx = none := by rw [upd_ne hne] at hd; exact hd
    rw [upd_ne (ne_of_none e ha), upd_ne (ne_of_none e hd0), upd_ne (ne_of_none e ha)]
    exact e
  · rw [upd_ne hne, upd_same]
/-- one value alone -/
def only1 (Q : VK) : List V → Hp → Prop := fun vs H => match vs with
  | [y] => Q y H
  | _ => False
theorem only1_vals {Q : VK} {vs : List V} {us : List Value} {H : Hp} (h : only1 Q vs H) (r : Vals vs us) : ∃ y u, vs = [y] ∧ us = [u] ∧ RelV y u ∧ Q y H := by
  match vs, h with
  | [y], h =>
    obtain ⟨u, rfl, ru⟩ := vals1 r
    exact ⟨y, u, rfl, rfl, ru, h⟩
/-- C(e) -/
theorem pe_ex (T : OexC X.K C) (hf : PySem.W.findIn X.K (.ref C) f = some none) (iC : PySem.W.findIn X.K (.ref C) "__init__" = some (some (.ref fI))) (tI : PySem.W.typeIn X.K (.ref fI) = some (.type "function"))
    (F1 : FnOk X.prog X.w X.K X.mg X.base CX k fI fd ["self", f] (spXi X.K C f)) (hr : Room (k + 1) X.A) (hb : ∀ (s : Shared) (a u : Value), BindsTo s fd ⟨[a, u], []⟩ [("self", a), (f, u)]) (hx : Passes CX X (fun _ _ _ => False))
    (hg : Gl X x) (hm : X.mg x = some (.ref C)) (he : PE X e te) (hdb : (x == ("__debug__" : Str)) = false := by decide) (hst : starEach [e] X.env = (false, eval e X.env) :: starEach [] X.env := by rfl) (hpl : (backTo pos (starEach [] X.env)).any (·.1) = false := by rfl) :
    PE X (.Call (.Name x p) [e] [] pos) (tEx C f te) := by
  refine ⟨fun pins s σ H Q I h => ?_⟩
  refine wpAny_Call_Name_kw (ld_glob I hg hm ?_ hdb)
  refine PySem.W.callWith_K (h₀ := X.base) I.ok.mod.kin T.kC (thn ((pa_cons he pa_nil hst).run pos pins s σ H (only1 fun y H1 => ∀ v H', Same H1 H' → ExAt H' v C f y → Q v H') I h) fun us s1 hh => ?_) hst hpl
  obtain ⟨vs, H1, I1, r1, q1⟩ := hh
  obtain ⟨y, u, rfl, rfl, ru, q⟩ := only1_vals q1 r1
  exact ⟨I1.kIn, run_ex (ws := [u]) (zs := [y]) T iC tI F1 hr (fun s a => hb s a u) hx (by rw [sizeLine_eq]; show 1 ≤ 16777216; decide) I1 (.cons ru .nil) (ex_end T hf q)⟩
/-- C(f = e) -/
theorem pe_exK (T : OexC X.K C) (hf : PySem.W.findIn X.K (.ref C) f = some none) (iC : PySem.W.findIn X.K (.ref C) "__init__" = some (some (.ref fI))) (tI : PySem.W.typeIn X.K (.ref fI) = some (.type "function"))
    (F1 : FnOk X.prog X.w X.K X.mg X.base CX k fI fd ["self", f] (spXi X.K C f)) (hr : Room (k + 1) X.A) (hb : ∀ (s : Shared) (a u : Value), BindsTo s fd ⟨[a], [(f, u)]⟩ [("self", a), (f, u)]) (hx : Passes CX X (fun _ _ _ => False))
    (hg : Gl X x) (hm : X.mg x = some (.ref C)) (he : PE X e te) (hdb : (x == ("__debug__" : Str)) = false := by decide)
    (hall : (backToKw pos (keywordEach [⟨some f, e, kp⟩] X.env)).all (·.1.isSome) = true := by rfl) (hks : (backToKw pos (keywordEach [⟨some f, e, kp⟩] X.env)).filterMap (·.1) = [f] := by rfl)
    (hpl : ((backTo pos (starEach [] X.env)).any (·.1) || (backToKw pos (keywordEach [⟨some f, e, kp⟩] X.env)).any (·.1.isNone)) = false := by rfl) :
    PE X (.Call (.Name x p) [] [⟨some f, e, kp⟩] pos) (tEx C f te) := by
  refine ⟨fun pins s σ H Q I h => ?_⟩
  refine wpAny_Call_Name_kw (ld_glob I hg hm ?_ hdb)
  refine PySem.W.callWith_KW0 (h₀ := X.base) I.ok.mod.kin T.kC hall ?_ hpl
  refine thn ((pk_cons (nm := some f) (kpos := kp) he pk_nil).run pos pins s σ H (only1 fun y H1 => ∀ v H', Same H1 H' → ExAt H' v C f y → Q v H') I h) fun us s1 hh => ?_
  obtain ⟨vs, H1, I1, r1, q1⟩ := hh
  obtain ⟨y, u, rfl, rfl, ru, q⟩ := only1_vals q1 r1
  rw [hks]
  exact ⟨I1.kIn, run_ex (us := []) (kw := [(f, u)]) (ws := [u]) (zs := [y]) T iC tI F1 hr (fun s a => hb s a u) hx (Nat.zero_le _) I1 (.cons ru .nil) (ex_end T hf q)⟩
/-- C() -/
theorem pe_ex0 (T : OexC X.K C) (iC : PySem.W.findIn X.K (.ref C) "__init__" = some (some (.ref fI))) (tI : PySem.W.typeIn X.K (.ref fI) = some (.type "function"))
    (F1 : FnOk X.prog X.w X.K X.mg X.base CX k fI fd ["self"] spXo) (hr : Room (k + 1) X.A) (hb : ∀ (s : Shared) (a : Value), BindsTo s fd ⟨[a], []⟩ [("self", a)]) (hx : Passes CX X (fun _ _ _ => False))
    (hg : Gl X x) (hm : X.mg x = some (.ref C)) (hdb : (x == ("__debug__" : Str)) = false := by decide) : PE X (.Call (.Name x p) [] [] pos) (fun σ H Q => ∀ v H', Same H H' → ExAt0 H' v C → Q v H') := by
  refine ⟨fun pins s σ H Q I h => ?_⟩
  refine wpAny_Call_Name_kw (ld_glob I hg hm ?_ hdb)
  refine PySem.W.callWith_K0 I.kIn T.kC (run_ex (us := []) (ws := []) (zs := []) T iC tI F1 hr (fun s a => hb s a) hx (Nat.zero_le _) I .nil fun a ha => ⟨a, rfl, rfl, h _ _ (same_upd ha) ⟨a, rfl, upd_same⟩⟩)
end
/-! ### their fields, their kinds -/
section
variable {X : Cx} {C : Addr} {f : Str} {e : Expr} {te : TE} {pos : Pos}
/-- e.f of such an exception -/
def tExF (K : PySem.W.Frag) (f : Str) (te : TE) : TE := fun σ H Q => te σ H fun v H1 => ∃ C y, XfC K C ∧ PySem.W.findIn K (.ref C) f = some none ∧ ExAt H1 v C f y ∧ Q y H1
theorem pe_exF {K : PySem.W.Frag} (he : PE X e te) (hK : X.K = K := by rfl) (hb : attributeBase e f X.env (eval e X.env) = eval e X.env := by rfl) : PE X (.Attribute e f pos) (tExF K f te) := by
  subst hK
  refine ⟨fun pins s σ H Q I h => ?_⟩
  refine attr_of hb (thn (he.run pins s σ H _ I h) fun u s1 hh => ?_)
  obtain ⟨v, H1, I1, rv, C, y, T, hno, ⟨a, dx, rfl, ha, hd⟩, q⟩ := hh
  cases rv
  obtain ⟨t1, ho⟩ := exo_at I1.hok ha
  obtain ⟨mA, hns, rel⟩ := exd_at I1.hok hd
  obtain ⟨od, hod, hl⟩ := lookIn_ns hns
  have hlf : ([(f, y)] : List (Str × V)).lookup f = some y := by simp [List.lookup]
  obtain ⟨u, hu, ru⟩ := RelO.some_of (v := y) (o := mA f) (by rw [← hlf]; exact rel f)
  have J : PySem.W.InstAt s1.heap a { cls := .ref C, dict := some dx, data := .fields #[.ref t1, .none, .none, .none, .bool false, .none] } C (some od) := ⟨ho, rfl, rfl, hod⟩
  exact PySem.HandSPX.exc_get I1.kIn J T.ga T.gg T.exC (PySem.W.findObj_own T.hdC hno rfl (by rw [hl, hu])) (handed_of ru) ⟨y, H1, I1.tok _, ru, q⟩
end
end Fh
namespace Fh
open PySem PySem.Spec PyProof.Rows L2 He
open PySem.HandSPX (excO refsVE)
/-! ### what the written part says of an own exception class, as one Bool -/
def oexB (K : PySem.W.Frag) (C : Addr) : Bool := match K.lookup C with
  | some ⟨.type c, _, .cls cd, sl⟩ => (match cd.mro, sl.toList with
    | .ref C' :: bm, [_, _, _, _, some (.builtin n), _] => decide (c = "type") && (decide (C' = C) && (decide (n = "ValueError.__new__") && (cd.hasDict && (!cd.hasDel && refsVE bm))))
    | _, _ => false)
  | _ => false
theorem oexB_ok {K : PySem.W.Frag} {C : Addr} (h : oexB K C = true) : ∃ nm q N bs bm sn sub ab col dd k0 k1 k2 k3 k5, K.lookup C = some (excClassObj nm q C N bs bm true sn sub ab col dd k0 k1 k2 k3 k5 "ValueError.__new__") ∧ refsVE bm = true := by
  unfold oexB at h
  split at h
  · rename_i c dd cd sl hk
    split at h
    · rename_i C' bm k0 k1 k2 k3 n k5 hm hs
      simp only [Bool.and_eq_true, decide_eq_true_eq, Bool.not_eq_true'] at h
      obtain ⟨rfl, rfl, rfl, hd, hdel, hv⟩ := h
      obtain ⟨nm, bs, mro, ns, qn, hdict, sn, sub, ab, col, del⟩ := cd
      dsimp only at hm hd hdel
      subst hm hd hdel
      obtain ⟨l⟩ := sl
      dsimp only at hs
      subst hs
      exact ⟨_, _, _, _, _, _, _, _, _, _, _, _, _, _, _, hk, hv⟩
    · cases h
  · cases h
structure ExFacts (K : PySem.W.Frag) (C : Addr) : Prop where
  oex : OexC K C
  xf : XfC K C
  is_ : ExcC K C
  init : PySem.W.findIn K (.ref C) "__init__" = some (some (.ref (ma K C "__init__")))
  ty : PySem.W.typeIn K (.ref (ma K C "__init__")) = some (.type "function")
def eqV1 (a b : Option Value) : Bool := decide (a = b)
def exB (K : PySem.W.Frag) (C : Addr) : Bool :=
  oexB K C && (eqO (PySem.W.findIn K (.ref C) "__setattr__") (some (some (.builtin "object.__setattr__"))) && (decide (PySem.W.subIn K (.ref C) (.type "BaseException") = some true) && (eqV1 (PySem.W.typeIn K (.ref C)) (some (.type "type")) && (PySem.W.keepIn K (.ref C) &&
  (xfB K C && (eqO (PySem.W.findIn K (.ref C) "__class__") (some (some (.builtin "object.__class__"))) && (eqO (PySem.W.specialIn K (.builtin "object.__class__") "__get__") (some (some (.builtin "getset_descriptor.__get__"))) &&
  (decide (PySem.W.takesIn K (.builtin "object.__class__") = some true) && (decide (PySem.W.mroIn K C (.type "object") = some true) && (eqO (PySem.W.findIn K (.ref C) "__init__") (some (some (.ref (ma K C "__init__")))) && eqV1 (PySem.W.typeIn K (.ref (ma K C "__init__"))) (some (.type "function"))))))))))))
theorem exB_ok {K : PySem.W.Frag} {C : Addr} (h : exB K C = true) : ExFacts K C := by
  obtain ⟨h1, h⟩ := ba h
  obtain ⟨h2, h⟩ := ba h
  obtain ⟨h3, h⟩ := ba h
  obtain ⟨h4, h⟩ := ba h
  obtain ⟨h5, h⟩ := ba h
  obtain ⟨h6, h⟩ := ba h
  obtain ⟨h7, h⟩ := ba h
  obtain ⟨h8, h⟩ := ba h
  obtain ⟨h9, h⟩ := ba h
  obtain ⟨h10, h⟩ := ba h
  obtain ⟨h11, h12⟩ := ba h
  have xf := xfB_ok h6
  exact ⟨⟨oexB_ok h1, eqO_ok h2, of_decide_eq_true h3, of_decide_eq_true h4, h5⟩, xf, ⟨xf.ga, xf.gg, of_decide_eq_true h3, xf.hdC, eqO_ok h7, eqO_ok h8, of_decide_eq_true h9, of_decide_eq_true h10⟩, eqO_ok h11, of_decide_eq_true h12⟩
/-! ### isinstance of such an exception -/
/-- v is an exception of the class at C -/
def ExK (H : Hp) (v : V) (C : Addr) : Prop := ∃ a d, v = .ref a ∧ H a = some (exo a C d) ∧ ∀ dx, d = some dx → ∃ f y, H dx = some (exd dx [(f, y)])
theorem ExAt.k {H : Hp} {v y : V} {C : Addr} {f : Str} (h : ExAt H v C f y) : ExK H v C := by
  obtain ⟨a, dx, e, h1, h2⟩ := h
  exact ⟨a, _, e, h1, fun dx' z => by cases z; exact ⟨f, y, h2⟩⟩
theorem ExAt0.k {H : Hp} {v : V} {C : Addr} (h : ExAt0 H v C) : ExK H v C := by
  obtain ⟨a, e, h1⟩ := h
  exact ⟨a, _, e, h1, fun dx' z => by cases z⟩
theorem ExK.up {H H' : Hp} {v : V} {C : Addr} (s : Same H H') (h : ExK H v C) : ExK H' v C := by
  obtain ⟨a, d, e, h1, h2⟩ := h
  exact ⟨a, d, e, s _ _ h1, fun dx z => let ⟨f, y, q⟩ := h2 dx z; ⟨f, y, s _ _ q⟩⟩
def rIsX (K : PySem.W.Frag) : List V → Hp → VK → Prop := fun xs H Q => ∃ v c C cv b, xs = [v, c] ∧ ExK H v C ∧ ExcC K C ∧ (∀ u, RelV c u → u = cv) ∧ PySem.W.kitOne K (.ref C) cv = some b ∧ Q (.bl b) H
theorem call_isX {X : Cx} {K : PySem.W.Frag} (hK : X.K = K := by rfl) : CallR X (.builtin "isinstance") (rIsX K) := by
  subst hK
  intro pins s σ H xs us Q I r h
  obtain ⟨v, c, C, cv, b, rfl, ⟨a, d, rfl, ha, hdx⟩, T, hcv, e, q⟩ := h
  cases r with
  | cons rx rr =>
    cases rr with
    | cons rt rr =>
      cases rr
      cases rx
      have ec := hcv _ rt
      subst ec
      obtain ⟨t1, ho⟩ := exo_at I.hok ha
      have hcl : (PySem.W.clsIn X.K C).isSome = true := by
        obtain ⟨cd, hc, _⟩ := PySem.W.any_some T.hd
        rw [hc]
        rfl
      have J : ∃ od, PySem.W.InstAt s.heap a { cls := .ref C, dict := d, data := .fields #[.ref t1, .none, .none, .none, .bool false, .none] } C od := by
        cases d with
        | none => exact ⟨none, ho, rfl, rfl, trivial⟩
        | some dx =>
          obtain ⟨f, y, hd⟩ := hdx dx rfl
          obtain ⟨mA, hns, _⟩ := exd_at I.hok hd
          obtain ⟨od, hod, _⟩ := lookIn_ns hns
          exact ⟨some od, ho, rfl, rfl, hod⟩
      obtain ⟨od, J⟩ := J
      exact PySem.W.kia_one (PySem.W.kitx_exc (od := od) hcl T.hg T.hk T.hs T.ha T.hn T.ht T.hm) I.kIn J e (fun z => nomatch z) fun tk => ⟨.bl b, H, I.kept (t' := tk) fun _ _ z => z, rfl, q⟩
end Fh
namespace Fh
open PySem PySem.Spec PyProof.Rows L2 He
/-! ### powers of great ints -/
def CPowB (i j : Int) : Prop := 0 ≤ j ∧ (Builtin.Int.intBits i : Int) * j ≤ 2 ^ 27
theorem op_powB {X : Cx} : OpR X (binaryOp .Pow) (rI CPowB fun i j => .int (i ^ j.toNat)) := opI fun _ _ _ _ _ _ _ hc q => pow_int hc.1 hc.2 q
theorem lt_bits {i : Int} {n : Nat} (h : Builtin.Int.intBits i ≤ n) : i.natAbs < 2 ^ n := by
  by_cases hz : i = 0
  · subst hz
    exact Nat.pow_pos (by decide)
  · have h0 : i.natAbs ≠ 0 := by omega
    have e : Builtin.Int.intBits i = i.natAbs.log2 + 1 := by
      unfold Builtin.Int.intBits
      simp [hz]
    rw [e] at h
    exact (Nat.log2_lt h0).mp (by omega)
/-! ### the tape that a script gives -/
abbrev kDig : Key := .inr "digits"
abbrev kMix : Key := .inr "mixed"
def tapeO (d m : Int) : HO := .dK [(kDig, .int d), (kMix, .int m)]
def TapeAt (H : Hp) (t : Addr) : Prop := ∃ d m : Int, H t = some (tapeO d m) ∧ 0 ≤ d ∧ 0 ≤ m ∧ m < 2147483600
theorem TapeAt.up {H H' : Hp} {t : Addr} (s : Same H H') (h : TapeAt H t) : TapeAt H' t := let ⟨d, m, e, r⟩ := h; ⟨d, m, s _ _ e, r⟩
/-- what a script may be -/
structure Script (K : PySem.W.Frag) (H : Hp) (a : Addr) (ns : List Int) : Prop where
  at_ : SqL K H a (ns.map V.int)
  few : ns.length ≤ 63
  bits : ∀ z ∈ ns, Builtin.Int.intBits z ≤ 1048576
theorem Script.up {K : PySem.W.Frag} {H H' : Hp} {a : Addr} {ns : List Int} (s : Same H H') (h : Script K H a ns) : Script K H' a ns := ⟨s.seq h.at_, h.few, h.bits⟩
def spTape (K : PySem.W.Frag) : Sp := fun vs H Q _ => ∃ (a : Addr) (ns : List Int) (i : Nat), vs = [.ref a, .int (i : Int)] ∧ Script K H a ns ∧ i ≤ 62 ∧ ∀ p H', H p = none → Same H H' → TapeAt H' p → Q (.ref p) H'
theorem tape_num (m c : Int) (hm : 0 ≤ m) (hm2 : m < 2147483600) (hc : Builtin.Int.intBits c ≤ 1048576) : CMulX c c ∧ CPowB (m * 30029 + c * c + 13) 2 := by
  have h1 := lt_bits hc
  refine ⟨mulx_ok h1 h1 (by omega), by decide, ?_⟩
  have h2 : (c * c).natAbs < 2 ^ 2097152 := by
    rw [Int.natAbs_mul, show (2097152 : Nat) = 1048576 + 1048576 by rfl, Nat.pow_add]
    exact Nat.mul_lt_mul'' h1 h1
  have h3 : (m * 30029 + c * c + 13).natAbs < 2 ^ 2097153 := by
    have h4 : (m * 30029 + 13).natAbs < 2 ^ 47 := by omega
    have h5 : (2 : Nat) ^ 47 ≤ 2 ^ 2097152 := Nat.pow_le_pow_right (by decide) (by omega)
    have h6 : (m * 30029 + c * c + 13).natAbs ≤ (m * 30029 + 13).natAbs + (c * c).natAbs := by omega
    rw [show (2097153 : Nat) = 2097152 + 1 by rfl, Nat.pow_succ]
    omega
  have h7 := PyProof.Rows.intBits_le h3
  omega
/-- an item of a list -/
def spOne (K : PySem.W.Frag) : Sp := fun vs H Q _ => ∃ (t a : Addr) (xs : List V), vs = [.ref t, .ref a] ∧ TapeAt H t ∧ SqL K H a xs ∧ 0 < xs.length ∧ xs.length < 1073741824 ∧ (∀ o, SqL K (upd H t o) a xs) ∧ ∀ v d m, v ∈ xs → 0 ≤ d → 0 ≤ m → m < 2147483600 → Q v (upd H t (tapeO d m))
/-- a draw below many: the tape goes on, nothing else changes -/
def spPick : Sp := fun vs H Q _ => ∃ (t : Addr) (n : Nat), vs = [.ref t, .int (n : Int)] ∧ TapeAt H t ∧ 0 < n ∧ n < 1073741824 ∧ ∀ (r : Nat) d m, r < n → 0 ≤ d → 0 ≤ m → m < 2147483600 → Q (.int (r : Int)) (upd H t (tapeO d m))
theorem val_dig {d m : Int} : valV [(kDig, V.int d), (kMix, V.int m)] kDig = some (.int d) := rfl
theorem val_mix {d m : Int} : valV [(kDig, V.int d), (kMix, V.int m)] kMix = some (.int m) := rfl
section
variable {H : Hp} {t : Addr} {d m e : Int}
theorem get_dig (h : H t = some (tapeO d m)) : DGet H t (.str "digits") (some (.int d)) := val_dig ▸ DGet.k (k := kDig) h
theorem get_mix (h : H t = some (tapeO d m)) : DGet H t (.str "mixed") (some (.int m)) := val_mix ▸ DGet.k (k := kMix) h
theorem put_dig (h : H t = some (tapeO d m)) : DPut H t (.str "digits") (.int e) (upd H t (tapeO e m)) := DPut.k (k := kDig) (v := .int e) h (by show 2 < sizeLine; decide)
theorem put_mix (h : H t = some (tapeO d m)) : DPut H t (.str "mixed") (.int e) (upd H t (tapeO d e)) := DPut.k (k := kMix) (v := .int e) h (by show 2 < sizeLine; decide)
end
/-- some data -/
def spAny : Sp := fun vs H Q _ => ∃ (t : Addr), vs = [.ref t] ∧ TapeAt H t ∧ ∀ v d H', DOk d → (∀ b o, b ≠ t → H b = some o → H' b = some o) → Dq H' d v → Q v H'
end Fh
namespace Fh
open PySem PySem.Spec PyProof.Rows L2 He
theorem DqAll.app {H : Hp} : ∀ {ds es : List PyData} {vs us : List V}, DqAll H ds vs → DqAll H es us → DqAll H (ds ++ es) (vs ++ us)
  | [], es, vs, us, h, g => by
    simp only [DqAll] at h
    subst h
    exact g
  | d :: ds, es, vs, us, h, g => by
    simp only [DqAll] at h
    obtain ⟨v, r, rfl, h1, h2⟩ := h
    simp only [List.cons_append, DqAll]
    exact ⟨v, r ++ us, rfl, h1, DqAll.app h2 g⟩
theorem DqAll.mem {H : Hp} : ∀ {ds : List PyData} {vs : List V} {v : V}, DqAll H ds vs → v ∈ vs → ∃ d, d ∈ ds ∧ Dq H d v
  | [], vs, v, h, g => by
    simp only [DqAll] at h
    subst h
    cases g
  | d :: ds, vs, v, h, g => by
    simp only [DqAll] at h
    obtain ⟨u, r, rfl, h1, h2⟩ := h
    rcases List.mem_cons.mp g with rfl | g
    · exact ⟨d, List.mem_cons_self, h1⟩
    · obtain ⟨d', m, q⟩ := DqAll.mem h2 g
      exact ⟨d', List.mem_cons_of_mem _ m, q⟩
def dOkB (d : PyData) : Bool := d.showable && (decide (d.depth ≤ 60) && (decide (d.shown.length ≤ 4096) && PyData.strOk d.shown))
theorem dOkB_ok {d : PyData} (h : dOkB d = true) : DOk d := by
  obtain ⟨h1, h⟩ := ba h
  obtain ⟨h2, h⟩ := ba h
  obtain ⟨h3, h4⟩ := ba h
  exact ⟨h1, of_decide_eq_true h2, Nat.le_trans (of_decide_eq_true h3) (by decide), h4⟩
/-! ### dicts that are written out -/
def pairsT (kds : List (Key × PyData)) : List (TE × TE) := kds.map fun kd => (tC (kV kd.1), tDat kd.2)
def psOf : List (Key × PyData) → List V → List (Key × V)
  | kd :: r, v :: vs => (kd.1, v) :: psOf r vs
  | _, _ => []
theorem pairs_run : ∀ (kds : List (Key × PyData)) (σ : Sto) (H : Hp) (Q : List (V × V) → Hp → Prop),
    (∀ vs H', Same H H' → DqAll (newH H H') (kds.map (·.2)) vs → Q ((psOf kds vs).map fun kv => (kV kv.1, kv.2)) H') → tPairs (pairsT kds) σ H Q
  | [], σ, H, Q, h => h [] H (Same.refl H) (by simp only [List.map_nil, DqAll])
  | kd :: r, σ, H, Q, h => by
    intro v H1 s1 h1
    refine pairs_run r σ H1 _ fun vs H2 s2 h2 => ?_
    refine h (v :: vs) H2 (s1.trans s2) ?_
    simp only [List.map_cons, DqAll]
    exact ⟨v, vs, rfl, Dq.up (newH_r s2) _ _ h1, DqAll.up (newH_l s1) _ _ h2⟩
theorem put_fresh {kvs : List (Key × V)} {k : Key} {v : V} (h : k ∉ kvs.map (·.1)) : putK kvs k v = kvs ++ [(k, v)] := by
  unfold putK
  rw [if_neg]
  intro z
  obtain ⟨p, hp, e⟩ := List.any_eq_true.mp z
  exact h (List.mem_map.mpr ⟨p, hp, of_decide_eq_true e⟩)
theorem merge_nodup : ∀ (more kvs : List (Key × V)), ((kvs ++ more).map (·.1)).Nodup → mergeK kvs more = kvs ++ more
  | [], kvs, _ => by simp [mergeK]
  | p :: r, kvs, h => by
    have h1 : p.1 ∉ kvs.map (·.1) := fun z => by
      rw [List.map_append, List.map_cons, List.nodup_append] at h
      exact h.2.2 _ z _ List.mem_cons_self rfl
    show mergeK (putK kvs p.1 p.2) r = _
    rw [put_fresh h1, merge_nodup r (kvs ++ [(p.1, p.2)]) (by simpa using h)]
    simp
theorem psOf_keys : ∀ (kds : List (Key × PyData)) (vs : List V), vs.length = kds.length → (psOf kds vs).map (·.1) = kds.map fun kd => kd.1
  | [], _, _ => rfl
  | kd :: r, [], h => by cases h
  | kd :: r, v :: vs, h => by
    show kd.1 :: (psOf r vs).map (·.1) = _
    rw [psOf_keys r vs (Nat.succ.inj h)]
    rfl
theorem psOf_dq {H : Hp} : ∀ (kds : List (Key × PyData)) (vs : List V), DqAll H (kds.map (·.2)) vs → DqK H (kds.map fun kd => (keyD kd.1, kd.2)) (psOf kds vs)
  | [], vs, h => by simp only [List.map_nil, DqK]; rfl
  | kd :: r, vs, h => by
    simp only [List.map_cons, DqAll] at h
    obtain ⟨v, q, rfl, h1, h2⟩ := h
    simp only [List.map_cons, DqK]
    exact ⟨kd.1, v, psOf r q, rfl, rfl, h1, psOf_dq r q h2⟩
theorem newH_at {H H2 : Hp} {p : Addr} {o o' : HO} (hp : H p = none) : Same (newH (upd H p o) H2) (newH H (upd H2 p o')) := fun b u e => by
  unfold newH at e ⊢
  by_cases hb : b = p
  · subst hb
    rw [upd_same] at e
    cases e
  · rw [upd_ne hb] at e
    rw [upd_ne hb]
    exact e
section
variable {X : Cx} {pos : Pos}
theorem dat_dict {keys : List (Option Expr)} {values : List Expr} (kds : List (Key × PyData)) (h : PPs X pos keys values (pairsT kds)) (hall : keys.all (·.isSome) = true) (hl : keys.length = values.length) (h0 : keys ≠ []) (h15 : keys.length ≤ 15) (hd : kds.length ≤ 15)
    (nd : (kds.map fun kd => kd.1).Nodup) : PE X (.Dict keys values pos) (tDat (.dict (kds.map fun kd => (keyD kd.1, kd.2)))) := pe_imp (pe_disp h hall hl h0 h15) fun σ H Q q => by
  intro p hp
  refine pairs_run kds σ _ _ fun vs H2 s2 h2 => ?_
  have len := dqAll_len _ _ h2
  rw [List.length_map] at len
  have lp : (psOf kds vs).length = kds.length := by
    have e := congrArg List.length (psOf_keys kds vs len)
    simpa using e
  have s0 : Same H H2 := (same_upd hp).trans s2
  refine ⟨s2 _ _ upd_same, psOf kds vs, rfl, by rw [lp]; exact hd, q _ _ (fun b o e => by rw [upd_ne (ne_of_none e hp)]; exact s0 _ _ e) ?_⟩
  have hm : mergeK [] (psOf kds vs) = psOf kds vs := merge_nodup (psOf kds vs) [] (by rw [List.nil_append, psOf_keys kds vs len]; exact nd)
  rw [hm]
  simp only [Dq]
  exact ⟨p, rfl, .inl ⟨psOf kds vs, by rw [newH_none hp, upd_same], DqK.up (newH_at hp) _ _ (psOf_dq kds vs h2)⟩⟩
/-- {k: v}, k a tuple -/
theorem pe_dispT1 {ek ev : Expr} {tk tv : TE} {k : Nat} (hr : Room k X.A) (hk : PE X ek tk) (hv : PE X ev tv) :
    PE X (.Dict [some ek] [ev] pos) (fun σ H Q => ∀ p, H p = none → tk σ (upd H p (.dT [])) fun x H1 => tv σ H1 fun y H2 => ∃ b ks, x = .ref b ∧ H2 b = some (.tup (ks.map kV)) ∧ H2 p = some (.dT []) ∧ Q (.ref p) (upd H2 p (.dT [(ks, y)]))) := by
  refine ⟨fun pins s σ H Q I q => ?_⟩
  have hn := I.hok.fresh (Nat.le_refl s.heap.objs.size)
  have I1 := I.laid (a := s.heap.objs.size) (o := .dT []) (h' := s.heap.push { cls := .type "dict", data := .dict #[] }) (t' := s.toks) (fun _ _ q => Heap.get?_push_of_some _ q) (Nat.le_refl _) (dt_empty s.heap I.big)
  have hu := hr.units
  have hsh : (evalEachOpt [some ek] X.env).zip ((evalEach [ev] X.env).map fun v => do let x ← v; standAt pos; pure x) = (pairTrees [some ek] [ev] X.env pos).map fun p => (some p.1, p.2) := by rfl
  rw [arm_eval_Dict, hsh, dictDisplay_pairs _ (by intro z; cases z) (by show 1 < 17; decide)]
  refine wpAny_bind (wpAny_standAt (wpAny_bind (wpAny_subDictH (knd := tupleKind (mixKind X.prog X.w)) (Q := fun d s' => wpAny (model X.prog X.w) X.A (pure (Value.ref d)) (EP X pins σ Q) X.xe s') (show X.A.units < cLine by omega) (by show 1 ≤ 15; decide) ?_)))
  refine pairTrees_cons_walk (thn (hk.run pins _ σ _ _ I1 (q _ hn)) fun u s1 h1 => ?_)
  obtain ⟨x, H1, J1, rx, q1⟩ := h1
  refine thn (hv.run pins s1 σ H1 _ J1 q1) fun w2 s2 h2 => pairTrees_nil_walk ?_
  obtain ⟨y, H2, J2, ry, b, ks, rfl, hb, hp, q2⟩ := h2
  cases rx
  obtain ⟨z, hd, xs, rel, dd⟩ := dt_of J2.hok hp
  cases rel
  refine ⟨[(ks, b, w2)], ⟨rfl, rfl, key_of J2.hok hb, trivial⟩, dd, fun h' tk m sb => wpAny_pure ⟨.ref s.heap.objs.size, _, ?_, rfl, q2⟩⟩
  obtain ⟨o, es, ep, ho, e1, e2, e3, _, e5⟩ := m
  have hbp : b ≠ s.heap.objs.size := ne_of hb hp (fun z => nomatch z)
  exact d_write (t' := tk) J2 (by rw [hp]; exact True.intro) sb ⟨o, ho⟩ ⟨by show 1 ≤ sizeLine; decide, hd, [(ks, b, w2)], .cons ⟨rfl, by rw [upd_ne hbp]; exact hb, ry⟩ .nil, o, es, ep, ho, e1, e2, e3, e5⟩
theorem keys_of_dq {H : Hp} : ∀ (ks : List Key) (vs : List V), DqAll H (ks.map keyD) vs → vs = ks.map kV
  | [], vs, h => by simpa only [List.map_nil, DqAll] using h
  | k :: ks, vs, h => by
    simp only [List.map_cons, DqAll] at h
    obtain ⟨v, r, rfl, h1, h2⟩ := h
    rw [List.map_cons, keys_of_dq ks r h2]
    cases k <;> (simp only [keyD, Dq] at h1; rw [h1]; rfl)
theorem dat_dictT {ek ev : Expr} {k : Nat} {ks : List Key} {d : PyData} (hr : Room k X.A) (hk : PE X ek (tDat (.tuple (ks.map keyD)))) (hv : PE X ev (tDat d)) : PE X (.Dict [some ek] [ev] pos) (tDat (.dict [(.tuple (ks.map keyD), d)])) :=
  pe_imp (pe_dispT1 hr hk hv) fun σ H Q q => by
    intro p hp x H1 s1 h1 y H2 s2 h2
    simp only [Dq] at h1
    obtain ⟨b, xs, rfl, hb, hall⟩ := h1
    obtain rfl := keys_of_dq ks xs hall
    have sp := (s1.trans s2) p _ upd_same
    have hb1 : H1 b = some (.tup (ks.map kV)) := newH_up b _ hb
    refine ⟨b, ks, rfl, s2 _ _ hb1, sp, q _ _ (fun a o e => by rw [upd_ne (ne_of_none e hp)]; exact ((same_upd hp).trans (s1.trans s2)) _ _ e) ?_⟩
    simp only [Dq]
    refine ⟨p, rfl, .inr ⟨[(ks, y)], by rw [newH_none hp, upd_same], ?_⟩⟩
    simp only [DqT]
    exact ⟨ks, y, [], rfl, rfl, Dq.up ((newH_l s1).trans (newH_at hp)) _ _ h2, rfl⟩
end
end Fh
namespace Fh
open PySem PySem.Spec PyProof.Rows L2 He
section
variable {P : Program} {w : World} {K : PySem.W.Frag} {mg : Str → Option Value} {base : Heap}
theorem vis_of {N ps : List Str} {sc : Scope} (S : FnScope N ps sc) {x : Str} (h : x ∈ ps) : Vis sc x := (S.par x h).elim Or.inl fun e => Or.inr (Or.inl e)
/-- def __init__(self, f): self.f = f -/
theorem ok_initF {qual f : Str} {pa : Arguments} {bd : List Stmt} {sc : Scope} {C fI : Addr} {fd : FuncData} {q1 q2 q3 q4 : Pos} (F : FunD K "__init__" qual pa bd sc [] [] fI fd) (S : FnScope ["self", f] ["self", f] sc) (hb : bd = [.Assign [.Attribute (.Name "self" q1) f q2] (.Name f q3) q4])
    (h1 : (f == ("__debug__" : Str)) = false) (h2 : (f == ("__classdict__" : Str)) = false) : FnOk P w K mg base CX0 1 fI fd ["self", f] (spXi K C f) := by
  refine F.ok S (fun vs H Q E h => ?_) (fun cdv A outer s H vs Q E hr h => ?_)
  · obtain ⟨a, y, rfl, _⟩ := h
    rfl
  · obtain ⟨a, y, rfl, T, hf, ha, hQ⟩ := h
    subst hb
    refine ⟨_, PSs.nox (pss_one (ps_ost (pe_var (i := 0) rfl (vis_of S List.mem_cons_self)) (pe_var (i := 1) rfl (vis_of S (List.mem_cons_of_mem _ List.mem_cons_self)) h1 h2))), ?_⟩
    exact ⟨_, rfl, _, rfl, a, C, rfl, T, hf, .inl ⟨ha, fun dx hd hne => hQ dx hd hne⟩⟩
/-- def __init__(self): pass -/
theorem ok_init0 {qual : Str} {pa : Arguments} {bd : List Stmt} {sc : Scope} {fI : Addr} {fd : FuncData} {q1 : Pos} (F : FunD K "__init__" qual pa bd sc [] [] fI fd) (S : FnScope ["self"] ["self"] sc) (hb : bd = [.Pass q1]) : FnOk P w K mg base CX0 1 fI fd ["self"] spXo := by
  refine F.ok S (fun vs H Q E h => ?_) (fun cdv A outer s H vs Q E hr h => ?_)
  · obtain ⟨a, rfl, _⟩ := h
    rfl
  · obtain ⟨a, rfl, hQ⟩ := h
    subst hb
    exact ⟨_, PSs.nox (pss_one ps_pass), hQ⟩
end
/-! ### lists of such exceptions -/
/-- vs are exceptions of these classes, these fields holding y -/
def XAll (H : Hp) (y : V) : List (Addr × Str) → List V → Prop
  | [], vs => vs = []
  | c :: cs, vs => ∃ v r, vs = v :: r ∧ ExAt H v c.1 c.2 y ∧ XAll H y cs r
theorem XAll.up {H H' : Hp} {y : V} (s : Same H H') : ∀ {cs : List (Addr × Str)} {vs : List V}, XAll H y cs vs → XAll H' y cs vs
  | [], _, h => h
  | _ :: _, _, ⟨v, r, e, h1, h2⟩ => ⟨v, r, e, h1.up s, h2.up s⟩
theorem XAll.app {H : Hp} {y : V} : ∀ {cs ds : List (Addr × Str)} {vs us : List V}, XAll H y cs vs → XAll H y ds us → XAll H y (cs ++ ds) (vs ++ us)
  | [], _, _, _, h, g => by
    have e : _ = [] := h
    subst e
    exact g
  | _ :: _, _, _, us, ⟨v, r, e, h1, h2⟩, g => ⟨v, r ++ us, by rw [e]; rfl, h1, h2.app g⟩
theorem XAll.len {H : Hp} {y : V} : ∀ {cs : List (Addr × Str)} {vs : List V}, XAll H y cs vs → vs.length = cs.length
  | [], _, h => by
    have e : _ = [] := h
    rw [e]
    rfl
  | _ :: _, _, ⟨v, r, e, _, h2⟩ => by rw [e, List.length_cons, List.length_cons, h2.len]
theorem XAll.get {H : Hp} {y : V} : ∀ {cs : List (Addr × Str)} {vs : List V} {i : Nat} {v : V}, XAll H y cs vs → vs[i]? = some v → ∃ c, cs[i]? = some c ∧ ExAt H v c.1 c.2 y
  | [], _, i, v, h, g => by
    have e : _ = [] := h
    rw [e] at g
    cases g
  | c :: cs, _, 0, v, ⟨u, r, e, h1, h2⟩, g => by
    rw [e] at g
    cases g
    exact ⟨c, rfl, h1⟩
  | c :: cs, _, i + 1, v, ⟨u, r, e, h1, h2⟩, g => by
    rw [e] at g
    exact XAll.get (i := i) h2 g
/-- the arguments: exceptions of these classes with what the slot i holds -/
def tXs (i : Nat) (cs : List (Addr × Str)) : TA := fun σ H Q => ∃ y, σ[i]? = some (some y) ∧ ∀ vs H', Same H H' → XAll H' y cs vs → Q vs H'
section
variable {X : Cx} {e : Expr} {es : List Expr} {i : Nat} {C : Addr} {f : Str} {cs : List (Addr × Str)}
theorem pax_nil : PA X [] (tXs i []) := pa_imp pa_nil fun σ H Q ⟨y, _, q⟩ => q [] H (Same.refl H) rfl
theorem pax_cons (h : PE X e (tEx C f (tVar i))) (hs : PA X es (tXs i cs)) (hst : starEach (e :: es) X.env = (false, eval e X.env) :: starEach es X.env := by rfl) : PA X (e :: es) (tXs i ((C, f) :: cs)) :=
  pa_imp (pa_cons h hs hst) fun σ H Q ⟨y, hy, q⟩ => ⟨y, hy, fun v H1 s1 h1 => ⟨y, hy, fun vs H2 s2 h2 => q (v :: vs) H2 (s1.trans s2) ⟨v, vs, rfl, h1.up s2, h2⟩⟩⟩
end
end Fh
namespace Fh
open PySem PySem.Spec PyProof.Rows L2 He
/-- an own exception class x with def __init__(self, f): self.f = f -/
structure Cl (P : Program) (w : World) (K : PySem.W.Frag) (mg : Str → Option Value) (base : Heap) (x f : Str) : Prop where
  ex : ExFacts K (ga K x)
  no : PySem.W.findIn K (.ref (ga K x)) f = some none
  at_ : mg x = some (.ref (ga K x))
  fn : ∃ fd, FnOk P w K mg base CX0 1 (ma K (ga K x) "__init__") fd ["self", f] (spXi K (ga K x) f) ∧ (∀ (s : Shared) (a u : Value), BindsTo s fd ⟨[a, u], []⟩ [("self", a), (f, u)]) ∧ ∀ (s : Shared) (a u : Value), BindsTo s fd ⟨[a], [(f, u)]⟩ [("self", a), (f, u)]
theorem cl_mk {P : Program} {w : World} {K : PySem.W.Frag} {mg : Str → Option Value} {base : Heap} {x f qual : Str} {pa : Arguments} {bd : List Stmt} {sc : Scope} {fd : FuncData} {q1 q2 q3 q4 : Pos} (F : FunD K "__init__" qual pa bd sc [] [] (ma K (ga K x) "__init__") fd)
    (S : FnScope ["self", f] ["self", f] sc) (hb : bd = [.Assign [.Attribute (.Name "self" q1) f q2] (.Name f q3) q4]) (h1 : (f == ("__debug__" : Str)) = false) (h2 : (f == ("__classdict__" : Str)) = false) (he : exB K (ga K x) = true) (hn : (Fa.noat x f).ok K = true) (hm : mg x = some (.ref (ga K x)))
    (b1 : ∀ (kV doc pm : Value) (an : Option Addr) (cdv ct : Value) (a u : Value), bindArgs (PySem.W.fnOf "__init__" qual pa bd sc .none kV doc pm an cdv ct) ⟨[a, u], []⟩ = pure ([("self", a), (f, u)] : List (Str × Value)))
    (b2 : ∀ (kV doc pm : Value) (an : Option Addr) (cdv ct : Value) (a u : Value), bindArgs (PySem.W.fnOf "__init__" qual pa bd sc .none kV doc pm an cdv ct) ⟨[a], [(f, u)]⟩ = pure ([("self", a), (f, u)] : List (Str × Value))) : Cl P w K mg base x f := by
  refine ⟨exB_ok he, eqO_ok hn, hm, fd, ok_initF F S hb h1 h2, ?_, ?_⟩
  all_goals
    obtain ⟨oc, od, dV, kV, doc, pm, an, cdv, ct, osl, rfl, lk, hcd, hD, hK⟩ := F.ex
    rcases hD with ⟨e, rfl⟩ | ⟨z, _⟩
    · intro s a u
      first
        | exact BindsTo.of_eq (b1 kV doc pm an cdv ct a u)
        | exact BindsTo.of_eq (b2 kV doc pm an cdv ct a u)
    · exact absurd rfl z
section
variable {X : Cx} {x f : Str} {e : Expr} {te : TE} {p pos kp : Pos}
theorem pe_cl (c : Cl X.prog X.w X.K X.mg X.base x f) (hr : Room 2 X.A) (hg : Gl X x) (he : PE X e te) (hdb : (x == ("__debug__" : Str)) = false := by decide) (hst : starEach [e] X.env = (false, eval e X.env) :: starEach [] X.env := by rfl) (hpl : (backTo pos (starEach [] X.env)).any (·.1) = false := by rfl) :
    PE X (.Call (.Name x p) [e] [] pos) (tEx (ga X.K x) f te) := by
  obtain ⟨fd, F, b, _⟩ := c.fn
  exact pe_ex c.ex.oex c.no c.ex.init c.ex.ty F hr b pass0 hg c.at_ he hdb hst hpl
theorem pe_clK (c : Cl X.prog X.w X.K X.mg X.base x f) (hr : Room 2 X.A) (hg : Gl X x) (he : PE X e te) (hdb : (x == ("__debug__" : Str)) = false := by decide)
    (hall : (backToKw pos (keywordEach [⟨some f, e, kp⟩] X.env)).all (·.1.isSome) = true := by rfl) (hks : (backToKw pos (keywordEach [⟨some f, e, kp⟩] X.env)).filterMap (·.1) = [f] := by rfl)
    (hpl : ((backTo pos (starEach [] X.env)).any (·.1) || (backToKw pos (keywordEach [⟨some f, e, kp⟩] X.env)).any (·.1.isNone)) = false := by rfl) : PE X (.Call (.Name x p) [] [⟨some f, e, kp⟩] pos) (tEx (ga X.K x) f te) := by
  obtain ⟨fd, F, _, b⟩ := c.fn
  exact pe_exK c.ex.oex c.no c.ex.init c.ex.ty F hr b pass0 hg c.at_ he hdb hall hks hpl
end
/-- a list of exceptions that is grown -/
def spXs (cs : List (Addr × Str)) : Sp := fun vs H Q _ => ∃ y, vs = [y] ∧ ∀ p xs H', Same H H' → H p = none → H' p = some (.lst xs) → XAll H' y cs xs → Q (.ref p) H'
theorem xs_new {D : Ends} {y : V} {o : Option V} {cs : List (Addr × Str)} {H : Hp} {rest : TS} (hz : cs.length ≤ 1000) (h : ∀ p xs H', Same H H' → H p = none → H' p = some (.lst xs) → XAll H' y cs xs → rest D [some y, some (.ref p)] H') :
    tSeq (tAsg (tLst (tXs 0 cs)) (gName 1)) rest D [some y, o] H := by
  refine ⟨y, rfl, fun vs H1 s1 h1 => ⟨by rw [h1.len]; exact Nat.le_trans hz (by decide), fun p hp => ?_⟩⟩
  exact h p vs _ (s1.trans (same_upd hp)) (s1.free hp) upd_same (h1.up (same_upd hp))
theorem xs_more {D : Ends} {y : V} {l : Addr} {zs : List V} {cs ds : List (Addr × Str)} {H : Hp} {rest : TS} (hl : H l = some (.lst zs)) (hx : XAll H y cs zs) (hz : cs.length + ds.length ≤ 1000)
    (h : ∀ p xs H', Same H H' → H p = none → H' p = some (.lst xs) → XAll H' y (cs ++ ds) xs → rest D [some y, some (.ref p)] H') :
    tSeq (tAsg (tOp rCat (tVar 1) (tLst (tXs 0 ds))) (gName 1)) rest D [some y, some (.ref l)] H := by
  refine ⟨_, rfl, y, rfl, fun vs H1 s1 h1 => ⟨by rw [h1.len]; exact Nat.le_trans (Nat.le_trans (Nat.le_add_left _ _) hz) (by decide), fun q hq => ?_⟩⟩
  have n1 := hx.len
  have n2 := h1.len
  refine ⟨l, q, zs, vs, rfl, rfl, same_upd hq _ _ (s1 _ _ hl), upd_same, by rw [n1, n2]; exact Nat.le_trans hz (by decide), fun p hp => ?_⟩
  have sa := s1.trans ((same_upd (o := .lst vs) hq).trans (same_upd (o := .lst (zs ++ vs)) hp))
  exact h p _ _ sa ((s1.trans (same_upd (o := .lst vs) hq)).free hp) upd_same ((hx.up sa).app (h1.up ((same_upd hq).trans (same_upd hp))))
theorem xs_ret {Q : VK} {y : V} {l : Addr} {zs : List V} {cs ds : List (Addr × Str)} {H : Hp} (hl : H l = some (.lst zs)) (hx : XAll H y cs zs) (hz : cs.length + ds.length ≤ 1000)
    (h : ∀ p xs H', Same H H' → H p = none → H' p = some (.lst xs) → XAll H' y (cs ++ ds) xs → Q (.ref p) H') :
    tRet (tOp rCat (tVar 1) (tLst (tXs 0 ds))) { nx := fun _ H' => Q .non H', rt := Q } [some y, some (.ref l)] H := by
  refine ⟨_, rfl, y, rfl, fun vs H1 s1 h1 => ⟨by rw [h1.len]; exact Nat.le_trans (Nat.le_trans (Nat.le_add_left _ _) hz) (by decide), fun q hq => ?_⟩⟩
  have n1 := hx.len
  have n2 := h1.len
  refine ⟨l, q, zs, vs, rfl, rfl, same_upd hq _ _ (s1 _ _ hl), upd_same, by rw [n1, n2]; exact Nat.le_trans hz (by decide), fun p hp => ?_⟩
  have sa := s1.trans ((same_upd (o := .lst vs) hq).trans (same_upd (o := .lst (zs ++ vs)) hp))
  exact h p _ _ sa ((s1.trans (same_upd (o := .lst vs) hq)).free hp) upd_same ((hx.up sa).app (h1.up ((same_upd hq).trans (same_upd hp))))
end Fh
namespace Fh
open PySem PySem.Spec PyProof.Rows L2 He
/-- the exception class whose __init__ takes nothing -/
structure Cl0 (P : Program) (w : World) (K : PySem.W.Frag) (mg : Str → Option Value) (base : Heap) (x : Str) : Prop where
  ex : ExFacts K (ga K x)
  at_ : mg x = some (.ref (ga K x))
  fn : ∃ fd, FnOk P w K mg base CX0 1 (ma K (ga K x) "__init__") fd ["self"] spXo ∧ ∀ (s : Shared) (a : Value), BindsTo s fd ⟨[a], []⟩ [("self", a)]
theorem cl0_mk {P : Program} {w : World} {K : PySem.W.Frag} {mg : Str → Option Value} {base : Heap} {x qual : Str} {pa : Arguments} {bd : List Stmt} {sc : Scope} {fd : FuncData} {q1 : Pos} (F : FunD K "__init__" qual pa bd sc [] [] (ma K (ga K x) "__init__") fd)
    (S : FnScope ["self"] ["self"] sc) (hb : bd = [.Pass q1]) (he : exB K (ga K x) = true) (hm : mg x = some (.ref (ga K x)))
    (b1 : ∀ (kV doc pm : Value) (an : Option Addr) (cdv ct : Value) (a : Value), bindArgs (PySem.W.fnOf "__init__" qual pa bd sc .none kV doc pm an cdv ct) ⟨[a], []⟩ = pure ([("self", a)] : List (Str × Value))) : Cl0 P w K mg base x := by
  refine ⟨exB_ok he, hm, fd, ok_init0 F S hb, ?_⟩
  obtain ⟨oc, od, dV, kV, doc, pm, an, cdv, ct, osl, rfl, lk, hcd, hD, hK⟩ := F.ex
  rcases hD with ⟨e, rfl⟩ | ⟨z, _⟩
  · exact fun s a => BindsTo.of_eq (b1 kV doc pm an cdv ct a)
  · exact absurd rfl z
theorem pe_cl0 {X : Cx} {x : Str} {p pos : Pos} (c : Cl0 X.prog X.w X.K X.mg X.base x) (hr : Room 2 X.A) (hg : Gl X x) (hdb : (x == ("__debug__" : Str)) = false := by decide) : PE X (.Call (.Name x p) [] [] pos) (fun σ H Q => ∀ v H', Same H H' → ExAt0 H' v (ga X.K x) → Q v H') := by
  obtain ⟨fd, F, b⟩ := c.fn
  exact pe_ex0 c.ex.oex c.ex.init c.ex.ty F hr b pass0 hg c.at_ hdb
/-! ### lists of isinstance -/
def tIs1 (K : PySem.W.Frag) (i : Nat) (D : Addr) : TE := tCB (rIsX K) (tCons (tVar i) (tCons (tC (.ref D)) tNil))
/-- the kind of the exception at C, asked for each of the classes -/
structure Kits (K : PySem.W.Frag) (C : Addr) (kb : Str → Bool) (names : List Str) : Prop where
  is_ : ExcC K C
  all : ∀ x ∈ names, PySem.W.kitOne K (.ref C) (.ref (ga K x)) = some (kb x)
def tKs (K : PySem.W.Frag) (i : Nat) (names : List Str) : TA := fun σ H Q => ∃ v C kb, σ[i]? = some (some v) ∧ ExK H v C ∧ Kits K C kb names ∧ Q (names.map fun x => .bl (kb x)) H
section
variable {X : Cx} {e : Expr} {es : List Expr} {i : Nat} {x : Str} {names : List Str}
theorem pak_nil : PA X [] (tKs X.K i []) := pa_imp pa_nil fun σ H Q ⟨v, C, kb, _, _, _, q⟩ => q
theorem pak_cons (h : PE X e (tIs1 X.K i (ga X.K x))) (hs : PA X es (tKs X.K i names)) (hst : starEach (e :: es) X.env = (false, eval e X.env) :: starEach es X.env := by rfl) : PA X (e :: es) (tKs X.K i (x :: names)) :=
  pa_imp (pa_cons h hs hst) fun σ H Q ⟨v, C, kb, hv, hx, hk, q⟩ => ⟨v, hv, v, _, C, .ref (ga X.K x), kb x, rfl, hx, hk.is_, fun u hu => hu, hk.all x List.mem_cons_self, v, C, kb, hv, hx, ⟨hk.is_, fun y hy => hk.all y (List.mem_cons_of_mem _ hy)⟩, q⟩
end
/-- a list of kinds -/
def spKits (K : PySem.W.Frag) (names : List Str) : Sp := fun vs H Q _ => ∃ v C kb, vs = [v] ∧ ExK H v C ∧ Kits K C kb names ∧ ∀ p H', Same H H' → H p = none → H' p = some (.lst (names.map fun x => .bl (kb x))) → Q (.ref p) H'
theorem Kits.sub {K : PySem.W.Frag} {C : Addr} {kb : Str → Bool} {ns ms : List Str} (h : Kits K C kb ns) (s : ∀ x ∈ ms, x ∈ ns) : Kits K C kb ms := ⟨h.is_, fun x hx => h.all x (s x hx)⟩
theorem ks_new {K : PySem.W.Frag} {D : Ends} {v : V} {o : Option V} {C : Addr} {kb : Str → Bool} {ns : List Str} {H : Hp} {rest : TS} (hx : ExK H v C) (hk : Kits K C kb ns) (hz : ns.length ≤ 1000)
    (h : ∀ p H', Same H H' → H p = none → H' p = some (.lst (ns.map fun x => .bl (kb x))) → rest D [some v, some (.ref p)] H') : tSeq (tAsg (tLst (tKs K 0 ns)) (gName 1)) rest D [some v, o] H :=
  ⟨v, C, kb, rfl, hx, hk, by rw [List.length_map]; exact Nat.le_trans hz (by decide), fun p hp => h p _ (same_upd hp) hp upd_same⟩
theorem ks_more {K : PySem.W.Frag} {D : Ends} {v : V} {l : Addr} {C : Addr} {kb : Str → Bool} {ms ns : List Str} {H : Hp} {rest : TS} (hl : H l = some (.lst (ms.map fun x => .bl (kb x)))) (hx : ExK H v C) (hk : Kits K C kb ns) (hz : ms.length + ns.length ≤ 1000)
    (h : ∀ p H', Same H H' → H p = none → H' p = some (.lst ((ms ++ ns).map fun x => .bl (kb x))) → rest D [some v, some (.ref p)] H') : tSeq (tAsg (tOp rCat (tVar 1) (tLst (tKs K 0 ns))) (gName 1)) rest D [some v, some (.ref l)] H := by
  refine ⟨_, rfl, v, C, kb, rfl, hx, hk, by rw [List.length_map]; exact Nat.le_trans (Nat.le_trans (Nat.le_add_left _ _) hz) (by decide), fun q hq => ?_⟩
  refine ⟨l, q, _, _, rfl, rfl, same_upd hq _ _ hl, upd_same, by rw [List.length_map, List.length_map]; exact Nat.le_trans hz (by decide), fun p hp => ?_⟩
  exact h p _ ((same_upd hq).trans (same_upd hp)) ((same_upd hq).free hp) (by rw [List.map_append]; exact upd_same)
theorem ks_ret {K : PySem.W.Frag} {Q : VK} {v : V} {l : Addr} {C : Addr} {kb : Str → Bool} {ms ns : List Str} {H : Hp} (hl : H l = some (.lst (ms.map fun x => .bl (kb x)))) (hx : ExK H v C) (hk : Kits K C kb ns) (hz : ms.length + ns.length ≤ 1000)
    (h : ∀ p H', Same H H' → H p = none → H' p = some (.lst ((ms ++ ns).map fun x => .bl (kb x))) → Q (.ref p) H') : tRet (tOp rCat (tVar 1) (tLst (tKs K 0 ns))) { nx := fun _ H' => Q .non H', rt := Q } [some v, some (.ref l)] H := by
  refine ⟨_, rfl, v, C, kb, rfl, hx, hk, by rw [List.length_map]; exact Nat.le_trans (Nat.le_trans (Nat.le_add_left _ _) hz) (by decide), fun q hq => ?_⟩
  refine ⟨l, q, _, _, rfl, rfl, same_upd hq _ _ hl, upd_same, by rw [List.length_map, List.length_map]; exact Nat.le_trans hz (by decide), fun p hp => ?_⟩
  exact h p _ ((same_upd hq).trans (same_upd hp)) ((same_upd hq).free hp) (by rw [List.map_append]; exact upd_same)
end Fh
namespace Fh
open PySem PySem.Spec PyProof.Rows L2 He
/-! ### comprehensions over a list: one name, no test -/
/-- the loop of such a comprehension, as its reading asks for it -/
abbrev LcGoal (K : PySem.W.Frag) (a : Addr) (i : Nat) (te : TE) (σ : Sto) (H1 : Hp) (D : Addr) (Qd : Hp → Prop) : Prop :=
  ∃ W : Nat → Nat → Hp → Prop, (∃ m, W 0 m (upd H1 D (.lst []))) ∧ ∀ j m H, W j m H → ((Itl K a).stop j H ∧ Qd H) ∨ ((Itl K a).go j H ∧ ∃ Nx : Hp → Prop, (∀ H', Nx H' → ∃ m', m' < m ∧ W (j + 1) m' H') ∧ ∀ x H', (Itl K a).yld j H x H' →
    gName i x (wipe σ [i]) H' fun σ2 H2 => wipe σ2 [i] = wipe σ [i] ∧ tYes σ2 H2 fun b H3 => if b = true then te σ2 H3 fun y H4 => ∃ acc, H4 D = some (.lst acc) ∧ acc.length < sizeLine ∧ Nx (upd H4 D (.lst (acc ++ [y]))) else Nx H3)
theorem wipe_one (σ : Sto) (i : Nat) (x : Option V) : wipe ((wipe σ [i]).set i x) [i] = wipe σ [i] := by
  show ((σ.set i none).set i x).set i none = σ.set i none
  rw [List.set_set, List.set_set]
theorem same_updX {H1 H : Hp} {D : Addr} {o : HO} (s : Same H1 H) (hD : H1 D = none) : Same H1 (upd H D o) := fun b u e => by
  rw [upd_ne (ne_of_none e hD)]
  exact s b u e
section
variable {K : PySem.W.Frag} {a : Addr} {xs : List V} {i : Nat} {te : TE} {σ : Sto} {H1 : Hp} {D : Addr} {Qd : Hp → Prop}
theorem lc_flat (ys : List V) (hn : ys.length = xs.length) (hz : xs.length ≤ 100000) (hS : SqL K H1 a xs) (hD : H1 D = none)
    (hel : ∀ (j : Nat) x y H (Q : VK), xs[j]? = some x → ys[j]? = some y → Same H1 H → (∀ H', Same H H' → Q y H') → te ((wipe σ [i]).set i (some x)) H Q)
    (hd : ∀ H, Same H1 H → H D = some (.lst ys) → Qd H) : LcGoal K a i te σ H1 D Qd := by
  refine lc_list (K := K) (a := a) (xs := xs) (fun j H => Same H1 H ∧ H D = some (.lst (ys.take j))) ⟨same_upd hD, upd_same⟩ (fun _ H _ h => h.1.seq hS) ?_ ?_
  · rintro j x H hx ⟨s, hDl⟩
    have hj : j < xs.length := (List.getElem?_eq_some_iff.mp hx).1
    have hy : ys[j]? = some (ys[j]'(by omega)) := List.getElem?_eq_getElem (by omega)
    refine ⟨wipe_one σ i _, ?_⟩
    show te ((wipe σ [i]).set i (some x)) H _
    refine hel j x _ H _ hx hy s fun H' s' => ?_
    refine ⟨ys.take j, s' _ _ hDl, ?_, same_updX (s.trans s') hD, ?_⟩
    · rw [List.length_take, sizeLine_eq]
      omega
    · rw [upd_same, List.take_add_one, hy]
      rfl
  · rintro H ⟨s, hDl⟩
    refine hd H s ?_
    rw [hDl, ← hn, List.take_length]
/-- each item a new list of data -/
theorem lc_lists (zs : List (List V)) (hn : zs.length = xs.length) (hz : xs.length ≤ 100000) (hS : SqL K H1 a xs) (hD : H1 D = none)
    (hel : ∀ (j : Nat) x z H (Q : VK), xs[j]? = some x → zs[j]? = some z → Same H1 H → (∀ p H', Same H H' → H p = none → H' p = some (.lst z) → Q (.ref p) H') → te ((wipe σ [i]).set i (some x)) H Q)
    (hd : ∀ H ps, Same H1 H → H D = some (.lst ps) → ps.length = zs.length → (∀ (j : Nat) z, zs[j]? = some z → ∃ p, ps[j]? = some (.ref p) ∧ H p = some (.lst z)) → Qd H) : LcGoal K a i te σ H1 D Qd := by
  refine lc_list (K := K) (a := a) (xs := xs) (fun j H => Same H1 H ∧ ∃ ps, H D = some (.lst ps) ∧ ps.length = j ∧ ∀ (k : Nat) z, k < j → zs[k]? = some z → ∃ p, ps[k]? = some (.ref p) ∧ p ≠ D ∧ H p = some (.lst z)) ⟨same_upd hD, [], upd_same, rfl, fun k z h => absurd h (Nat.not_lt_zero k)⟩ (fun _ H _ h => h.1.seq hS) ?_ ?_
  · rintro j x H hx ⟨s, ps, hDl, hl, hps⟩
    have hj : j < xs.length := (List.getElem?_eq_some_iff.mp hx).1
    have hy : zs[j]? = some (zs[j]'(by omega)) := List.getElem?_eq_getElem (by omega)
    refine ⟨wipe_one σ i _, ?_⟩
    show te ((wipe σ [i]).set i (some x)) H _
    refine hel j x _ H _ hx hy s fun p H' s' hp hp' => ?_
    refine ⟨ps, s' _ _ hDl, by rw [hl, sizeLine_eq]; omega, same_updX (s.trans s') hD, ps ++ [.ref p], upd_same, by rw [List.length_append, hl]; rfl, fun k z hk hz => ?_⟩
    have npD : p ≠ D := fun e => by
      rw [e, hDl] at hp
      cases hp
    by_cases hkj : k < j
    · obtain ⟨q, e1, e2, e3⟩ := hps k z hkj hz
      exact ⟨q, by rw [List.getElem?_append_left (by omega)]; exact e1, e2, by rw [upd_ne e2]; exact s' _ _ e3⟩
    · have hkj' : k = j := by omega
      subst hkj'
      rw [hy] at hz
      cases hz
      exact ⟨p, by rw [List.getElem?_append_right (by omega), hl, Nat.sub_self]; rfl, npD, by rw [upd_ne npD]; exact hp'⟩
  · rintro H ⟨s, ps, hDl, hl, hps⟩
    refine hd H ps s hDl (by rw [hl, hn]) fun k z hz => ?_
    have hk : k < zs.length := (List.getElem?_eq_some_iff.mp hz).1
    obtain ⟨q, e1, _, e3⟩ := hps k z (by omega) hz
    exact ⟨q, e1, e3⟩
end
/-! ### every second item -/
def pickV (is : List Nat) {α : Type} (xs : List α) : List α := is.filterMap (xs[·]?)
theorem pick_vals {xs : List V} {us : List Value} (r : Vals xs us) : ∀ is : List Nat, Vals (pickV is xs) (pickV is us)
  | [] => .nil
  | i :: is => by
    have ih := pick_vals r is
    unfold pickV at ih ⊢
    rw [List.filterMap_cons, List.filterMap_cons]
    cases e : xs[i]? with
    | none => rw [r.none_of e]; exact ih
    | some x =>
      obtain ⟨u, hu, ru⟩ := r.get e
      rw [hu]
      exact .cons ru ih
def tStep2 (K : PySem.W.Frag) (te : TE) : TE := fun σ H Q => te σ H fun x H1 => ∃ a xs, x = .ref a ∧ SqL K H1 a xs ∧ ∀ p, H1 p = none → Q (.ref p) (upd H1 p (.lst (pickV (sliceRange 0 xs.length 2) xs)))
theorem pe_step2 {X : Cx} {e : Expr} {te : TE} {k : Nat} {p1 p3 pos : Pos} (he : PE X e te) : PE X (.Subscript e (.Slice none none (some (.Constant (.int 2) k p1)) p3) pos) (tStep2 X.K te) := by
  refine ⟨fun pins s σ H Q I h => ?_⟩
  refine Subscript_ (thn (he.run pins s σ H _ I h) fun v s1 hh => ?_)
  obtain ⟨x, H1, I1, r1, a, xs, ex, hx, q⟩ := hh
  subst ex
  cases r1
  refine wpAny_Slice (thn (po_none.run pins s1 σ H1 (fun o H2 => o = none ∧ H2 = H1) I1 ⟨rfl, rfl⟩) fun vl s2 h2 => ?_)
  obtain ⟨l, H2, I2, pl, el, e2⟩ := h2
  subst el e2
  refine thn (po_none.run pins s2 σ H2 (fun o H3 => o = none ∧ H3 = H2) I2 ⟨rfl, rfl⟩) fun vu s3 h3 => ?_
  obtain ⟨u, H3, I3, pu, eu, e3⟩ := h3
  subst eu e3
  refine thn ((po_some (pe_int (X := X) (i := 2) (j := k) (pos := p1))).run pins s3 σ H3 (fun o H4 => o = some 2 ∧ H4 = H3) I3 ⟨2, rfl, rfl, rfl⟩) fun vs s4 h4 => ?_
  obtain ⟨o, H4, I4, ps, eo, e4⟩ := h4
  subst eo e4
  have I5 : Inv X pins σ H4 { s4 with heap := s4.heap.push { cls := .type "slice", data := .fields #[vl, vu, vs] } } := I4.kept (t' := s4.toks) fun b ob q => Heap.get?_push_of_some _ q
  obtain ⟨its, r, ht, hz⟩ := I5.list hx
  have hlen := r.length
  show wpAny (model X.prog X.w) X.A (subscriptTail e (.Slice none none (some (.Constant (.int 2) k p1)) p3) (.ref a) (.ref s4.heap.objs.size)) (EP X pins σ Q) X.xe { s4 with heap := s4.heap.push { cls := .type "slice", data := .fields #[vl, vu, vs] } }
  refine tail_any (ops := [.ref a, .ref s4.heap.objs.size]) ht.isList.typeIs (PySem.slot_list_getitem.lookup) ?_ (by with_unfolding_all rfl)
  refine wpAny_getItem_list_slice ht.isList (Heap.IsSliceOf.new _ vl vu vs) pl pu ps (by decide) ?_ (by rw [List.size_toArray]; omega)
  have ep : slicePick its.toArray none none (some 2) = (pickV (sliceRange 0 xs.length 2) its).toArray := by
    unfold slicePick pickV
    rw [List.size_toArray, ← hlen]
    show ((sliceRange 0 (xs.length : Int) 2).filterMap fun j => its.toArray[j]?).toArray = _
    simp only [List.getElem?_toArray]
  rw [ep]
  have rp := pick_vals r (sliceRange 0 xs.length 2)
  have lp : (pickV (sliceRange 0 xs.length 2) xs).length ≤ sizeLine := by
    refine Nat.le_trans (List.length_filterMap_le _ _) (Nat.le_trans ?_ hz)
    unfold sliceRange
    rw [List.length_map, List.length_range]
    show (if (2 : Int) > 0 then (if (0 : Int) < xs.length then ((xs.length : Int) - 0 + 2 - 1) / 2 else 0) else _ : Int).toNat ≤ xs.length
    rw [if_pos (by decide)]
    split <;> omega
  refine ⟨.ref _, _, I5.laid (t' := s4.toks) (o := .lst (pickV (sliceRange 0 xs.length 2) xs)) (fun b ob q => Heap.get?_push_of_some _ q) (Nat.le_refl _) ?_, rfl, q _ (I5.hok.fresh (Nat.le_refl _))⟩
  exact ⟨lp, _, 0, rp, Heap.get?_push_size _ rfl⟩
end Fh
namespace Fh
open PySem PySem.Spec PyProof.Rows PySem.W L2 He
/-! ### the law's call, repr at rest -/
theorem lawG {P : Program} {w : World} {K : PySem.W.Frag} {mg mb : Str → Option Value} {k : Nat} {fa a : Addr} {fd : FuncData} {x : Str} {sp : Sp} {s1 : Shared} {vs : List Value} {ns : List Int}
    (KX : K.In s1.heap) (hns : s1.heap.Ns mainGlobals mg) (hb : s1.heap.Ns builtinsNs mb) (hbb : ∀ x : Str, x ≠ "__name__" → mb x = bootBuiltins x) (hlim : s1.heap.NoLimit) (hg : s1.gens = #[])
    (ha : s1.heap.get? a = some { cls := .type "list", data := .seq vs.toArray }) (hi : IntsAre vs ns) (hl : ns.length ≤ sizeLine) (hr : Room k callerA)
    (F : ∀ base : Heap, K.In base → base.Ns mainGlobals mg → FnG P w K mg base CX0 k fa fd [x] sp) (hbind : ∀ (s : Shared) (u : Value), BindsTo s fd ⟨[u], []⟩ [(x, u)])
    (hsp : ∀ H : Hp, Only H → SqL K H a (ns.map V.int) → sp [.ref a] H (fun v _ => v = .bl true) fun _ _ _ => False) :
    codeAny (model P w) callerA (.call (.ref fa) ⟨[.ref a], []⟩) (fun r s' => r = .ok (.ret (.bool true)) ∧ OldK s1.heap s'.heap ∧ s'.os = s1.os ∧ AllBare s'.gens) s1 := by
  have rv := vals_ints hi
  have lenV := hi.length
  have core : ∀ H : Hp, Only H → SqL K H a (ns.map V.int) → HOk P w H s1.heap → (∀ b, H b ≠ none → b = a) → (H a ≠ none → K.lookup a = none) →
      codeAny (model P w) callerA (.call (.ref fa) ⟨[.ref a], []⟩) (fun r s' => r = .ok (.ret (.bool true)) ∧ OldK s1.heap s'.heap ∧ s'.os = s1.os ∧ AllBare s'.gens) s1 := by
    intro H hO hS hok hA hK
    have atA : ∀ {b : Addr}, H b ≠ none → b = a := fun q => hA _ q
    have low : ∀ {b : Addr} {o : Obj}, s1.heap.get? b = some o → H b = none → (hidT s1.heap H).get? b = some o := fun e n => hidT_get e n
    have noD : ∀ {b : Addr} {o : Obj} {es : Array DictEntry} {ep : Nat}, s1.heap.get? b = some o → o.data = .dict es ep → H b = none := by
      intro b o es ep e d
      cases q : H b with
      | none => rfl
      | some u =>
        obtain rfl : b = a := atA (by rw [q]; simp)
        rw [ha] at e
        cases e
        have d' : Data.seq vs.toArray _ = Data.dict es ep := d
        cases d'
    have nsK : ∀ {b : Addr} {m : Str → Option Value}, s1.heap.Ns b m → (hidT s1.heap H).Ns b m := fun ⟨o, es, ep, e, d, r⟩ => ⟨o, es, ep, low e (noD e d), d, r⟩
    have hKb : K.In (hidT s1.heap H) := by
      intro b o e
      refine low (KX b o e) ?_
      cases q : H b with
      | none => rfl
      | some u =>
        obtain rfl : b = a := atA (by rw [q]; simp)
        rw [hK (by rw [q]; simp)] at e
        cases e
    have hM : Mod K mg (hidT s1.heap H) := ⟨hKb, nsK hns, ⟨mb, nsK hb, hbb⟩, let ⟨mc, h1, h2⟩ := hlim; ⟨mc, nsK h1, h2⟩⟩
    have e0 : Env0 P w K mg (hidT s1.heap H) callerA [] s1 H := ⟨rfl, hM, fun b o e => of_hidT e, Nat.le_of_eq (hidT_size _ _), trivial, fun b hb => absurd (show b ∈ ([] : List Addr) from hb) (by simp), hok, .of_eq hg⟩
    refine codeAny_mono ((F _ hKb (nsK hns)).go callerA [] s1 H ⟨[.ref a], []⟩ [.ref a] [.ref a] _ _ rfl hr e0 (hbind s1 (.ref a)) (.cons rfl .nil) (hsp H hO hS)) fun r s' h => ?_
    cases r with
    | error e => exact False.elim h
    | ok fl => cases fl with
      | next => exact False.elim h
      | brk => exact False.elim h
      | cont => exact False.elim h
      | ret u =>
        obtain ⟨v, H', os, bare, un, hok', r', q⟩ := h
        have q' : v = .bl true := q
        subst q'
        obtain rfl : u = Value.bool true := r'
        refine ⟨rfl, OldK.of_keep fun b o e => ?_, os, bare⟩
        cases q : H b with
        | none => exact un.keep b o e q (by intro z; exact absurd (show b ∈ ([] : List Addr) from z) (by simp)) (by simp)
        | some u =>
          rcases hO b with z | ⟨ob, xs, z⟩
          · rw [q] at z
            cases z
          · obtain ⟨e1, _⟩ := hok b _ z
            obtain ⟨e2, _⟩ := hok' b _ (un.frzs b ob _ z)
            rw [e] at e1
            cases e1
            exact e2
  cases hk : K.lookup a with
  | some o =>
    have e := KX a o hk
    rw [ha] at e
    cases e
    exact core (fun _ => none) (fun _ => .inl rfl) (.inr ⟨_, vs.toArray, _, hk, rfl, rfl, rfl, by rw [List.size_toArray, lenV]; exact hl, by simpa using rv⟩) (fun b u z => by have z' : (none : Option HO) = some u := z; cases z') (fun b z => absurd rfl z) fun z => absurd rfl z
  | none =>
    refine core (fun b => if b = a then some (.frz { cls := .type "list", data := .seq vs.toArray } (.lst (ns.map V.int))) else none) (fun b => ?_) (.inl (.inr ⟨{ cls := .type "list", data := .seq vs.toArray }, if_pos rfl⟩)) (fun b u z => ?_) (fun b z => ?_) fun _ => hk
    · by_cases hb : b = a
      · exact .inr ⟨_, _, if_pos hb⟩
      · exact .inl (if_neg hb)
    · by_cases hb : b = a
      · have z' := (if_pos hb).symm.trans z
        cases z'
        subst hb
        exact ⟨ha, by rw [List.length_map]; exact hl, vs, _, rv, ha⟩
      · have z' := (if_neg hb).symm.trans z
        cases z'
    · by_cases hb : b = a
      · exact hb
      · exact absurd (if_neg hb) z
/-- a law's promise: over every script it gives True -/
def spLaw (K : PySem.W.Frag) : Sp := fun vs H Q _ => ∃ a ns, vs = [.ref a] ∧ Script K H a ns ∧ ∀ H', Q (.bl true) H'
theorem walkG {l : PySem.W.OpenLaw} {k : Nat} {q : Program} {loose : List Str} {XP : (Str → Option Value) → Heap → Prop} {YP : World → Heap → Prop} {d : DefRec} (hn : l.most = some 63) (hdf : d.params.defaults = []) (hr : Room k callerA)
    (F : ∀ (w : World) (mg : Str → Option Value) (fa : Addr) (h : Heap), YP w h → h.Ns mainGlobals mg → mg d.name = some (.ref fa) →
      ∃ (K : PySem.W.Frag) (fd : FuncData), K.In h ∧ (∀ (s : Shared) (u : Value), BindsTo s fd ⟨[u], []⟩ [("script", u)]) ∧ ∀ base : Heap, K.In base → base.Ns mainGlobals mg → FnG l.prog w K mg base CX0 k fa fd ["script"] (spLaw K)) :
    PySem.W.WalkO q loose XP YP l.row.toRowW d [] (fun f vs => PySem.call f vs) := by
  refine Att.attach_callB hn hdf fun w s0 s1 mg mb fa o pm cd doc a vs ns G Y ho hd hcd hmg hobj hints hlen hbits hg => ?_
  obtain ⟨K, fd, KX, hb, hF⟩ := F w mg fa _ Y G.T.g hmg
  exact lawG KX G.T.g G.T.b G.T.builtins G.T.nolimit hg hobj hints (Nat.le_trans hlen (by decide)) hr hF hb fun H _ hS => ⟨a, ns, rfl, ⟨hS, hlen, hbits⟩, fun _ => rfl⟩
end Fh
namespace Fh
open PySem PySem.Spec PyProof.Rows L2 He
/-! ### flat data, lists of it -/
def toD : V → PyData
  | .bl b => .bool b
  | .int i => .int i
  | .str x => .str x
  | _ => .none
theorem dp_flat {K : PySem.W.Frag} {H : Hp} {v : V} (h : flatV v = true) : Dp K H v (toD v) := by
  cases v with
  | non => exact .non
  | bl b => exact .bl b
  | int i => exact .int i
  | str x => exact .str x
  | _ => cases h
theorem dps_flat {K : PySem.W.Frag} {H : Hp} : ∀ {vs : List V}, (∀ v ∈ vs, flatV v = true) → DpAll K H vs (vs.map toD)
  | [], _ => .nil
  | v :: vs, h => .cons (dp_flat (h v List.mem_cons_self)) (dps_flat fun u hu => h u (List.mem_cons_of_mem _ hu))
theorem dp_lst {K : PySem.W.Frag} {H : Hp} {a : Addr} {vs : List V} (h : SqL K H a vs) (f : ∀ v ∈ vs, flatV v = true) : Dp K H (.ref a) (.list (vs.map toD)) := .lst h (dps_flat f)
theorem dps_nest {K : PySem.W.Frag} {H : Hp} : ∀ {ps : List V} {zs : List (List V)}, ps.length = zs.length → (∀ (j : Nat) z, zs[j]? = some z → ∃ p, ps[j]? = some (.ref p) ∧ H p = some (.lst z)) → (∀ z ∈ zs, ∀ v ∈ z, flatV v = true) → DpAll K H ps (zs.map fun z => .list (z.map toD))
  | [], [], _, _, _ => .nil
  | [], z :: zs, h, _, _ => by cases h
  | p :: ps, [], h, _, _ => by cases h
  | p :: ps, z :: zs, h, g, f => by
    obtain ⟨q, e1, e2⟩ := g 0 z rfl
    have e3 : p = .ref q := Option.some.inj e1
    subst e3
    refine .cons (dp_lst (SqL.of e2) (f z List.mem_cons_self)) (dps_nest (Nat.succ.inj h) (fun j y hy => ?_) fun y hy => f y (List.mem_cons_of_mem _ hy))
    obtain ⟨r, r1, r2⟩ := g (j + 1) y hy
    exact ⟨r, r1, r2⟩
theorem lay_all : ∀ {ds : List PyData}, (∀ d ∈ ds, d.canLay0 = true) → PyData.canLayAll0 ds = true
  | [], _ => by simp only [PyData.canLayAll0]
  | d :: ds, h => by
    simp only [PyData.canLayAll0, h d List.mem_cons_self, lay_all fun e he => h e (List.mem_cons_of_mem _ he), Bool.and_self]
theorem depth_all {n : Nat} : ∀ {ds : List PyData}, (∀ d ∈ ds, d.depth ≤ n) → PyData.depthAll ds ≤ n
  | [], _ => by simp only [PyData.depthAll]; exact Nat.zero_le _
  | d :: ds, h => by
    have h1 := h d List.mem_cons_self
    have h2 := depth_all fun e he => h e (List.mem_cons_of_mem _ he)
    simp only [PyData.depthAll]
    omega
/-- flat, its signs in order -/
def okV : V → Bool
  | .str x => PyData.strOk x
  | v => flatV v
theorem okV_flat {v : V} (h : okV v = true) : flatV v = true := by
  cases v <;> first | rfl | exact h
theorem toD_lay {v : V} (h : okV v = true) : (toD v).canLay0 = true ∧ (toD v).depth ≤ 1 := by
  cases v with
  | str x =>
    have h' : PyData.strOk x = true := h
    simp [toD, PyData.canLay0, PyData.depth, h']
  | _ => simp [toD, PyData.canLay0, PyData.depth]
theorem shaped_flat {vs : List V} (h : ∀ v ∈ vs, okV v = true) : SeqAt.shaped (.list (vs.map toD)) = true ∧ (PyData.list (vs.map toD)).depth ≤ 2 := by
  have h1 : PyData.canLayAll0 (vs.map toD) = true := lay_all fun d hd => by
    obtain ⟨v, hv, rfl⟩ := List.mem_map.mp hd
    exact (toD_lay (h v hv)).1
  have h2 : PyData.depthAll (vs.map toD) ≤ 1 := depth_all fun d hd => by
    obtain ⟨v, hv, rfl⟩ := List.mem_map.mp hd
    exact (toD_lay (h v hv)).2
  refine ⟨?_, by simp only [PyData.depth]; omega⟩
  unfold SeqAt.shaped
  simp only [PyData.canLay0, PyData.depth, h1, Bool.true_and, decide_eq_true_eq]
  exact decide_eq_true (by omega)
theorem shaped_nest {zs : List (List V)} (h : ∀ z ∈ zs, ∀ v ∈ z, okV v = true) : SeqAt.shaped (.list (zs.map fun z => .list (z.map toD))) = true := by
  have h1 : PyData.canLayAll0 (zs.map fun z => .list (z.map toD)) = true := lay_all fun d hd => by
    obtain ⟨z, hz, rfl⟩ := List.mem_map.mp hd
    exact SeqAt.canLay_of_shaped (shaped_flat (h z hz)).1
  have h2 : PyData.depthAll (zs.map fun z => .list (z.map toD)) ≤ 2 := depth_all fun d hd => by
    obtain ⟨z, hz, rfl⟩ := List.mem_map.mp hd
    exact (shaped_flat (h z hz)).2
  unfold SeqAt.shaped
  simp only [PyData.canLay0, PyData.depth, h1, Bool.true_and, decide_eq_true_eq]
  exact decide_eq_true (by omega)
theorem ne_same {K : PySem.W.Frag} {H : Hp} {x y : V} {d : PyData} {Q : VK} (hx : Dp K H x d) (hy : Dp K H y d) (hs : SeqAt.shaped d = true) (q : Q (.bl false) H) : rNeD K x y H Q :=
  ⟨d, d, hx, hy, hs, hs, by rw [SeqAt.eqv_refl d (SeqAt.canLay_of_shaped hs)]; exact q⟩
theorem eq_same {K : PySem.W.Frag} {H : Hp} {x y : V} {d : PyData} {Q : VK} (hx : Dp K H x d) (hy : Dp K H y d) (hs : SeqAt.shaped d = true) (q : Q (.bl true) H) : rEqD K x y H Q :=
  ⟨d, d, hx, hy, hs, hs, by rw [SeqAt.eqv_refl d (SeqAt.canLay_of_shaped hs)]; exact q⟩
/-! ### picks of exceptions -/
def KAll (H : Hp) : List Addr → List V → Prop
  | [], vs => vs = []
  | c :: cs, vs => ∃ v r, vs = v :: r ∧ ExK H v c ∧ KAll H cs r
theorem KAll.up {H H' : Hp} (s : Same H H') : ∀ {cs : List Addr} {vs : List V}, KAll H cs vs → KAll H' cs vs
  | [], _, h => h
  | _ :: _, _, ⟨v, r, e, h1, h2⟩ => ⟨v, r, e, h1.up s, h2.up s⟩
theorem KAll.app {H : Hp} : ∀ {cs ds : List Addr} {vs us : List V}, KAll H cs vs → KAll H ds us → KAll H (cs ++ ds) (vs ++ us)
  | [], _, _, _, h, g => by
    have e : _ = [] := h
    subst e
    exact g
  | _ :: _, _, _, us, ⟨v, r, e, h1, h2⟩, g => ⟨v, r ++ us, by rw [e]; rfl, h1, h2.app g⟩
theorem KAll.len {H : Hp} : ∀ {cs : List Addr} {vs : List V}, KAll H cs vs → vs.length = cs.length
  | [], _, h => by
    have e : _ = [] := h
    rw [e]
    rfl
  | _ :: _, _, ⟨v, r, e, _, h2⟩ => by rw [e, List.length_cons, List.length_cons, h2.len]
theorem KAll.get {H : Hp} : ∀ {cs : List Addr} {vs : List V} {i : Nat} {v : V}, KAll H cs vs → vs[i]? = some v → ∃ c, cs[i]? = some c ∧ ExK H v c
  | [], _, i, v, h, g => by
    have e : _ = [] := h
    rw [e] at g
    cases g
  | c :: cs, _, 0, v, ⟨u, r, e, h1, h2⟩, g => by
    rw [e] at g
    cases g
    exact ⟨c, rfl, h1⟩
  | c :: cs, _, i + 1, v, ⟨u, r, e, h1, h2⟩, g => by
    rw [e] at g
    exact KAll.get (i := i) h2 g
theorem XAll.none_of {H : Hp} {y : V} {cs : List (Addr × Str)} {vs : List V} {i : Nat} (h : XAll H y cs vs) (e : vs[i]? = none) : cs[i]? = none := by
  rw [List.getElem?_eq_none_iff] at e ⊢
  rw [← h.len]
  exact e
theorem XAll.pick {H : Hp} {y : V} {cs : List (Addr × Str)} {vs : List V} (h : XAll H y cs vs) : ∀ is : List Nat, KAll H ((pickV is cs).map (·.1)) (pickV is vs)
  | [] => rfl
  | i :: is => by
    have ih := h.pick is
    unfold pickV at ih ⊢
    rw [List.filterMap_cons, List.filterMap_cons]
    cases e : vs[i]? with
    | none => rw [h.none_of e]; exact ih
    | some v =>
      obtain ⟨c, hc, q⟩ := h.get e
      rw [hc]
      exact ⟨v, _, rfl, q.k, ih⟩
end Fh
namespace Fh
open PySem PySem.Spec PyProof.Rows L2 He
/-! ### comprehensions over a range -/
abbrev LrGoal (lo : Int) (n : Nat) (i : Nat) (te : TE) (σ : Sto) (H1 : Hp) (D : Addr) (Qd : Hp → Prop) : Prop :=
  ∃ W : Nat → Nat → Hp → Prop, (∃ m, W 0 m (upd H1 D (.lst []))) ∧ ∀ j m H, W j m H → ((Itr lo n).stop j H ∧ Qd H) ∨ ((Itr lo n).go j H ∧ ∃ Nx : Hp → Prop, (∀ H', Nx H' → ∃ m', m' < m ∧ W (j + 1) m' H') ∧ ∀ x H', (Itr lo n).yld j H x H' →
    gName i x (wipe σ [i]) H' fun σ2 H2 => wipe σ2 [i] = wipe σ [i] ∧ tYes σ2 H2 fun b H3 => if b = true then te σ2 H3 fun y H4 => ∃ acc, H4 D = some (.lst acc) ∧ acc.length < sizeLine ∧ Nx (upd H4 D (.lst (acc ++ [y]))) else Nx H3)
section
variable {lo : Int} {n : Nat} {i : Nat} {te : TE} {σ : Sto} {H1 : Hp} {D : Addr} {Qd : Hp → Prop}
theorem lr_flat (ys : List V) (hn : ys.length = n) (hz : n ≤ 100000) (hD : H1 D = none)
    (hel : ∀ (j : Nat) y H (Q : VK), ys[j]? = some y → Same H1 H → (∀ H', Same H H' → Q y H') → te ((wipe σ [i]).set i (some (.int (lo + j)))) H Q)
    (hd : ∀ H, Same H1 H → H D = some (.lst ys) → Qd H) : LrGoal lo n i te σ H1 D Qd := by
  refine lc_range (lo := lo) (n := n) (fun j H => Same H1 H ∧ H D = some (.lst (ys.take j))) ⟨same_upd hD, upd_same⟩ ?_ ?_
  · rintro j H hj ⟨s, hDl⟩
    have hy : ys[j]? = some (ys[j]'(by omega)) := List.getElem?_eq_getElem (by omega)
    refine ⟨wipe_one σ i _, ?_⟩
    show te ((wipe σ [i]).set i (some (.int (lo + j)))) H _
    refine hel j _ H _ hy s fun H' s' => ?_
    refine ⟨ys.take j, s' _ _ hDl, ?_, same_updX (s.trans s') hD, ?_⟩
    · rw [List.length_take, sizeLine_eq]
      omega
    · rw [upd_same, List.take_add_one, hy]
      rfl
  · rintro H ⟨s, hDl⟩
    refine hd H s ?_
    rw [hDl, ← hn, List.take_length]
theorem lr_lists (zs : List (List V)) (hn : zs.length = n) (hz : n ≤ 100000) (hD : H1 D = none)
    (hel : ∀ (j : Nat) z H (Q : VK), zs[j]? = some z → Same H1 H → (∀ p H', Same H H' → H p = none → H' p = some (.lst z) → Q (.ref p) H') → te ((wipe σ [i]).set i (some (.int (lo + j)))) H Q)
    (hd : ∀ H ps, Same H1 H → H D = some (.lst ps) → ps.length = zs.length → (∀ (j : Nat) z, zs[j]? = some z → ∃ p, ps[j]? = some (.ref p) ∧ H p = some (.lst z)) → Qd H) : LrGoal lo n i te σ H1 D Qd := by
  refine lc_range (lo := lo) (n := n) (fun j H => Same H1 H ∧ ∃ ps, H D = some (.lst ps) ∧ ps.length = j ∧ ∀ (k : Nat) z, k < j → zs[k]? = some z → ∃ p, ps[k]? = some (.ref p) ∧ p ≠ D ∧ H p = some (.lst z)) ⟨same_upd hD, [], upd_same, rfl, fun k z h => absurd h (Nat.not_lt_zero k)⟩ ?_ ?_
  · rintro j H hj ⟨s, ps, hDl, hl, hps⟩
    have hy : zs[j]? = some (zs[j]'(by omega)) := List.getElem?_eq_getElem (by omega)
    refine ⟨wipe_one σ i _, ?_⟩
    show te ((wipe σ [i]).set i (some (.int (lo + j)))) H _
    refine hel j _ H _ hy s fun p H' s' hp hp' => ?_
    refine ⟨ps, s' _ _ hDl, by rw [hl, sizeLine_eq]; omega, same_updX (s.trans s') hD, ps ++ [.ref p], upd_same, by rw [List.length_append, hl]; rfl, fun k z hk hz => ?_⟩
    have npD : p ≠ D := fun e => by
      rw [e, hDl] at hp
      cases hp
    by_cases hkj : k < j
    · obtain ⟨q, e1, e2, e3⟩ := hps k z hkj hz
      exact ⟨q, by rw [List.getElem?_append_left (by omega)]; exact e1, e2, by rw [upd_ne e2]; exact s' _ _ e3⟩
    · have hkj' : k = j := by omega
      subst hkj'
      rw [hy] at hz
      cases hz
      exact ⟨p, by rw [List.getElem?_append_right (by omega), hl, Nat.sub_self]; rfl, npD, by rw [upd_ne npD]; exact hp'⟩
  · rintro H ⟨s, ps, hDl, hl, hps⟩
    refine hd H ps s hDl (by rw [hl, hn]) fun k z hz => ?_
    have hk : k < zs.length := (List.getElem?_eq_some_iff.mp hz).1
    obtain ⟨q, e1, _, e3⟩ := hps k z (by omega) hz
    exact ⟨q, e1, e3⟩
end
/-! ### a part of a list of exceptions -/
theorem XAll.drop {H : Hp} {y : V} : ∀ {cs : List (Addr × Str)} {vs : List V} (n : Nat), XAll H y cs vs → XAll H y (cs.drop n) (vs.drop n)
  | _, _, 0, h => h
  | [], _, n + 1, h => by
    have e : _ = [] := h
    rw [e]
    exact rfl
  | c :: cs, _, n + 1, ⟨v, r, e, _, h2⟩ => by
    rw [e]
    exact XAll.drop n h2
theorem XAll.take {H : Hp} {y : V} : ∀ {cs : List (Addr × Str)} {vs : List V} (n : Nat), XAll H y cs vs → XAll H y (cs.take n) (vs.take n)
  | _, _, 0, h => rfl
  | [], _, n + 1, h => by
    have e : _ = [] := h
    rw [e]
    exact rfl
  | c :: cs, _, n + 1, ⟨v, r, e, h1, h2⟩ => by
    rw [e]
    exact ⟨v, r.take n, rfl, h1, XAll.take n h2⟩
/-- all have the field f -/
theorem XAll.field {H : Hp} {y : V} {f : Str} {cs : List (Addr × Str)} {vs : List V} {i : Nat} {v : V} (h : XAll H y cs vs) (hf : ∀ c ∈ cs, c.2 = f) (e : vs[i]? = some v) : ∃ c ∈ cs, c.2 = f ∧ ExAt H v c.1 f y := by
  obtain ⟨c, hc, q⟩ := h.get e
  have m := List.mem_of_getElem? hc
  have ef := hf c m
  exact ⟨c, m, ef, ef ▸ q⟩
end Fh
namespace Fh
open PySem PySem.Spec PyProof.Rows L2 He
/-! ### the head: facts of names, of defs, and one more Bool of the written part -/
abbrev AlE : Type := AlD × Bool
def obsE (n : Nat) (fa : List Fa) (fn : List DefD) (ex : PySem.W.Frag → Bool) (g : Addr → Option Obj) : AlE := (obsD fa fn (frG g (asD g n)), ex (frG g (asD g n)))
def SaysE (fa : List Fa) (fn : List DefD) (ex : PySem.W.Frag → Bool) (K : PySem.W.Frag) : Prop := SaysD fa fn K ∧ ex K = true
def hookE (n : Nat) (fa : List Fa) (fn : List DefD) (ex : PySem.W.Frag → Bool) : PySem.W.Hook where
  α := AlE
  obs := fun s => obsE n fa fn ex s.heap.get?
  val := fun _ => (valD fn, true)
  says := fun _ h => ∃ K : PySem.W.Frag, K.In h ∧ SaysE fa fn ex K
  of := fun _ _ e => ⟨_, frG_in, congrArg (fun z : AlE => z.1) e, congrArg (fun z : AlE => z.2) e⟩
  keeps := fun _ _ _ ⟨K, hK, c⟩ k => ⟨K, PySem.W.Frag.In.keeps hK k, c⟩
theorem obsE_eq {n : Nat} {fa : List Fa} {fn : List DefD} {ex : PySem.W.Frag → Bool} {g : Addr → Option Obj} {s : Shared} (h : ∀ a, g a = s.heap.get? a) : obsE n fa fn ex g = (hookE n fa fn ex).obs s := by
  have e : g = s.heap.get? := funext h
  rw [e] <;> rfl
/-- one fact among the facts -/
theorem says_fa {fa : List Fa} {fn : List DefD} {K : PySem.W.Frag} (c : SaysD fa fn K) {f : Fa} (h : f ∈ fa) : f.ok K = true := by
  obtain ⟨i, hi, e⟩ := List.mem_iff_getElem.mp h
  exact c.fact i (f := f) (by rw [List.getElem?_eq_getElem hi, e])
theorem says_fn {fa : List Fa} {fn : List DefD} {K : PySem.W.Frag} (c : SaysD fa fn K) {d : DefD} (h : d ∈ fn) : ∃ fd, FunD K d.name d.qual d.params d.body d.scope (d.dvs K) (d.kws K) (fAd K d.at_) fd := by
  obtain ⟨i, hi, e⟩ := List.mem_iff_getElem.mp h
  exact c.def_ i (d := d) (by rw [List.getElem?_eq_getElem hi, e])
end Fh
namespace Fh
open PySem PySem.Spec PyProof.Rows L2 He
/-! ### a list against the empty list, whatever stands in it -/
def rNeE (K : PySem.W.Frag) : R2 := fun x y H Q => ∃ a b xs, x = .ref a ∧ y = .ref b ∧ SqL K H a xs ∧ SqL K H b [] ∧ Q (.bl (!xs.isEmpty)) H
def rEqE (K : PySem.W.Frag) : R2 := fun x y H Q => ∃ a b xs, x = .ref a ∧ y = .ref b ∧ SqL K H a xs ∧ SqL K H b [] ∧ Q (.bl xs.isEmpty) H
theorem vals_nil {its : List Value} (h : Vals [] its) : its = [] := by
  cases h
  rfl
section
variable {X : Cx}
theorem op_neE (hu : X.A.units + 64 < cLine) : OpR X (compareOp .NotEq) (rNeE X.K) := by
  intro pins s σ H x y v u Q I rx ry h
  obtain ⟨a, b, xs, rfl, rfl, ha, hb, q⟩ := h
  cases rx
  cases ry
  obtain ⟨its, r1, p1, _⟩ := I.list ha
  obtain ⟨jts, r2, p2, _⟩ := I.list hb
  have e := vals_nil r2
  subst e
  have hl := r1.length
  have hu' : X.A.units < cLine := by omega
  cases xs with
  | nil =>
    have e := vals_nil r1
    subst e
    exact SeqAt.RcNeAt.lists (e := fun _ => true) p1.isList p2.isList rfl hu' (fun j h1 h2 => absurd h1 (by simp)) _ _ _ _ ⟨.bl _, H, I, rfl, q⟩
  | cons z zs =>
    refine SeqAt.RcNeAt.lists_lengths p1.isList p2.isList ?_ hu' _ _ _ _ ⟨.bl _, H, I, rfl, q⟩
    rw [List.size_toArray, ← hl]
    simp
theorem op_eqE (hu : X.A.units + 64 < cLine) : OpR X (compareOp .Eq) (rEqE X.K) := by
  intro pins s σ H x y v u Q I rx ry h
  obtain ⟨a, b, xs, rfl, rfl, ha, hb, q⟩ := h
  cases rx
  cases ry
  obtain ⟨its, r1, p1, _⟩ := I.list ha
  obtain ⟨jts, r2, p2, _⟩ := I.list hb
  have e := vals_nil r2
  subst e
  have hl := r1.length
  have hu' : X.A.units < cLine := by omega
  cases xs with
  | nil =>
    have e := vals_nil r1
    subst e
    exact SeqAt.RcAt.lists (e := fun _ => true) p1.isList p2.isList rfl hu' (fun j h1 h2 => absurd h1 (by simp)) _ _ _ _ ⟨.bl _, H, I, rfl, q⟩
  | cons z zs =>
    refine SeqAt.RcAt.lists_lengths p1.isList p2.isList ?_ hu' _ _ _ _ ⟨.bl _, H, I, rfl, q⟩
    rw [List.size_toArray, ← hl]
    simp
end
/-! ### the heap goes on: only the tape changes -/
structure Go (t : Addr) (H H' : Hp) : Prop where
  t0 : TapeAt H t
  t1 : TapeAt H' t
  keep : ∀ b o, b ≠ t → H b = some o → H' b = some o
section
variable {t : Addr} {H H' H'' : Hp}
theorem TapeAt.ne (h : TapeAt H t) : H t ≠ none := by
  obtain ⟨d, m, e, _⟩ := h
  rw [e]
  intro z
  cases z
theorem TapeAt.new {p : Addr} (h : TapeAt H t) (hp : H p = none) : p ≠ t := fun e => h.ne (e ▸ hp)
theorem TapeAt.lst {p : Addr} {xs : List V} (h : TapeAt H t) (hp : H p = some (.lst xs)) : p ≠ t := fun e => by
  obtain ⟨d, m, q, _⟩ := h
  rw [← e, hp] at q
  cases q
theorem Go.refl (h : TapeAt H t) : Go t H H := ⟨h, h, fun _ _ _ e => e⟩
theorem Go.trans (g : Go t H H') (k : Go t H' H'') : Go t H H'' := ⟨g.t0, k.t1, fun b o n e => k.keep b o n (g.keep b o n e)⟩
theorem Go.of (h : TapeAt H t) (s : Same H H') : Go t H H' := ⟨h, h.up s, fun b o _ e => s b o e⟩
theorem Go.same (g : Go t H H') (s : Same H' H'') : Go t H H'' := g.trans (.of g.t1 s)
theorem Go.tape (g : Go t H H') {d m : Int} (d0 : 0 ≤ d) (m0 : 0 ≤ m) (m1 : m < 2147483600) : Go t H (upd H' t (tapeO d m)) :=
  ⟨g.t0, ⟨d, m, upd_same, d0, m0, m1⟩, fun b o n e => by rw [upd_ne n]; exact g.keep b o n e⟩
theorem Go.free (g : Go t H H') {p : Addr} (h : H' p = none) : H p = none := by
  cases e : H p with
  | none => rfl
  | some o =>
    have n : p ≠ t := g.t1.new h
    rw [g.keep p o n e] at h
    cases h
theorem Go.up (g : Go t H H') {l : Addr} {o : HO} (h : H l = none) : Go t H (upd H' l o) := by
  have n : l ≠ t := g.t0.new h
  refine ⟨g.t0, ?_, fun b u nb e => ?_⟩
  · obtain ⟨d, m, e, r⟩ := g.t1
    exact ⟨d, m, by rw [upd_ne n.symm]; exact e, r⟩
  · rw [upd_ne (fun z => by rw [z, h] at e; cases e)]
    exact g.keep b u nb e
theorem Go.new (g : Go t H H') {p : Addr} {o : HO} (h : H' p = none) : Go t H (upd H' p o) := g.up (g.free h)
theorem rd_ne {a : Addr} {o : HO} (h : TapeAt H t) (r : Rd H a o) (hn : ∀ d m, o ≠ tapeO d m) : a ≠ t := fun e => by
  obtain ⟨d, m, q, _⟩ := h
  subst e
  rcases r with r | ⟨ob, r⟩
  · rw [q] at r
    exact hn d m (Option.some.inj r).symm
  · rw [q] at r
    cases r
theorem Go.rd (g : Go t H H') {a : Addr} {o : HO} (r : Rd H a o) (hn : ∀ d m, o ≠ tapeO d m) : Rd H' a o := by
  have n := rd_ne g.t0 r hn
  rcases r with r | ⟨ob, r⟩
  · exact .inl (g.keep a _ n r)
  · exact .inr ⟨ob, g.keep a _ n r⟩
theorem Go.seq {K : PySem.W.Frag} (g : Go t H H') {a : Addr} {xs : List V} (h : SqL K H a xs) : SqL K H' a xs := by
  rcases h with h | h
  · exact .inl (g.rd h fun d m z => by cases z)
  · exact .inr h
theorem Go.tup {K : PySem.W.Frag} (g : Go t H H') {a : Addr} {xs : List V} (h : SqT K H a xs) : SqT K H' a xs := by
  rcases h with h | h
  · exact .inl (g.rd h fun d m z => by cases z)
  · exact .inr h
theorem Go.lst (g : Go t H H') {a : Addr} {xs : List V} (h : H a = some (.lst xs)) : H' a = some (.lst xs) := g.keep a _ (g.t0.lst h) h
end
def lenAt (H : Hp) (a : Addr) : Nat := match H a with
  | some (.lst ls) => ls.length
  | _ => 0
theorem lenAt_eq {H : Hp} {a : Addr} {ls : List V} (h : H a = some (.lst ls)) : lenAt H a = ls.length := by
  unfold lenAt
  rw [h]
theorem seqIx {r n : Nat} (h : r < n) : seqIndex? (r : Int) n = some r := by
  unfold seqIndex?
  have h0 : ¬ ((r : Int) < 0) := by omega
  simp only [if_neg h0]
  have h1 : ((decide (0 ≤ (r : Int))) && decide ((r : Int) < (n : Int))) = true := by
    simp only [Bool.and_eq_true, decide_eq_true_eq]
    omega
  simp [h1]
  omega
/-- the same things in another order -/
def spShuf (K : PySem.W.Frag) : Sp := fun vs H Q _ => ∃ t a xs, vs = [.ref t, .ref a] ∧ TapeAt H t ∧ SqL K H a xs ∧ xs.length ≤ 100000 ∧ ∀ p ys H', ys.Perm xs → Go t H H' → H p = none → H' p = some (.lst ys) → Q (.ref p) H'
theorem perm_erase {α : Type} : ∀ {ls : List α} {k : Nat} {y : α}, ls[k]? = some y → (y :: ls.eraseIdx k).Perm ls
  | [], k, y, h => by cases h
  | z :: ls, 0, y, h => by
    cases h
    exact List.Perm.refl _
  | z :: ls, k + 1, y, h => (List.Perm.swap z y _).trans ((perm_erase (ls := ls) (k := k) h).cons z)
theorem perm_pop {α : Type} {fs ls xs : List α} {k : Nat} {y : α} (hp : (fs ++ ls).Perm xs) (hy : ls[k]? = some y) : ((fs ++ [y]) ++ ls.eraseIdx k).Perm xs := by
  refine List.Perm.trans ?_ hp
  rw [List.append_assoc]
  exact List.Perm.append_left fs (perm_erase hy)
end Fh
namespace Fh
open PySem PySem.Spec PyProof.Rows L2 He
/-! ### rules as data -/
structure RuleD where
  name : Str
  kind : Str
  out : List Str
  change : Int
def RuleAt (H : Hp) (v : V) (r : RuleD) : Prop := ∃ a b, v = .ref a ∧ H a = some (.tup [.str r.name, .str r.kind, .ref b, .int r.change]) ∧ H b = some (.tup (r.out.map V.str))
theorem RuleAt.up {H H' : Hp} {v : V} {r : RuleD} (s : Same H H') (h : RuleAt H v r) : RuleAt H' v r := let ⟨a, b, e, h1, h2⟩ := h; ⟨a, b, e, s _ _ h1, s _ _ h2⟩
theorem Go.keepT {t : Addr} {H H' : Hp} (g : Go t H H') {a : Addr} {xs : List V} (h : H a = some (.tup xs)) : H' a = some (.tup xs) := g.keep a _ (fun e => by
  obtain ⟨d, m, q, _⟩ := g.t0
  rw [← e, h] at q
  cases q) h
theorem RuleAt.go {t : Addr} {H H' : Hp} {v : V} {r : RuleD} (g : Go t H H') (h : RuleAt H v r) : RuleAt H' v r := let ⟨a, b, e, h1, h2⟩ := h; ⟨a, b, e, g.keepT h1, g.keepT h2⟩
/-- things at values, one each -/
def All2 {α : Type} (R : V → α → Prop) : List V → List α → Prop
  | [], rs => rs = []
  | v :: vs, rs => ∃ r t, rs = r :: t ∧ R v r ∧ All2 R vs t
section
variable {α : Type} {R S : V → α → Prop}
theorem All2.imp (h : ∀ v r, R v r → S v r) : ∀ {vs : List V} {rs : List α}, All2 R vs rs → All2 S vs rs
  | [], _, e => e
  | _ :: _, _, ⟨r, t, e, h1, h2⟩ => ⟨r, t, e, h _ _ h1, h2.imp h⟩
theorem All2.len : ∀ {vs : List V} {rs : List α}, All2 R vs rs → vs.length = rs.length
  | [], _, e => by
    have e' : _ = [] := e
    rw [e']
    rfl
  | _ :: _, _, ⟨r, t, e, _, h2⟩ => by rw [e, List.length_cons, List.length_cons, h2.len]
theorem All2.app : ∀ {vs us : List V} {rs ts : List α}, All2 R vs rs → All2 R us ts → All2 R (vs ++ us) (rs ++ ts)
  | [], _, _, _, e, g => by
    have e' : _ = [] := e
    rw [e']
    exact g
  | _ :: _, _, _, ts, ⟨r, t, e, h1, h2⟩, g => ⟨r, t ++ ts, by rw [e]; rfl, h1, h2.app g⟩
theorem All2.get : ∀ {vs : List V} {rs : List α} {i : Nat} {v : V}, All2 R vs rs → vs[i]? = some v → ∃ r, rs[i]? = some r ∧ R v r
  | [], _, i, v, _, g => by cases g
  | _ :: _, _, 0, v, ⟨r, t, e, h1, _⟩, g => by
    cases g
    exact ⟨r, by rw [e]; rfl, h1⟩
  | _ :: _, _, i + 1, v, ⟨r, t, e, _, h2⟩, g => by
    obtain ⟨u, e1, e2⟩ := h2.get (i := i) g
    exact ⟨u, by rw [e]; exact e1, e2⟩
end
abbrev Rules (H : Hp) (vs : List V) (rs : List RuleD) : Prop := All2 (RuleAt H) vs rs
theorem Rules.up {H H' : Hp} {vs : List V} {rs : List RuleD} (s : Same H H') (h : Rules H vs rs) : Rules H' vs rs := h.imp fun _ _ q => q.up s
theorem Rules.go {t : Addr} {H H' : Hp} {vs : List V} {rs : List RuleD} (g : Go t H H') (h : Rules H vs rs) : Rules H' vs rs := h.imp fun _ _ q => q.go g
/-! ### strings in lists -/
theorem flatS : ∀ (xs : List Str), (xs.map V.str).all flatV = true
  | [] => rfl
  | x :: xs => by rw [List.map_cons, List.all_cons, flatS xs]; rfl
theorem inV_strs (x : Str) : ∀ (xs : List Str), inV (.str x) (xs.map V.str) = xs.contains x
  | [] => rfl
  | y :: xs => by
    have ih := inV_strs x xs
    unfold inV at ih ⊢
    rw [List.map_cons, List.any_cons, ih, List.contains_cons]
    show (y == x || xs.contains x) = (x == y || xs.contains x)
    rw [show (y == x) = (x == y) from Bool.beq_comm]
theorem sqT_up {K : PySem.W.Frag} {H H' : Hp} {a : Addr} {xs : List V} (s : Same H H') (h : SqT K H a xs) : SqT K H' a xs := by
  rcases h with h | h
  · rcases h with h | ⟨o, h⟩
    · exact .inl (.inl (s _ _ h))
    · exact .inl (.inr ⟨o, s _ _ h⟩)
  · exact .inr h
theorem op_inK {X : Cx} {K : PySem.W.Frag} (hK : X.K = K := by rfl) : OpR X (compareOp .In) (rIn K false) := by
  subst hK
  exact op_in_seq
theorem op_notInK {X : Cx} {K : PySem.W.Frag} (hK : X.K = K := by rfl) : OpR X (compareOp .NotIn) (rIn K true) := by
  subst hK
  exact op_notIn_seq
/-! ### a comprehension over a tuple: one name, one test, the items themselves -/
abbrev LtGoal (K : PySem.W.Frag) (a : Addr) (i : Nat) (tt : TT) (te : TE) (σ : Sto) (H1 : Hp) (D : Addr) (Qd : Hp → Prop) : Prop :=
  ∃ W : Nat → Nat → Hp → Prop, (∃ m, W 0 m (upd H1 D (.lst []))) ∧ ∀ j m H, W j m H → ((Itt K a).stop j H ∧ Qd H) ∨ ((Itt K a).go j H ∧ ∃ Nx : Hp → Prop, (∀ H', Nx H' → ∃ m', m' < m ∧ W (j + 1) m' H') ∧ ∀ x H', (Itt K a).yld j H x H' →
    gName i x (wipe σ [i]) H' fun σ2 H2 => wipe σ2 [i] = wipe σ [i] ∧ tt σ2 H2 fun b H3 => if b = true then te σ2 H3 fun y H4 => ∃ acc, H4 D = some (.lst acc) ∧ acc.length < sizeLine ∧ Nx (upd H4 D (.lst (acc ++ [y]))) else Nx H3)
theorem lt_filt {K : PySem.W.Frag} {a : Addr} {xs : List V} {i : Nat} {tt : TT} {σ : Sto} {H1 : Hp} {D : Addr} {Qd : Hp → Prop} (p : V → Bool) (hi : i < σ.length) (hz : xs.length ≤ 100000) (hS : SqT K H1 a xs) (hD : H1 D = none)
    (ht : ∀ x H (Q : Bool → Hp → Prop), x ∈ xs → Same H1 H → Q (p x) H → tt ((wipe σ [i]).set i (some x)) H Q)
    (hd : ∀ H, Same H1 H → H D = some (.lst (xs.filter p)) → Qd H) : LtGoal K a i tt (tVar i) σ H1 D Qd := by
  refine lc_tup (K := K) (a := a) (xs := xs) (fun j H => Same H1 H ∧ H D = some (.lst ((xs.take j).filter p))) ⟨same_upd hD, upd_same⟩ (fun _ H _ h => sqT_up h.1 hS) ?_ ?_
  · rintro j x H hx ⟨s, hDl⟩
    have hj : j < xs.length := (List.getElem?_eq_some_iff.mp hx).1
    refine ⟨wipe_one σ i _, ht x H _ (List.mem_of_getElem? hx) s ?_⟩
    have e : (xs.take (j + 1)).filter p = (xs.take j).filter p ++ [x].filter p := by rw [List.take_add_one, hx, List.filter_append]; rfl
    cases hp : p x with
    | true =>
      have lf := List.length_filter_le p (xs.take j)
      rw [List.length_take] at lf
      refine ⟨x, ?_, _, hDl, by rw [sizeLine_eq]; omega, same_updX s hD, ?_⟩
      · rw [List.getElem?_set_self]
        rw [show (wipe σ [i]).length = σ.length by
          show (σ.set i none).length = σ.length
          rw [List.length_set]]
        exact hi
      · rw [upd_same, e, List.filter_cons, hp]
        rfl
    | false =>
      refine ⟨s, ?_⟩
      rw [e, List.filter_cons, hp, hDl]
      simp
  · rintro H ⟨s, hDl⟩
    refine hd H s ?_
    rw [hDl, List.take_length]
/-! ### what is, or may become, a handle: as a law finds it -/
def aliveStep (found : List Str) (r : RuleD) : List Str := if !found.contains r.kind && r.out.any (fun x => found.contains x) then found ++ [r.kind] else found
def aliveRound (rs : List RuleD) (found : List Str) : List Str := rs.foldl aliveStep found
def aliveFix (rs : List RuleD) : Nat → List Str → List Str
  | 0, found => found
  | n + 1, found => aliveRound rs (aliveFix rs n found)
theorem nodup_len {α : Type} [DecidableEq α] : ∀ {l m : List α}, l.Nodup → (∀ x ∈ l, x ∈ m) → l.length ≤ m.length
  | [], m, _, _ => Nat.zero_le _
  | x :: l, m, h, s => by
    have hx : x ∈ m := s x List.mem_cons_self
    have h2 := List.nodup_cons.mp h
    have ih := nodup_len (l := l) (m := m.erase x) h2.2 fun y hy => by
      have ne : y ≠ x := fun e => h2.1 (e ▸ hy)
      exact (List.mem_erase_of_ne ne).mpr (s y (List.mem_cons_of_mem _ hy))
    have hl := List.length_erase_of_mem hx
    have h0 : 0 < m.length := List.length_pos_of_mem hx
    rw [List.length_cons]
    omega
theorem aliveStep_ok {ks found : List Str} {r : RuleD} (h : found.Nodup ∧ ∀ x ∈ found, x ∈ ks) (hr : r.kind ∈ ks) : (aliveStep found r).Nodup ∧ ∀ x ∈ aliveStep found r, x ∈ ks := by
  unfold aliveStep
  split
  · rename_i hc
    have hc' : found.contains r.kind = false := by
      cases q : found.contains r.kind with
      | false => rfl
      | true => rw [q] at hc; cases hc
    have hn : r.kind ∉ found := fun z => by
      rw [List.contains_iff_mem.mpr z] at hc'
      cases hc'
    refine ⟨List.nodup_append.mpr ⟨h.1, by simp, fun x hx y hy e => hn (by
      have hy' := List.mem_singleton.mp hy
      rw [← hy', ← e]; exact hx)⟩, fun x hx => ?_⟩
    rcases List.mem_append.mp hx with hx | hx
    · exact h.2 x hx
    · rw [List.mem_singleton.mp hx]; exact hr
  · exact h
theorem aliveFold_ok {ks : List Str} : ∀ {rs : List RuleD} {found : List Str}, (found.Nodup ∧ ∀ x ∈ found, x ∈ ks) → (∀ r ∈ rs, r.kind ∈ ks) → (rs.foldl aliveStep found).Nodup ∧ ∀ x ∈ rs.foldl aliveStep found, x ∈ ks
  | [], _, h, _ => h
  | r :: rs, _, h, hr => aliveFold_ok (rs := rs) (aliveStep_ok h (hr r List.mem_cons_self)) fun q hq => hr q (List.mem_cons_of_mem _ hq)
theorem aliveFix_ok {ks : List Str} {rs : List RuleD} {found : List Str} (h : found.Nodup ∧ ∀ x ∈ found, x ∈ ks) (hr : ∀ r ∈ rs, r.kind ∈ ks) : ∀ n, (aliveFix rs n found).Nodup ∧ ∀ x ∈ aliveFix rs n found, x ∈ ks
  | 0 => h
  | n + 1 => aliveFold_ok (aliveFix_ok h hr n) hr
theorem filt_any {α : Type} (p : α → Bool) : ∀ xs : List α, (!(xs.filter p).isEmpty) = xs.any p
  | [] => rfl
  | x :: xs => by
    rw [List.filter_cons, List.any_cons, ← filt_any p xs]
    cases p x <;> simp
theorem any_strs (F : List Str) : ∀ xs : List Str, (xs.map V.str).any (fun x => inV x (F.map V.str)) = xs.any fun x => F.contains x
  | [] => rfl
  | x :: xs => by rw [List.map_cons, List.any_cons, List.any_cons, any_strs F xs, inV_strs]
/-- a plan: kinds, handles, rules, a start, a count -/
structure PlanRef where
  ka : Addr
  ha : Addr
  ra : Addr
  s : V
  c : V
  vs : List V
structure PlanAt (H : Hp) (p : Addr) (q : PlanRef) (ks hs : List Str) (rs : List RuleD) : Prop where
  top : H p = some (.lst [.ref q.ka, .ref q.ha, .ref q.ra, q.s, q.c])
  kinds : H q.ka = some (.lst (ks.map V.str))
  handles : H q.ha = some (.lst (hs.map V.str))
  rules : H q.ra = some (.lst q.vs)
  each : Rules H q.vs rs
theorem PlanAt.up {H H' : Hp} {p : Addr} {q : PlanRef} {ks hs : List Str} {rs : List RuleD} (s : Same H H') (h : PlanAt H p q ks hs rs) : PlanAt H' p q ks hs rs :=
  ⟨s _ _ h.top, s _ _ h.kinds, s _ _ h.handles, s _ _ h.rules, h.each.up s⟩
theorem PlanAt.go {t : Addr} {H H' : Hp} {p : Addr} {q : PlanRef} {ks hs : List Str} {rs : List RuleD} (g : Go t H H') (h : PlanAt H p q ks hs rs) : PlanAt H' p q ks hs rs :=
  ⟨g.lst h.top, g.lst h.kinds, g.lst h.handles, g.lst h.rules, h.each.go g⟩
def spAlive : Sp := fun vs H Q _ => ∃ p q ks hs rs, vs = [.ref p] ∧ PlanAt H p q ks hs rs ∧ hs.Nodup ∧ (∀ x ∈ hs, x ∈ ks) ∧ (∀ r ∈ rs, r.kind ∈ ks ∧ r.out.length ≤ 1000) ∧ ks.length ≤ 40 ∧
  ∀ a ys H', ys.Perm (aliveFix rs ks.length hs) → sortedS ys = true → Same H H' → H a = none → H' a = some (.lst (ys.map V.str)) → Q (.ref a) H'
end Fh
namespace Fh
open PySem PySem.Spec PyProof.Rows L2 He
/-! ### rules whose part of the heap is named -/
section
variable {X : Cx} {K : PySem.W.Frag}
theorem pg_tupK {es : List Expr} {k : Nat} {t : TGs} {n : Nat} {pos : Pos} (hc : X.calm = true) (h : PGs X es t) (hK : X.K = K := by rfl)
    (hn : (assignEach es X.env).length = n := by rfl) (hst : (assignEach es X.env).findIdx? (·.1) = none := by rfl) : PG X (.Tuple es k pos) (gTup K n t) := by
  subst hK
  exact pg_tup hc h hn hst
theorem ix_listK (hK : X.K = K := by rfl) : IxR X (rIxL K) := by
  subst hK
  exact ix_list
theorem ix_tupK (hK : X.K = K := by rfl) : IxR X (rIxT K) := by
  subst hK
  exact ix_tup
/-- a tuple against the empty tuple -/
def rEqU (K : PySem.W.Frag) : R2 := fun x y H Q => ∃ a b xs, x = .ref a ∧ y = .ref b ∧ SqT K H a xs ∧ SqT K H b [] ∧ Q (.bl xs.isEmpty) H
theorem op_eqU (hu : X.A.units + 64 < cLine) (hK : X.K = K := by rfl) : OpR X (compareOp .Eq) (rEqU K) := by
  subst hK
  intro pins s σ H x y v u Q I rx ry h
  obtain ⟨a, b, xs, rfl, rfl, ha, hb, q⟩ := h
  cases rx
  cases ry
  obtain ⟨its, r1, p1, _⟩ := I.tuple ha
  obtain ⟨jts, r2, p2, _⟩ := I.tuple hb
  have e := vals_nil r2
  subst e
  have hl := r1.length
  have hu' : X.A.units < cLine := by omega
  refine SeqAt.RcAt.tuples (e := fun _ => true) (items := its.toArray) (items2 := #[]) p1 p2 hu' (fun j h1 h2 => absurd h2 (by simp)) _ _ _ _ ⟨.bl _, H, I, ?_, q⟩
  cases xs with
  | nil =>
    have e := vals_nil r1
    subst e
    rfl
  | cons z zs =>
    show Value.bool _ = _
    congr 1
    rw [List.size_toArray, ← hl]
    simp
end
/-! ### tuples stay -/
def Tups (H H' : Hp) : Prop := ∀ b xs, H b = some (.tup xs) → H' b = some (.tup xs)
section
variable {H H' H'' : Hp} {t : Addr}
theorem Tups.same (s : Same H H') : Tups H H' := fun b xs e => s b _ e
theorem Tups.go (g : Go t H H') : Tups H H' := fun b xs e => g.keepT e
theorem Tups.trans (s : Tups H H') (r : Tups H' H'') : Tups H H'' := fun b xs e => r b xs (s b xs e)
theorem Tups.lst {l : Addr} {xs : List V} {o : HO} (h : H l = some (.lst xs)) : Tups H (upd H l o) := fun b ys e => by
  rw [upd_ne (fun z => by rw [z, h] at e; cases e)]
  exact e
end
/-! ### pairs: a kind, an outcome -/
abbrev PairD : Type := Str × List Str
def PairAt (H : Hp) (v : V) (p : PairD) : Prop := ∃ a b, v = .ref a ∧ H a = some (.tup [.str p.1, .ref b]) ∧ H b = some (.tup (p.2.map V.str))
theorem PairAt.up {H H' : Hp} {v : V} {p : PairD} (s : Tups H H') (h : PairAt H v p) : PairAt H' v p := let ⟨a, b, e, h1, h2⟩ := h; ⟨a, b, e, s _ _ h1, s _ _ h2⟩
abbrev Pairs (H : Hp) (vs : List V) (ps : List PairD) : Prop := All2 (PairAt H) vs ps
theorem Pairs.up {H H' : Hp} {vs : List V} {ps : List PairD} (s : Tups H H') (h : Pairs H vs ps) : Pairs H' vs ps := h.imp fun _ _ q => q.up s
theorem RuleAt.ups {H H' : Hp} {v : V} {r : RuleD} (s : Tups H H') (h : RuleAt H v r) : RuleAt H' v r := let ⟨a, b, e, h1, h2⟩ := h; ⟨a, b, e, s _ _ h1, s _ _ h2⟩
theorem Rules.ups {H H' : Hp} {vs : List V} {rs : List RuleD} (s : Tups H H') (h : Rules H vs rs) : Rules H' vs rs := h.imp fun _ _ q => q.ups s
theorem All2.perm {α : Type} {R : V → α → Prop} {vs us : List V} (hp : us.Perm vs) : ∀ {rs : List α}, All2 R vs rs → ∃ ts, ts.Perm rs ∧ All2 R us ts := by
  induction hp with
  | nil => exact fun h => ⟨_, List.Perm.refl _, h⟩
  | cons x _ ih =>
    rintro rs ⟨r, t, rfl, h1, h2⟩
    obtain ⟨ts, p, q⟩ := ih h2
    exact ⟨r :: ts, p.cons r, r, ts, rfl, h1, q⟩
  | swap x y l =>
    rintro rs ⟨r, t, rfl, h1, r2, t2, rfl, h3, h4⟩
    exact ⟨r2 :: r :: t2, List.Perm.swap _ _ _, r2, _, rfl, h3, r, t2, rfl, h1, h4⟩
  | trans _ _ ih1 ih2 =>
    rintro rs h
    obtain ⟨ts, p, q⟩ := ih2 h
    obtain ⟨us, p2, q2⟩ := ih1 q
    exact ⟨us, p2.trans p, q2⟩
/-- a pair of a plan -/
def PairOk (ks : List Str) (p : PairD) : Prop := p.1 ∈ ks ∧ (∀ x ∈ p.2, x ∈ ks) ∧ p.2.length ≤ 4
/-- the names that a plan gives its rules -/
def letters16 : List Str := ["a", "b", "c", "d", "e", "f", "g", "h", "i", "j", "k", "l", "m", "n", "o", "p"]
/-- drawn rules -/
structure RulesOk (ks : List Str) (rs : List RuleD) : Prop where
  names : (rs.map (·.name)).Nodup
  letters : ∀ r ∈ rs, r.name ∈ letters16
  each : ∀ r ∈ rs, PairOk ks (r.kind, r.out)
  few : rs.length ≤ 10
theorem RulesOk.perm {ks : List Str} {rs ts : List RuleD} (p : ts.Perm rs) (h : RulesOk ks rs) : RulesOk ks ts :=
  ⟨(p.map _).nodup_iff.mpr h.names, fun r hr => h.letters r (p.mem_iff.mp hr), fun r hr => h.each r (p.mem_iff.mp hr), by rw [p.length_eq]; exact h.few⟩
def spRules : Sp := fun vs H Q _ => ∃ t ka ks x wy, vs = [.ref t, .ref ka, x, .int wy] ∧ TapeAt H t ∧ H ka = some (.lst (ks.map V.str)) ∧ 1 ≤ ks.length ∧ ks.length ≤ 6 ∧
  ∀ p us rs H', RulesOk ks rs → (∀ r ∈ rs, r.change = 0) → Go t H H' → H p = none → H' p = some (.lst us) → Rules H' us rs → Q (.ref p) H'
/-! ### draws, told by what goes on -/
theorem one_sq {K : PySem.W.Frag} {H : Hp} {t a : Addr} {xs : List V} (T : TapeAt H t) (hS : H a = some (.lst xs)) : ∀ o, SqL K (upd H t o) a xs := fun o => SqL.of (by rw [upd_ne (T.lst hS)]; exact hS)
/-- a comprehension over a range, each item drawn -/
theorem lr_draw {lo : Int} {n : Nat} {i : Nat} {te : TE} {σ : Sto} {H1 : Hp} {D t : Addr} {ks : List Str} {Qd : Hp → Prop} (T : TapeAt H1 t) (hz : n ≤ 100000) (hD : H1 D = none)
    (hel : ∀ (j : Nat) H (Q : VK), Go t H1 H → (∀ k H2, k ∈ ks → Go t H H2 → Q (.str k) H2) → te ((wipe σ [i]).set i (some (.int (lo + j)))) H Q)
    (hd : ∀ H (os : List Str), Go t H1 H → H D = some (.lst (os.map V.str)) → os.length = n → (∀ x ∈ os, x ∈ ks) → Qd H) : LrGoal lo n i te σ H1 D Qd := by
  refine lc_range (lo := lo) (n := n) (fun j H => Go t H1 H ∧ ∃ os : List Str, H D = some (.lst (os.map V.str)) ∧ os.length = j ∧ ∀ x ∈ os, x ∈ ks) ⟨(Go.refl T).new hD, [], upd_same, rfl, fun x h => by cases h⟩ ?_ ?_
  · rintro j H hj ⟨g, os, e, hl, hos⟩
    refine ⟨wipe_one σ i _, ?_⟩
    show te ((wipe σ [i]).set i (some (.int (lo + j)))) H _
    refine hel j H _ g fun k H2 hk g2 => ?_
    refine ⟨os.map V.str, g2.lst e, by rw [List.length_map, sizeLine_eq]; omega, (g.trans g2).up hD, os ++ [k], ?_, by rw [List.length_append, hl]; rfl, fun x hx => ?_⟩
    · rw [upd_same]
      simp
    · rcases List.mem_append.mp hx with hx | hx
      · exact hos x hx
      · rw [List.mem_singleton.mp hx]; exact hk
  · rintro H ⟨g, os, e, hl, hos⟩
    exact hd H os g e hl hos
/-- over enumerate -/
theorem lc_enum {K : PySem.W.Frag} {a : Addr} {xs : List V} {g : TG} {tt : TT} {te : TE} {vs : List Nat} {σ : Sto} {H1 : Hp} {D : Addr} {Qd : Hp → Prop} (Pv : Nat → Hp → Prop) (h0 : Pv 0 (upd H1 D (.lst []))) (hl : ∀ i H, i ≤ xs.length → Pv i H → SqL K H a xs)
    (hs : ∀ (i : Nat) x H T, xs[i]? = some x → Pv i H → H T = none → g (.ref T) (wipe σ vs) (upd H T (.tup [.int (i : Int), x])) fun σ2 H2 => wipe σ2 vs = wipe σ vs ∧ tt σ2 H2 fun b H3 =>
      if b = true then te σ2 H3 fun y H4 => ∃ acc, H4 D = some (.lst acc) ∧ acc.length < sizeLine ∧ Pv (i + 1) (upd H4 D (.lst (acc ++ [y]))) else Pv (i + 1) H3) (hd : ∀ H, Pv xs.length H → Qd H) :
    ∃ W : Nat → Nat → Hp → Prop, (∃ m, W 0 m (upd H1 D (.lst []))) ∧ ∀ i m H, W i m H →
      ((Ite K a).stop i H ∧ Qd H) ∨ ((Ite K a).go i H ∧ ∃ Nx : Hp → Prop, (∀ H', Nx H' → ∃ m', m' < m ∧ W (i + 1) m' H') ∧ ∀ x H', (Ite K a).yld i H x H' → g x (wipe σ vs) H' fun σ2 H2 => wipe σ2 vs = wipe σ vs ∧ tt σ2 H2 fun b H3 =>
        if b = true then te σ2 H3 fun y H4 => ∃ acc, H4 D = some (.lst acc) ∧ acc.length < sizeLine ∧ Nx (upd H4 D (.lst (acc ++ [y]))) else Nx H3) := by
  refine ⟨fun i m H => m = xs.length - i ∧ i ≤ xs.length ∧ Pv i H, ⟨xs.length, by simp, Nat.zero_le _, h0⟩, ?_⟩
  rintro i m H ⟨rfl, hi, p⟩
  have q := hl i H hi p
  by_cases hlt : i < xs.length
  · refine .inr ⟨⟨xs, xs[i], q, by simp [hlt]⟩, Pv (i + 1), fun H' p' => ⟨xs.length - (i + 1), by omega, rfl, hlt, p'⟩, fun x H' y => ?_⟩
    obtain ⟨T, z, rfl, hT, rfl, hz⟩ := y
    exact hs i z _ T (hz xs q) p hT
  · have e : i = xs.length := by omega
    subst e
    exact .inl ⟨⟨xs, q, Nat.le_refl _⟩, hd H p⟩
/-- pairs found so far, in the list at l -/
structure Found (t : Addr) (H : Hp) (l : Addr) (ks : List Str) (k : Nat) (H1 : Hp) : Prop where
  go : Go t H H1
  ex : ∃ us ps, H1 l = some (.lst us) ∧ Pairs H1 us ps ∧ (∀ p ∈ ps, PairOk ks p) ∧ ps.length ≤ k
section
variable {t l : Addr} {H H1 H2 : Hp} {ks : List Str} {k : Nat}
theorem Found.on (F : Found t H l ks k H1) (g : Go t H1 H2) : Found t H l ks k H2 :=
  ⟨F.go.trans g, let ⟨us, ps, e, h, o, n⟩ := F.ex; ⟨us, ps, g.lst e, h.up (.go g), o, n⟩⟩
theorem Found.le (F : Found t H l ks k H1) {k' : Nat} (h : k ≤ k') : Found t H l ks k' H1 := ⟨F.go, let ⟨us, ps, e, q, o, n⟩ := F.ex; ⟨us, ps, e, q, o, Nat.le_trans n h⟩⟩
theorem Found.add (F : Found t H l ks k H1) (hl : H l = none) (hk : k ≤ 1000) {v : V} {p : PairD} (hv : PairAt H1 v p) (hp : PairOk ks p) : ∃ us, H1 l = some (.lst us) ∧ us.length < sizeLine ∧ Found t H l ks (k + 1) (upd H1 l (.lst (us ++ [v]))) := by
  obtain ⟨us, ps, e, h, o, n⟩ := F.ex
  have hn := h.len
  refine ⟨us, e, by rw [sizeLine_eq]; omega, F.go.up hl, us ++ [v], ps ++ [p], upd_same, ?_, fun q hq => ?_, by rw [List.length_append]; exact Nat.succ_le_succ n⟩
  · exact (h.up (.lst e)).app ⟨p, [], rfl, hv.up (.lst e), rfl⟩
  · rcases List.mem_append.mp hq with hq | hq
    · exact o q hq
    · rw [List.mem_singleton.mp hq]; exact hp
end
/-! ### one word for what follows -/
theorem seq_cut {A B : TS} {D : Ends} {σ : Sto} {H : Hp} (R : Sto → Hp → Prop) (hB : ∀ σ H, R σ H → B D σ H) (hA : (∀ σ H, R σ H → B D σ H) → A { D with nx := B D } σ H) : tSeq A B D σ H := hA hB
theorem if_cut {c : TT} {A B : TE} {σ : Sto} {H : Hp} {Q : VK} (R : Hp → Prop) (hA : ∀ H, R H → A σ H Q) (hB : ∀ H, R H → B σ H Q) (h : (∀ H, R H → A σ H Q) → (∀ H, R H → B σ H Q) → c σ H fun d H1 => if d = true then A σ H1 Q else B σ H1 Q) : tIf c A B σ H Q := h hA hB
theorem yes_cut {σ : Sto} {H : Hp} {A B : Hp → Prop} (h : A H) : tYes σ H fun b H3 => if b = true then A H3 else B H3 := h
theorem at_last {ks : List Str} (h : 1 ≤ ks.length) : ∃ k, k ∈ ks ∧ atI (ks.map V.str) (-1) = some (.str k) := by
  have hn : (ks.map V.str).length = ks.length := List.length_map _
  have hl : ks.length - 1 < ks.length := by omega
  refine ⟨ks[ks.length - 1], List.getElem_mem hl, ?_⟩
  unfold atI
  have e : ixN (ks.map V.str).length (-1) = some (ks.length - 1) := by
    rw [hn]
    unfold ixN
    rw [if_neg (by decide), if_pos (by omega)]
    congr 1
    omega
  rw [e]
  show (ks.map V.str)[ks.length - 1]? = _
  rw [List.getElem?_map, List.getElem?_eq_getElem hl]
  rfl
/-! ### rules named by letters, in order -/
def numb : Nat → List PairD → List RuleD
  | _, [] => []
  | n, p :: ps => ⟨letters16.getD n "a", p.1, p.2, 0⟩ :: numb (n + 1) ps
theorem numb_snoc (p : PairD) : ∀ (n : Nat) (ps : List PairD), numb n (ps ++ [p]) = numb n ps ++ [⟨letters16.getD (n + ps.length) "a", p.1, p.2, 0⟩]
  | n, [] => rfl
  | n, q :: ps => by
    show _ :: numb (n + 1) (ps ++ [p]) = _ :: (numb (n + 1) ps ++ _)
    rw [numb_snoc p (n + 1) ps, List.length_cons, show n + 1 + ps.length = n + (ps.length + 1) by omega]
theorem numb_len : ∀ (n : Nat) (ps : List PairD), (numb n ps).length = ps.length
  | _, [] => rfl
  | n, p :: ps => by rw [List.length_cons, ← numb_len (n + 1) ps]; rfl
theorem numb_names : ∀ (n : Nat) (ps : List PairD), n + ps.length ≤ 16 → (numb n ps).map (·.name) = (letters16.drop n).take ps.length
  | n, [], _ => by rw [List.length_nil, List.take_zero]; rfl
  | n, p :: ps, h => by
    rw [List.length_cons] at h
    have hn : n < letters16.length := by show n < 16; omega
    rw [List.drop_eq_getElem_cons hn, List.length_cons, List.take_succ_cons, ← numb_names (n + 1) ps (by omega)]
    show letters16.getD n "a" :: _ = _
    rw [List.getD_eq_getElem?_getD, List.getElem?_eq_getElem hn]
    rfl
theorem numb_mem {r : RuleD} : ∀ {n : Nat} {ps : List PairD}, r ∈ numb n ps → (r.kind, r.out) ∈ ps ∧ r.change = 0
  | _, [], h => by cases h
  | n, p :: ps, h => by
    rcases List.mem_cons.mp h with h | h
    · subst h
      exact ⟨List.mem_cons_self, rfl⟩
    · have q := numb_mem h
      exact ⟨List.mem_cons_of_mem _ q.1, q.2⟩
theorem numb_ok {ks : List Str} {ps : List PairD} (h : ∀ p ∈ ps, PairOk ks p) (hl : ps.length ≤ 10) : RulesOk ks (numb 0 ps) := by
  have e := numb_names 0 ps (by omega)
  rw [List.drop_zero] at e
  refine ⟨?_, fun r hr => ?_, fun r hr => h _ (numb_mem hr).1, by rw [numb_len]; exact hl⟩
  · rw [e]
    exact (List.take_sublist _ _).nodup (by decide +kernel)
  · have m : r.name ∈ (numb 0 ps).map (·.name) := List.mem_map_of_mem hr
    rw [e] at m
    exact List.mem_of_mem_take m
theorem letter_at : ∀ j : Nat, j < 16 → (atI ("abcdefghijklmnop" : Str).cps.toList (j : Int)).map (fun c => (⟨#[c]⟩ : Str)) = some (letters16.getD j "a") := by decide +kernel
end Fh
namespace Fh
open PySem PySem.Spec PyProof.Rows L2 He
theorem cr_sumK {X : Cx} {K : PySem.W.Frag} (hc : X.calm = true) (hK : X.K = K := by rfl) : CallR X (.builtin "sum") (rSum K) := by
  subst hK
  exact cr_sum hc
theorem pi_tupK {X : Cx} {tg : Expr} {K : PySem.W.Frag} {l : Expr} {tl : TE} (h : PE X l tl) (hK : X.K = K := by rfl) : PI X tg l (iTup K tl) := by
  subst hK
  exact pi_tup h
/-! ### drawn plans -/
def pool : List Str := ["h", "g", "l", "m", "letterbx", "x"]
structure PlanOk (ks hs : List Str) (rs : List RuleD) (st : Str) (c : Int) : Prop where
  nodup : ks.Nodup
  pool : ∀ x ∈ ks, x ∈ Fh.pool
  some : 1 ≤ ks.length
  few : ks.length ≤ 6
  hnodup : hs.Nodup
  hsub : ∀ x ∈ hs, x ∈ ks
  rules : RulesOk ks rs
  small : ∀ r ∈ rs, -1000 ≤ r.change ∧ r.change ≤ 1000
  start : st ∈ ks
  count : -1000 ≤ c ∧ c ≤ 1000
def spPlan : Sp := fun vs H Q _ => ∃ t n, vs = [.ref t, .int (n : Nat)] ∧ TapeAt H t ∧ 1 ≤ n ∧ n ≤ 6 ∧
  ∀ p q ks hs rs st c H', PlanOk ks hs rs st c → ks.length ≤ n → q.s = .str st → q.c = .int c → Go t H H' → H p = none → H q.ka = none → H q.ha = none → H q.ra = none → q.ka ≠ q.ha → q.ka ≠ q.ra → q.ha ≠ q.ra → PlanAt H' p q ks hs rs → Q (.ref p) H'
/-! ### parts of it -/
theorem strs_perm {ys : List V} {ks : List Str} (h : ys.Perm (ks.map V.str)) : ∃ ts : List Str, ts.Perm ks ∧ ys = ts.map V.str := by
  have h0 : ∀ ks : List Str, All2 (fun v (x : Str) => v = V.str x) (ks.map V.str) ks := by
    intro ks
    induction ks with
    | nil => exact rfl
    | cons x xs ih => exact ⟨x, xs, rfl, rfl, ih⟩
  have h1 : ∀ {vs : List V} {ks : List Str}, All2 (fun v (x : Str) => v = V.str x) vs ks → vs = ks.map V.str := by
    intro vs
    induction vs with
    | nil =>
      intro ks h
      have e : ks = [] := h
      rw [e]
      rfl
    | cons v vs ih =>
      rintro ks ⟨x, t, rfl, e, h2⟩
      rw [e, ih h2]
      rfl
  obtain ⟨ts, p, q⟩ := All2.perm h (h0 ks)
  exact ⟨ts, p, h1 q⟩
theorem cut_take {xs : List V} {k : Nat} : cutV xs none (some (k : Int)) = xs.take k := by
  unfold cutV
  rw [HT.sIx_none, HT.sIx_nat, List.drop_zero, Nat.sub_zero]
  by_cases h : k ≤ xs.length
  · rw [Nat.min_eq_left h]
  · rw [Nat.min_eq_right (by omega), List.take_length, List.take_of_length_le (by omega)]
theorem pool_nodup : pool.Nodup := by decide +kernel
theorem merge_new : ∀ {kvs acc : List (Key × V)}, ((acc ++ kvs).map (·.1)).Nodup → mergeK acc kvs = acc ++ kvs
  | [], acc, _ => by rw [List.append_nil]; rfl
  | (k, v) :: kvs, acc, h => by
    have e : putK acc k v = acc ++ [(k, v)] := by
      unfold putK
      have hn : ¬ (acc.any fun kv => decide (kv.1 = k)) = true := by
        intro z
        obtain ⟨q, hq, eq⟩ := List.any_eq_true.mp z
        have eq' := of_decide_eq_true eq
        rw [List.map_append] at h
        have h3 := (List.nodup_append.mp h).2.2 q.1 (List.mem_map_of_mem hq) k (by simp)
        exact h3 eq'
      rw [if_neg hn]
    show mergeK (putK acc k v) kvs = _
    rw [e, merge_new (by rw [List.append_assoc]; exact h), List.append_assoc]
    rfl
/-- numbers of kinds, in a dict -/
def WorthAt (H : Hp) (wd : Addr) (ks : List Str) (b : Int) : Prop := ∃ kvs : List (Key × V), H wd = some (.dK kvs) ∧ kvs.map (·.1) = ks.map Sum.inr ∧ ∀ p ∈ kvs, ∃ i, p.2 = V.int i ∧ -b ≤ i ∧ i ≤ b
theorem WorthAt.up {H H' : Hp} {wd : Addr} {ks : List Str} {b : Int} (s : Same H H') (h : WorthAt H wd ks b) : WorthAt H' wd ks b := let ⟨kvs, e, r⟩ := h; ⟨kvs, s _ _ e, r⟩
theorem WorthAt.go {t : Addr} {H H' : Hp} {wd : Addr} {ks : List Str} {b : Int} (g : Go t H H') (n : wd ≠ t) (h : WorthAt H wd ks b) : WorthAt H' wd ks b := let ⟨kvs, e, r⟩ := h; ⟨kvs, g.keep _ _ n e, r⟩
theorem WorthAt.get {H : Hp} {wd : Addr} {ks : List Str} {b : Int} {k : Str} (h : WorthAt H wd ks b) (hk : k ∈ ks) : ∃ i, DGet H wd (.str k) (some (.int i)) ∧ -b ≤ i ∧ i ≤ b := by
  obtain ⟨kvs, e, h1, h2⟩ := h
  have hm : (Sum.inr k : Key) ∈ kvs.map (·.1) := by
    rw [h1]
    exact List.mem_map_of_mem hk
  obtain ⟨p, hp, ep⟩ := List.mem_map.mp hm
  have hv : ∃ q ∈ kvs, valV kvs (Sum.inr k : Key) = some q.2 := by
    unfold valV
    cases hf : kvs.find? fun kv => decide (kv.1 = (Sum.inr k : Key)) with
    | none =>
      have := List.find?_eq_none.mp hf p hp
      simp [ep] at this
    | some q => exact ⟨q, List.mem_of_find?_eq_some hf, rfl⟩
  obtain ⟨q, hq, ev⟩ := hv
  obtain ⟨i, ei, b1, b2⟩ := h2 q hq
  refine ⟨i, ?_, b1, b2⟩
  rw [ei] at ev
  exact ev ▸ DGet.k (k := (Sum.inr k : Key)) e
/-- pairs of kinds and drawn numbers -/
theorem lc_worth {K : PySem.W.Frag} {a : Addr} {ks : List Str} {i : Nat} {tw : TE} {σ : Sto} {H1 : Hp} {D t : Addr} {b : Int} {Qd : Hp → Prop} (hi : i < σ.length) (T : TapeAt H1 t) (hz : ks.length ≤ 1000) (hS : H1 a = some (.lst (ks.map V.str))) (hD : H1 D = none)
    (hel : ∀ k H (Q : VK), k ∈ ks → Go t H1 H → (∀ (z : Int) H2, -b ≤ z → z ≤ b → Go t H H2 → Q (.int z) H2) → tw ((wipe σ [i]).set i (some (.str k))) H Q)
    (hd : ∀ H (ps : List Addr) (kvs : List (Key × V)), Go t H1 H → H D = some (.lst (ps.map V.ref)) → Paired (fun p kv => SqT K H p [kV kv.1, kv.2]) ps kvs → kvs.map (·.1) = ks.map Sum.inr → (∀ p ∈ kvs, ∃ i, p.2 = V.int i ∧ -b ≤ i ∧ i ≤ b) → Qd H) :
    LcGoal K a i (tTup (tCons (tVar i) (tCons tw tNil))) σ H1 D Qd := by
  refine lc_list (K := K) (a := a) (xs := ks.map V.str) (fun j H => Go t H1 H ∧ ∃ (ps : List Addr) (kvs : List (Key × V)), H D = some (.lst (ps.map V.ref)) ∧ Paired (fun p kv => SqT K H p [kV kv.1, kv.2]) ps kvs ∧ kvs.map (·.1) = (ks.take j).map Sum.inr ∧ ∀ p ∈ kvs, ∃ i, p.2 = V.int i ∧ -b ≤ i ∧ i ≤ b)
    ⟨(Go.refl T).new hD, [], [], upd_same, .nil, rfl, fun p h => by cases h⟩ (fun _ H _ h => SqL.of (h.1.lst hS)) ?_ ?_
  · rintro j x H hx ⟨g, ps, kvs, e, hp, hk, hb⟩
    have hj : j < ks.length := by
      have := (List.getElem?_eq_some_iff.mp hx).1
      rw [List.length_map] at this
      exact this
    rw [List.getElem?_map] at hx
    cases hkj : ks[j]? with
    | none => rw [hkj] at hx; cases hx
    | some k =>
      rw [hkj] at hx
      cases hx
      have hki : ((wipe σ [i]).set i (some (V.str k)))[i]? = some (some (V.str k)) := by
        rw [List.getElem?_set_self]
        show i < (σ.set i none).length
        rw [List.length_set]
        exact hi
      refine ⟨wipe_one σ i _, yes_cut ?_⟩
      refine ⟨_, hki, hel k H _ (List.mem_of_getElem? hkj) g fun z H2 b1 b2 g2 => ⟨(by show 2 ≤ sizeLine; decide), fun c hc => ?_⟩⟩
      have g3 := g2.new (o := .tup [.str k, .int z]) hc
      have hl := Paired.length hp
      have hkl : kvs.length = j := by
        have := congrArg List.length hk
        rw [List.length_map, List.length_map, List.length_take] at this
        omega
      have e3 := g3.lst e
      refine ⟨_, e3, by rw [List.length_map, sizeLine_eq]; omega, (g.trans g3).up hD, ps ++ [c], kvs ++ [(.inr k, .int z)], ?_, ?_, ?_, ?_⟩
      · rw [upd_same]
        simp
      · have up : ∀ q xs, SqT K H q xs → SqT K (upd (upd H2 c (.tup [.str k, .int z])) D (.lst (ps.map V.ref ++ [.ref c]))) q xs := fun q xs h => by
          have h2 := g3.tup h
          rcases h2 with h2 | h2
          · rcases h2 with h2 | ⟨o, h2⟩
            · exact .inl (.inl (Tups.lst e3 _ _ h2))
            · refine .inl (.inr ⟨o, ?_⟩)
              rw [upd_ne (fun z => by rw [z, e3] at h2; cases h2)]
              exact h2
          · exact .inr h2
        exact (Paired.mapP hp fun p kv h => up p _ h).snoc (SqT.of (Tups.lst e3 _ _ upd_same))
      · rw [List.map_append, hk, List.take_add_one, hkj, List.map_append]
        rfl
      · intro p hp
        rcases List.mem_append.mp hp with hp | hp
        · exact hb p hp
        · rw [List.mem_singleton.mp hp]
          exact ⟨z, rfl, b1, b2⟩
  · rintro H ⟨g, ps, kvs, e, hp, hk, hb⟩
    rw [List.length_map, List.take_length] at hk
    exact hd H ps kvs g e hp hk hb
/-- ints of the strings of a tuple -/
theorem lt_ints {K : PySem.W.Frag} {a : Addr} {os : List Str} {i : Nat} {te : TE} {σ : Sto} {H1 : Hp} {D : Addr} {b : Int} {Qd : Hp → Prop} (hz : os.length ≤ 100000) (hS : SqT K H1 a (os.map V.str)) (hD : H1 D = none)
    (hel : ∀ k H (Q : VK), k ∈ os → Same H1 H → (∀ (z : Int) H2, -b ≤ z → z ≤ b → Same H H2 → Q (.int z) H2) → te ((wipe σ [i]).set i (some (.str k))) H Q)
    (hd : ∀ H (ns : List Int), Same H1 H → H D = some (.lst (ns.map V.int)) → ns.length = os.length → (∀ z ∈ ns, -b ≤ z ∧ z ≤ b) → Qd H) : LtGoal K a i tYes te σ H1 D Qd := by
  refine lc_tup (K := K) (a := a) (xs := os.map V.str) (fun j H => Same H1 H ∧ ∃ ns : List Int, H D = some (.lst (ns.map V.int)) ∧ ns.length = j ∧ ∀ z ∈ ns, -b ≤ z ∧ z ≤ b) ⟨same_upd hD, [], upd_same, rfl, fun z h => by cases h⟩ (fun _ H _ h => sqT_up h.1 hS) ?_ ?_
  · rintro j x H hx ⟨s, ns, e, hl, hb⟩
    have hj : j < os.length := by
      have := (List.getElem?_eq_some_iff.mp hx).1
      rw [List.length_map] at this
      exact this
    obtain ⟨k, hk, rfl⟩ := List.mem_map.mp (List.mem_of_getElem? hx)
    refine ⟨wipe_one σ i _, ?_⟩
    show te ((wipe σ [i]).set i (some (.str k))) H _
    refine hel k H _ hk s fun z H2 b1 b2 s2 => ⟨_, s2 _ _ e, by rw [List.length_map, sizeLine_eq]; omega, same_updX (s.trans s2) hD, ns ++ [z], ?_, by rw [List.length_append, hl]; rfl, fun y hy => ?_⟩
    · rw [upd_same]
      simp
    · rcases List.mem_append.mp hy with hy | hy
      · exact hb y hy
      · rw [List.mem_singleton.mp hy]; exact ⟨b1, b2⟩
  · rintro H ⟨s, ns, e, hl, hb⟩
    rw [List.length_map] at hl
    exact hd H ns s e hl hb
theorem sum_small {b : Int} : ∀ {ns : List Int}, (∀ z ∈ ns, -b ≤ z ∧ z ≤ b) → -(b * ns.length) ≤ ns.sum ∧ ns.sum ≤ b * ns.length
  | [], _ => by simp
  | z :: ns, h => by
    have h1 := h z List.mem_cons_self
    have h2 := sum_small fun y hy => h y (List.mem_cons_of_mem _ hy)
    have e : b * ((z :: ns).length : Int) = b * (ns.length : Int) + b := by
      rw [List.length_cons]
      show b * ((ns.length : Int) + 1) = _
      rw [Int.mul_add, Int.mul_one]
    rw [e, List.sum_cons]
    omega
/-- all of a rule but its change -/
def core (r : RuleD) : Str × Str × List Str := (r.name, r.kind, r.out)
theorem core_mem {rs ts : List RuleD} (h : ts.map core = rs.map core) {r : RuleD} (hr : r ∈ ts) : ∃ u ∈ rs, core u = core r := by
  have m : core r ∈ ts.map core := List.mem_map_of_mem hr
  rw [h] at m
  obtain ⟨u, hu, e⟩ := List.mem_map.mp m
  exact ⟨u, hu, e⟩
theorem RulesOk.core {ks : List Str} {rs ts : List RuleD} (h : ts.map core = rs.map core) (o : RulesOk ks rs) : RulesOk ks ts := by
  have hn : ∀ l : List RuleD, l.map (·.name) = (l.map Fh.core).map (·.1) := fun l => by rw [List.map_map]; rfl
  refine ⟨?_, fun r hr => ?_, fun r hr => ?_, ?_⟩
  · rw [hn, h, ← hn]
    exact o.names
  · obtain ⟨u, hu, e⟩ := core_mem h hr
    have e1 : u.name = r.name := congrArg (·.1) e
    rw [← e1]
    exact o.letters u hu
  · obtain ⟨u, hu, e⟩ := core_mem h hr
    have e1 : u.kind = r.kind := congrArg (·.2.1) e
    have e2 : u.out = r.out := congrArg (·.2.2) e
    rw [← e1, ← e2]
    exact o.each u hu
  · have := congrArg List.length h
    rw [List.length_map, List.length_map] at this
    rw [this]
    exact o.few
theorem nodup_inr {ks : List Str} (h : ks.Nodup) : (ks.map (Sum.inr : Str → Key)).Nodup := h.map _ fun a b n e => n (Sum.inr.inj e)
theorem All2.set {α : Type} {R : V → α → Prop} {v : V} {r : α} (h : R v r) : ∀ {vs : List V} {rs : List α} {i : Nat}, All2 R vs rs → All2 R (vs.set i v) (rs.set i r)
  | [], _, _, e => by
    have e' : _ = [] := e
    rw [e']
    exact rfl
  | _ :: vs, _, 0, ⟨q, t, e, _, h2⟩ => by
    rw [e]
    exact ⟨r, t, rfl, h, h2⟩
  | u :: vs, _, i + 1, ⟨q, t, e, h1, h2⟩ => by
    rw [e]
    exact ⟨q, t.set i r, rfl, h1, h2.set h⟩
theorem set_same {α : Type} {x : α} : ∀ {l : List α} {i : Nat}, l[i]? = some x → l.set i x = l
  | [], _, _ => rfl
  | _ :: l, 0, h => by
    cases h
    rfl
  | y :: l, i + 1, h => by
    show y :: l.set i x = y :: l
    rw [set_same (l := l) (i := i) h]
/-- a list of rules like these, at rr; where the plan was begun, nothing stood there -/
structure RulesAt (H0 : Hp) (rr : Addr) (rs : List RuleD) (b : Int) (H : Hp) : Prop where
  new : H0 rr = none
  ex : ∃ vs ts, H rr = some (.lst vs) ∧ Rules H vs ts ∧ ts.map Fh.core = rs.map Fh.core ∧ ∀ r ∈ ts, -b ≤ r.change ∧ r.change ≤ b
theorem RulesAt.go {t : Addr} {H0 H H' : Hp} {rr : Addr} {rs : List RuleD} {b : Int} (g : Go t H H') (h : RulesAt H0 rr rs b H) : RulesAt H0 rr rs b H' :=
  ⟨h.new, let ⟨vs, ts, e, r, c, s⟩ := h.ex; ⟨vs, ts, g.lst e, Rules.go g r, c, s⟩⟩
/-- the state of a comprehension that makes such a list -/
def RulesJ (D : Addr) (rs : List RuleD) (b : Int) (j : Nat) (H : Hp) : Prop := ∃ vs ts, H D = some (.lst vs) ∧ Rules H vs ts ∧ ts.map Fh.core = (rs.take j).map Fh.core ∧ ∀ r ∈ ts, -b ≤ r.change ∧ r.change ≤ b
theorem RulesJ.len {D : Addr} {rs : List RuleD} {b : Int} {j : Nat} {H : Hp} {vs : List V} {ts : List RuleD} (h : Rules H vs ts) (c : ts.map Fh.core = (rs.take j).map Fh.core) : vs.length ≤ rs.length := by
  have h1 := congrArg List.length c
  rw [List.length_map, List.length_map, List.length_take] at h1
  rw [h.len]
  omega
theorem RulesJ.add {D : Addr} {rs : List RuleD} {b : Int} {j : Nat} {H H2 : Hp} {r u : RuleD} {v : V} {t : Addr} (h : RulesJ D rs b j H) (g : Go t H H2) (hz : rs.length ≤ 1000) (hr : rs[j]? = some r) (hv : RuleAt H2 v u) (hc : Fh.core u = Fh.core r) (hb : -b ≤ u.change ∧ u.change ≤ b) :
    ∃ vs, H2 D = some (.lst vs) ∧ vs.length < sizeLine ∧ RulesJ D rs b (j + 1) (upd H2 D (.lst (vs ++ [v]))) := by
  obtain ⟨vs, ts, e, q, c, s⟩ := h
  have hl := RulesJ.len (D := D) (b := b) q c
  have e2 := g.lst e
  refine ⟨vs, e2, by rw [sizeLine_eq]; omega, vs ++ [v], ts ++ [u], upd_same, ((Rules.go g q).ups (.lst e2)).app ⟨u, [], rfl, hv.ups (.lst e2), rfl⟩, ?_, fun x hx => ?_⟩
  · rw [List.map_append, c, List.take_add_one, hr, List.map_append]
    show _ ++ [Fh.core u] = _ ++ [Fh.core r]
    rw [hc]
  · rcases List.mem_append.mp hx with hx | hx
    · exact s x hx
    · rw [List.mem_singleton.mp hx]; exact hb
end Fh
namespace Fh
open PySem PySem.Spec PyProof.Rows L2 He
/-! ### set(xs), xs strings, as many as there are -/
def metStep (ms : List Str) (x : Str) : List Str := if ms.any (· == x) = true then ms else ms ++ [x]
/-- each once, where it was met first -/
def metS (xs : List Str) : List Str := xs.foldl metStep []
theorem metS_snoc (xs : List Str) (x : Str) : metS (xs ++ [x]) = metStep (metS xs) x := by
  unfold metS
  rw [List.foldl_append]
  rfl
theorem metStep_any (ms : List Str) (x k : Str) : (metStep ms x).any (· == k) = (ms.any (· == k) || decide (k = x)) := by
  unfold metStep
  split
  · rename_i hx
    by_cases e : k = x
    · rw [e, hx, Bool.true_or]
    · rw [decide_eq_false e, Bool.or_false]
  · rw [List.any_append]
    congr 1
    show (x == k || false) = decide (k = x)
    rw [Bool.or_false, Bool.eq_iff_iff, beq_iff_eq, decide_eq_true_eq]
    exact eq_comm
theorem metStep_len (ms : List Str) (x : Str) : (metStep ms x).length = if ms.any (· == x) = true then ms.length else ms.length + 1 := by
  unfold metStep
  split
  · rfl
  · rw [List.length_append]
    rfl
theorem metS_le : ∀ (xs ms : List Str), (xs.foldl metStep ms).length ≤ ms.length + xs.length
  | [], ms => Nat.le_refl _
  | x :: xs, ms => by
    have h := metS_le xs (metStep ms x)
    have h2 := metStep_len ms x
    rw [List.foldl_cons, List.length_cons]
    split at h2 <;> omega
theorem metS_nodup : ∀ {xs ms : List Str}, (ms ++ xs).Nodup → xs.foldl metStep ms = ms ++ xs
  | [], ms, _ => by rw [List.append_nil]; rfl
  | x :: xs, ms, h => by
    have hx : ¬ ms.any (· == x) = true := fun z => by
      obtain ⟨y, hy, e⟩ := List.any_eq_true.mp z
      have e' : y = x := eq_of_beq e
      exact (List.nodup_append.mp h).2.2 y hy x List.mem_cons_self e'
    have e : metStep ms x = ms ++ [x] := by
      unfold metStep
      rw [if_neg hx]
    rw [List.foldl_cons, e, metS_nodup (by rw [List.append_assoc]; exact h), List.append_assoc]
    rfl
section
variable {prog : Program} {w : World} {A : Around} {R : Result → Shared → Prop} {I : Addr} {fp wr : List Addr} {G : Array GenState → Array GenState → Prop} {n : Nat} {P : Nat → Value → Prop} {St : Nat → Shared → Prop}
/-- the set's loop: what was met stands in the set -/
theorem strs_loop (W : WalksS prog w A.in1 I fp wr G n P St) (Z : Addr) (nZ : Z ∉ fp) (xs : List Str) (lx : xs.length = n) (few : n + 1 < scanBound) (at_ : ∀ i v, P i v → ∃ t, v = .str (xs.getD i Str.empty) t) :
    ∀ (m i : Nat) (s : Shared), n - i = m → i ≤ n → St i s → s.heap.SetOf (PySem.strKind prog w) Z (fun k => (metS (xs.take i)).any (· == k)) (metS (xs.take i)).length →
      (∀ s', Moved (Z :: wr) G s s' → s'.heap.SetOf (PySem.strKind prog w) Z (fun k => (metS (xs.take n)).any (· == k)) (metS (xs.take n)).length → R (.ok (.ret .none)) s') →
      codeAny (model prog w) A (.builtin "set.update.loop" ⟨[.ref Z, .ref I], []⟩) R s := by
  have more : ∀ b ∈ wr, b ∈ Z :: wr := fun _ q => List.mem_cons_of_mem _ q
  have keepZ : ∀ {s s' : Shared} {f : Str → Bool} {c : Nat}, Moved wr G s s' → s.heap.SetOf (PySem.strKind prog w) Z f c → s'.heap.SetOf (PySem.strKind prog w) Z f c := fun mv ⟨o, es, ep, t, e, r⟩ => ⟨o, es, ep, t, mv.heap Z _ (fun q => nZ (W.sub _ q)) e, r⟩
  intro m
  induction m with
  | zero =>
    intro i s hm hi st hZ out
    obtain rfl : i = n := by omega
    refine codeAny_builtin PyProof.Rows.F.entry_set_update_loop (?_ : wpAny _ _ _ _ _ s)
    rw [Around.under_plainId PyProof.Rows.F.plain_set_update_loop]
    refine wpAny_bind (m := pyNext (.ref I)) (W.done s _ _ st fun s' mv => ?_)
    exact wpAny_pure (out s' (mv.mono more) (keepZ mv hZ))
  | succ m ih =>
    intro i s hm hi st hZ out
    have hin : i < n := by omega
    refine codeAny_builtin PyProof.Rows.F.entry_set_update_loop (?_ : wpAny _ _ _ _ _ s)
    rw [Around.under_plainId PyProof.Rows.F.plain_set_update_loop]
    refine wpAny_bind (m := pyNext (.ref I)) (W.item i s _ _ hin st fun v s' hv st' mv => ?_)
    obtain ⟨tk, rfl⟩ := at_ i v hv
    have hx : xs[i]? = some (xs.getD i Str.empty) := by rw [List.getD_eq_getElem?_getD, List.getElem?_eq_getElem (by omega)]; rfl
    have next : xs.take (i + 1) = xs.take i ++ [xs.getD i Str.empty] := by rw [List.take_add_one, hx]; rfl
    generalize xs.getD i Str.empty = x at hx next
    have room : (metS (xs.take i)).length + 1 < scanBound := by
      have h := metS_le (xs.take i) []
      rw [List.length_take] at h
      have h2 : (metS (xs.take i)).length ≤ 0 + min i xs.length := h
      omega
    have hZ1 : s'.heap.SetOf (PySem.strKind prog w) Z (fun k => (metS (xs.take i)).any (· == k)) (metS (xs.take i)).length := keepZ mv hZ
    refine wpAny_bind (m := holding [Value.str x tk] (setAdd Z (.str x tk))) (wpAny_holding ?_)
    unfold setAdd
    refine wpAny_holding (wpAny_bind ((PySem.strKind prog w).pyHash (k := x) (strKind_is _ _ _ _) ?_))
    refine wpAny_setAddHashed_of (s := { s' with toks := s'.toks + 1 }) (knd := PySem.strKind prog w) (strKind_is _ _ _ _) rfl hZ1 room fun h2 same hZ2 => ?_
    have hZ3 : h2.SetOf (PySem.strKind prog w) Z (fun k => (metS (xs.take (i + 1))).any (· == k)) (metS (xs.take (i + 1))).length :=
      PyProof.Rows.SetOf_congr hZ2 (fun k => by rw [next, metS_snoc, metStep_any]) (by rw [next, metS_snoc, metStep_len])
    have st2 := W.frame _ s' h2 (s'.toks + 1) st' (Nat.le_succ _) fun b q o e => by rw [same.2 b fun z => nZ (z ▸ q)]; exact e
    refine wpAny_pure ⟨plainId_quiet PyProof.Rows.F.plain_set_update_loop _, ih (i + 1) _ (by omega) hin st2 hZ3 fun s2 mv2 q2 => out s2 ?_ q2⟩
    exact Moved.trans W.gtrans ((mv.mono more).then_heap (Nat.le_succ _) fun b o q e => by rw [same.2 b fun z => q (z ▸ List.mem_cons_self)]; exact e) mv2
end
/-- a new set on the heap -/
abbrev newSet (led : Bool) : Obj := { cls := .type "set", dict := none, data := .set #[] 0 (.fresh 0 0 led) }
def Made (s : Shared) (v : Value) (s1 : Shared) : Prop := ∃ led : Bool, v = .ref s.heap.objs.size ∧ s1 = { s with heap := s.heap.push (newSet led) }
def Filled (prog : Program) (w : World) (s : Shared) (xs : List Str) (v : Value) (s2 : Shared) : Prop := v = .none ∧ ∃ h2 tk, s2 = { s with heap := h2, toks := tk } ∧ h2.SetOf (PySem.strKind prog w) s.heap.objs.size (fun k => (metS xs).any (· == k)) (metS xs).length ∧ ∀ b o, b < s.heap.objs.size → s.heap.get? b = some o → h2.get? b = some o
section
variable {prog : Program} {w : World} {A : Around} {E : Value → Shared → Prop} {s : Shared}
theorem set_of_list {l : Addr} {its : Array Value} {xs : List Str} {Q : Value → Shared → Prop} (calm : A.handled = none) (at_ : s.heap.IsList l its) (hstr : PyProof.Rows.StrsAre its.toList xs) (few : xs.length + 1 < scanBound)
    (h : ∀ (h2 : Heap) (tk : Nat), h2.SetOf (PySem.strKind prog w) s.heap.objs.size (fun k => (metS xs).any (· == k)) (metS xs).length → (∀ b o, b < s.heap.objs.size → s.heap.get? b = some o → h2.get? b = some o) → Q (.ref s.heap.objs.size) { s with heap := h2, toks := tk }) :
    wpAny (model prog w) A (call (.type "set") [.ref l]) Q E s := by
  obtain ⟨_, _, mro_⟩ := PySem.F.called_set.mro
  have made_ := PySem.F.called_set.made
  have sub_ := PySem.F.called_set.sub
  have no_type := PySem.F.called_set.notType
  have can_make := PySem.F.called_set.canCreate
  have args_ := PySem.F.typeCall_set_1 (.ref l)
  refine wpAny_call (codeAny_of_tree (?_ : wpAny _ _ (callAny (.type "set") _) _ _ _))
  refine wpAny_pure ⟨Code.quiet_builtin _ (by decide +kernel), codeAny_builtin PySem.F.entry_type_call (?_ : wpAny _ _ _ _ _ s)⟩
  rw [Around.under_plain (weight_type_call_type "set" [.ref l] []) rfl]
  repeat (any_goals (first | wp_step | assumption))
  refine codeAny_mono (code_set_new_1 (.ref l) (E := E) (Q₁ := Made s) fun led => ⟨led, rfl, rfl⟩) fun r s1 got => ?made
  case made =>
    cases r with
    | error e => exact got
    | ok fl =>
      cases fl with
      | ret v =>
        obtain ⟨led, rfl, rfl⟩ := got
        have hZ : (s.heap.push (newSet led)).get? s.heap.objs.size = some (newSet led) := Heap.get?_push_size _ rfl
        have isZ : Shared.TypeIs { s with heap := s.heap.push (newSet led) } (.ref s.heap.objs.size) "set" := ⟨_, hZ, rfl⟩
        have init_at := PySem.F.called_set.init.lookup
        have init_bind := PySem.F.called_set.init.bind (.ref s.heap.objs.size)
        repeat (any_goals (first | wp_step | assumption))
        refine codeAny_mono (codeAny_call_builtin (R := wants (Filled prog w s xs) E) PySem.F.called_set.init.plain PySem.F.entry_set_init (check_set_init_1 isZ ?run)) fun r s2 got => ?done
        case run =>
          obtain ⟨⟨oc, od, odt, osl⟩, at0, c0, nl, d0⟩ := at_
          simp only at c0 d0
          subst c0 d0
          have at1 : (s.heap.push (newSet led)).get? l = some ⟨.type "list", od, .seq its nl, osl⟩ := Heap.get?_push_of_some _ at0
          have sl1 := PySem.F.sub_list_set
          have sl2 := PySem.F.sub_list_frozenset
          have nd : (Value.type "list" == Value.type "dict") = false := by decide
          have is1 : (s.heap.push (newSet led)).IsList l its := ⟨_, at1, rfl, nl, rfl⟩
          unfold Builtin.«set.__init__» noKeywords Builtin.Frozenset.updateFrom
          generalize pyit : pyIter = pyit_
          wp_walk
          subst pyit
          refine wpAny_pyIter_list is1 (wpAny_bind (wpAny_runValue ?_))
          have low : l < s.heap.objs.size := Heap.lt_size at0
          have calm3 : A.in1.in1.in1.handled = none := by simp [calm]
          have sz1 : (s.heap.push (newSet led)).objs.size = s.heap.objs.size + 1 := Heap.size_push ..
          have nl1 : l ≠ (s.heap.push (newSet led)).objs.size := by
            rw [sz1]
            exact Nat.ne_of_lt (Nat.lt_succ_of_lt low)
          have nZ : s.heap.objs.size ∉ [(s.heap.push (newSet led)).objs.size, l] := by
            rw [sz1]
            simp only [List.mem_cons, List.not_mem_nil, or_false, not_or]
            exact ⟨(Nat.succ_ne_self _).symm, Nat.ne_of_gt low⟩
          have lx : xs.length = its.size := by rw [← Array.length_toList, ← StrsAre.len_eq hstr]
          have all_ : xs.take its.size = xs := by rw [← lx, List.take_length]
          refine strs_loop ((Walks.list calm3 _ l nl1 its).toS) s.heap.objs.size nZ xs lx (by omega) (fun i v e => SS.strs_at hstr i v (by rw [Array.getElem?_toList]; exact e)) (its.size - 0) 0 _ rfl (Nat.zero_le _) ⟨⟨_, Heap.get?_push_size _ rfl, rfl, rfl⟩, is1.push _⟩ ?fresh ?out
          case fresh =>
            have hZ2 : ((s.heap.push (newSet led)).push { cls := .type "list_iterator", data := .fields #[.ref l, .int 0 0] }).get? s.heap.objs.size = some (newSet led) := Heap.get?_push_of_some _ hZ
            exact PyProof.Rows.SetOf_congr ((PyProof.Rows.setObjOf_fresh led (knd := PySem.strKind prog w)).setOf hZ2 (by unfold scanBound; omega)) (fun _ => rfl) rfl
          case out =>
            intro s2 mv hZ2
            obtain ⟨h2, g2, r2, tk2, os2⟩ := s2
            obtain rfl : g2 = s.gens := mv.gens
            obtain rfl : r2 = s.drawn := mv.drawn
            obtain rfl : os2 = s.os := mv.os
            rw [all_] at hZ2
            (show wpAny _ _ _ _ _ _); refine wpAny_pure ?_; (show wpAny _ _ (ret Value.none) _ _ _); refine wpAny_pure ⟨rfl, h2, tk2, rfl, hZ2, fun b o q e => ?_⟩
            refine mv.heap b o (fun m => ?_) (Heap.get?_push_of_some _ (Heap.get?_push_of_some _ e))
            rcases List.mem_cons.mp m with m | m
            · exact Nat.ne_of_lt q m
            · have m2 := List.mem_singleton.mp m
              rw [sz1] at m2
              exact Nat.ne_of_lt (Nat.lt_succ_of_lt q) m2
        case done =>
          cases r with
          | error e => exact got
          | ok fl =>
            cases fl with
            | ret v =>
              obtain ⟨rfl, h2, tk2, rfl, hZ2, kp⟩ := got
              repeat (any_goals (first | wp_step | assumption))
              exact h _ _ hZ2 kp
            | _ => exact got.elim
      | _ => exact got.elim
theorem set_of_tuple {l : Addr} {its : Array Value} {xs : List Str} {Q : Value → Shared → Prop} (calm : A.handled = none) (at_ : s.heap.IsTuple l its) (hstr : PyProof.Rows.StrsAre its.toList xs) (few : xs.length + 1 < scanBound)
    (h : ∀ (h2 : Heap) (tk : Nat), h2.SetOf (PySem.strKind prog w) s.heap.objs.size (fun k => (metS xs).any (· == k)) (metS xs).length → (∀ b o, b < s.heap.objs.size → s.heap.get? b = some o → h2.get? b = some o) → Q (.ref s.heap.objs.size) { s with heap := h2, toks := tk }) :
    wpAny (model prog w) A (call (.type "set") [.ref l]) Q E s := by
  obtain ⟨_, _, mro_⟩ := PySem.F.called_set.mro
  have made_ := PySem.F.called_set.made
  have sub_ := PySem.F.called_set.sub
  have no_type := PySem.F.called_set.notType
  have can_make := PySem.F.called_set.canCreate
  have args_ := PySem.F.typeCall_set_1 (.ref l)
  refine wpAny_call (codeAny_of_tree (?_ : wpAny _ _ (callAny (.type "set") _) _ _ _))
  refine wpAny_pure ⟨Code.quiet_builtin _ (by decide +kernel), codeAny_builtin PySem.F.entry_type_call (?_ : wpAny _ _ _ _ _ s)⟩
  rw [Around.under_plain (weight_type_call_type "set" [.ref l] []) rfl]
  repeat (any_goals (first | wp_step | assumption))
  refine codeAny_mono (code_set_new_1 (.ref l) (E := E) (Q₁ := Made s) fun led => ⟨led, rfl, rfl⟩) fun r s1 got => ?made
  case made =>
    cases r with
    | error e => exact got
    | ok fl =>
      cases fl with
      | ret v =>
        obtain ⟨led, rfl, rfl⟩ := got
        have hZ : (s.heap.push (newSet led)).get? s.heap.objs.size = some (newSet led) := Heap.get?_push_size _ rfl
        have isZ : Shared.TypeIs { s with heap := s.heap.push (newSet led) } (.ref s.heap.objs.size) "set" := ⟨_, hZ, rfl⟩
        have init_at := PySem.F.called_set.init.lookup
        have init_bind := PySem.F.called_set.init.bind (.ref s.heap.objs.size)
        repeat (any_goals (first | wp_step | assumption))
        refine codeAny_mono (codeAny_call_builtin (R := wants (Filled prog w s xs) E) PySem.F.called_set.init.plain PySem.F.entry_set_init (check_set_init_1 isZ ?run)) fun r s2 got => ?done
        case run =>
          obtain ⟨⟨oc, od, odt, osl⟩, at0, c0, nl, d0⟩ := at_
          simp only at c0 d0
          subst c0 d0
          have at1 : (s.heap.push (newSet led)).get? l = some ⟨.type "tuple", od, .seq its nl, osl⟩ := Heap.get?_push_of_some _ at0
          have sl1 := PySem.F.sub_tuple_set
          have sl2 := PySem.F.sub_tuple_frozenset
          have nd : (Value.type "tuple" == Value.type "dict") = false := by decide
          have is1 : (s.heap.push (newSet led)).IsTuple l its := ⟨_, at1, rfl, nl, rfl⟩
          unfold Builtin.«set.__init__» noKeywords Builtin.Frozenset.updateFrom
          generalize pyit : pyIter = pyit_
          wp_walk
          subst pyit
          refine wpAny_pyIter_tuple is1 (wpAny_bind (wpAny_runValue ?_))
          have low : l < s.heap.objs.size := Heap.lt_size at0
          have calm3 : A.in1.in1.in1.handled = none := by simp [calm]
          have sz1 : (s.heap.push (newSet led)).objs.size = s.heap.objs.size + 1 := Heap.size_push ..
          have nl1 : l ≠ (s.heap.push (newSet led)).objs.size := by
            rw [sz1]
            exact Nat.ne_of_lt (Nat.lt_succ_of_lt low)
          have nZ : s.heap.objs.size ∉ [(s.heap.push (newSet led)).objs.size, l] := by
            rw [sz1]
            simp only [List.mem_cons, List.not_mem_nil, or_false, not_or]
            exact ⟨(Nat.succ_ne_self _).symm, Nat.ne_of_gt low⟩
          have lx : xs.length = its.size := by rw [← Array.length_toList, ← StrsAre.len_eq hstr]
          have all_ : xs.take its.size = xs := by rw [← lx, List.take_length]
          refine strs_loop ((Walks.tuple calm3 _ l nl1 its).toS) s.heap.objs.size nZ xs lx (by omega) (fun i v e => SS.strs_at hstr i v (by rw [Array.getElem?_toList]; exact e)) (its.size - 0) 0 _ rfl (Nat.zero_le _) ⟨⟨_, Heap.get?_push_size _ rfl, rfl, rfl⟩, is1.push _⟩ ?fresh ?out
          case fresh =>
            have hZ2 : ((s.heap.push (newSet led)).push { cls := .type "tuple_iterator", data := .fields #[.ref l, .int 0 0] }).get? s.heap.objs.size = some (newSet led) := Heap.get?_push_of_some _ hZ
            exact PyProof.Rows.SetOf_congr ((PyProof.Rows.setObjOf_fresh led (knd := PySem.strKind prog w)).setOf hZ2 (by unfold scanBound; omega)) (fun _ => rfl) rfl
          case out =>
            intro s2 mv hZ2
            obtain ⟨h2, g2, r2, tk2, os2⟩ := s2
            obtain rfl : g2 = s.gens := mv.gens
            obtain rfl : r2 = s.drawn := mv.drawn
            obtain rfl : os2 = s.os := mv.os
            rw [all_] at hZ2
            (show wpAny _ _ _ _ _ _); refine wpAny_pure ?_; (show wpAny _ _ (ret Value.none) _ _ _); refine wpAny_pure ⟨rfl, h2, tk2, rfl, hZ2, fun b o q e => ?_⟩
            refine mv.heap b o (fun m => ?_) (Heap.get?_push_of_some _ (Heap.get?_push_of_some _ e))
            rcases List.mem_cons.mp m with m | m
            · exact Nat.ne_of_lt q m
            · have m2 := List.mem_singleton.mp m
              rw [sz1] at m2
              exact Nat.ne_of_lt (Nat.lt_succ_of_lt q) m2
        case done =>
          cases r with
          | error e => exact got
          | ok fl =>
            cases fl with
            | ret v =>
              obtain ⟨rfl, h2, tk2, rfl, hZ2, kp⟩ := got
              repeat (any_goals (first | wp_step | assumption))
              exact h _ _ hZ2 kp
            | _ => exact got.elim
      | _ => exact got.elim
end
end Fh
namespace Fh
open PySem PySem.Spec PyProof.Rows L2 He
/-! ### for x in a list or a tuple -/
def iSeq (K : PySem.W.Frag) (tl : TE) : TI := fun σ H R => tl σ H fun x H1 => ∃ a, x = .ref a ∧ (((∃ xs, SqL K H1 a xs) ∧ R (Itl K a) H1) ∨ ((∃ xs, SqT K H1 a xs) ∧ R (Itt K a) H1))
theorem pi_seq {X : Cx} {tg l : Expr} {tl : TE} {K : PySem.W.Frag} (hl : PE X l tl) (hK : X.K = K := by rfl) : PI X tg l (iSeq K tl) := by
  subst hK
  refine ⟨fun pins s σ H R I h => thn (hl.run pins s σ H _ I h) fun v s1 ⟨x, H1, I1, r1, a, e, q⟩ => ?_⟩
  subst e
  cases r1
  rcases q with ⟨⟨xs, hq⟩, q⟩ | ⟨⟨xs, hq⟩, q⟩
  · obtain ⟨its, _, pl, _⟩ := I1.list hq
    exact wpAny_pyIter_list pl.isList (pi_one (tk := s1.toks) I1 _ (turn_list a _) ⟨_, Heap.get?_push_size _ rfl, rfl, rfl⟩ q)
  · obtain ⟨its, _, pl, _⟩ := I1.tuple hq
    exact wpAny_pyIter_tuple pl (pi_one (tk := s1.toks) I1 _ (turn_tuple a _) ⟨_, Heap.get?_push_size _ rfl, rfl, rfl⟩ q)
/-! ### enumerate(a tuple) -/
def enumO (it : Addr) : Obj := { cls := .type "enumerate", data := .fields #[.none, .bool false, .ref it, rawInt 0, .none, .none] }
def tupIt (t : Addr) : Obj := { cls := .type "tuple_iterator", data := .fields #[.ref t, .int 0 0] }
theorem enum_new_tuple (t : Addr) (its : Array Value) : Meets (Builtin.«enumerate.__new__» ⟨[.type "enumerate", .ref t], []⟩) (fun _ R s => s.heap.IsTuple t its ∧ R (.ok (.ret (.ref (s.heap.push (tupIt t)).objs.size))) { s with heap := (s.heap.push (tupIt t)).push (enumO s.heap.objs.size) }) :=
  .of_wp fun prog w A R s h => by
    obtain ⟨h0, g0, d0, t0, o0⟩ := s
    obtain ⟨tT, h⟩ := h
    have tT' : Heap.IsTuple (Shared.heap ⟨h0, g0, d0, t0, o0⟩) t its := tT
    obtain ⟨⟨oc, od, odt, osl⟩, at0, c0, nn, e0⟩ := tT
    simp only at c0 e0
    subst c0 e0
    have sub_ := sub_enumerate
    wp_walk using AutoSeq1.wpAny_loadPart' at0
    refine wpAny_stack_any fun st => wpAny_pure ?_
    split
    · rename_i c _ _ _ _ _
      cases (c == Value.type "enumerate") <;> (wp_walk using AutoSeq1.wpAny_loadPart' at0, wpAny_pyIter_tuple tT') <;> exact ⟨_, rfl, h⟩
    · wp_walk using AutoSeq1.wpAny_loadPart' at0, wpAny_pyIter_tuple tT'
      exact ⟨_, rfl, h⟩
section
variable {prog : Program} {w : World} {A : Around} {E : Value → Shared → Prop} {s : Shared}
theorem enum_tuple {t : Addr} {its : Array Value} {Q : Value → Shared → Prop} (isT : s.heap.IsTuple t its)
    (out : ∀ h2, IsEnum h2 (s.heap.objs.size + 1) s.heap.objs.size 0 .none → h2.IsTupleIter s.heap.objs.size t 0 → (∀ b o, s.heap.get? b = some o → h2.get? b = some o) → Q (.ref (s.heap.objs.size + 1)) { s with heap := h2 }) :
    wpAny (model prog w) A (call (.type "enumerate") [.ref t]) Q E s := by
  refine callType_new F.called_enumerate (by decide) (F.typeCall_enumerate_1 _) (F.newCall_enumerate_1 _) (fun obj => F.args_object_init_2 obj _) F.entry_enumerate_new (enum_new_tuple t its) ⟨isT, ?_⟩
  have sz : (s.heap.push (tupIt t)).objs.size = s.heap.objs.size + 1 := Heap.size_push ..
  have e1 : ((s.heap.push (tupIt t)).push (enumO s.heap.objs.size)).get? (s.heap.objs.size + 1) = some (enumO s.heap.objs.size) := sz ▸ Heap.get?_push_size (s.heap.push (tupIt t)) rfl
  (show _ ∧ _)
  rw [sz]
  exact ⟨⟨_, e1, rfl⟩, out _ e1 ⟨_, Heap.get?_push_of_some _ (Heap.get?_push_size _ rfl), rfl, rfl⟩ fun b o q => Heap.get?_push_of_some _ (Heap.get?_push_of_some _ q)⟩
end
/-- the tuple at a, each item in a new pair -/
def Iteu (K : PySem.W.Frag) (a : Addr) : It :=
  ⟨fun i H => ∃ (xs : List V) (x : V), SqT K H a xs ∧ xs[i]? = some x, fun i H v H' => ∃ T x, v = .ref T ∧ H T = none ∧ H' = upd H T (.tup [.int (i : Nat), x]) ∧ ∀ xs, SqT K H a xs → xs[i]? = some x, fun i H => ∃ xs : List V, SqT K H a xs ∧ xs.length ≤ i⟩
theorem draws_end {prog : Program} {w : World} {A : Around} {it a : Addr} {its : Array Value} {i : Nat} (hh : A.handled = none) (na : a ≠ it) (e : its[i]? = none) :
    Draws prog w A it [it, a] i (fun _ _ => True) (fun j h => j = i ∧ h.IsTupleIter it a i ∧ h.IsTuple a its) where
  live := fun _ _ ⟨_, ⟨o, ho, _⟩, _⟩ => ⟨o, ho⟩
  frame := fun _ _ _ ⟨e, s1, s2⟩ k => ⟨e, s1.at fun o q => k it List.mem_cons_self o q, s2.at fun o q => k a (List.mem_cons_of_mem _ List.mem_cons_self) o q⟩
  item := fun j s Q E hj ⟨z, _⟩ _ => absurd z (Nat.ne_of_lt hj)
  done := fun s Q E ⟨_, s1, s2⟩ out => wpAny_nextOf_tuple_end hh s1 s2 e out
theorem turn_enumT {P : Program} {w : World} {K : PySem.W.Frag} {elts : List Expr} {kk : Nat} {tpos : Pos} (a e it : Addr) (na : a ≠ it) (ne : a ≠ e) : Turn P w K (.Tuple elts kk tpos) (Iteu K a) [e, it] e (fun i h => (∃ old, IsEnum h e it ((i : Nat) : Int) old) ∧ h.IsTupleIter it a i ∧ e ≠ it) where
  mem := List.mem_cons_self
  obj := fun i h st b hb => by
    obtain ⟨⟨old, he⟩, ⟨o, ho, hc, hd⟩, _⟩ := st
    rcases List.mem_cons.mp hb with hb | hb
    · subst hb
      exact ⟨_, he, fun v q => nomatch q⟩
    · rw [List.mem_singleton.mp hb]
      exact ⟨o, ho, fun v q => by rw [hd] at q; cases q⟩
  keep := fun i h h2 ⟨⟨old, he⟩, hi, hne⟩ k => ⟨⟨old, k e List.mem_cons_self _ he⟩, hi.at fun o q => k it (List.mem_cons_of_mem _ List.mem_cons_self) o q, hne⟩
  item := by
    rintro X rfl rfl rfl hc i pins s σ H E I hf ⟨⟨old, he⟩, hit, hne⟩ ⟨xs, x, hq, hx⟩
    obtain ⟨its, rv, pl, hz⟩ := I.tuple hq
    obtain ⟨u, hu, ru⟩ := rv.get hx
    have hi : i < its.toArray.size := by
      rw [List.size_toArray]
      exact (List.getElem?_eq_some_iff.mp hu).1
    have le : e < s.heap.objs.size := Heap.lt_size he
    have li : it < s.heap.objs.size := let ⟨_, q, _⟩ := hit; Heap.lt_size q
    refine wpAny_pyNext_enum_itemD (Draws.tuple (show X.A.in1.handled = none from I.ok.hd hc) it a na its.toArray) he ⟨hit, pl⟩ hi hne (fun m => by
      rcases List.mem_cons.mp m with m | m
      · exact hne m
      · exact ne (List.mem_singleton.mp m).symm) fun y h2 tk hy ho st hT hsz hk => ?_
    have ey : y = u := by
      rw [List.getElem?_toArray, hu] at hy
      exact (Option.some.inj hy).symm
    subst ey
    refine ⟨_, rfl, wpAny_letOwnedTupleGo_enum (s := { s with heap := h2, toks := tk + 1 }) ho fun h3 he3 sb => ?_⟩
    have hT3 : h3.get? s.heap.objs.size = some { cls := .type "tuple", data := .seq #[.int i tk, y] } := (sb.2 _ (Nat.ne_of_gt le)).trans hT
    have new : ObjOk X.prog X.w (upd H s.heap.objs.size (.tup [.int (i : Nat), x])) h3 s.heap.objs.size (.tup [.int (i : Nat), x]) := ⟨by show 2 ≤ sizeLine; decide, [.int i tk, y], .cons ⟨_, rfl⟩ (.cons ru .nil), ⟨_, hT3, rfl, _, rfl⟩⟩
    have I1 : Inv X pins σ (upd H s.heap.objs.size (.tup [.int (i : Nat), x])) { s with heap := h3, toks := tk + 1 } :=
      I.turnedNew (ch := [e, it]) (fun b ob hb q => by
        have b1 : b ≠ e := fun z => hb (z ▸ List.mem_cons_self)
        have b2 : b ≠ it := fun z => hb (z ▸ List.mem_cons_of_mem _ List.mem_cons_self)
        exact (sb.2 b b1).trans (hk b ob b1 b2 q)) hf (Nat.le_refl _) new
    refine ⟨.ref s.heap.objs.size, _, I1, rfl, ⟨_, x, rfl, I.hok.fresh (Nat.le_refl _), rfl, fun ys hy => ?_⟩, ⟨⟨y, ?_⟩, st.1.at fun o q => (sb.2 it hne.symm).trans q, hne⟩, fun b hb => ?_⟩
    · rw [I.tuple_inj hy hq]
      exact hx
    · rw [show ((i + 1 : Nat) : Int) = (i : Int) + 1 by omega]
      exact he3
    · have lb : b < s.heap.objs.size := by
        rcases List.mem_cons.mp hb with z | z
        · rw [z]; exact le
        · rw [List.mem_singleton.mp z]; exact li
      rw [upd_ne (Nat.ne_of_lt lb)]
      exact (hf b hb).1
  done := by
    rintro X rfl rfl rfl hc i pins s σ H E I hf ⟨⟨old, he⟩, hit, hne⟩ ⟨xs, hq, hx⟩
    obtain ⟨its, rv, pl, hz⟩ := I.tuple hq
    obtain ⟨f0, f1, f2, f3, f4, f5⟩ := hf it (List.mem_cons_of_mem _ List.mem_cons_self)
    have none_ : its.toArray[i]? = none := by
      have hl := rv.length
      rw [List.getElem?_toArray, List.getElem?_eq_none_iff]
      omega
    exact wpAny_pyNext_enum_endD (draws_end (show X.A.in1.handled = none from I.ok.hd hc) na none_) he ⟨rfl, hit, pl⟩ fun h2 eb => ⟨rfl, I.turned (t' := s.toks) (fun b o hb q => eb b o hb q) f0 f1 f3 f4 f5⟩
  self := fun A i s Q E st h => let ⟨⟨_, he⟩, _⟩ := st; wpAny_pyIter_enum he h
def iEnumS (K : PySem.W.Frag) (ta : TA) : TI := fun σ H R => ta σ H fun vs H1 => ∃ a, vs = [.ref a] ∧ (((∃ xs, SqL K H1 a xs) ∧ R (Ite K a) H1) ∨ ((∃ xs, SqT K H1 a xs) ∧ R (Iteu K a) H1))
theorem pi_enumS {X : Cx} {e : Expr} {ta : TA} {p pos tpos : Pos} {elts : List Expr} {kk : Nat} (hg : Gl X "enumerate") (hm : X.mg "enumerate" = none) (ha : PA X [e] ta) (hs : starEach [e] X.env = [(false, eval e X.env)] := by rfl) :
    PI X (.Tuple elts kk tpos) (.Call (.Name "enumerate" p) [e] [] pos) (iEnumS X.K ta) := by
  refine ⟨fun pins s σ H R I h => Call_ (ld_blt I hg hm boot_enumerate (PyProof.Rows.callWith_type1 (thn (ha.run pos pins s σ H _ I h) fun us s1 ⟨vs, H1, I1, r1, a, ex, q⟩ => ?_) hs rfl))⟩
  subst ex
  obtain ⟨u, rfl, r⟩ : ∃ u, us = [u] ∧ RelV (.ref a) u := by
    cases r1 with
    | cons r rr =>
      cases rr
      exact ⟨_, rfl, r⟩
  cases r
  have fresh : ∀ b ∈ [s1.heap.objs.size + 1, s1.heap.objs.size], s1.heap.objs.size ≤ b := fun b hb => by
    rcases List.mem_cons.mp hb with z | z
    · rw [z]; exact Nat.le_succ _
    · rw [List.mem_singleton.mp z]; exact Nat.le_refl _
  have fp : ∀ b ∈ [s1.heap.objs.size + 1, s1.heap.objs.size], FpOk X pins H1 b := fun b hb => I1.fpOk (fresh b hb) (I1.hok.fresh (fresh b hb))
  rcases q with ⟨⟨xs, hq⟩, q⟩ | ⟨⟨xs, hq⟩, q⟩
  · obtain ⟨its, _, pl, _⟩ := I1.list hq
    exact call_enumerate_list pl.isList fun h2 he hit _ hk => wpAny_pyIter_enum he ⟨_, _, _, _, H1, rfl, I1.kept (t' := s1.toks) hk, turn_enum a (s1.heap.objs.size + 1) s1.heap.objs.size, ⟨⟨.none, he⟩, hit, Nat.succ_ne_self _⟩, fp, q⟩
  · obtain ⟨its, _, pl, _⟩ := I1.tuple hq
    have la : a < s1.heap.objs.size := by
      obtain ⟨o, e, _⟩ := pl
      exact Heap.lt_size e
    exact enum_tuple pl fun h2 he hit hk => wpAny_pyIter_enum he ⟨_, _, _, _, H1, rfl, I1.kept (t' := s1.toks) hk, turn_enumT a (s1.heap.objs.size + 1) s1.heap.objs.size (Nat.ne_of_lt la) (Nat.ne_of_lt (Nat.lt_succ_of_lt la)), ⟨⟨.none, he⟩, hit, Nat.succ_ne_self _⟩, fp, q⟩
theorem for_enumL {K : PySem.W.Frag} {a : Addr} {xs : List V} {g : TG} {tb : TS} {D : Ends} {σ : Sto} {H : Hp} (Pv : Nat → Sto → Hp → Prop) (h0 : Pv 0 σ H) (hl : ∀ i σ H, i ≤ xs.length → Pv i σ H → SqL K H a xs)
    (hs : ∀ (i : Nat) x σ H T, xs[i]? = some x → Pv i σ H → H T = none → g (.ref T) σ (upd H T (.tup [.int (i : Int), x])) fun σ2 H2 => tb { D with nx := Pv (i + 1), ct := Pv (i + 1), bk := D.nx } σ2 H2) (hd : ∀ σ H, Pv xs.length σ H → D.nx σ H) :
    ∃ W : Nat → Nat → Sto → Hp → Prop, (∃ m, W 0 m σ H) ∧ ∀ i m σ H, W i m σ H →
      ((Ite K a).stop i H ∧ D.nx σ H) ∨ ((Ite K a).go i H ∧ ∃ N : Sto → Hp → Prop, (∀ σ' H', N σ' H' → ∃ m', m' < m ∧ W (i + 1) m' σ' H') ∧ ∀ x H', (Ite K a).yld i H x H' → g x σ H' fun σ2 H2 => tb { D with nx := N, ct := N, bk := D.nx } σ2 H2) := by
  refine ⟨fun i m σ H => m = xs.length - i ∧ i ≤ xs.length ∧ Pv i σ H, ⟨xs.length, by simp, Nat.zero_le _, h0⟩, ?_⟩
  rintro i m σ H ⟨rfl, hi, p⟩
  have q := hl i σ H hi p
  by_cases hlt : i < xs.length
  · refine .inr ⟨⟨xs, xs[i], q, by simp [hlt]⟩, Pv (i + 1), fun σ' H' p' => ⟨xs.length - (i + 1), by omega, rfl, hlt, p'⟩, fun x H' y => ?_⟩
    obtain ⟨T, z, rfl, hT, rfl, hz⟩ := y
    exact hs i z σ _ T (hz xs q) p hT
  · have e : i = xs.length := by omega
    subst e
    exact .inl ⟨⟨xs, q, Nat.le_refl _⟩, hd σ H p⟩
theorem for_enumT {K : PySem.W.Frag} {a : Addr} {xs : List V} {g : TG} {tb : TS} {D : Ends} {σ : Sto} {H : Hp} (Pv : Nat → Sto → Hp → Prop) (h0 : Pv 0 σ H) (hl : ∀ i σ H, i ≤ xs.length → Pv i σ H → SqT K H a xs)
    (hs : ∀ (i : Nat) x σ H T, xs[i]? = some x → Pv i σ H → H T = none → g (.ref T) σ (upd H T (.tup [.int (i : Int), x])) fun σ2 H2 => tb { D with nx := Pv (i + 1), ct := Pv (i + 1), bk := D.nx } σ2 H2) (hd : ∀ σ H, Pv xs.length σ H → D.nx σ H) :
    ∃ W : Nat → Nat → Sto → Hp → Prop, (∃ m, W 0 m σ H) ∧ ∀ i m σ H, W i m σ H →
      ((Iteu K a).stop i H ∧ D.nx σ H) ∨ ((Iteu K a).go i H ∧ ∃ N : Sto → Hp → Prop, (∀ σ' H', N σ' H' → ∃ m', m' < m ∧ W (i + 1) m' σ' H') ∧ ∀ x H', (Iteu K a).yld i H x H' → g x σ H' fun σ2 H2 => tb { D with nx := N, ct := N, bk := D.nx } σ2 H2) := by
  refine ⟨fun i m σ H => m = xs.length - i ∧ i ≤ xs.length ∧ Pv i σ H, ⟨xs.length, by simp, Nat.zero_le _, h0⟩, ?_⟩
  rintro i m σ H ⟨rfl, hi, p⟩
  have q := hl i σ H hi p
  by_cases hlt : i < xs.length
  · refine .inr ⟨⟨xs, xs[i], q, by simp [hlt]⟩, Pv (i + 1), fun σ' H' p' => ⟨xs.length - (i + 1), by omega, rfl, hlt, p'⟩, fun x H' y => ?_⟩
    obtain ⟨T, z, rfl, hT, rfl, hz⟩ := y
    exact hs i z σ _ T (hz xs q) p hT
  · have e : i = xs.length := by omega
    subst e
    exact .inl ⟨⟨xs, q, Nat.le_refl _⟩, hd σ H p⟩
end Fh
namespace Fh
open PySem PySem.Spec PyProof.Rows L2 He
/-! ### len(set(xs)), xs strings -/
def tLenSetS (K : PySem.W.Frag) (ta : TE) : TE := fun σ H Q => ta σ H fun x H1 => ∃ l, ∃ xs : List Str, x = .ref l ∧ (SqL K H1 l (xs.map V.str) ∨ SqT K H1 l (xs.map V.str)) ∧ xs.length ≤ 1000 ∧ Q (.int (metS xs).length) H1
theorem pe_lenSetS {X : Cx} {a : Expr} {ta : TE} {p p2 q pos : Pos} (hc : X.calm = true) (hg : Gl X "len") (hm : X.mg "len" = none) (hg2 : Gl X "set") (hm2 : X.mg "set" = none) (ha : PE X a ta)
    (na : starEach [a] X.env = (false, eval a X.env) :: starEach [] X.env := by rfl) : PE X (.Call (.Name "len" p) [.Call (.Name "set" p2) [a] [] q] [] pos) (tLenSetS X.K ta) := by
  refine ⟨fun pins s σ H Q I h => Call_ (ld_blt I hg hm boot_len (PyProof.Rows.callWith_builtin1 (PyProof.Rows.args_cons ?_ rfl) rfl rfl))⟩
  refine Call_ (ld_blt I hg2 hm2 boot_set (PyProof.Rows.callWith_type1 (PyProof.Rows.args_cons (thn (ha.run pins s σ H _ I h) fun v s1 ⟨x, H1, I1, r1, l, xs, ex, hq, h1, q1⟩ => PyProof.Rows.args_nil ?_) na) na rfl))
  subst ex
  cases r1
  have few : xs.length + 1 < scanBound := by unfold scanBound; omega
  have done : ∀ (h2 : Heap) (tk : Nat), h2.SetOf (PySem.strKind X.prog X.w) s1.heap.objs.size (fun k => (metS xs).any (· == k)) (metS xs).length → (∀ b o, b < s1.heap.objs.size → s1.heap.get? b = some o → h2.get? b = some o) →
      wpAny (model X.prog X.w) X.A (spliced (backTo pos (starEach [] X.env))) (fun vs s2 => wpAny (model X.prog X.w) X.A (call (.builtin "len") (Value.ref s1.heap.objs.size :: vs)) (EP X pins σ Q) X.xe s2) X.xe { s1 with heap := h2, toks := tk } := fun h2 tk hS hk => by
    have le := metS_le xs []
    have le2 : (metS xs).length ≤ 0 + xs.length := le
    obtain ⟨o, es, ep, t, ho, hex, hd, _, _, _, hf, hn⟩ := hS
    have I2 : Inv X pins σ H1 { s1 with heap := h2, toks := tk } := I1.kept fun b o e => hk b o (Heap.lt_size e) e
    exact PyProof.Rows.args_nil (call_len_set ho hex hd hf (by rw [hn] <;> omega) ⟨.int (metS xs).length, H1, I2.tok _, ⟨_, by rw [hn]⟩, q1⟩)
  rcases hq with hq | hq
  · obtain ⟨its, r, pl, _⟩ := I1.list hq
    exact set_of_list (I1.ok.hd hc) pl.isList (by simpa using strsAre_of r) few done
  · obtain ⟨its, r, pl, _⟩ := I1.tuple hq
    exact set_of_tuple (I1.ok.hd hc) pl (by simpa using strsAre_of r) few done
/-! ### x in a dict or a list -/
def rInN (K : PySem.W.Frag) : R2 := fun x y H Q => (∃ a o, y = .ref a ∧ DGet H a x o ∧ Q (.bl o.isSome) H) ∨ rIn K false x y H Q
theorem op_inN {X : Cx} {K : PySem.W.Frag} (hu : X.A.units + 1 < cLine) (hK : X.K = K := by rfl) : OpR X (compareOp .In) (rInN K) := by
  subst hK
  intro pins s σ H x y v u Q I rx ry h
  rcases h with ⟨a, o, rfl, g, q⟩ | h
  · obtain rfl : u = Value.ref a := ry
    exact d_in hu I g rx fun s3 I3 => ⟨.bl o.isSome, H, I3, rfl, q⟩
  · exact op_in_seq pins s σ H x y v u Q I rx ry h
/-! ### kinds of data -/
def tagD : PyData → String
  | .none => "NoneType"
  | .bool _ => "bool"
  | .int _ => "int"
  | .str _ => "str"
  | .list _ => "list"
  | .tuple _ => "tuple"
  | .dict _ => "dict"
theorem Dq.ty {K : PySem.W.Frag} {H : Hp} : ∀ {d : PyData} {v : V}, Dq H d v → TyX K H v (.type (tagD d))
  | .none, _, h => by simp only [Dq] at h; subst h; exact .base .non
  | .bool _, _, h => by simp only [Dq] at h; subst h; exact .base (.bl _)
  | .int _, _, h => by simp only [Dq] at h; subst h; exact .base (.int _)
  | .str _, _, h => by simp only [Dq] at h; subst h; exact .base (.str _)
  | .list _, _, h => by simp only [Dq] at h; obtain ⟨a, xs, rfl, _, e, _⟩ := h; exact .base (.lst e)
  | .tuple _, _, h => by simp only [Dq] at h; obtain ⟨a, xs, rfl, e, _⟩ := h; exact .base (.tup e)
  | .dict _, _, h => by
    simp only [Dq] at h
    obtain ⟨a, rfl, ⟨ps, e, _⟩ | ⟨ps, e, _⟩⟩ := h
    · exact .base (.dK e)
    · exact .base (.dT e)
theorem tag_mem (d : PyData) : tagD d ∈ ["NoneType", "bool", "int", "str", "list", "tuple", "dict"] := by
  cases d <;> simp [tagD]
theorem kit_str : ∀ t ∈ ["NoneType", "bool", "int", "str", "list", "tuple", "dict"], kitB t "str" = some (decide (t = "str")) := by decide +kernel
theorem kit_tup : ∀ t ∈ ["NoneType", "bool", "int", "str", "list", "tuple", "dict"], kitB t "tuple" = some (decide (t = "tuple")) := by decide +kernel
theorem kit_lst : ∀ t ∈ ["NoneType", "bool", "int", "str", "list", "tuple", "dict"], kitB t "list" = some (decide (t = "list")) := by decide +kernel
theorem kit_int : ∀ t ∈ ["NoneType", "bool", "int", "str", "list", "tuple", "dict"], kitB t "int" = some (decide (t = "int") || decide (t = "bool")) := by decide +kernel
theorem kit_bool : ∀ t ∈ ["NoneType", "bool", "int", "str", "list", "tuple", "dict"], kitB t "bool" = some (decide (t = "bool")) := by decide +kernel
/-! ### names -/
def letters : Str := "abcdefghijklmnopqrstuvwxyz"
def nameB (x : Str) : Bool := if x.length < 1 ∨ x.length > 8 then false else x.cps.toList.all fun c => decide (c ∈ letters.cps.toList)
def nameD : PyData → Bool
  | .str x => nameB x
  | _ => false
def integerD : PyData → Bool
  | .int _ => true
  | _ => false
def amongD (ns : List Str) : PyData → Bool
  | .str x => ns.contains x
  | _ => false
def StrLe (d : PyData) : Prop := ∀ x, d = .str x → x.length ≤ 100000
def spIsName : Sp := fun vs H Q _ => ∃ v d, vs = [v] ∧ Dq H d v ∧ StrLe d ∧ ∀ H', Same H H' → Q (.bl (nameD d)) H'
def spIsInt : Sp := fun vs H Q _ => ∃ v d, vs = [v] ∧ Dq H d v ∧ Q (.bl (integerD d)) H
/-- names: a list of strings, or a dict with such keys -/
def NamesAt (K : PySem.W.Frag) (H : Hp) (v : V) (ns : List Str) : Prop := ∃ a, v = .ref a ∧ (SqL K H a (ns.map V.str) ∨ ∃ kvs : List (Key × V), H a = some (.dK kvs) ∧ kvs.map (·.1) = ns.map Sum.inr)
def spAmong (K : PySem.W.Frag) : Sp := fun vs H Q _ => ∃ v u d ns, vs = [v, u] ∧ Dq H d v ∧ NamesAt K H u ns ∧ Q (.bl (amongD ns d)) H
theorem key_some {kvs : List (Key × V)} {ns : List Str} (h : kvs.map (·.1) = ns.map Sum.inr) (x : Str) : (valV kvs (Sum.inr x : Key)).isSome = ns.contains x := by
  have e : (valV kvs (Sum.inr x : Key)).isSome = kvs.any fun kv => decide (kv.1 = (Sum.inr x : Key)) := by
    unfold valV
    rw [Option.isSome_map, Bool.eq_iff_iff, List.find?_isSome, List.any_eq_true]
  rw [e, show (kvs.any fun kv => decide (kv.1 = (Sum.inr x : Key))) = (kvs.map (·.1)).any fun k => decide (k = (Sum.inr x : Key)) by rw [List.any_map]; rfl, h, List.any_map]
  rw [Bool.eq_iff_iff, List.any_eq_true, List.contains_iff_mem]
  constructor
  · rintro ⟨y, hy, ey⟩
    have ey' := of_decide_eq_true ey
    exact (Sum.inr.inj ey') ▸ hy
  · intro hx
    exact ⟨x, hx, decide_eq_true rfl⟩
/-- a comprehension over a string's signs -/
theorem lc_str {x : Str} {i : Nat} {te : TE} {σ : Sto} {H1 : Hp} {D : Addr} {Qd : Hp → Prop} (f : Nat → Bool) (hz : x.cps.size ≤ 100000) (hD : H1 D = none)
    (hel : ∀ c H (Q : VK), Same H1 H → Q (.bl (f c)) H → te ((wipe σ [i]).set i (some (.str ⟨#[c]⟩))) H Q) (hd : ∀ H, Same H1 H → H D = some (.lst ((x.cps.toList.map f).map V.bl)) → Qd H) :
    ∃ W : Nat → Nat → Hp → Prop, (∃ m, W 0 m (upd H1 D (.lst []))) ∧ ∀ j m H, W j m H → ((Its x).stop j H ∧ Qd H) ∨ ((Its x).go j H ∧ ∃ Nx : Hp → Prop, (∀ H', Nx H' → ∃ m', m' < m ∧ W (j + 1) m' H') ∧ ∀ y H', (Its x).yld j H y H' →
      gName i y (wipe σ [i]) H' fun σ2 H2 => wipe σ2 [i] = wipe σ [i] ∧ tYes σ2 H2 fun b H3 => if b = true then te σ2 H3 fun y H4 => ∃ acc, H4 D = some (.lst acc) ∧ acc.length < sizeLine ∧ Nx (upd H4 D (.lst (acc ++ [y]))) else Nx H3) := by
  have hlen : x.cps.toList.length = x.cps.size := Array.length_toList
  refine ⟨fun j m H => m = x.cps.size - j ∧ j ≤ x.cps.size ∧ Same H1 H ∧ H D = some (.lst (((x.cps.toList.take j).map f).map V.bl)), ⟨_, rfl, Nat.zero_le _, same_upd hD, upd_same⟩, ?_⟩
  rintro j m H ⟨rfl, hj, s, e⟩
  by_cases hlt : j < x.cps.size
  · refine .inr ⟨hlt, fun H' => Same H1 H' ∧ H' D = some (.lst (((x.cps.toList.take (j + 1)).map f).map V.bl)), fun H' ⟨s', e'⟩ => ⟨_, by omega, rfl, hlt, s', e'⟩, fun y H' hy => ?_⟩
    obtain ⟨rfl, c, hc, rfl⟩ := hy
    refine ⟨wipe_one σ i _, yes_cut (hel c _ _ s ?_)⟩
    refine ⟨_, e, ?_, same_updX s hD, ?_⟩
    · rw [List.length_map, List.length_map, List.length_take, sizeLine_eq]
      omega
    · rw [upd_same, List.take_add_one, Array.getElem?_toList, hc]
      simp
  · have ej : j = x.cps.size := by omega
    subst ej
    rw [← hlen, List.take_length] at e
    exact .inl ⟨Nat.le_refl _, hd H s e⟩
end Fh
namespace Fh
open PySem PySem.Spec PyProof.Rows L2 He
/-! ### flags of the items of a list or a tuple -/
theorem DqAll.len {H : Hp} : ∀ {ds : List PyData} {xs : List V}, DqAll H ds xs → xs.length = ds.length
  | [], xs, h => by
    have e : xs = [] := by simpa only [DqAll] using h
    rw [e]
    rfl
  | d :: ds, xs, h => by
    simp only [DqAll] at h
    obtain ⟨v, r, rfl, _, h2⟩ := h
    rw [List.length_cons, List.length_cons, DqAll.len h2]
theorem DqAll.get {H : Hp} : ∀ {ds : List PyData} {xs : List V} {i : Nat} {v : V}, DqAll H ds xs → xs[i]? = some v → ∃ d, ds[i]? = some d ∧ Dq H d v
  | [], xs, i, v, h, e => by
    have z : xs = [] := by simpa only [DqAll] using h
    rw [z] at e
    cases e
  | d :: ds, xs, i, v, h, e => by
    simp only [DqAll] at h
    obtain ⟨u, r, rfl, h1, h2⟩ := h
    cases i with
    | zero =>
      cases e
      exact ⟨d, rfl, h1⟩
    | succ i => exact DqAll.get (i := i) h2 e
theorem lt_flat {K : PySem.W.Frag} {a : Addr} {xs : List V} {i : Nat} {te : TE} {σ : Sto} {H1 : Hp} {D : Addr} {Qd : Hp → Prop} (ys : List V) (hn : ys.length = xs.length) (hz : xs.length ≤ 100000) (hS : SqT K H1 a xs) (hD : H1 D = none)
    (hel : ∀ (j : Nat) x y H (Q : VK), xs[j]? = some x → ys[j]? = some y → Same H1 H → (∀ H', Same H H' → Q y H') → te ((wipe σ [i]).set i (some x)) H Q)
    (hd : ∀ H, Same H1 H → H D = some (.lst ys) → Qd H) : LtGoal K a i tYes te σ H1 D Qd := by
  refine lc_tup (K := K) (a := a) (xs := xs) (fun j H => Same H1 H ∧ H D = some (.lst (ys.take j))) ⟨same_upd hD, upd_same⟩ (fun _ H _ h => sqT_up h.1 hS) ?_ ?_
  · rintro j x H hx ⟨s, hDl⟩
    have hj : j < xs.length := (List.getElem?_eq_some_iff.mp hx).1
    have hy : ys[j]? = some (ys[j]'(by omega)) := List.getElem?_eq_getElem (by omega)
    refine ⟨wipe_one σ i _, yes_cut (hel j x _ H _ hx hy s fun H' s' => ⟨ys.take j, s' _ _ hDl, ?_, same_updX (s.trans s') hD, ?_⟩)⟩
    · rw [List.length_take, sizeLine_eq]
      omega
    · rw [upd_same, List.take_add_one, hy]
      rfl
  · rintro H ⟨s, hDl⟩
    refine hd H s ?_
    rw [hDl, ← hn, List.take_length]
section
variable {K : PySem.W.Frag} {a : Addr} {xs : List V} {ds : List PyData} {i : Nat} {te : TE} {σ : Sto} {H1 : Hp} {D : Addr} {Qd : Hp → Prop}
theorem flag_at {f : PyData → Bool} {j : Nat} {x y : V} (hq : DqAll H1 ds xs) (hx : xs[j]? = some x) (hy : ((ds.map f).map V.bl)[j]? = some y) : ∃ d, d ∈ ds ∧ Dq H1 d x ∧ y = .bl (f d) := by
  obtain ⟨d, e, q⟩ := hq.get hx
  rw [List.getElem?_map, List.getElem?_map, e] at hy
  cases hy
  exact ⟨d, List.mem_of_getElem? e, q, rfl⟩
theorem lc_flags (f : PyData → Bool) (hq : DqAll H1 ds xs) (hz : xs.length ≤ 100000) (hS : SqL K H1 a xs) (hD : H1 D = none)
    (hel : ∀ x d H (Q : VK), d ∈ ds → Dq H d x → Same H1 H → (∀ H', Same H H' → Q (.bl (f d)) H') → te ((wipe σ [i]).set i (some x)) H Q)
    (hd : ∀ H, Same H1 H → H D = some (.lst ((ds.map f).map V.bl)) → Qd H) : LcGoal K a i te σ H1 D Qd := by
  refine lc_flat ((ds.map f).map V.bl) (by rw [List.length_map, List.length_map, hq.len]) hz hS hD (fun j x y H Q hx hy s q => ?_) hd
  obtain ⟨d, hm, q2, rfl⟩ := flag_at hq hx hy
  exact hel x d H Q hm (Dq.up s _ _ q2) s q
theorem lt_flags (f : PyData → Bool) (hq : DqAll H1 ds xs) (hz : xs.length ≤ 100000) (hS : SqT K H1 a xs) (hD : H1 D = none)
    (hel : ∀ x d H (Q : VK), d ∈ ds → Dq H d x → Same H1 H → (∀ H', Same H H' → Q (.bl (f d)) H') → te ((wipe σ [i]).set i (some x)) H Q)
    (hd : ∀ H, Same H1 H → H D = some (.lst ((ds.map f).map V.bl)) → Qd H) : LtGoal K a i tYes te σ H1 D Qd := by
  refine lt_flat ((ds.map f).map V.bl) (by rw [List.length_map, List.length_map, hq.len]) hz hS hD (fun j x y H Q hx hy s q => ?_) hd
  obtain ⟨d, hm, q2, rfl⟩ := flag_at hq hx hy
  exact hel x d H Q hm (Dq.up s _ _ q2) s q
end
/-! ### kinds, handles -/
theorem kit_seq {K : PySem.W.Frag} {t : String} (h : t ∈ ["NoneType", "bool", "int", "str", "list", "tuple", "dict"]) : PySem.W.kitAny K (.type t) [.type "list", .type "tuple"] = some (decide (t = "list") || decide (t = "tuple")) :=
  kitAny_cons (kit_ty (kit_lst t h)) (fun e => kitAny_cons (kit_ty (kit_tup t h)) (fun e2 => by rw [e, e2]; exact kitAny_nil) (fun e2 => by rw [e2, Bool.or_true])) (fun e => by rw [e, Bool.true_or])
/-- the items of a list or a tuple -/
def itemsD : PyData → Option (List PyData)
  | .list ds => some ds
  | .tuple ds => some ds
  | _ => none
def strsOf (ds : List PyData) : List Str := ds.filterMap fun d => match d with
  | .str x => some x
  | _ => none
def unlikeD (ds : List PyData) : Bool := decide (((metS (strsOf ds)).length : Int) = (ds.length : Int))
def isStrD : PyData → Bool
  | .str _ => true
  | _ => false
def allStr (ds : List PyData) : Bool := ds.all isStrD
theorem strs_all {H : Hp} : ∀ {ds : List PyData} {xs : List V}, DqAll H ds xs → allStr ds = true → xs = (strsOf ds).map V.str ∧ (strsOf ds).length = ds.length
  | [], xs, h, _ => by
    have z : xs = [] := by simpa only [DqAll] using h
    rw [z]
    exact ⟨rfl, rfl⟩
  | d :: ds, xs, h, e => by
    simp only [DqAll] at h
    obtain ⟨u, r, rfl, h1, h2⟩ := h
    have e2 : isStrD d = true ∧ allStr ds = true := by
      unfold allStr at e ⊢
      rw [List.all_cons, Bool.and_eq_true] at e
      exact e
    obtain ⟨i1, i2⟩ := strs_all h2 e2.2
    cases d with
    | str x =>
      simp only [Dq] at h1
      rw [h1, i1]
      exact ⟨rfl, congrArg (· + 1) i2⟩
    | _ => cases e2.1
/-- a list or tuple of data: at its place -/
theorem seq_at {K : PySem.W.Frag} {H : Hp} {d : PyData} {ds : List PyData} {v : V} (h : Dq H d v) (e : itemsD d = some ds) : ∃ a xs, v = .ref a ∧ DqAll H ds xs ∧ ((SqL K H a xs ∧ tagD d = "list") ∨ (SqT K H a xs ∧ tagD d = "tuple")) := by
  cases d with
  | list es =>
    cases e
    simp only [Dq] at h
    obtain ⟨a, xs, rfl, _, e, q⟩ := h
    exact ⟨a, xs, rfl, q, .inl ⟨SqL.of e, rfl⟩⟩
  | tuple es =>
    cases e
    simp only [Dq] at h
    obtain ⟨a, xs, rfl, e, q⟩ := h
    exact ⟨a, xs, rfl, q, .inr ⟨SqT.of e, rfl⟩⟩
  | _ => cases e
def kindsD (d : PyData) : Bool := match itemsD d with
  | some ds => !ds.isEmpty && (ds.all nameD && unlikeD ds)
  | none => false
def handlesD (ns : List Str) (d : PyData) : Bool := match itemsD d with
  | some ds => ds.all (amongD ns) && unlikeD ds
  | none => false
def SeqLe (d : PyData) : Prop := ∀ ds, itemsD d = some ds → ds.length ≤ 1000 ∧ ∀ e ∈ ds, StrLe e
def spKinds : Sp := fun vs H Q _ => ∃ v d, vs = [v] ∧ Dq H d v ∧ SeqLe d ∧ ∀ H', Same H H' → Q (.bl (kindsD d)) H'
def spHandles (K : PySem.W.Frag) : Sp := fun vs H Q _ => ∃ v u d ns, vs = [v, u] ∧ Dq H d v ∧ SeqLe d ∧ NamesAt K H u ns ∧ ∀ H', Same H H' → Q (.bl (handlesD ns d)) H'
theorem names_str {ds : List PyData} (h : ds.all nameD = true) : allStr ds = true := by
  unfold allStr
  rw [List.all_eq_true] at h ⊢
  intro d hd
  have := h d hd
  cases d <;> first | rfl | cases this
theorem among_str {ns : List Str} {ds : List PyData} (h : ds.all (amongD ns) = true) : allStr ds = true := by
  unfold allStr
  rw [List.all_eq_true] at h ⊢
  intro d hd
  have := h d hd
  cases d <;> first | rfl | cases this
theorem NamesAt.up {K : PySem.W.Frag} {H H' : Hp} {v : V} {ns : List Str} (s : Same H H') (h : NamesAt K H v ns) : NamesAt K H' v ns := by
  obtain ⟨a, e, h | ⟨kvs, h, k⟩⟩ := h
  · exact ⟨a, e, .inl (s.seq h)⟩
  · exact ⟨a, e, .inr ⟨kvs, s _ _ h, k⟩⟩
theorem tag_items (d : PyData) : (decide (tagD d = "list") || decide (tagD d = "tuple")) = (itemsD d).isSome := by
  cases d <;> simp [tagD, itemsD]
theorem unlike_eq {ds : List PyData} : decide (V.int ((metS (strsOf ds)).length : Int) = V.int (ds.length : Int)) = unlikeD ds := by
  rw [dec_int]
  unfold unlikeD
  rw [Bool.eq_iff_iff, beq_iff_eq, decide_eq_true_eq]
theorem all_flags {α : Type} (f : α → Bool) : ∀ ds : List α, (ds.map f).all id = ds.all f
  | [] => rfl
  | d :: ds => by rw [List.map_cons, List.all_cons, List.all_cons, all_flags f ds]; rfl
/-! ### a rule -/
def outD (ns : List Str) : PyData → Bool
  | .tuple ds => ds.all (amongD ns)
  | _ => false
def ruleD (ns : List Str) : PyData → Bool
  | .tuple [n, k, o, c] => if (!nameD n || (!amongD ns k || !integerD c)) = true then false else outD ns o
  | _ => false
def RuleLe (d : PyData) : Prop := ∀ ds, d = .tuple ds → ds.length ≤ 1000 ∧ ∀ e ∈ ds, StrLe e ∧ ∀ es, e = .tuple es → es.length ≤ 1000
def spIsRule (K : PySem.W.Frag) : Sp := fun vs H Q _ => ∃ v u d ns, vs = [v, u] ∧ Dq H d v ∧ RuleLe d ∧ NamesAt K H u ns ∧ ∀ H', Same H H' → Q (.bl (ruleD ns d)) H'
theorem rule_no {ns : List Str} {ds : List PyData} (h : ds.length ≠ 4) : ruleD ns (.tuple ds) = false := by
  unfold ruleD
  split
  · rename_i e
    cases e
    exact absurd rfl h
  · rfl
theorem four {α : Type} {ds : List α} (h : ds.length = 4) : ∃ n k o c, ds = [n, k, o, c] := by
  match ds, h with
  | [n, k, o, c], _ => exact ⟨n, k, o, c, rfl⟩
/-! ### good rules, put under their names -/
def nameOf : PyData → Str
  | .tuple (.str x :: _) => x
  | _ => ""
/-- a list or a tuple of data -/
def SeqAt (K : PySem.W.Frag) (H : Hp) (a : Addr) (xs : List V) : Prop := (SqL K H a xs ∧ TyX K H (.ref a) (.type "list")) ∨ (SqT K H a xs ∧ TyX K H (.ref a) (.type "tuple"))
def spGood (K : PySem.W.Frag) : Sp := fun vs H Q _ => ∃ a xs ds u ns, vs = [.ref a, u] ∧ (∀ H', Same H H' → SeqAt K H' a xs) ∧ DqAll H ds xs ∧ NamesAt K H u ns ∧ ds.length ≤ 1000 ∧ (∀ e ∈ ds, RuleLe e ∧ ruleD ns e = true) ∧ (ds.map nameOf).Nodup ∧
  ∀ p kvs H', Same H H' → H p = none → H' p = some (.dK kvs) → kvs.map (·.1) = (ds.map nameOf).map Sum.inr → kvs.map (·.2) = xs → Q (.ref p) H'
theorem rule_shape {ns : List Str} {d : PyData} (h : ruleD ns d = true) : ∃ x k o c, d = .tuple [.str x, k, o, c] := by
  unfold ruleD at h
  split at h
  · rename_i n k o c
    cases n with
    | str x => exact ⟨x, k, o, c, rfl⟩
    | _ => cases h
  · cases h
theorem seq_kit {K : PySem.W.Frag} {H : Hp} {a : Addr} {xs : List V} (h : SeqAt K H a xs) : ∃ t, TyX K H (.ref a) t ∧ PySem.W.kitAny K t [.type "list", .type "tuple"] = some true := by
  rcases h with h | h
  · exact ⟨_, h.2, kit_seq (t := "list") (by decide)⟩
  · exact ⟨_, h.2, kit_seq (t := "tuple") (by decide)⟩
theorem new_key {ds : List PyData} {i : Nat} {e : PyData} (hnd : (ds.map nameOf).Nodup) (he : ds[i]? = some e) : ((ds.take i).map nameOf).contains (nameOf e) = false := by
  cases h : ((ds.take i).map nameOf).contains (nameOf e) with
  | false => rfl
  | true =>
    have hm := List.contains_iff_mem.mp h
    have hi : i < ds.length := (List.getElem?_eq_some_iff.mp he).1
    have h4 : ds[i] = e := (List.getElem?_eq_some_iff.mp he).2
    have e2 : ds = ds.take i ++ (e :: ds.drop (i + 1)) := by rw [← h4, ← List.drop_eq_getElem_cons hi, List.take_append_drop]
    rw [e2, List.map_append, List.map_cons] at hnd
    exact absurd rfl ((List.nodup_append.mp hnd).2.2 _ hm _ List.mem_cons_self)
end Fh
namespace Fh
open PySem PySem.Spec PyProof.Rows L2 He
/-! ### {k: True for k in strings} -/
def marks (ns : List Str) : List (Key × V) := ns.map fun x => (Sum.inr x, V.bl true)
theorem marks_keys (ns : List Str) : (marks ns).map (·.1) = ns.map Sum.inr := by
  unfold marks
  rw [List.map_map]
  rfl
theorem marks_put {ns : List Str} {i : Nat} {x : Str} (hn : ns.Nodup) (hx : ns[i]? = some x) : putK (marks (ns.take i)) (Sum.inr x : Key) (.bl true) = marks (ns.take (i + 1)) := by
  have hno : (valV (marks (ns.take i)) (Sum.inr x : Key)).isSome = false := by
    rw [key_some (marks_keys _)]
    cases h : (ns.take i).contains x with
    | false => rfl
    | true =>
      have hm := List.contains_iff_mem.mp h
      have hi : i < ns.length := (List.getElem?_eq_some_iff.mp hx).1
      have h4 : ns[i] = x := (List.getElem?_eq_some_iff.mp hx).2
      have e2 : ns = ns.take i ++ (x :: ns.drop (i + 1)) := by rw [← h4, ← List.drop_eq_getElem_cons hi, List.take_append_drop]
      rw [e2] at hn
      exact absurd rfl ((List.nodup_append.mp hn).2.2 _ hm _ List.mem_cons_self)
  have hnone : valV (marks (ns.take i)) (Sum.inr x : Key) = none := by
    cases q : valV (marks (ns.take i)) (Sum.inr x : Key) with
    | none => rfl
    | some _ => rw [q] at hno; cases hno
  rw [putK_new _ hnone, List.take_add_one, hx]
  unfold marks
  rw [List.map_append]
  rfl
section
variable {K : PySem.W.Frag} {a : Addr} {ns : List Str} {i : Nat} {σ : Sto} {H1 : Hp} {D : Addr} {Qd : Hp → Prop}
theorem marks_step (hi : i < σ.length) (hn : ns.Nodup) (hz : ns.length ≤ 1000) (hD : H1 D = none) {j : Nat} {x : V} {H : Hp} (hx : (ns.map V.str)[j]? = some x) (h : Same H1 H ∧ H D = some (.dK (marks (ns.take j)))) :
    gName i x (wipe σ [i]) H fun σ2 H2 => wipe σ2 [i] = wipe σ [i] ∧ tYes σ2 H2 fun b H3 =>
      if b = true then tVar i σ2 H3 fun y H4 => tC (.bl true) σ2 H4 fun z H5 => ∃ kvs k, y = kV k ∧ H5 D = some (.dK kvs) ∧ kvs.length < sizeLine ∧ (Same H1 (upd H5 D (.dK (putK kvs k z))) ∧ (upd H5 D (.dK (putK kvs k z))) D = some (.dK (marks (ns.take (j + 1))))) else (Same H1 H3 ∧ H3 D = some (.dK (marks (ns.take (j + 1))))) := by
  rw [List.getElem?_map] at hx
  cases e : ns[j]? with
  | none => rw [e] at hx; cases hx
  | some s =>
    rw [e] at hx
    cases hx
    have hki : ((wipe σ [i]).set i (some (V.str s)))[i]? = some (some (V.str s)) := by
      rw [List.getElem?_set_self]
      show i < (σ.set i none).length
      rw [List.length_set]
      exact hi
    have hj : j < ns.length := (List.getElem?_eq_some_iff.mp e).1
    refine ⟨wipe_one σ i _, yes_cut ⟨_, hki, _, (Sum.inr s : Key), rfl, h.2, ?_, same_updX h.1 hD, ?_⟩⟩
    · unfold marks
      rw [List.length_map, List.length_take, sizeLine_eq]
      omega
    · rw [upd_same, marks_put hn e]
theorem dc_marksT (hi : i < σ.length) (hn : ns.Nodup) (hz : ns.length ≤ 1000) (hS : SqT K H1 a (ns.map V.str)) (hD : H1 D = none) (hd : ∀ H, Same H1 H → H D = some (.dK (marks ns)) → Qd H) :
    ∃ W : Nat → Nat → Hp → Prop, (∃ m, W 0 m (upd H1 D (.dK []))) ∧ ∀ j m H, W j m H → ((Itt K a).stop j H ∧ Qd H) ∨ ((Itt K a).go j H ∧ ∃ Nx : Hp → Prop, (∀ H', Nx H' → ∃ m', m' < m ∧ W (j + 1) m' H') ∧ ∀ x H', (Itt K a).yld j H x H' →
      gName i x (wipe σ [i]) H' fun σ2 H2 => wipe σ2 [i] = wipe σ [i] ∧ tYes σ2 H2 fun b H3 => if b = true then tVar i σ2 H3 fun y H4 => tC (.bl true) σ2 H4 fun z H5 => ∃ kvs k, y = kV k ∧ H5 D = some (.dK kvs) ∧ kvs.length < sizeLine ∧ Nx (upd H5 D (.dK (putK kvs k z))) else Nx H3) := by
  refine dc_tup (K := K) (a := a) (xs := ns.map V.str) (fun j H => Same H1 H ∧ H D = some (.dK (marks (ns.take j)))) ⟨same_upd hD, upd_same⟩ (fun _ H _ h => sqT_up h.1 hS) (fun j x H hx h => marks_step hi hn hz hD hx h) fun H h => ?_
  rw [List.length_map, List.take_length] at h
  exact hd H h.1 h.2
theorem dc_marksL (hi : i < σ.length) (hn : ns.Nodup) (hz : ns.length ≤ 1000) (hS : SqL K H1 a (ns.map V.str)) (hD : H1 D = none) (hd : ∀ H, Same H1 H → H D = some (.dK (marks ns)) → Qd H) :
    ∃ W : Nat → Nat → Hp → Prop, (∃ m, W 0 m (upd H1 D (.dK []))) ∧ ∀ j m H, W j m H → ((Itl K a).stop j H ∧ Qd H) ∨ ((Itl K a).go j H ∧ ∃ Nx : Hp → Prop, (∀ H', Nx H' → ∃ m', m' < m ∧ W (j + 1) m' H') ∧ ∀ x H', (Itl K a).yld j H x H' →
      gName i x (wipe σ [i]) H' fun σ2 H2 => wipe σ2 [i] = wipe σ [i] ∧ tYes σ2 H2 fun b H3 => if b = true then tVar i σ2 H3 fun y H4 => tC (.bl true) σ2 H4 fun z H5 => ∃ kvs k, y = kV k ∧ H5 D = some (.dK kvs) ∧ kvs.length < sizeLine ∧ Nx (upd H5 D (.dK (putK kvs k z))) else Nx H3) := by
  have hlen : (ns.map V.str).length = ns.length := List.length_map _
  refine ⟨fun j m H => m = ns.length - j ∧ j ≤ ns.length ∧ Same H1 H ∧ H D = some (.dK (marks (ns.take j))), ⟨_, rfl, Nat.zero_le _, same_upd hD, upd_same⟩, ?_⟩
  rintro j m H ⟨rfl, hj, h⟩
  by_cases hlt : j < ns.length
  · refine .inr ⟨⟨_, _, h.1.seq hS, List.getElem?_eq_getElem (by omega)⟩, fun H' => Same H1 H' ∧ H' D = some (.dK (marks (ns.take (j + 1)))), fun H' q => ⟨_, by omega, rfl, hlt, q⟩, fun x H' y => ?_⟩
    obtain ⟨e, y⟩ := y
    subst e
    exact marks_step hi hn hz hD (y _ (h.1.seq hS)) h
  · have e : j = ns.length := by omega
    subst e
    rw [List.take_length] at h
    exact .inl ⟨⟨_, h.1.seq hS, Nat.le_of_eq hlen⟩, hd H h.1 h.2⟩
end
end Fh
namespace Fh
open PySem PySem.Spec PyProof.Rows L2 He
/-! ### books: what is handed in -/
def ruleData (r : RuleD) : PyData := .tuple [.str r.name, .str r.kind, .tuple (r.out.map .str), .int r.change]
theorem dq_strs {H : Hp} : ∀ xs : List Str, DqAll H (xs.map .str) (xs.map V.str)
  | [] => by simp only [List.map_nil, DqAll]
  | x :: xs => by
    simp only [List.map_cons, DqAll]
    exact ⟨_, _, rfl, by simp only [Dq], dq_strs xs⟩
theorem RuleAt.dq {H : Hp} {v : V} {r : RuleD} (h : RuleAt H v r) : Dq H (ruleData r) v := by
  obtain ⟨a, b, rfl, h1, h2⟩ := h
  unfold ruleData
  simp only [Dq, DqAll]
  exact ⟨a, _, rfl, h1, _, _, rfl, rfl, _, _, rfl, rfl, _, _, rfl, ⟨b, _, rfl, h2, dq_strs _⟩, _, _, rfl, rfl, rfl⟩
theorem Rules.dq {H : Hp} : ∀ {vs : List V} {rs : List RuleD}, Rules H vs rs → DqAll H (rs.map ruleData) vs
  | [], rs, h => by
    have e : rs = [] := h
    rw [e]
    simp only [List.map_nil, DqAll]
  | v :: vs, _, ⟨r, t, e, h1, h2⟩ => by
    rw [e]
    simp only [List.map_cons, DqAll]
    exact ⟨_, _, rfl, h1.dq, Rules.dq h2⟩
/-- a list or a tuple of these -/
def SeqO (H : Hp) (a : Addr) (xs : List V) : Prop := (a ≠ sysModules ∧ H a = some (.lst xs)) ∨ H a = some (.tup xs)
theorem SeqO.dq {H : Hp} {a : Addr} {xs : List V} {ds : List PyData} (h : SeqO H a xs) (q : DqAll H ds xs) : ∃ d, Dq H d (.ref a) ∧ itemsD d = some ds := by
  rcases h with ⟨n, e⟩ | e
  · exact ⟨.list ds, by simp only [Dq]; exact ⟨a, xs, rfl, n, e, q⟩, rfl⟩
  · exact ⟨.tuple ds, by simp only [Dq]; exact ⟨a, xs, rfl, e, q⟩, rfl⟩
theorem SeqO.at_ {K : PySem.W.Frag} {H : Hp} {a : Addr} {xs : List V} (h : SeqO H a xs) : SeqAt K H a xs := by
  rcases h with ⟨n, e⟩ | e
  · exact .inl ⟨SqL.of e, .base (.lst e)⟩
  · exact .inr ⟨SqT.of e, .base (.tup e)⟩
theorem SeqO.up {H H' : Hp} {a : Addr} {xs : List V} (s : Same H H') (h : SeqO H a xs) : SeqO H' a xs := by
  rcases h with ⟨n, e⟩ | e
  · exact .inl ⟨n, s _ _ e⟩
  · exact .inr (s _ _ e)
/-- all but what stands at p -/
def But (p : Addr) (H H' : Hp) : Prop := ∀ b o, b ≠ p → H b = some o → H' b = some o
theorem But.same {p : Addr} {H H' : Hp} (s : Same H H') : But p H H' := fun b o _ e => s b o e
theorem But.trans {p : Addr} {H H' H'' : Hp} (s : But p H H') (r : But p H' H'') : But p H H'' := fun b o n e => r b o n (s b o n e)
theorem But.upd {p : Addr} {H H' : Hp} {o : HO} (s : But p H H') : But p H (upd H' p o) := fun b u n e => by
  rw [upd_ne n]
  exact s b u n e
theorem SeqO.but {p C dx : Addr} {fs : List (Str × V)} {H H' : Hp} {a : Addr} {xs : List V} (hp : H p = some (.ins C dx fs)) (s : But p H H') (h : SeqO H a xs) : SeqO H' a xs := by
  rcases h with ⟨n, e⟩ | e
  · exact .inl ⟨n, s _ _ (fun z => by rw [z, hp] at e; cases e) e⟩
  · exact .inr (s _ _ (fun z => by rw [z, hp] at e; cases e) e)
theorem But.tups {p C dx : Addr} {fs : List (Str × V)} {H H' : Hp} (hp : H p = some (.ins C dx fs)) (s : But p H H') : Tups H H' := fun b xs e => s b _ (fun z => by rw [z, hp] at e; cases e) e
/-- what makes a book -/
structure BookOk (ks hs : List Str) (rs : List RuleD) (st : Str) : Prop where
  names : ∀ x ∈ ks, nameB x = true
  nodup : ks.Nodup
  ne : ks ≠ []
  few : ks.length ≤ 1000
  hnodup : hs.Nodup
  hsub : ∀ x ∈ hs, x ∈ ks
  rnames : (rs.map (·.name)).Nodup
  rgood : ∀ r ∈ rs, nameB r.name = true ∧ r.kind ∈ ks ∧ (∀ x ∈ r.out, x ∈ ks) ∧ r.out.length ≤ 1000
  rfew : rs.length ≤ 1000
  start : st ∈ ks
theorem name_le {x : Str} (h : nameB x = true) : x.length ≤ 100000 := by
  unfold nameB at h
  split at h
  · cases h
  · omega
theorem strsOf_map : ∀ xs : List Str, strsOf (xs.map PyData.str) = xs
  | [] => rfl
  | x :: xs => congrArg (x :: ·) (strsOf_map xs)
theorem unlike_nodup {xs : List Str} (h : xs.Nodup) : unlikeD (xs.map .str) = true := by
  unfold unlikeD
  rw [strsOf_map]
  have e : metS xs = xs := metS_nodup (ms := []) h
  rw [e, List.length_map]
  exact decide_eq_true rfl
theorem BookOk.kinds {ks hs : List Str} {rs : List RuleD} {st : Str} (b : BookOk ks hs rs st) {d : PyData} (h : itemsD d = some (ks.map .str)) : kindsD d = true ∧ SeqLe d := by
  refine ⟨?_, fun ds e => ?_⟩
  · unfold kindsD
    rw [h]
    have h1 : (ks.map PyData.str).isEmpty = false := by
      cases q : ks with
      | nil => exact absurd q b.ne
      | cons _ _ => rfl
    have h2 : (ks.map PyData.str).all nameD = true := by
      rw [List.all_map, List.all_eq_true]
      exact b.names
    show (!(ks.map PyData.str).isEmpty && ((ks.map PyData.str).all nameD && unlikeD (ks.map .str))) = true
    rw [h1, h2, unlike_nodup b.nodup]
    rfl
  · rw [h] at e
    cases e
    refine ⟨by rw [List.length_map]; exact b.few, fun e he x ex => ?_⟩
    obtain ⟨y, hy, rfl⟩ := List.mem_map.mp he
    cases ex
    exact name_le (b.names _ hy)
theorem BookOk.handles {ks hs : List Str} {rs : List RuleD} {st : Str} (b : BookOk ks hs rs st) {d : PyData} (h : itemsD d = some (hs.map .str)) : handlesD ks d = true ∧ SeqLe d := by
  refine ⟨?_, fun ds e => ?_⟩
  · unfold handlesD
    rw [h]
    have h2 : (hs.map PyData.str).all (amongD ks) = true := by
      rw [List.all_map, List.all_eq_true]
      exact fun x hx => List.contains_iff_mem.mpr (b.hsub x hx)
    show ((hs.map PyData.str).all (amongD ks) && unlikeD (hs.map .str)) = true
    rw [h2, unlike_nodup b.hnodup]
    rfl
  · rw [h] at e
    cases e
    refine ⟨by rw [List.length_map]; exact Nat.le_trans (nodup_len b.hnodup b.hsub) b.few, fun e he x ex => ?_⟩
    obtain ⟨y, hy, rfl⟩ := List.mem_map.mp he
    cases ex
    exact name_le (b.names _ (b.hsub _ hy))
theorem BookOk.rule {ks hs : List Str} {rs : List RuleD} {st : Str} (b : BookOk ks hs rs st) : ∀ e ∈ rs.map ruleData, RuleLe e ∧ ruleD ks e = true := by
  intro e he
  obtain ⟨r, hr, rfl⟩ := List.mem_map.mp he
  obtain ⟨h1, h2, h3, h4⟩ := b.rgood r hr
  refine ⟨fun ds ed => ?_, ?_⟩
  · unfold ruleData at ed
    cases ed
    refine ⟨by show 4 ≤ 1000; decide, fun e he => ?_⟩
    simp only [List.mem_cons, List.not_mem_nil, or_false] at he
    rcases he with rfl | rfl | rfl | rfl
    · exact ⟨fun x ex => by cases ex; exact name_le h1, fun es ee => by cases ee⟩
    · exact ⟨fun x ex => by cases ex; exact name_le (b.names _ h2), fun es ee => by cases ee⟩
    · exact ⟨fun x ex => (by cases ex), fun es ee => by cases ee; rw [List.length_map]; exact h4⟩
    · exact ⟨fun x ex => (by cases ex), fun es ee => by cases ee⟩
  · have e1 : nameD (.str r.name) = true := h1
    have e2 : amongD ks (.str r.kind) = true := List.contains_iff_mem.mpr h2
    have e3 : outD ks (.tuple (r.out.map .str)) = true := by
      show (r.out.map PyData.str).all (amongD ks) = true
      rw [List.all_map, List.all_eq_true]
      exact fun x hx => List.contains_iff_mem.mpr (h3 x hx)
    show (if (!nameD (.str r.name) || (!amongD ks (.str r.kind) || !integerD (.int r.change))) = true then false else outD ks (.tuple (r.out.map .str))) = true
    rw [e1, e2, e3]
    rfl
theorem name_data (rs : List RuleD) : (rs.map ruleData).map nameOf = rs.map (·.name) := by
  rw [List.map_map]
  rfl
def bookF (dk dh dr : Addr) (st : Str) (c : Int) : List (Str × V) := [("_kinds", .ref dk), ("_handles", .ref dh), ("_rules", .ref dr), ("_start", .str st), ("_amount", .int c)]
/-- a book stands at p -/
structure BookAt (C : Addr) (H : Hp) (p : Addr) (ks hs : List Str) (rs : List RuleD) (st : Str) (c : Int) : Prop where
  ex : ∃ dx dk dh dr kvs vs, H p = some (.ins C dx (bookF dk dh dr st c)) ∧ H dk = some (.dK (marks ks)) ∧ H dh = some (.dK (marks hs)) ∧ H dr = some (.dK kvs) ∧ kvs.map (·.1) = (rs.map (·.name)).map Sum.inr ∧ kvs.map (·.2) = vs ∧ Rules H vs rs
def spBook (C : Addr) : Sp := fun vs H Q _ => ∃ p dx ka ha ra ks hs us rs st c, vs = [.ref p, .ref ka, .ref ha, .ref ra, .str st, .int c] ∧ H p = some (.ins C dx []) ∧ SeqO H ka (ks.map V.str) ∧ SeqO H ha (hs.map V.str) ∧ SeqO H ra us ∧ Rules H us rs ∧ BookOk ks hs rs st ∧
  ∀ H', But p H H' → BookAt C H' p ks hs rs st c → Q .non H'
/-! ### a book's fields, one after another -/
theorem put_ne {k f : Str} {v w : V} {r : List (Str × V)} (h : ¬ k = f) : putF f v ((k, w) :: r) = (k, w) :: putF f v r := by
  show (if k = f then _ else _) = _
  rw [if_neg h]
theorem look_self {k : Str} {w : V} {r : List (Str × V)} : ((k, w) :: r).lookup k = some w := by
  rw [List.lookup_cons, beq_self_eq_true]
theorem look_ne {k m : Str} {w : V} {r : List (Str × V)} (h : ¬ m = k) : ((k, w) :: r).lookup m = r.lookup m := by
  rw [List.lookup_cons, beq_eq_false_iff_ne.mpr h]
theorem put2 (a b : V) : putF "_handles" b [("_kinds", a)] = (([("_kinds", a), ("_handles", b)] : List (Str × V))) := by
  rw [put_ne (by decide +kernel)]
  rfl
theorem put3 (a b c : V) : putF "_rules" c [("_kinds", a), ("_handles", b)] = (([("_kinds", a), ("_handles", b), ("_rules", c)] : List (Str × V))) := by
  rw [put_ne (by decide +kernel), put_ne (by decide +kernel)]
  rfl
theorem put4 (a b c d : V) : putF "_start" d [("_kinds", a), ("_handles", b), ("_rules", c)] = (([("_kinds", a), ("_handles", b), ("_rules", c), ("_start", d)] : List (Str × V))) := by
  rw [put_ne (by decide +kernel), put_ne (by decide +kernel), put_ne (by decide +kernel)]
  rfl
theorem put5 (a b c d e : V) : putF "_amount" e [("_kinds", a), ("_handles", b), ("_rules", c), ("_start", d)] = (([("_kinds", a), ("_handles", b), ("_rules", c), ("_start", d), ("_amount", e)] : List (Str × V))) := by
  rw [put_ne (by decide +kernel), put_ne (by decide +kernel), put_ne (by decide +kernel), put_ne (by decide +kernel)]
  rfl
/-- a plan is made into a book -/
def spMade (C : Addr) : Sp := fun vs H Q _ => ∃ pl q ks hs rs st c, vs = [.ref pl] ∧ PlanAt H pl q ks hs rs ∧ q.s = .str st ∧ q.c = .int c ∧ q.ka ≠ sysModules ∧ q.ha ≠ sysModules ∧ q.ra ≠ sysModules ∧ BookOk ks hs rs st ∧
  ∀ x H', Same H H' → H x = none → BookAt C H' x ks hs rs st c → Q (.ref x) H'
theorem new_ins {H : Hp} {x dx C : Addr} (h1 : H x = none) (h2 : H dx = none) : Same H (upd (upd H dx (.own x)) x (.ins C dx [])) := fun b o e => by
  rw [upd_ne (ne_of_none e h1), upd_ne (ne_of_none e h2)]
  exact e
theorem But.old {H H0 H' : Hp} {x : Addr} (s : Same H H0) (h : H x = none) (b : But x H0 H') : Same H H' := fun a o e => b a o (fun z => by rw [z, h] at e; cases e) (s a o e)
end Fh
namespace Fh
open PySem PySem.Spec PyProof.Rows L2 He
/-! ### list(d.values()) -/
def tListVals (te : TE) : TE := fun σ H Q => te σ H fun x H1 => ∃ (d : Addr) (kvs : List (Key × V)), x = .ref d ∧ H1 d = some (.dK kvs) ∧ ∀ q, H1 q = none → Q (.ref q) (upd H1 q (.lst (kvs.map (·.2))))
theorem kv_vals {kvs : List (Key × V)} {vs : List (Key × Value)} (h : KV kvs vs) : Vals (kvs.map (·.2)) (vs.map (·.2)) := by
  unfold KV at h
  induction h with
  | nil => exact .nil
  | cons r t ih => exact .cons r.2 ih
theorem pe_listVals {X : Cx} {e : Expr} {te : TE} {p apos cpos pos : Pos} (hc : X.calm = true) (hg : Gl X "list") (hm : X.mg "list" = none) (he : PE X e te) (hbase : attributeBase e "values" X.env (eval e X.env) = eval e X.env := by rfl) (hline : (apos.endLine == cpos.line) = true := by rfl)
    (na : starEach [.Call (.Attribute e "values" apos) [] [] cpos] X.env = (false, eval (.Call (.Attribute e "values" apos) [] [] cpos) X.env) :: starEach [] X.env := by rfl) :
    PE X (.Call (.Name "list" p) [.Call (.Attribute e "values" apos) [] [] cpos] [] pos) (tListVals te) := by
  refine ⟨fun pins s σ H Q I h => Call_ (ld_blt I hg hm (show bootBuiltins "list" = some (.type "list") by decide +kernel) (PyProof.Rows.callWith_type1 (PyProof.Rows.args_cons ?_ na) na rfl))⟩
  refine wpAny_Call_method (T := "dict") (id := "dict.values") hbase rfl hline F.plainAttrs_dict F.slot_dict_values F.type_dict_values (thn (he.run pins s σ H _ I h) fun u s1 ⟨x, H1, I1, rx, d, kvs, ex, hd, q⟩ => ?_)
  subst ex
  obtain rfl : u = Value.ref d := rx
  obtain ⟨hz, lo, vs, kv, hdo⟩ := I1.hok d _ hd
  obtain ⟨ep, hat⟩ := hdo.dictAt
  have lk : kvs.length = vs.length := Paired.length kv
  have I2 : Inv X pins σ H1 { s1 with heap := s1.heap.push { cls := .type "dict_values", data := .fields #[.ref d] } } := I1.kept (t' := s1.toks) fun b o q => Heap.get?_push_of_some _ q
  refine ⟨hdo.typeIs, hdo.mapOf.noDict, (?_ : wpAny _ _ (callWith cpos (.builtin "dict.values") [.ref d] [] []) _ X.xe s1)⟩
  refine method_meetsIn F.slot_dict_values F.entry_dict_values rfl (PySem.evalArgs_none ⟨rfl, hdo.typeIs, F.args_dict_values_1 _, _, meets_dict_values (mixKind X.prog X.w) d lo, ⟨vs, hdo⟩, PyProof.Rows.args_nil ?_⟩)
  refine PySem.W.kdl_call (PySem.W.kdl_values (knd := mixKind X.prog X.w) (kvs := vs) (ep := ep)) (I1.ok.hd hc) ⟨⟨_, Heap.get?_push_size _ rfl, rfl, rfl⟩, hat.push _⟩ (by rw [← lk]; exact hz) fun h2 tk acc c hkeep hS hacc => ?_
  have eacc : acc.toList = vs.map (·.2) := PySem.W.kdl_vals_eq _ (by rw [Array.length_toList]; exact hacc.1) fun j v e => hacc.2 j v (by rw [← Array.getElem?_toList]; exact e)
  refine ⟨.ref _, _, I2.laid (o := .lst (kvs.map (·.2))) hkeep (Nat.le_refl _) ⟨by rw [List.length_map]; exact hz, acc.toList, c, by rw [eacc]; exact kv_vals kv, by simpa using hS⟩, rfl, q _ (I2.hok.fresh (Nat.le_refl _))⟩
/-! ### what a book tells -/
def spBKinds (C : Addr) : Sp := fun vs H Q _ => ∃ p ks hs rs st c, vs = [.ref p] ∧ BookAt C H p ks hs rs st c ∧ ∀ q, H q = none → Q (.ref q) (upd H q (.lst (ks.map V.str)))
def spBHandles (C : Addr) : Sp := fun vs H Q _ => ∃ p ks hs rs st c, vs = [.ref p] ∧ BookAt C H p ks hs rs st c ∧ ∀ q, H q = none → Q (.ref q) (upd H q (.lst (hs.map V.str)))
def spBRules (C : Addr) : Sp := fun vs H Q _ => ∃ p ks hs rs st c, vs = [.ref p] ∧ BookAt C H p ks hs rs st c ∧ ∀ q us, Rules H us rs → H q = none → Q (.ref q) (upd H q (.lst us))
def spBStart (C : Addr) : Sp := fun vs H Q _ => ∃ p ks hs rs st c, vs = [.ref p] ∧ BookAt C H p ks hs rs st c ∧ Q (.str st) H
def spBAmount (C : Addr) : Sp := fun vs H Q _ => ∃ p ks hs rs st c, vs = [.ref p] ∧ BookAt C H p ks hs rs st c ∧ Q (.int c) H
theorem marks_list (ns : List Str) : ((marks ns).map fun kv => kV kv.1) = ns.map V.str := by
  unfold marks
  rw [List.map_map]
  rfl
theorem book_h {a b c d e : V} : ([("_kinds", a), ("_handles", b), ("_rules", c), ("_start", d), ("_amount", e)] : List (Str × V)).lookup ("_handles" : Str) = some b := by
  rw [look_ne (by decide +kernel), look_self]
theorem book_r {a b c d e : V} : ([("_kinds", a), ("_handles", b), ("_rules", c), ("_start", d), ("_amount", e)] : List (Str × V)).lookup ("_rules" : Str) = some c := by
  rw [look_ne (by decide +kernel), look_ne (by decide +kernel), look_self]
theorem book_s {a b c d e : V} : ([("_kinds", a), ("_handles", b), ("_rules", c), ("_start", d), ("_amount", e)] : List (Str × V)).lookup ("_start" : Str) = some d := by
  rw [look_ne (by decide +kernel), look_ne (by decide +kernel), look_ne (by decide +kernel), look_self]
theorem book_a {a b c d e : V} : ([("_kinds", a), ("_handles", b), ("_rules", c), ("_start", d), ("_amount", e)] : List (Str × V)).lookup ("_amount" : Str) = some e := by
  rw [look_ne (by decide +kernel), look_ne (by decide +kernel), look_ne (by decide +kernel), look_ne (by decide +kernel), look_self]
theorem pool_names : ∀ x ∈ pool, nameB x = true := by decide +kernel
theorem letter_names : ∀ x ∈ letters16, nameB x = true := by decide +kernel
theorem PlanOk.book {ks hs : List Str} {rs : List RuleD} {st : Str} {c : Int} (h : PlanOk ks hs rs st c) : BookOk ks hs rs st :=
  ⟨fun x hx => pool_names x (h.pool x hx), h.nodup, fun e => absurd h.some (by rw [e]; decide), Nat.le_trans h.few (by decide), h.hnodup, h.hsub, h.rules.names,
    fun r hr => ⟨letter_names _ (h.rules.letters r hr), (h.rules.each r hr).1, (h.rules.each r hr).2.1, Nat.le_trans (h.rules.each r hr).2.2 (by decide)⟩, Nat.le_trans h.rules.few (by decide), h.start⟩
end Fh
namespace Fh
open PySem PySem.Spec PyProof.Rows PySem.W L2 He
/-! ### the modules' table is known to the abstract heap: nothing new is it -/
def Sys (H : Hp) : Prop := ∃ o, H sysModules = some (.frz o (.ext fun _ => True))
theorem Sys.up {H H' : Hp} (s : Same H H') (h : Sys H) : Sys H' := let ⟨o, e⟩ := h; ⟨o, s _ _ e⟩
theorem Sys.go {t : Addr} {H H' : Hp} (g : Go t H H') (h : Sys H) : Sys H' := by
  obtain ⟨o, e⟩ := h
  exact ⟨o, g.keep _ _ (fun z => by
    obtain ⟨d, m, q, _⟩ := g.t0
    rw [← z, e] at q
    cases q) e⟩
theorem Sys.but {p C dx : Addr} {fs : List (Str × V)} {H H' : Hp} (hp : H p = some (.ins C dx fs)) (s : But p H H') (h : Sys H) : Sys H' := by
  obtain ⟨o, e⟩ := h
  exact ⟨o, s _ _ (fun z => by rw [z, hp] at e; cases e) e⟩
theorem Sys.new {H : Hp} {p : Addr} (h : Sys H) (hp : H p = none) : p ≠ sysModules := fun z => by
  obtain ⟨o, e⟩ := h
  rw [← z, hp] at e
  cases e
theorem Sys.lst {H : Hp} {a : Addr} {xs : List V} (h : Sys H) (ha : H a = some (.lst xs)) : a ≠ sysModules := fun z => by
  obtain ⟨o, e⟩ := h
  rw [← z, ha] at e
  cases e
/-! ### the head's facts, and that the table is there -/
def sysB : Option Obj → Bool
  | some ⟨_, _, .dict _ _, _⟩ => true
  | _ => false
theorem sysB_ok {o : Option Obj} (h : sysB o = true) : ∃ ob es ep, o = some ob ∧ ob.data = .dict es ep := by
  unfold sysB at h
  split at h
  · exact ⟨_, _, _, rfl, rfl⟩
  · cases h
def obsS (n : Nat) (fa : List Fa) (fn : List DefD) (ex : PySem.W.Frag → Bool) (g : Addr → Option Obj) : AlE := (obsD fa fn (frG g (asD g n)), ex (frG g (asD g n)) && (((frG g (asD g n)).lookup sysModules).isNone && sysB (g sysModules)))
structure SaysS (fa : List Fa) (fn : List DefD) (ex : PySem.W.Frag → Bool) (h : Heap) (K : PySem.W.Frag) : Prop where
  d : SaysD fa fn K
  e : ex K = true
  no : K.lookup sysModules = none
  sys : ∃ o es ep, h.get? sysModules = some o ∧ o.data = .dict es ep
def hookS (n : Nat) (fa : List Fa) (fn : List DefD) (ex : PySem.W.Frag → Bool) : PySem.W.Hook where
  α := AlE
  obs := fun s => obsS n fa fn ex s.heap.get?
  val := fun _ => (valD fn, true)
  says := fun _ h => ∃ K : PySem.W.Frag, K.In h ∧ SaysS fa fn ex h K
  of := fun _ s e => by
    have e2 := congrArg (fun z : AlE => z.2) e
    obtain ⟨h1, h2⟩ := ba e2
    obtain ⟨h3, h4⟩ := ba h2
    exact ⟨_, frG_in, congrArg (fun z : AlE => z.1) e, h1, Option.isNone_iff_eq_none.mp h3, sysB_ok h4⟩
  keeps := fun _ _ _ ⟨K, hK, c⟩ k => ⟨K, PySem.W.Frag.In.keeps hK k, c.d, c.e, c.no, let ⟨o, es, ep, e, d⟩ := c.sys; ⟨o, es, ep, k _ _ e, d⟩⟩
theorem obsS_eq {n : Nat} {fa : List Fa} {fn : List DefD} {ex : PySem.W.Frag → Bool} {g : Addr → Option Obj} {s : Shared} (h : ∀ a, g a = s.heap.get? a) : obsS n fa fn ex g = (hookS n fa fn ex).obs s := by
  have e : g = s.heap.get? := funext h
  rw [e] <;> rfl
/-! ### the law's call, over such a heap -/
theorem lawS {P : Program} {w : World} {K : PySem.W.Frag} {mg mb : Str → Option Value} {k : Nat} {fa a : Addr} {fd : FuncData} {x : Str} {sp : Sp} {s1 : Shared} {vs : List Value} {ns : List Int}
    (KX : K.In s1.heap) (hns : s1.heap.Ns mainGlobals mg) (hb : s1.heap.Ns builtinsNs mb) (hbb : ∀ x : Str, x ≠ "__name__" → mb x = bootBuiltins x) (hlim : s1.heap.NoLimit) (hg : s1.gens = #[])
    (ha : s1.heap.get? a = some { cls := .type "list", data := .seq vs.toArray }) (hi : IntsAre vs ns) (hl : ns.length ≤ sizeLine) (hr : Room k callerA) (no : K.lookup sysModules = none) (sys : ∃ o es ep, s1.heap.get? sysModules = some o ∧ o.data = .dict es ep)
    (F : ∀ base : Heap, K.In base → base.Ns mainGlobals mg → FnG P w K mg base CX0 k fa fd [x] sp) (hbind : ∀ (s : Shared) (u : Value), BindsTo s fd ⟨[u], []⟩ [(x, u)])
    (hsp : ∀ H : Hp, Sys H → SqL K H a (ns.map V.int) → sp [.ref a] H (fun v _ => v = .bl true) fun _ _ _ => False) :
    codeAny (model P w) callerA (.call (.ref fa) ⟨[.ref a], []⟩) (fun r s' => r = .ok (.ret (.bool true)) ∧ OldK s1.heap s'.heap ∧ s'.os = s1.os ∧ AllBare s'.gens) s1 := by
  have rv := vals_ints hi
  have lenV := hi.length
  obtain ⟨oS, esS, epS, hS0, dS0⟩ := sys
  have naS : a ≠ sysModules := fun z => by
    rw [z, hS0] at ha
    cases ha
    cases dS0
  have core : ∀ H : Hp, (∀ b, H b = none ∨ ∃ o u, H b = some (.frz o u)) → H sysModules = some (.frz oS (.ext fun _ => True)) → SqL K H a (ns.map V.int) → HOk P w H s1.heap → (∀ b, H b ≠ none → b = a ∨ b = sysModules) → (H a ≠ none → K.lookup a = none) →
      codeAny (model P w) callerA (.call (.ref fa) ⟨[.ref a], []⟩) (fun r s' => r = .ok (.ret (.bool true)) ∧ OldK s1.heap s'.heap ∧ s'.os = s1.os ∧ AllBare s'.gens) s1 := by
    intro H hO hY hL hok hA hK
    have low : ∀ {b : Addr} {o : Obj}, s1.heap.get? b = some o → H b = none → (hidT s1.heap H).get? b = some o := fun e n => hidT_get e n
    have free : ∀ {b : Addr}, b ≠ a → b ≠ sysModules → H b = none := fun {b} n1 n2 => by
      cases q : H b with
      | none => rfl
      | some u =>
        rcases hA b (by rw [q]; simp) with z | z
        · exact absurd z n1
        · exact absurd z n2
    have nsK : ∀ {b : Addr} {m : Str → Option Value}, b ≠ sysModules → s1.heap.Ns b m → (hidT s1.heap H).Ns b m := fun {b m} nb ⟨o, es, ep, e, d, r⟩ => ⟨o, es, ep, low e (free (fun z => by
      rw [z, ha] at e
      cases e
      have d' : Data.seq vs.toArray _ = Data.dict es ep := d
      cases d') nb), d, r⟩
    have hKb : K.In (hidT s1.heap H) := by
      intro b o e
      refine low (KX b o e) ?_
      cases q : H b with
      | none => rfl
      | some u =>
        rcases hA b (by rw [q]; simp) with z | z
        · subst z
          rw [hK (by rw [q]; simp)] at e
          cases e
        · subst z
          rw [no] at e
          cases e
    have hM : Mod K mg (hidT s1.heap H) := ⟨hKb, nsK (by decide) hns, ⟨mb, nsK (by decide) hb, hbb⟩, let ⟨mc, h1, h2⟩ := hlim; ⟨mc, nsK (by decide) h1, h2⟩⟩
    have e0 : Env0 P w K mg (hidT s1.heap H) callerA [] s1 H := ⟨rfl, hM, fun b o e => of_hidT e, Nat.le_of_eq (hidT_size _ _), trivial, fun b hb => absurd (show b ∈ ([] : List Addr) from hb) (by simp), hok, .of_eq hg⟩
    refine codeAny_mono ((F _ hKb (nsK (by decide) hns)).go callerA [] s1 H ⟨[.ref a], []⟩ [.ref a] [.ref a] _ _ rfl hr e0 (hbind s1 (.ref a)) (.cons rfl .nil) (hsp H ⟨oS, hY⟩ hL)) fun r s' h => ?_
    cases r with
    | error e => exact False.elim h
    | ok fl => cases fl with
      | next => exact False.elim h
      | brk => exact False.elim h
      | cont => exact False.elim h
      | ret u =>
        obtain ⟨v, H', os, bare, un, hok', r', q⟩ := h
        have q' : v = .bl true := q
        subst q'
        obtain rfl : u = Value.bool true := r'
        refine ⟨rfl, OldK.of_keep fun b o e => ?_, os, bare⟩
        rcases hO b with z | ⟨ob, x, z⟩
        · exact un.keep b o e z (by intro z; exact absurd (show b ∈ ([] : List Addr) from z) (by simp)) (by simp)
        · obtain ⟨e1, _⟩ := hok b _ z
          obtain ⟨e2, _⟩ := hok' b _ (un.frzs b ob _ z)
          rw [e] at e1
          cases e1
          exact e2
  have okS : ∀ H : Hp, ObjOk P w H s1.heap sysModules (.frz oS (.ext fun _ => True)) := fun H => ⟨hS0, trivial, ⟨oS, hS0⟩, fun _ _ _ _ => trivial⟩
  cases hk : K.lookup a with
  | some o =>
    have e := KX a o hk
    rw [ha] at e
    cases e
    refine core (fun b => if b = sysModules then some (.frz oS (.ext fun _ => True)) else none) (fun b => ?_) (if_pos rfl) (.inr ⟨_, vs.toArray, _, hk, rfl, rfl, rfl, by rw [List.size_toArray, lenV]; exact hl, by simpa using rv⟩) (fun b u z => ?_) (fun b z => ?_) fun z => absurd (if_neg naS) z
    · by_cases hb : b = sysModules
      · exact .inr ⟨_, _, if_pos hb⟩
      · exact .inl (if_neg hb)
    · by_cases hb : b = sysModules
      · have z' := (if_pos hb).symm.trans z
        cases z'
        subst hb
        exact okS _
      · have z' := (if_neg hb).symm.trans z
        cases z'
    · by_cases hb : b = sysModules
      · exact .inr hb
      · exact absurd (if_neg hb) z
  | none =>
    refine core (fun b => if b = sysModules then some (.frz oS (.ext fun _ => True)) else if b = a then some (.frz { cls := .type "list", data := .seq vs.toArray } (.lst (ns.map V.int))) else none) (fun b => ?_) (if_pos rfl) (.inl (.inr ⟨{ cls := .type "list", data := .seq vs.toArray }, (if_neg naS).trans (if_pos rfl)⟩)) (fun b u z => ?_) (fun b z => ?_) fun _ => hk
    · by_cases hb : b = sysModules
      · exact .inr ⟨_, _, if_pos hb⟩
      · by_cases hb2 : b = a
        · exact .inr ⟨_, _, (if_neg hb).trans (if_pos hb2)⟩
        · exact .inl ((if_neg hb).trans (if_neg hb2))
    · by_cases hb : b = sysModules
      · have z' := (if_pos hb).symm.trans z
        cases z'
        subst hb
        exact okS _
      · have z1 := (if_neg hb).symm.trans z
        by_cases hb2 : b = a
        · have z' := (if_pos hb2).symm.trans z1
          cases z'
          subst hb2
          exact ⟨ha, by rw [List.length_map]; exact hl, vs, _, rv, ha⟩
        · have z' := (if_neg hb2).symm.trans z1
          cases z'
    · by_cases hb : b = sysModules
      · exact .inr hb
      · by_cases hb2 : b = a
        · exact .inl hb2
        · exact absurd ((if_neg hb).trans (if_neg hb2)) z
def spLawS (K : PySem.W.Frag) : Sp := fun vs H Q _ => ∃ a ns, vs = [.ref a] ∧ Sys H ∧ Script K H a ns ∧ ∀ H', Q (.bl true) H'
theorem walkS {l : PySem.W.OpenLaw} {k : Nat} {q : Program} {loose : List Str} {XP : (Str → Option Value) → Heap → Prop} {YP : World → Heap → Prop} {d : DefRec} (hn : l.most = some 63) (hdf : d.params.defaults = []) (hr : Room k callerA)
    (F : ∀ (w : World) (mg : Str → Option Value) (fa : Addr) (h : Heap), YP w h → h.Ns mainGlobals mg → mg d.name = some (.ref fa) →
      ∃ (K : PySem.W.Frag) (fd : FuncData), K.In h ∧ K.lookup sysModules = none ∧ (∃ o es ep, h.get? sysModules = some o ∧ o.data = .dict es ep) ∧ (∀ (s : Shared) (u : Value), BindsTo s fd ⟨[u], []⟩ [("script", u)]) ∧ ∀ base : Heap, K.In base → base.Ns mainGlobals mg → FnG l.prog w K mg base CX0 k fa fd ["script"] (spLawS K)) :
    PySem.W.WalkO q loose XP YP l.row.toRowW d [] (fun f vs => PySem.call f vs) := by
  refine Att.attach_callB hn hdf fun w s0 s1 mg mb fa o pm cd doc a vs ns G Y ho hd hcd hmg hobj hints hlen hbits hg => ?_
  obtain ⟨K, fd, KX, no, sys, hb, hF⟩ := F w mg fa _ Y G.T.g hmg
  exact lawS KX G.T.g G.T.b G.T.builtins G.T.nolimit hg hobj hints (Nat.le_trans hlen (by decide)) hr no sys hF hb fun H hy hS => ⟨a, ns, rfl, hy, ⟨hS, hlen, hbits⟩, fun _ => rfl⟩
end Fh
namespace Fh
open PySem PySem.Spec PyProof.Rows L2 He
/-! ### defs found by a path of one's own: a property's getter -/
def propAd (K : PySem.W.Frag) (x m : Str) : Addr := ma K (ga K x) m
def getAd (x m : Str) (K : PySem.W.Frag) : Addr := match PySem.W.recIn K (propAd K x m) "property" with
  | some (.ref g :: _) => g
  | _ => 0
structure DefA where
  at_ : PySem.W.Frag → Addr
  name : Str
  qual : Str
  params : Arguments
  body : List Stmt
  scope : Scope
def DefA.val (d : DefA) : FnW := some (d.name, d.qual, d.params, .stmts d.body, d.scope, mainGlobals, [], builtinsNs)
def DefA.seen (K : PySem.W.Frag) (d : DefA) : FnW := match K.lookup (d.at_ K) with
  | some ⟨_, _, .func g, _⟩ => some (g.name, g.qualname, g.params, g.body, g.scope, g.globals, g.closure, g.builtins)
  | _ => none
def DefA.ok (K : PySem.W.Frag) (d : DefA) : Bool := PySem.W.keepIn K (.ref (d.at_ K)) && (match K.lookup (d.at_ K) with
  | some ⟨_, _, .func g, _⟩ => PySem.W.codeIn K g.code d.qual && (dflB K g.defaults [] && kwdB K g.kwdefaults [])
  | _ => false)
theorem DefA.fun_ {K : PySem.W.Frag} {d : DefA} (e : d.seen K = d.val) (c : d.ok K = true) : ∃ fd, FunD K d.name d.qual d.params d.body d.scope [] [] (d.at_ K) fd := by
  obtain ⟨kp, c⟩ := ba c
  unfold DefA.seen at e
  generalize hl : K.lookup (d.at_ K) = lk at e c
  rcases lk with _ | ⟨oc, od, dt, sl⟩
  · cases c
  · cases dt with
    | func g =>
      obtain ⟨g1, g2, g3, g4, g5, g6, g7, g8, g9, g10, g11, g12, g13, g14, g15⟩ := g
      have e' : (some (g1, g2, g3, g4, g5, g6, g7, g15) : FnW) = some (d.name, d.qual, d.params, .stmts d.body, d.scope, mainGlobals, [], builtinsNs) := e
      injection e' with e'
      simp only [Prod.mk.injEq] at e'
      obtain ⟨rfl, rfl, rfl, rfl, rfl, rfl, rfl, rfl⟩ := e'
      obtain ⟨c1, c2⟩ := ba c
      obtain ⟨c3, c4⟩ := ba c2
      exact ⟨_, ⟨oc, od, g8, g9, g10, g11, g12, g13, g14, sl, rfl, hl, c1, dflB_ok c3, kwdB_ok c4⟩, kp⟩
    | _ => cases c
/-- the class x has a property m -/
def propB (K : PySem.W.Frag) (x m : Str) : Bool := eqO (PySem.W.findIn K (.ref (ga K x)) m) (some (some (.ref (propAd K x m)))) && (eqO (PySem.W.specialIn K (.ref (propAd K x m)) "__get__") (some (some (.builtin "property.__get__"))) && (decide (PySem.W.takesIn K (.ref (propAd K x m)) = some true) &&
  match PySem.W.recIn K (propAd K x m) "property" with
  | some (.ref g :: _) => true
  | _ => false))
theorem propB_ok {K : PySem.W.Frag} {x m : Str} (h : propB K x m = true) : PropOf K (ga K x) m (propAd K x m) (getAd x m K) := by
  obtain ⟨h1, h⟩ := ba h
  obtain ⟨h2, h⟩ := ba h
  obtain ⟨h3, h4⟩ := ba h
  refine ⟨eqO_ok h1, eqO_ok h2, of_decide_eq_true h3, ?_⟩
  unfold getAd
  split at h4
  · rename_i g r e
    exact ⟨r, by rw [e]⟩
  · cases h4
/-! ### the head with such defs too -/
abbrev AlZ : Type := AlE × List FnW
def obsZ (n : Nat) (fa : List Fa) (fn : List DefD) (fz : List DefA) (ex : PySem.W.Frag → Bool) (g : Addr → Option Obj) : AlZ :=
  (obsS n fa fn (fun K => ex K && fz.all fun d => d.ok K) g, fz.map fun d => d.seen (frG g (asD g n)))
def hookZ (n : Nat) (fa : List Fa) (fn : List DefD) (fz : List DefA) (ex : PySem.W.Frag → Bool) : PySem.W.Hook where
  α := AlZ
  obs := fun s => obsZ n fa fn fz ex s.heap.get?
  val := fun _ => ((valD fn, true), fz.map DefA.val)
  says := fun _ h => ∃ K : PySem.W.Frag, K.In h ∧ SaysS fa fn (fun K => ex K && fz.all fun d => d.ok K) h K ∧ (fz.map fun d => d.seen K) = fz.map DefA.val
  of := fun w s e => by
    have e1 : obsS n fa fn (fun K => ex K && fz.all fun d => d.ok K) s.heap.get? = (valD fn, true) := congrArg (fun z : AlZ => z.1) e
    have e2 := congrArg (fun z : AlE => z.2) e1
    obtain ⟨h1, h2⟩ := ba e2
    obtain ⟨h3, h4⟩ := ba h2
    exact ⟨_, frG_in, ⟨congrArg (fun z : AlE => z.1) e1, h1, Option.isNone_iff_eq_none.mp h3, sysB_ok h4⟩, congrArg (fun z : AlZ => z.2) e⟩
  keeps := fun _ _ _ ⟨K, hK, c, z⟩ k => ⟨K, PySem.W.Frag.In.keeps hK k, ⟨c.d, c.e, c.no, let ⟨o, es, ep, e, d⟩ := c.sys; ⟨o, es, ep, k _ _ e, d⟩⟩, z⟩
theorem obsZ_eq {n : Nat} {fa : List Fa} {fn : List DefD} {fz : List DefA} {ex : PySem.W.Frag → Bool} {g : Addr → Option Obj} {s : Shared} (h : ∀ a, g a = s.heap.get? a) : obsZ n fa fn fz ex g = (hookZ n fa fn fz ex).obs s := by
  have e : g = s.heap.get? := funext h
  rw [e] <;> rfl
theorem saysZ_def {fz : List DefA} {K : PySem.W.Frag} (z : (fz.map fun d => d.seen K) = fz.map DefA.val) (c : (fz.all fun d => d.ok K) = true) {d : DefA} (i : Nat) (h : fz[i]? = some d := by rfl) : ∃ fd, FunD K d.name d.qual d.params d.body d.scope [] [] (d.at_ K) fd := by
  have e2 : (fz.map fun d => d.seen K)[i]? = (fz.map DefA.val)[i]? := by rw [z]
  rw [List.getElem?_map, List.getElem?_map, h] at e2
  exact DefA.fun_ (Option.some.inj e2) (List.all_eq_true.mp c d (List.mem_of_getElem? h))
end Fh
namespace Fh
open PySem PySem.Spec PyProof.Rows PySem.W L2 He LamX
/-! ### the law's call, where the law hands out lambdas: its code's table stands in the abstract heap, too -/
abbrev noCode : Obj := { cls := .none, data := .fields #[] }
theorem lawT {P : Program} {w : World} {K : PySem.W.Frag} {mg mb : Str → Option Value} {k : Nat} {fa a cc tb : Addr} {fd : FuncData} {x : Str} {sp : Sp} {s1 : Shared} {vs : List Value} {ns : List Int}
    (KX : K.In s1.heap) (hns : s1.heap.Ns mainGlobals mg) (hb : s1.heap.Ns builtinsNs mb) (hbb : ∀ x : Str, x ≠ "__name__" → mb x = bootBuiltins x) (hlim : s1.heap.NoLimit) (hg : s1.gens = #[])
    (hT : s1.heap.get? tb = some noCode) (nT : K.lookup tb = none) (hC : CodeHd s1.heap cc tb)
    (hbm : ∃ (bm : Addr) (ob : Obj), mg "__builtins__" = some (.ref bm) ∧ bm ≠ builtinsNs ∧ s1.heap.get? bm = some ob ∧ ob.cls = .type "module" ∧ ob.dict = some builtinsNs ∧ ob.data = .plain)
    (ha : s1.heap.get? a = some { cls := .type "list", data := .seq vs.toArray }) (hi : IntsAre vs ns) (hl : ns.length ≤ sizeLine) (hr : Room k callerA) (no : K.lookup sysModules = none) (sys : ∃ o es ep, s1.heap.get? sysModules = some o ∧ o.data = .dict es ep)
    (F : ∀ base : Heap, K.In base → base.Ns mainGlobals mg → TabB base mg cc tb → FnG P w K mg base CX0 k fa fd [x] sp) (hbind : ∀ (s : Shared) (u : Value), BindsTo s fd ⟨[u], []⟩ [(x, u)])
    (hsp : ∀ H : Hp, Sys H → H tb = some (.tbl #[]) → SqL K H a (ns.map V.int) → sp [.ref a] H (fun v _ => v = .bl true) fun _ _ _ => False) :
    codeAny (model P w) callerA (.call (.ref fa) ⟨[.ref a], []⟩) (fun r s' => r = .ok (.ret (.bool true)) ∧ OldK s1.heap s'.heap ∧ s'.os = s1.os ∧ AllBare s'.gens) s1 := by
  have rv := vals_ints hi
  have lenV := hi.length
  obtain ⟨oS, esS, epS, hS0, dS0⟩ := sys
  have naS : a ≠ sysModules := fun z => by
    rw [z, hS0] at ha
    cases ha
    cases dS0
  have ntS : tb ≠ sysModules := fun z => by
    rw [z, hS0] at hT
    cases hT
    cases dS0
  have nat : a ≠ tb := fun z => by
    rw [z, hT] at ha
    have z2 := congrArg Obj.data (Option.some.inj ha)
    cases z2
  have core : ∀ H : Hp, (∀ b, H b = none ∨ b = tb ∨ ∃ o u, H b = some (.frz o u)) → H sysModules = some (.frz oS (.ext fun _ => True)) → H tb = some (.tbl #[]) → SqL K H a (ns.map V.int) → HOk P w H s1.heap → (∀ b, H b ≠ none → b = a ∨ b = sysModules ∨ b = tb) → (H a ≠ none → K.lookup a = none) →
      codeAny (model P w) callerA (.call (.ref fa) ⟨[.ref a], []⟩) (fun r s' => r = .ok (.ret (.bool true)) ∧ OldK s1.heap s'.heap ∧ s'.os = s1.os ∧ AllBare s'.gens) s1 := by
    intro H hO hY hW hL hok hA hK
    have low : ∀ {b : Addr} {o : Obj}, s1.heap.get? b = some o → H b = none → (hidT s1.heap H).get? b = some o := fun e n => hidT_get e n
    have free : ∀ {b : Addr}, b ≠ a → b ≠ sysModules → b ≠ tb → H b = none := fun {b} n1 n2 n3 => by
      cases q : H b with
      | none => rfl
      | some u =>
        rcases hA b (by rw [q]; simp) with z | z | z
        · exact absurd z n1
        · exact absurd z n2
        · exact absurd z n3
    have dict : ∀ {b : Addr} {o : Obj} {es : Array DictEntry} {ep : Nat}, b ≠ sysModules → s1.heap.get? b = some o → o.data = .dict es ep → H b = none := fun {b o es ep} nb e d => free (fun z => by
      rw [z, ha] at e
      cases e
      cases d) nb fun z => by
      rw [z, hT] at e
      cases e
      cases d
    have nsK : ∀ {b : Addr} {m : Str → Option Value}, b ≠ sysModules → s1.heap.Ns b m → (hidT s1.heap H).Ns b m := fun {b m} nb ⟨o, es, ep, e, d, r⟩ => ⟨o, es, ep, low e (dict nb e d), d, r⟩
    have hKb : K.In (hidT s1.heap H) := by
      intro b o e
      refine low (KX b o e) ?_
      cases q : H b with
      | none => rfl
      | some u =>
        rcases hA b (by rw [q]; simp) with z | z | z
        · subst z
          rw [hK (by rw [q]; simp)] at e
          cases e
        · subst z
          rw [no] at e
          cases e
        · subst z
          rw [nT] at e
          cases e
    have hM : Mod K mg (hidT s1.heap H) := ⟨hKb, nsK (by decide) hns, ⟨mb, nsK (by decide) hb, hbb⟩, let ⟨mc, h1, h2⟩ := hlim; ⟨mc, nsK (by decide) h1, h2⟩⟩
    have hTB : TabB (hidT s1.heap H) mg cc tb := by
      refine ⟨?_, ?_, fun z => ?_⟩
      · obtain ⟨o, us, file, tf, flags, tg, inF, text, tt, e1, r1, r2, r3, r4⟩ := hC
        refine ⟨o, us, file, tf, flags, tg, inF, text, tt, low e1 (free (fun z => ?_) (fun z => ?_) fun z => ?_), r1, r2, r3, r4⟩
        · rw [z, ha] at e1
          cases e1
          cases r2
        · rw [z, hS0] at e1
          cases e1
          rw [dS0] at r2
          cases r2
        · rw [z, hT] at e1
          cases e1
          cases r2
          simp at r3
      · obtain ⟨bm, ob, b1, b2, b3, b4, b5, b6⟩ := hbm
        have plain : ∀ {b : Addr} {o : Obj}, s1.heap.get? b = some o → o.data ≠ .plain → bm ≠ b := fun {b o} e h z => by
          rw [← z, b3] at e
          cases e
          exact h b6
        have nt : bm ≠ tb := plain hT (fun z => by cases z)
        have na : bm ≠ a := plain ha (fun z => by cases z)
        have nS : bm ≠ sysModules := plain hS0 (fun z => by rw [dS0] at z; cases z)
        have nG : bm ≠ mainGlobals := by
          obtain ⟨o, es, ep, e, hd, _⟩ := hns
          exact plain e (fun z => by rw [hd] at z; cases z)
        exact ⟨bm, ob, b1, b2, nG, nt, low b3 (free na nS nt), b4, b5, b6⟩
      · obtain ⟨o, es, ep, e, hd, _⟩ := hns
        rw [z, hT] at e
        cases e
        cases hd
    have e0 : Env0 P w K mg (hidT s1.heap H) callerA [] s1 H := ⟨rfl, hM, fun b o e => of_hidT e, Nat.le_of_eq (hidT_size _ _), trivial, fun b hb => absurd (show b ∈ ([] : List Addr) from hb) (by simp), hok, .of_eq hg⟩
    refine codeAny_mono ((F _ hKb (nsK (by decide) hns) hTB).go callerA [] s1 H ⟨[.ref a], []⟩ [.ref a] [.ref a] _ _ rfl hr e0 (hbind s1 (.ref a)) (.cons rfl .nil) (hsp H ⟨oS, hY⟩ hW hL)) fun r s' h => ?_
    cases r with
    | error e => exact False.elim h
    | ok fl => cases fl with
      | next => exact False.elim h
      | brk => exact False.elim h
      | cont => exact False.elim h
      | ret u =>
        obtain ⟨v, H', os, bare, un, hok', r', q⟩ := h
        have q' : v = .bl true := q
        subst q'
        obtain rfl : u = Value.bool true := r'
        obtain ⟨more, hmore⟩ := un.tbls tb #[] hW
        have wider : s'.heap.get? tb = some { cls := .none, data := .fields (#[] ++ more) } := hok' tb _ hmore
        have others : ∀ b o, b ≠ tb → s1.heap.get? b = some o → s'.heap.get? b = some o := fun b o nb e => by
          rcases hO b with z | z | ⟨ob, u, z⟩
          · exact un.keep b o e z (by intro z; exact absurd (show b ∈ ([] : List Addr) from z) (by simp)) (by simp)
          · exact absurd z nb
          · obtain ⟨e1, _⟩ := hok b _ z
            obtain ⟨e2, _⟩ := hok' b _ (un.frzs b ob _ z)
            rw [e] at e1
            cases e1
            exact e2
        refine ⟨rfl, ⟨fun b o e => ?_, fun b o e => ?_⟩, os, bare⟩
        · by_cases hb : b = tb
          · subst hb
            rw [hT] at e
            cases e
            exact .inr (.inl ⟨(hC.tab hT).isCodeTable, rfl, #[], #[] ++ more, rfl, by rw [wider]; simp⟩)
          · exact .inl (others b o hb e)
        · by_cases hb : b = tb
          · subst hb
            exact ⟨_, wider⟩
          · exact ⟨o, others b o hb e⟩
  have okS : ∀ H : Hp, ObjOk P w H s1.heap sysModules (.frz oS (.ext fun _ => True)) := fun H => ⟨hS0, trivial, ⟨oS, hS0⟩, fun _ _ _ _ => trivial⟩
  let H0 : Option HO → Hp := fun oa b => if b = sysModules then some (.frz oS (.ext fun _ => True)) else if b = tb then some (.tbl #[]) else if b = a then oa else none
  have h0S : ∀ oa, H0 oa sysModules = some (.frz oS (.ext fun _ => True)) := fun oa => if_pos rfl
  have h0T : ∀ oa, H0 oa tb = some (.tbl #[]) := fun oa => (if_neg ntS).trans (if_pos rfl)
  have h0a : ∀ oa, H0 oa a = oa := fun oa => (if_neg naS).trans ((if_neg nat).trans (if_pos rfl))
  have h0n : ∀ oa b, b ≠ sysModules → b ≠ tb → b ≠ a → H0 oa b = none := fun oa b n1 n2 n3 => (if_neg n1).trans ((if_neg n2).trans (if_neg n3))
  have sup : ∀ oa b, H0 oa b ≠ none → b = a ∨ b = sysModules ∨ b = tb := fun oa b z => by
    by_cases n1 : b = sysModules
    · exact .inr (.inl n1)
    · by_cases n2 : b = tb
      · exact .inr (.inr n2)
      · by_cases n3 : b = a
        · exact .inl n3
        · exact absurd (h0n oa b n1 n2 n3) z
  have all : ∀ oa, (oa = none ∨ ∃ o u, oa = some (.frz o u)) → ∀ b, H0 oa b = none ∨ b = tb ∨ ∃ o u, H0 oa b = some (.frz o u) := fun oa ho b => by
    by_cases n1 : b = sysModules
    · rw [n1, h0S]
      exact .inr (.inr ⟨_, _, rfl⟩)
    · by_cases n2 : b = tb
      · exact .inr (.inl n2)
      · by_cases n3 : b = a
        · rw [n3, h0a]
          rcases ho with z | z
          · exact .inl z
          · exact .inr (.inr z)
        · exact .inl (h0n oa b n1 n2 n3)
  have okT : ∀ H : Hp, ObjOk P w H s1.heap tb (.tbl #[]) := fun H => hT
  cases hk : K.lookup a with
  | some o =>
    have e := KX a o hk
    rw [ha] at e
    cases e
    refine core (H0 none) (all none (.inl rfl)) (h0S none) (h0T none) (.inr ⟨_, vs.toArray, _, hk, rfl, rfl, rfl, by rw [List.size_toArray, lenV]; exact hl, by simpa using rv⟩) (fun b u z => ?_) (sup none) fun z => absurd (h0a none) z
    rcases sup none b (by rw [z]; simp) with rfl | rfl | rfl
    · rw [h0a] at z
      cases z
    · rw [h0S] at z
      cases z
      exact okS _
    · rw [h0T] at z
      cases z
      exact okT _
  | none =>
    refine core (H0 (some (.frz { cls := .type "list", data := .seq vs.toArray } (.lst (ns.map V.int))))) (all _ (.inr ⟨_, _, rfl⟩)) (h0S _) (h0T _) (.inl (.inr ⟨{ cls := .type "list", data := .seq vs.toArray }, h0a _⟩)) (fun b u z => ?_) (sup _) fun _ => hk
    rcases sup _ b (by rw [z]; simp) with rfl | rfl | rfl
    · rw [h0a] at z
      cases z
      exact ⟨ha, by rw [List.length_map]; exact hl, vs, _, rv, ha⟩
    · rw [h0S] at z
      cases z
      exact okS _
    · rw [h0T] at z
      cases z
      exact okT _
def spLawT (K : PySem.W.Frag) (tb : Addr) : Sp := fun vs H Q _ => ∃ a ns, vs = [.ref a] ∧ Sys H ∧ H tb = some (.tbl #[]) ∧ Script K H a ns ∧ ∀ H', Q (.bl true) H'
theorem walkT {l : PySem.W.OpenLaw} {k : Nat} {q : Program} {loose : List Str} {XP : (Str → Option Value) → Heap → Prop} {YP : World → Heap → Prop} {d : DefRec} (hn : l.most = some 63) (hdf : d.params.defaults = []) (hr : Room k callerA)
    (F : ∀ (w : World) (mg : Str → Option Value) (fa : Addr) (h : Heap), YP w h → h.Ns mainGlobals mg → mg d.name = some (.ref fa) →
      ∃ (K : PySem.W.Frag) (fd : FuncData) (cc tb : Addr), K.In h ∧ K.lookup sysModules = none ∧ (∃ o es ep, h.get? sysModules = some o ∧ o.data = .dict es ep) ∧ (h.get? tb = some noCode ∧ K.lookup tb = none ∧ CodeHd h cc tb) ∧
        (∀ (s : Shared) (u : Value), BindsTo s fd ⟨[u], []⟩ [("script", u)]) ∧ ∀ base : Heap, K.In base → base.Ns mainGlobals mg → TabB base mg cc tb → FnG l.prog w K mg base CX0 k fa fd ["script"] (spLawT K tb)) :
    PySem.W.WalkO q loose XP YP l.row.toRowW d [] (fun f vs => PySem.call f vs) := by
  refine Att.attach_callB hn hdf fun w s0 s1 mg mb fa o pm cd doc a vs ns G Y ho hd hcd hmg hobj hints hlen hbits hg => ?_
  obtain ⟨K, fd, cc, tb, KX, no, sys, ⟨hT, nT, hC⟩, hb, hF⟩ := F w mg fa _ Y G.T.g hmg
  exact lawT KX G.T.g G.T.b G.T.builtins G.T.nolimit hg hT nT hC G.T.bmain hobj hints (Nat.le_trans hlen (by decide)) hr no sys hF hb fun H hy hW hS => ⟨a, ns, rfl, hy, hW, ⟨hS, hlen, hbits⟩, fun _ => rfl⟩
end Fh
namespace Fh
open PySem PySem.Spec PyProof.Rows PySem.W L2 He LamX
/-! ### the head for such a law: the empty tables of code are left out of what is known -/
def bareTab : Option Obj → Bool
  | some ⟨.none, none, .fields vs, sl⟩ => vs.isEmpty && sl.isEmpty
  | _ => false
theorem bareTab_ok {o : Option Obj} (h : bareTab o = true) : o = some noCode := by
  unfold bareTab at h
  split at h
  · rename_i vs sl
    obtain ⟨h1, h2⟩ := Bool.and_eq_true_iff.mp h
    rw [Array.isEmpty_iff.mp h1, Array.isEmpty_iff.mp h2]
  · cases h
def asT (g : Addr → Option Obj) (n : Nat) : List Addr := (asD g n).filter fun a => !bareTab (g a)
/-- the code object of the def x, and its table -/
def codeA (K : PySem.W.Frag) (x : Str) : Addr := match K.lookup (fAd K (x, none)) with
  | some ⟨_, _, .func f, _⟩ => (match f.code with
    | .ref c => c
    | _ => 0)
  | _ => 0
def tabA (K : PySem.W.Frag) (x : Str) : Addr := match K.lookup (codeA K x) with
  | some ⟨_, _, .fields vs, _⟩ => (match (vs[11]? : Option Value) with
    | some (.ref P) => P
    | _ => 0)
  | _ => 0
def tabOk (K : PySem.W.Frag) (x : Str) (g : Addr → Option Obj) : Bool := codeHdIn K (codeA K x) (tabA K x) && ((K.lookup (tabA K x)).isNone && bareTab (g (tabA K x)))
def obsT (n : Nat) (fa : List Fa) (fn : List DefD) (fz : List DefA) (ex : PySem.W.Frag → Bool) (x : Str) (g : Addr → Option Obj) : AlZ :=
  let K := frG g (asT g n)
  ((obsD fa fn K, (ex K && fz.all fun d => d.ok K) && (tabOk K x g && ((K.lookup sysModules).isNone && sysB (g sysModules)))), fz.map fun d => d.seen K)
structure SaysT (fa : List Fa) (fn : List DefD) (fz : List DefA) (ex : PySem.W.Frag → Bool) (x : Str) (h : Heap) (K : PySem.W.Frag) : Prop where
  s : SaysS fa fn (fun K => ex K && fz.all fun d => d.ok K) h K
  z : (fz.map fun d => d.seen K) = fz.map DefA.val
  hd : codeHdIn K (codeA K x) (tabA K x) = true
  out : K.lookup (tabA K x) = none
  tab : h.get? (tabA K x) = some noCode
def hookT (n : Nat) (fa : List Fa) (fn : List DefD) (fz : List DefA) (ex : PySem.W.Frag → Bool) (x : Str) : PySem.W.Hook where
  α := AlZ
  obs := fun s => obsT n fa fn fz ex x s.heap.get?
  val := fun _ => ((valD fn, true), fz.map DefA.val)
  says := fun _ h => ∃ K : PySem.W.Frag, K.In h ∧ SaysT fa fn fz ex x h K
  of := fun w s e => by
    have e1 := congrArg (fun z : AlZ => z.1.1) e
    have e2 := congrArg (fun z : AlZ => z.1.2) e
    have e3 := congrArg (fun z : AlZ => z.2) e
    obtain ⟨h1, h2⟩ := ba e2
    obtain ⟨h3, h4⟩ := ba h2
    obtain ⟨h5, h6⟩ := ba h4
    obtain ⟨h7, h8⟩ := ba h3
    obtain ⟨h9, h10⟩ := ba h8
    exact ⟨_, frG_in, ⟨e1, h1, Option.isNone_iff_eq_none.mp h5, sysB_ok h6⟩, e3, h7, Option.isNone_iff_eq_none.mp h9, bareTab_ok h10⟩
  keeps := fun _ _ _ ⟨K, hK, c⟩ k => ⟨K, PySem.W.Frag.In.keeps hK k, ⟨c.s.d, c.s.e, c.s.no, let ⟨o, es, ep, e, d⟩ := c.s.sys; ⟨o, es, ep, k _ _ e, d⟩⟩, c.z, c.hd, c.out, k _ _ c.tab⟩
theorem obsT_eq {n : Nat} {fa : List Fa} {fn : List DefD} {fz : List DefA} {ex : PySem.W.Frag → Bool} {x : Str} {g : Addr → Option Obj} {s : Shared} (h : ∀ a, g a = s.heap.get? a) : obsT n fa fn fz ex x g = (hookT n fa fn fz ex x).obs s := by
  have e : g = s.heap.get? := funext h
  rw [e] <;> rfl
end Fh
namespace Hd
open PySem PySem.Spec PyProof.Rows L2 He Fh
def top (i : Nat) : Stmt := PySem.Challenge.pw_farhandles_k03_books_refused.main.body.getD i (.Pass ⟨0, 0, 0, 0⟩)
def dfD (x : Str) (st : Stmt) : He.DefD := ⟨(x, none), x, x, defArgs st, defBody st, defScope st, [], []⟩
def dfM (x m qual : Str) (st : Stmt) : He.DefD := ⟨(x, some m), m, qual, defArgs st, defBody st, defScope st, [], []⟩
def dfG (x m qual : Str) (st : Stmt) : Fh.DefA := ⟨getAd x m, m, qual, defArgs st, defBody st, defScope st⟩
def fn : List He.DefD := [dfD "_wall" (top 0), dfD "is_name" (top 13), dfD "is_integer" (top 14), dfD "is_among" (top 15), dfD "are_kinds" (top 16), dfD "are_handles" (top 17),
  dfD "is_rule" (top 18), dfD "checked_rules" (top 19), dfD "_law_tape" (top 22), dfD "_law_pick" (top 23), dfD "_law_one_of" (top 24), dfD "_law_shuffled" (top 25),
  dfD "_law_unlike" (top 26), dfD "_law_alive" (top 27), dfD "_law_drawn_rules" (top 28), dfD "_law_drawn_plan" (top 29), dfD "_law_is_number" (top 30), dfD "_law_refused" (top 31),
  dfD "_law_is_word" (top 32), dfD "_law_are_unlike" (top 33), dfD "_law_is_rule" (top 34), dfD "_law_due" (top 35), dfD "_law_bent_rules" (top 36), dfD "law" (top 37),
  dfM "Book" "__init__" "Book.__init__" (inClass (top 20) 0), dfM "Book" "rule_named" "Book.rule_named" (inClass (top 20) 6), dfM "Book" "__eq__" "Book.__eq__" (inClass (top 20) 7), dfM "BadKinds" "__init__" "BadKinds.__init__" (inClass (top 3) 0), dfM "BadHandles" "__init__" "BadHandles.__init__" (inClass (top 4) 0), dfM "BadRules" "__init__" "BadRules.__init__" (inClass (top 5) 0),
  dfM "BadRule" "__init__" "BadRule.__init__" (inClass (top 6) 0), dfM "NamedTwice" "__init__" "NamedTwice.__init__" (inClass (top 7) 0), dfM "BadStart" "__init__" "BadStart.__init__" (inClass (top 8) 0), dfM "BadCount" "__init__" "BadCount.__init__" (inClass (top 9) 0)]
def fz : List Fh.DefA := [dfG "Book" "kinds" "Book.kinds" (inClass (top 20) 1), dfG "Book" "handles" "Book.handles" (inClass (top 20) 2), dfG "Book" "rules" "Book.rules" (inClass (top 20) 3), dfG "Book" "start" "Book.start" (inClass (top 20) 4), dfG "Book" "amount" "Book.amount" (inClass (top 20) 5)]
def fa : List He.Fa := [.glo "_wall", .glo "is_name", .glo "is_integer", .glo "is_among", .glo "are_kinds", .glo "are_handles", .glo "is_rule", .glo "checked_rules", .glo "_law_tape", .glo "_law_pick", .glo "_law_one_of", .glo "_law_shuffled",
  .glo "_law_unlike", .glo "_law_alive", .glo "_law_drawn_rules", .glo "_law_drawn_plan", .glo "_law_is_number", .glo "_law_refused", .glo "_law_is_word", .glo "_law_are_unlike", .glo "_law_is_rule", .glo "_law_due", .glo "_law_bent_rules", .glo "law",
  .glo "BadKinds", .glo "BadHandles", .glo "BadRules", .glo "BadRule", .glo "NamedTwice", .glo "BadStart", .glo "BadCount", .glo "Book", .free "ValueError", .free "all", .free "bool", .free "dict",
  .free "enumerate", .free "int", .free "isinstance", .free "len", .free "list", .free "max", .free "min", .free "property", .free "range", .free "repr", .free "set", .free "sorted",
  .free "str", .free "sum", .free "tuple", .str "LETTERS" "abcdefghijklmnopqrstuvwxyz", .int "LONGEST_NAME" 8, .cls "Book", .mkr "Book", .noat "Book" "_kinds", .noat "Book" "_handles", .noat "Book" "_rules", .noat "Book" "_start", .noat "Book" "_amount",
  .noat "BadKinds" "value", .noat "BadHandles" "value", .noat "BadRules" "value", .noat "BadRule" "number", .noat "NamedTwice" "name", .noat "BadStart" "value", .noat "BadCount" "value", .exm "BadKinds" "BadKinds" true, .exm "BadHandles" "BadKinds" false, .exm "BadHandles" "BadHandles" true, .exm "BadRules" "BadKinds" false, .exm "BadRules" "BadHandles" false,
  .exm "BadRules" "BadRules" true, .exm "BadRule" "BadKinds" false, .exm "BadRule" "BadHandles" false, .exm "BadRule" "BadRules" false, .exm "BadRule" "BadRule" true, .exm "NamedTwice" "BadKinds" false, .exm "NamedTwice" "BadHandles" false, .exm "NamedTwice" "BadRules" false, .exm "NamedTwice" "BadRule" false, .exm "NamedTwice" "NamedTwice" true, .exm "BadStart" "BadKinds" false, .exm "BadStart" "BadHandles" false,
  .exm "BadStart" "BadRules" false, .exm "BadStart" "BadRule" false, .exm "BadStart" "NamedTwice" false, .exm "BadStart" "BadStart" true, .exm "BadCount" "BadKinds" false, .exm "BadCount" "BadHandles" false, .exm "BadCount" "BadRules" false, .exm "BadCount" "BadRule" false, .exm "BadCount" "NamedTwice" false, .exm "BadCount" "BadStart" false, .exm "BadCount" "BadCount" true]
def props : List (Str × Str) := [("Book", "kinds"), ("Book", "handles"), ("Book", "rules"), ("Book", "start"), ("Book", "amount")]
def excs : List Str := ["BadKinds", "BadHandles", "BadRules", "BadRule", "NamedTwice", "BadStart", "BadCount"]
def ex (K : PySem.W.Frag) : Bool := (props.all fun m => propB K m.1 m.2) && ((excs.all fun x => exB K (ga K x)))
abbrev R : PySem.W.OpenRow := PySem.W.OpenLaw.row PySem.Challenge.rw_farhandles_k03_books_refused
abbrev hk : PySem.W.Hook := hookZ 5 fa fn fz ex
def ob (s : PySem.W.SharedT) : AlZ := obsZ 5 fa fn fz ex (HandSHeadRun.getT s)
theorem ob_eq (s : PySem.W.SharedT) : ob s = hk.obs s.abs := obsZ_eq (HandSHeadRun.getT_eq s)
abbrev loose : List Str := (["_wall", "HandleError", "BadKinds", "BadHandles", "BadRules", "BadRule", "NamedTwice", "BadStart", "BadCount", "is_name", "is_integer", "is_among", "are_kinds", "are_handles", "is_rule", "checked_rules", "Book", "_law_tape", "_law_pick", "_law_one_of"] : List Str) ++ (["_law_shuffled", "_law_unlike", "_law_alive", "_law_drawn_rules", "_law_drawn_plan", "_law_is_number", "_law_refused", "_law_is_word", "_law_are_unlike", "_law_is_rule", "_law_due", "_law_bent_rules", "LETTERS", "LONGEST_NAME"] : List Str)
theorem run (w : World) : HandSHeadRun.RunEq R (PySem.W.view R.prog [37]) hk ob 12000 loose w := by
  intro os
  kernel_rfl
end Hd
namespace Dw
open PySem PySem.Spec PyProof.Rows L2 He Fh
def top (i : Nat) : Stmt := PySem.Challenge.pw_farhandles_k03_books_refused.main.body.getD i (.Pass ⟨0, 0, 0, 0⟩)
abbrev FnP (K : PySem.W.Frag) (x : Str) (st : Stmt) (f : Addr) (fd : FuncData) : Prop := FunD K x x (defArgs st) (defBody st) (defScope st) [] [] f fd
abbrev sTape : Stmt := top 22
abbrev sPick : Stmt := top 23
abbrev sOne : Stmt := top 24
section
variable {P : Program} {w : World} {K : PySem.W.Frag} {mg : Str → Option Value} {base : Heap}
theorem scTape : FnScope ["script", "first", "mixed", "cell", "digits"] ["script", "first"] (defScope sTape) := ⟨rfl, rfl, rfl, by decide +kernel, rfl, by decide +kernel, by decide +kernel⟩
theorem ok_tape {f : Addr} {fd : FuncData} (F : FnP K "_law_tape" sTape f fd) (g_int : mg "int" = none) (g_len : mg "len" = none) : FnOk P w K mg base CX0 1 f fd ["script", "first"] (spTape K) := by
  refine F.ok scTape (fun vs H Q E h => ?_) (fun cdv A outer s H vs Q E hr h => ?_)
  · obtain ⟨a, ns, i, rfl, _⟩ := h
    rfl
  · obtain ⟨a, ns, i, rfl, hS, hi, hQ⟩ := h
    refine ⟨_, PSs.nox (pss_cons (ps_set (i := 2) scTape.nd rfl (by first | exact Or.inl rfl | exact Or.inr rfl) (pe_op op_add pe_int (pe_op op_mul (pv 1) pe_int)))
 (pss_cons (ps_for PassesOwn.never rfl (pi_list (pv 0)) (pg_name (i := 3) scTape.nd rfl (by first | exact Or.inl rfl | exact Or.inr rfl))
 (pss_one (ps_set (i := 2) scTape.nd rfl (by first | exact Or.inl rfl | exact Or.inr rfl) (pe_op op_add (pe_op op_mod (pe_callTy call_int1 (by rfl) g_int (by decide +kernel) (pa_cons (pe_op op_powB (pe_op op_add (pe_op op_add (pe_op op_mul (pv 2) pe_int) (pe_op op_mulX (pv 3) (pv 3))) pe_int) pe_int) pa_nil)) pe_int) pe_int))))
 (pss_cons (ps_set (i := 4) scTape.nd rfl (by first | exact Or.inl rfl | exact Or.inr rfl) (pe_ifExp (PW.pt (pw_and (pt_cmpR op_lt (pv 1) (pe_callB call_len (by rfl) g_len (by decide +kernel) (pa_cons (pv 0) pa_nil)) (nomark _)) (pw_and1 (pt_cmpR op_ge (pe_ix ix_list (pv 0) (pv 1) (fun _ _ => rfl)) (pe_op op_pow pe_int pe_int) (nomark _))))) (pe_op op_sub (pe_ix ix_list (pv 0) (pv 1) (fun _ _ => rfl)) (pe_op op_pow pe_int pe_int)) pe_int))
 (pss_one (ps_ret (pe_disp (pps_cons pe_str (pv 4) (pps_cons pe_str (pv 2) pps_nil)) (by rfl) (by rfl) (fun z => by cases z) (by decide))))))), ?_⟩
    refine ⟨_, rfl, _, _, rfl, rfl, .inr (by decide), _, _, rfl, rfl, ?_⟩
    refine ⟨_, rfl, a, rfl, ⟨_, hS.at_⟩, for_list (K := K) (a := a) (xs := ns.map V.int) (fun _ σ H' => H' = H ∧ ∃ (m : Int) (v : Option V), σ = [some (.ref a), some (.int i), some (.int m), v, none] ∧ 0 ≤ m ∧ m < 2147483600)
      ⟨rfl, _, none, rfl, by omega, by omega⟩ (fun _ _ H' _ h => by rw [h.1]; exact hS.at_) ?_ ?_⟩
    · rintro j y σ H' hj ⟨rfl, m, v, rfl, m0, m1⟩
      obtain ⟨c, rfl, hc⟩ : ∃ c, y = V.int c ∧ c ∈ ns := by
        rw [List.getElem?_map] at hj
        cases e : ns[j]? with
        | none => rw [e] at hj; cases hj
        | some c => rw [e] at hj; exact ⟨c, (Option.some.inj hj).symm, List.mem_of_getElem? e⟩
      obtain ⟨b1, b2⟩ := tape_num m c m0 m1 (hS.bits c hc)
      refine ⟨_, rfl, _, _, rfl, rfl, .inr (by decide), _, rfl, _, rfl, _, _, rfl, rfl, b1, _, _, rfl, rfl, _, _, rfl, rfl, _, _, rfl, rfl, b2, .inl ⟨_, rfl, _, _, rfl, rfl, (by show (0 : Int) < 2147483563; decide), _, _, rfl, rfl, ?_⟩⟩
      have e1 := Int.emod_nonneg ((m * 30029 + c * c + 13) ^ (2 : Int).toNat) (show (2147483563 : Int) ≠ 0 by decide)
      have e2 := Int.emod_lt_of_pos ((m * 30029 + c * c + 13) ^ (2 : Int).toNat) (show (0 : Int) < 2147483563 by decide)
      exact ⟨rfl, _, _, rfl, by omega, by omega⟩
    · rintro σ H' ⟨rfl, m, v, rfl, m0, m1⟩
      have fin : ∀ d : Int, 0 ≤ d → ∀ (v : Option V), ∀ p, H' p = none → ∀ q : (H' p = none), upd (upd H' p (.dK [])) p (.dK (mergeK [] [(kDig, V.int d), (kMix, V.int m)])) p = some (tapeO d m) ∧ Same H' (upd (upd H' p (.dK [])) p (.dK (mergeK [] [(kDig, V.int d), (kMix, V.int m)]))) := fun d d0 v p hp _ =>
        ⟨upd_same, fun b o e => by rw [upd_ne (ne_of_none e hp), upd_ne (ne_of_none e hp)]; exact e⟩
      refine ⟨_, rfl, _, rfl, _, (ns.map V.int).length, rfl, .inl ⟨_, hS.at_, rfl⟩, _, _, rfl, rfl, _, rfl, ?_⟩
      refine ite2 (fun hlt => ?_) (fun hlt => ?_)
      · have hlt' := of_decide_eq_true hlt
        rw [List.length_map] at hlt'
        have hil : i < ns.length := by omega
        have hit : (ns.map V.int)[i]? = some (.int ns[i]) := by rw [List.getElem?_map, List.getElem?_eq_getElem hil]; rfl
        refine ⟨_, rfl, _, rfl, a, _, _, _, rfl, rfl, hS.at_, atI_nat hit, _, _, rfl, rfl, ⟨by decide, by decide, by decide⟩, _, _, rfl, rfl, _, rfl, ?_⟩
        refine ite2 (fun hge => ?_) (fun hge => ?_)
        · have hge' := of_decide_eq_true hge
          refine ⟨_, rfl, _, rfl, a, _, _, _, rfl, rfl, hS.at_, atI_nat hit, _, _, rfl, rfl, ⟨by decide, by decide, by decide⟩, _, _, rfl, rfl, ?_⟩
          intro p hp
          obtain ⟨f1, f2⟩ := fin (ns[i] - 10 ^ (18 : Int).toNat) (by omega) v p hp hp
          exact ⟨_, rfl, _, rfl, upd_same, [(kDig, V.int _), (kMix, V.int m)], rfl, (by show 2 ≤ 15; decide), hQ p _ hp f2 ⟨_, m, f1, by omega, m0, m1⟩⟩
        · intro p hp
          obtain ⟨f1, f2⟩ := fin 0 (by omega) v p hp hp
          exact ⟨_, rfl, _, rfl, upd_same, [(kDig, V.int 0), (kMix, V.int m)], rfl, (by show 2 ≤ 15; decide), hQ p _ hp f2 ⟨_, m, f1, by omega, m0, m1⟩⟩
      · intro p hp
        obtain ⟨f1, f2⟩ := fin 0 (by omega) v p hp hp
        exact ⟨_, rfl, _, rfl, upd_same, [(kDig, V.int 0), (kMix, V.int m)], rfl, (by show 2 ≤ 15; decide), hQ p _ hp f2 ⟨_, m, f1, by omega, m0, m1⟩⟩
/-! ### _law_pick -/
theorem scPick : FnScope ["tape", "many", "once", "found"] ["tape", "many"] (defScope sPick) := ⟨rfl, rfl, rfl, by decide +kernel, rfl, by decide +kernel, by decide +kernel⟩
theorem ok_pick {f : Addr} {fd : FuncData} (F : FnP K "_law_pick" sPick f fd) (g_int : mg "int" = none) : FnOk P w K mg base CX0 1 f fd ["tape", "many"] spPick := by
  refine F.ok scPick (fun vs H Q E h => ?_) (fun cdv A outer s H vs Q E hr h => ?_)
  · obtain ⟨t, n, rfl, _⟩ := h
    rfl
  · obtain ⟨t, n, rfl, ⟨d, m, ht, d0, m0, m1⟩, hn, hn2, hQ⟩ := h
    have hu := hu_of hr
    have hnz : (0 : Int) < (n : Int) := by omega
    refine ⟨_, PSs.nox (pss_cons (ps_if (pt_cmpR op_ge (pe_dget hu (pv 0) pe_str (fun _ _ => rfl)) (pv 1) (nomark _))
 (pss_cons (ps_set (i := 3) scPick.nd rfl (by first | exact Or.inl rfl | exact Or.inr rfl) (pe_op op_mod (pe_callTy call_int1 (by rfl) g_int (by decide +kernel) (pa_cons (pe_dget hu (pv 0) pe_str (fun _ _ => rfl)) pa_nil)) (pv 1)))
 (pss_cons (ps_dput hu (pv 0) pe_str (pe_op op_fdiv (pe_dget hu (pv 0) pe_str (fun _ _ => rfl)) (pv 1)) rfl)
 (pss_one (ps_ret (pv 3))))) pss_nil)
 (pss_cons (ps_dput hu (pv 0) pe_str (pe_op op_mod (pe_callTy call_int1 (by rfl) g_int (by decide +kernel) (pa_cons (pe_op op_add (pe_op op_mul (pe_dget hu (pv 0) pe_str (fun _ _ => rfl)) pe_int) pe_int) pa_nil)) pe_int) rfl)
 (pss_cons (ps_set (i := 2) scPick.nd rfl (by first | exact Or.inl rfl | exact Or.inr rfl) (pe_op op_mod (pe_callTy call_int1 (by rfl) g_int (by decide +kernel) (pa_cons (pe_op op_pow (pe_dget hu (pv 0) pe_str (fun _ _ => rfl)) pe_int) pa_nil)) pe_int))
 (pss_one (ps_ret (pe_op op_mod (pe_callTy call_int1 (by rfl) g_int (by decide +kernel) (pa_cons (pe_op op_fdiv (pe_op op_mod (pe_callTy call_int1 (by rfl) g_int (by decide +kernel) (pa_cons (pe_op op_pow (pv 2) pe_int) pa_nil)) pe_int) pe_int) pa_nil)) (pv 1))))))), ?_⟩
    refine ⟨_, rfl, t, _, rfl, get_dig ht, _, rfl, _, _, rfl, rfl, _, rfl, ?_⟩
    refine ite2 (fun _ => ?_) (fun _ => ?_)
    · refine ⟨_, rfl, t, _, rfl, get_dig ht, .inl ⟨_, rfl, _, rfl, _, _, rfl, rfl, hnz, ?_⟩⟩
      refine ⟨_, rfl, t, _, rfl, get_dig ht, _, rfl, _, _, rfl, rfl, ⟨hnz, by omega⟩, _, rfl, t, _, rfl, put_dig ht, _, rfl, ?_⟩
      have e1 := Int.emod_nonneg d (show (n : Int) ≠ 0 by omega)
      have e2 := Int.emod_lt_of_pos d hnz
      have e3 : ((d % (n : Int)).toNat : Int) = d % (n : Int) := Int.toNat_of_nonneg e1
      have q := hQ (d % (n : Int)).toNat (d / (n : Int)) m (by omega) (Int.ediv_nonneg d0 (by omega)) m0 m1
      rw [e3] at q
      exact q
    · refine ⟨_, rfl, t, _, rfl, get_mix ht, _, _, rfl, rfl, .inr (by decide), _, _, rfl, rfl, .inl ⟨_, rfl, _, _, rfl, rfl, (by show (0 : Int) < 2147483563; decide), _, rfl, t, _, rfl, put_mix ht, ?_⟩⟩
      have a1 := Int.emod_nonneg (m * 40014 + 1031) (show (2147483563 : Int) ≠ 0 by decide)
      have a2 := Int.emod_lt_of_pos (m * 40014 + 1031) (show (0 : Int) < 2147483563 by decide)
      generalize (m * 40014 + 1031) % 2147483563 = m' at a1 a2
      refine ⟨_, rfl, t, _, rfl, get_mix upd_same, _, _, rfl, rfl, ⟨by decide, by decide, by omega⟩, .inl ⟨_, rfl, _, _, rfl, rfl, (by show (0 : Int) < 2147483399; decide), ?_⟩⟩
      have c1 := Int.emod_nonneg (m' ^ (2 : Int).toNat) (show (2147483399 : Int) ≠ 0 by decide)
      have c2 := Int.emod_lt_of_pos (m' ^ (2 : Int).toNat) (show (0 : Int) < 2147483399 by decide)
      refine ⟨_, rfl, _, _, rfl, rfl, ⟨by decide, by decide, by omega⟩, .inl ⟨_, rfl, _, _, rfl, rfl, (by show (0 : Int) < 998244353; decide), _, _, rfl, rfl, ⟨by decide, by decide⟩, .inl ⟨_, rfl, _, rfl, _, _, rfl, rfl, hnz, ?_⟩⟩⟩
      show Q (V.int (((m' ^ (2 : Int).toNat % 2147483399) ^ (3 : Int).toNat % 998244353 / 13) % (n : Int))) _
      generalize (m' ^ (2 : Int).toNat % 2147483399) ^ (3 : Int).toNat % 998244353 / 13 = z
      have e1 := Int.emod_nonneg z (show (n : Int) ≠ 0 by omega)
      have e2 := Int.emod_lt_of_pos z hnz
      have e3 : ((z % (n : Int)).toNat : Int) = z % (n : Int) := Int.toNat_of_nonneg e1
      have q := hQ (z % (n : Int)).toNat d m' (by omega) d0 (by omega) (by omega)
      rw [e3] at q
      exact q
/-! ### _law_one_of -/
theorem scOne : FnScope ["tape", "things"] ["tape", "things"] (defScope sOne) := ⟨rfl, rfl, rfl, by decide +kernel, rfl, by decide +kernel, by decide +kernel⟩
theorem ok_one {f fP : Addr} {fd fdP : FuncData} (F : FnP K "_law_one_of" sOne f fd) (g_len : mg "len" = none) (G_law_pick : FnOk P w K mg base CX0 1 fP fdP ["tape", "many"] spPick) (m_law_pick : mg "_law_pick" = some (.ref fP)) (k_law_pick : PySem.W.keepIn K (.ref fP) = true) (b_law_pick : Binds K fdP ["tape", "many"] []) :
    FnOk P w K mg base CX0 2 f fd ["tape", "things"] (spOne K) := by
  refine F.ok scOne (fun vs H Q E h => ?_) (fun cdv A outer s H vs Q E hr h => ?_)
  · obtain ⟨t, a, xs, rfl, _⟩ := h
    rfl
  · obtain ⟨t, a, xs, rfl, hT, hS, h0, h1, hat, hQ⟩ := h
    have r_law_pick := hr
    refine ⟨_, PSs.nox (pss_one (ps_ret (pe_ix ix_list (pv 1) (pe_call G_law_pick r_law_pick rfl m_law_pick k_law_pick b_law_pick .nil pass0 (pa_cons (pv 0) (pa_cons (pe_callB call_len (by rfl) g_len (by decide +kernel) (pa_cons (pv 1) pa_nil)) pa_nil))) (fun _ _ => rfl)))), ?_⟩
    refine ⟨_, rfl, _, rfl, _, rfl, _, _, rfl, .inl ⟨_, hS, rfl⟩, t, xs.length, rfl, hT, h0, h1, fun r d m hr d0 m0 m1 => ?_⟩
    exact ⟨a, xs, _, xs[r], rfl, rfl, hat _, atI_nat (List.getElem?_eq_getElem hr), hQ _ d m (List.getElem_mem hr) d0 m0 m1⟩
end
end Dw
namespace Dw
open PySem PySem.Spec PyProof.Rows L2 He Fh
abbrev sShuf : Stmt := top 25
section
variable {P : Program} {w : World} {K : PySem.W.Frag} {mg : Str → Option Value} {base : Heap}
theorem scShuf : FnScope ["tape", "things", "left", "found"] ["tape", "things"] (defScope sShuf) := ⟨rfl, rfl, rfl, by decide +kernel, rfl, by decide +kernel, by decide +kernel⟩
theorem ok_shuf {f fP : Addr} {fd fdP : FuncData} (F : FnP K "_law_shuffled" sShuf f fd) (g_len : mg "len" = none) (g_list : mg "list" = none) (G_law_pick : FnOk P w K mg base CX0 1 fP fdP ["tape", "many"] spPick) (m_law_pick : mg "_law_pick" = some (.ref fP)) (k_law_pick : PySem.W.keepIn K (.ref fP) = true) (b_law_pick : Binds K fdP ["tape", "many"] []) :
    FnOk P w K mg base CX0 2 f fd ["tape", "things"] (spShuf K) := by
  refine F.ok scShuf (fun vs H Q E h => ?_) (fun cdv A outer s H vs Q E hr h => ?_)
  · obtain ⟨t, a, xs, rfl, _⟩ := h
    rfl
  · obtain ⟨t, a, xs, rfl, hT, hS, hz, hQ⟩ := h
    have r_law_pick := hr
    have hu64 := hr.units
    refine ⟨_, PSs.nox (pss_cons (ps_par (i := 2) (j := 3) (by rfl) scShuf.nd rfl rfl (by decide) rfl rfl (pa_cons (pe_callTy call_list_of (by rfl) g_list (by decide +kernel) (pa_cons (pv 1) pa_nil)) (pa_cons (pe_lst pa_nil) pa_nil)) (by rfl))
 (pss_cons (ps_while PassesOwn.never (pt_cmpR (op_neE hu64) (pv 2) (pe_lst pa_nil) (nomark _))
 (pss_one (ps_expr (pe_bm PySem.F.plainAttrs_list PySem.F.slot_list_append PySem.F.type_list_append mt_append (pv 3) (pa_cons (pe_bm PySem.F.plainAttrs_list PySem.F.slot_list_pop PySem.F.type_list_pop mt_popAt (pv 2) (pa_cons (pe_call G_law_pick r_law_pick rfl m_law_pick k_law_pick b_law_pick .nil pass0 (pa_cons (pv 0) (pa_cons (pe_callB call_len (by rfl) g_len (by decide +kernel) (pa_cons (pv 2) pa_nil)) pa_nil))) pa_nil)) pa_nil)))))
 (pss_one (ps_ret (pv 3))))), ?_⟩
    have hlx : 0 ≤ sizeLine := Nat.zero_le _
    refine ⟨_, rfl, a, xs, rfl, .inl hS, fun l1 h1 => ⟨Nat.zero_le _, fun l2 h2 => ⟨_, _, rfl, ?_⟩⟩⟩
    have n21 : l2 ≠ l1 := fun z => by
      subst z
      rw [upd_same] at h2
      cases h2
    have f1 : H l1 = none := h1
    have f2 : H l2 = none := by
      rw [upd_ne n21] at h2
      exact h2
    refine while_by (fun σ H1 => ∃ ls fs, σ = [some (.ref t), some (.ref a), some (.ref l1), some (.ref l2)] ∧ Go t H H1 ∧ H1 l1 = some (.lst ls) ∧ H1 l2 = some (.lst fs) ∧ (fs ++ ls).Perm xs)
      (fun _ H1 => lenAt H1 l1) ⟨xs, [], rfl, ((Go.refl hT).new f1).new h2, by rw [upd_ne n21.symm, upd_same], upd_same, List.Perm.refl _⟩ ?_ ?_
    · rintro σ H1 ⟨ls, fs, rfl, g, e1, e2, hp⟩
      have hlen := hp.length_eq
      rw [List.length_append] at hlen
      refine ⟨_, rfl, Nat.zero_le _, fun q hq => ⟨l1, q, ls, rfl, rfl, SqL.of (same_upd hq _ _ e1), SqL.of upd_same, _, rfl, ?_⟩⟩
      have g1 := g.new (o := .lst []) hq
      have e11 := same_upd (o := .lst []) hq _ _ e1
      have e12 := same_upd (o := .lst []) hq _ _ e2
      cases ls with
      | nil =>
        rw [List.append_nil] at hp
        refine ⟨_, rfl, ?_⟩
        exact hQ l2 fs _ hp g1 f2 e12
      | cons z zs =>
        have e01 : lenAt H1 l1 = (z :: zs).length := lenAt_eq e1
        have nl : (z :: zs).length ≤ 100000 := by omega
        refine ⟨_, rfl, .inl ⟨rfl, _, SqL.of e12⟩, _, rfl, .inl ⟨rfl, _, SqL.of e11⟩, _, rfl, _, rfl, _, _, rfl, .inl ⟨_, SqL.of e11, rfl⟩, t, (z :: zs).length, rfl, g1.t1, Nat.succ_pos _, by omega, fun r d m hr d0 m0 m1 => ?_⟩
        have g2 := g1.tape (d := d) (m := m) d0 m0 m1
        have nt1 : l1 ≠ t := hT.new f1
        have nt2 : l2 ≠ t := hT.new f2
        have hy : (z :: zs)[r]? = some ((z :: zs)[r]'hr) := List.getElem?_eq_getElem hr
        generalize (z :: zs)[r]'hr = y at hy
        have e21 : upd (upd H1 q (.lst [])) t (tapeO d m) l1 = some (.lst (z :: zs)) := by rw [upd_ne nt1]; exact e11
        have e22 : upd (upd H1 q (.lst [])) t (tapeO d m) l2 = some (.lst fs) := by rw [upd_ne nt2]; exact e12
        generalize upd (upd H1 q (.lst [])) t (tapeO d m) = H2 at g2 e21 e22
        refine ⟨l1, z :: zs, (r : Int), r, y, rfl, rfl, e21, by omega, by omega, seqIx hr, hy, ?_⟩
        refine ⟨l2, fs, y, rfl, rfl, by rw [upd_ne n21]; exact e22, by rw [sizeLine_eq]; omega, ?_⟩
        have g3 := (g2.up (l := l1) (o := .lst ((z :: zs).eraseIdx r)) f1).up (l := l2) (o := .lst (fs ++ [y])) f2
        have e31 : upd (upd H2 l1 (.lst ((z :: zs).eraseIdx r))) l2 (.lst (fs ++ [y])) l1 = some (.lst ((z :: zs).eraseIdx r)) := by rw [upd_ne n21.symm, upd_same]
        refine ⟨⟨(z :: zs).eraseIdx r, fs ++ [y], rfl, g3, e31, upd_same, perm_pop hp hy⟩, ?_⟩
        rw [lenAt_eq e31, e01, List.length_eraseIdx_of_lt hr]
        exact Nat.sub_lt (Nat.succ_pos _) (by decide)
    · rintro σ H1 Q1 Q2 hh ⟨v, e, hz, q⟩
      exact ⟨v, e, hz, fun p hp => let ⟨a, b, xs, r1, r2, r3, r4, k, r5, r6⟩ := q p hp; ⟨a, b, xs, r1, r2, r3, r4, k, r5, hh _ _ r6⟩⟩
end
end Dw
namespace Dw
open PySem PySem.Spec PyProof.Rows L2 He Fh
abbrev sAlive : Stmt := top 27
section
variable {P : Program} {w : World} {K : PySem.W.Frag} {mg : Str → Option Value} {base : Heap}
theorem scAlive : FnScope ["plan", "found", "turn", "rule", "kind"] ["plan"] (defScope sAlive) := ⟨rfl, rfl, rfl, by decide +kernel, rfl, by decide +kernel, by decide +kernel⟩
theorem ok_alive {f : Addr} {fd : FuncData} (F : FnP K "_law_alive" sAlive f fd) (g_list : mg "list" = none) (g_sorted : mg "sorted" = none) : FnOk P w K mg base CX0 1 f fd ["plan"] spAlive := by
  refine F.ok scAlive (fun vs H Q E h => ?_) (fun cdv A outer s H vs Q E hr h => ?_)
  · obtain ⟨p, q, ks, hs, rs, rfl, _⟩ := h
    rfl
  · obtain ⟨p, q, ks, hs, rs, rfl, hP, hn, hsub, hr2, hk, hQ⟩ := h
    have hu64 := hr.units
    refine ⟨_, PSs.nox (pss_cons (ps_set (i := 1) scAlive.nd rfl (by first | exact Or.inl rfl | exact Or.inr rfl) (pe_callTy call_list_of (by rfl) g_list (by decide +kernel) (pa_cons (pe_ix ix_list (pv 0) pe_int (fun _ _ => rfl)) pa_nil)))
 (pss_cons (ps_for PassesOwn.never rfl (pi_list (pe_ix ix_list (pv 0) pe_int (fun _ _ => rfl))) (pg_name (i := 2) scAlive.nd rfl (by first | exact Or.inl rfl | exact Or.inr rfl))
 (pss_one (ps_for PassesOwn.never rfl (pi_list (pe_ix ix_list (pv 0) pe_int (fun _ _ => rfl))) (pg_name (i := 3) scAlive.nd rfl (by first | exact Or.inl rfl | exact Or.inr rfl))
 (pss_one (ps_if (PW.pt (pw_and (pt_cmpR op_notIn_seq (pe_ix ix_tup (pv 3) pe_int (fun _ _ => rfl)) (pv 1) (by rfl)) (pw_and1 (pt_cmpR (op_neE hu64) (pe_lc (own := [("kind", 4)]) (g := (gName 4)) (by rfl) scAlive.nd (pi_tup (pe_ix ix_tup (pv 3) pe_int (fun _ _ => rfl))) (blkOk_by (own := [("kind", 4)]) (N := ["plan", "found", "turn", "rule", "kind"]) (sc := defScope sAlive) (by decide +kernel)) (fun _ _ _ _ _ => pg_name (i := 4) scAlive.nd rfl (by first | exact Or.inl rfl | exact Or.inr rfl)) (fun _ _ _ _ _ => pts_one (pt_cmpR (op_inK (K := K)) (pv 4) (pv 1) (by rfl))) (fun _ _ _ _ _ => (pv 4))) (pe_lst pa_nil) (nomark _)))))
 (pss_one (ps_expr (pe_bm PySem.F.plainAttrs_list PySem.F.slot_list_append PySem.F.type_list_append mt_append (pv 1) (pa_cons (pe_ix ix_tup (pv 3) pe_int (fun _ _ => rfl)) pa_nil)))) pss_nil)))))
 (pss_one (ps_ret (pe_callB cr_sortedS (by rfl) g_sorted (by decide +kernel) (pa_cons (pv 1) pa_nil)))))), ?_⟩
    refine ⟨_, rfl, p, _, 1, .ref q.ha, rfl, rfl, SqL.of hP.top, rfl, q.ha, _, rfl, .inl (SqL.of hP.handles), fun l hl => ?_⟩
    have hok := fun n => aliveFix_ok (ks := ks) (rs := rs) ⟨hn, hsub⟩ (fun r h => (hr2 r h).1) n
    have hkl : ∀ {F : List Str}, (F.Nodup ∧ ∀ x ∈ F, x ∈ ks) → F.length ≤ 40 := fun h => Nat.le_trans (nodup_len h.1 h.2) hk
    have hkm : (ks.map V.str).length = ks.length := List.length_map _
    have hlen := hP.each.len
    refine ⟨_, rfl, p, _, 0, .ref q.ka, rfl, rfl, SqL.of (same_upd hl _ _ hP.top), rfl, q.ka, rfl, ⟨_, SqL.of (same_upd hl _ _ hP.kinds)⟩, for_list (K := K) (a := q.ka) (xs := ks.map V.str)
      (fun j σ H1 => Same H H1 ∧ H1 l = some (.lst ((aliveFix rs j hs).map V.str)) ∧ ∃ o2 o3 o4 : Option V, σ = [some (.ref p), some (.ref l), o2, o3, o4])
      ⟨same_upd hl, upd_same, none, none, none, rfl⟩ (fun _ _ H1 _ h => SqL.of (h.1 _ _ hP.kinds)) ?_ ?_⟩
    · rintro j x σ H1 hx ⟨s1, e1, o2, o3, o4, rfl⟩
      refine ⟨_, rfl, p, _, 2, .ref q.ra, rfl, rfl, SqL.of (s1 _ _ hP.top), rfl, q.ra, rfl, ⟨_, SqL.of (s1 _ _ hP.rules)⟩, for_list (K := K) (a := q.ra) (xs := q.vs)
        (fun i σ H2 => Same H H2 ∧ H2 l = some (.lst (((rs.take i).foldl aliveStep (aliveFix rs j hs)).map V.str)) ∧ ∃ o3 o4 : Option V, σ = [some (.ref p), some (.ref l), some x, o3, o4])
        ⟨s1, e1, o3, o4, rfl⟩ (fun _ _ H2 _ h => SqL.of (h.1 _ _ hP.rules)) ?_ ?_⟩
      · rintro i v σ H2 hv ⟨s2, e2, o3, o4, rfl⟩
        obtain ⟨r, hr1, a, b, rfl, ha, hb⟩ := hP.each.get hv
        have hrm := List.mem_of_getElem? hr1
        have hF := aliveFold_ok (ks := ks) (rs := rs.take i) (hok j) fun r h => (hr2 r (List.mem_of_mem_take h)).1
        have eF : (rs.take (i + 1)).foldl aliveStep (aliveFix rs j hs) = aliveStep ((rs.take i).foldl aliveStep (aliveFix rs j hs)) r := by
          rw [List.take_add_one, hr1, List.foldl_append]
          rfl
        rw [eF]
        generalize (rs.take i).foldl aliveStep (aliveFix rs j hs) = F at e2 hF
        have hFl := hkl hF
        refine ⟨_, rfl, a, _, 1, .str r.kind, rfl, rfl, SqT.of (s2 _ _ ha), rfl, _, rfl, l, _, rfl, .inl (SqL.of e2), rfl, flatS _, _, rfl, ?_⟩
        have e3 : (if true = true then !inV (.str r.kind) (F.map V.str) else inV (.str r.kind) (F.map V.str)) = !F.contains r.kind := by rw [if_pos rfl, inV_strs]
        rw [e3]
        have e4 : aliveStep F r = if !F.contains r.kind && r.out.any (fun x => F.contains x) then F ++ [r.kind] else F := rfl
        rw [e4]
        cases hc : F.contains r.kind with
        | true => exact ⟨s2, e2, _, _, rfl⟩
        | false =>
          refine ⟨_, rfl, a, _, 2, .ref b, rfl, rfl, SqT.of (s2 _ _ ha), rfl, b, rfl, ⟨_, SqT.of (s2 _ _ hb)⟩, fun D hD => ?_⟩
          refine lt_filt (xs := r.out.map V.str) (fun x => inV x (F.map V.str)) (by show 4 < 5; decide) (by rw [List.length_map]; have := (hr2 r hrm).2; omega) (SqT.of (s2 _ _ hb)) hD (fun x H3 Q3 hx3 s3 q3 => ?_) fun H3 s3 e5 => ?_
          · obtain ⟨z, _, rfl⟩ := List.mem_map.mp hx3
            exact ⟨_, rfl, _, rfl, l, _, rfl, .inl (SqL.of (s3 _ _ e2)), rfl, flatS _, _, rfl, q3⟩
          · refine ⟨Nat.zero_le _, fun e he => ⟨D, e, _, rfl, rfl, SqL.of (same_upd he _ _ e5), SqL.of upd_same, _, rfl, ?_⟩⟩
            rw [filt_any, any_strs]
            have s4 := s3.trans (same_upd (o := .lst []) he)
            cases ho : r.out.any (fun x => F.contains x) with
            | false => exact ⟨s2.trans s4, s4 _ _ e2, _, _, rfl⟩
            | true =>
              have sH := s2.trans s4
              have e6 := s4 _ _ e2
              generalize upd H3 e (.lst []) = H4 at s4 sH e6
              refine ⟨_, rfl, .inl ⟨rfl, _, SqL.of e6⟩, _, rfl, a, _, 1, .str r.kind, rfl, rfl, SqT.of (sH _ _ ha), rfl, l, _, _, rfl, rfl, e6, by rw [List.length_map, sizeLine_eq]; omega, ?_⟩
              refine ⟨same_updX sH hl, ?_, _, _, rfl⟩
              rw [upd_same]
              simp
      · rintro σ H2 ⟨s2, e2, o3, o4, rfl⟩
        rw [hlen, List.take_length] at e2
        exact ⟨s2, e2, _, _, _, rfl⟩
    · rintro σ H1 ⟨s1, e1, o2, o3, o4, rfl⟩
      rw [hkm] at e1
      have hF := hkl (hok ks.length)
      exact ⟨_, rfl, l, _, rfl, SqL.of e1, by omega, fun ys a pm srt ha => hQ a ys _ pm srt (s1.trans (same_upd ha)) (s1.free ha) upd_same⟩
end
end Dw
namespace Dw
open PySem PySem.Spec PyProof.Rows L2 He Fh
abbrev sRules : Stmt := top 28
section
variable {P : Program} {w : World} {K : PySem.W.Frag} {mg : Str → Option Value} {base : Heap}
theorem scRules : FnScope ["tape", "kinds", "worth", "ways", "found", "kind", "turn", "outcome", "look", "at", "pair"] ["tape", "kinds", "worth", "ways"] (defScope sRules) := ⟨rfl, rfl, rfl, by decide +kernel, rfl, by decide +kernel, by decide +kernel⟩
theorem ok_rules {f fP fO fS : Addr} {fd fdP fdO fdS : FuncData} (F : FnP K "_law_drawn_rules" sRules f fd) (g_len : mg "len" = none) (g_range : mg "range" = none) (g_tuple : mg "tuple" = none) (g_enumerate : mg "enumerate" = none)
    (G_law_pick : FnOk P w K mg base CX0 1 fP fdP ["tape", "many"] spPick) (m_law_pick : mg "_law_pick" = some (.ref fP)) (k_law_pick : PySem.W.keepIn K (.ref fP) = true) (b_law_pick : Binds K fdP ["tape", "many"] [])
    (G_law_one_of : FnOk P w K mg base CX0 2 fO fdO ["tape", "things"] (spOne K)) (m_law_one_of : mg "_law_one_of" = some (.ref fO)) (k_law_one_of : PySem.W.keepIn K (.ref fO) = true) (b_law_one_of : Binds K fdO ["tape", "things"] [])
    (G_law_shuffled : FnOk P w K mg base CX0 2 fS fdS ["tape", "things"] (spShuf K)) (m_law_shuffled : mg "_law_shuffled" = some (.ref fS)) (k_law_shuffled : PySem.W.keepIn K (.ref fS) = true) (b_law_shuffled : Binds K fdS ["tape", "things"] []) :
    FnOk P w K mg base CX0 3 f fd ["tape", "kinds", "worth", "ways"] spRules := by
  refine F.ok scRules (fun vs H Q E h => ?_) (fun cdv A outer s H vs Q E hr h => ?_)
  · obtain ⟨t, ka, ks, x, wy, rfl, _⟩ := h
    rfl
  · obtain ⟨t, ka, ks, x, wy, rfl, hT, hK, hk1, hk6, hQ⟩ := h
    have hu64 : (A.deeper (envOfC "_law_drawn_rules" (defScope sRules) s.heap.objs.size f cdv)).units + 64 < cLine := hr.units
    have r_law_one_of := hr
    have r_law_shuffled := hr
    have r_law_pick : Room 1 _ := hr.mono (by decide)
    refine ⟨_, PSs.nox (pss_cons (ps_set (i := 4) scRules.nd rfl (by first | exact Or.inl rfl | exact Or.inr rfl) (pe_lst pa_nil))
 (pss_cons (ps_for PassesOwn.never rfl (pi_list (pv 1)) (pg_name (i := 5) scRules.nd rfl (by first | exact Or.inl rfl | exact Or.inr rfl))
 (pss_one (ps_if (PW.pt (pw_or (pt_cmpR op_gt (pe_call G_law_pick r_law_pick rfl m_law_pick k_law_pick b_law_pick .nil pass0 (pa_cons (pv 0) (pa_cons pe_int pa_nil))) pe_int (nomark _)) (pw_or1 (pt_cmpR op_eq (pv 3) pe_int (nomark _)))))
 (pss_one (ps_expr (pe_bm PySem.F.plainAttrs_list PySem.F.slot_list_append PySem.F.type_list_append mt_append (pv 4) (pa_cons (pe_tup (pa_cons (pv 5) (pa_cons (pe_tup pa_nil) pa_nil))) pa_nil)))) pss_nil)))
 (pss_cons (ps_for PassesOwn.never rfl (pi_range1 (by rfl) g_range (pa_cons (pe_call G_law_pick r_law_pick rfl m_law_pick k_law_pick b_law_pick .nil pass0 (pa_cons (pv 0) (pa_cons pe_int pa_nil))) pa_nil)) (pg_name (i := 6) scRules.nd rfl (by first | exact Or.inl rfl | exact Or.inr rfl))
 (pss_cons (ps_set (i := 7) scRules.nd rfl (by first | exact Or.inl rfl | exact Or.inr rfl) (pe_callTy call_tuple_of (by rfl) g_tuple (by decide +kernel) (pa_cons (pe_lc (own := [("look", 8)]) (g := (gName 8)) (by rfl) scRules.nd (pi_range1 (by rfl) g_range (pa_cons (pe_call G_law_pick r_law_pick rfl m_law_pick k_law_pick b_law_pick .nil pass0 (pa_cons (pv 0) (pa_cons (pe_call G_law_one_of r_law_one_of rfl m_law_one_of k_law_one_of b_law_one_of .nil pass0 (pa_cons (pv 0) (pa_cons (pe_lst (pa_cons pe_int (pa_cons pe_int (pa_cons pe_int pa_nil)))) pa_nil))) pa_nil))) pa_nil)) (blkOk_by (own := [("look", 8)]) (N := ["tape", "kinds", "worth", "ways", "found", "kind", "turn", "outcome", "look", "at", "pair"]) (sc := defScope sRules) (by decide +kernel)) (fun _ _ _ _ _ => pg_name (i := 8) scRules.nd rfl (by first | exact Or.inl rfl | exact Or.inr rfl)) (fun _ _ _ _ _ => pts_nil) (fun _ _ _ _ _ => (pe_call G_law_one_of r_law_one_of rfl m_law_one_of k_law_one_of b_law_one_of .nil pass0 (pa_cons (pv 0) (pa_cons (pv 1) pa_nil))))) pa_nil)))
 (pss_one (ps_expr (pe_bm PySem.F.plainAttrs_list PySem.F.slot_list_append PySem.F.type_list_append mt_append (pv 4) (pa_cons (pe_tup (pa_cons (pe_call G_law_one_of r_law_one_of rfl m_law_one_of k_law_one_of b_law_one_of .nil pass0 (pa_cons (pv 0) (pa_cons (pv 1) pa_nil))) (pa_cons (pv 7) pa_nil))) pa_nil))))))
 (pss_cons (ps_if (PW.pt (pw_and (pt_cmpR op_gt (pv 3) pe_int (nomark _)) (pw_and1 (pt_cmpR op_gt (pe_callB call_len (by rfl) g_len (by decide +kernel) (pa_cons (pv 1) pa_nil)) pe_int (nomark _)))))
 (pss_one (ps_setLc (i := 4) (own := [("kind", 5), ("outcome", 7)]) (g := (gTup K 2 (gCons (gName 5) (gCons (gName 7) gNil)))) (by rfl) scRules.nd rfl rfl (sw_true rfl rfl rfl (by decide +kernel)) (pi_list (pv 4)) (blkOk_by (own := [("kind", 5), ("outcome", 7)]) (N := ["tape", "kinds", "worth", "ways", "found", "kind", "turn", "outcome", "look", "at", "pair"]) (sc := defScope sRules) (by decide +kernel)) (fun _ _ _ _ _ => (pg_tupK (K := K) (n := 2) (by rfl) (pgs_cons (pg_name (i := 5) scRules.nd rfl (by first | exact Or.inl rfl | exact Or.inr rfl)) (pgs_cons (pg_name (i := 7) scRules.nd rfl (by first | exact Or.inl rfl | exact Or.inr rfl)) pgs_nil)))) (fun _ _ _ _ _ => pts_nil) (fun _ _ _ _ _ => (pe_ifExp (PW.pt (pw_and (pt_cmpR (op_eqU (K := K) hu64) (pv 7) (pe_tup pa_nil) (nomark _)) (pw_and (pt_cmpR op_ne (pv 5) (pe_ix (ix_listK (K := K)) (pv 1) (pe_un un_neg pe_int) (fun _ _ => rfl)) (nomark _)) (pw_and1 (pt_cmpR op_eq (pe_call G_law_pick r_law_pick rfl m_law_pick k_law_pick b_law_pick .nil pass0 (pa_cons (pv 0) (pa_cons pe_int pa_nil))) pe_int (nomark _)))))) (pe_tup (pa_cons (pv 5) (pa_cons (pe_tup (pa_cons (pe_ix (ix_listK (K := K)) (pv 1) (pe_un un_neg pe_int) (fun _ _ => rfl)) pa_nil)) pa_nil))) (pe_tup (pa_cons (pv 5) (pa_cons (pv 7) pa_nil))))))) pss_nil)
 (pss_one (ps_ret (pe_call G_law_shuffled r_law_shuffled rfl m_law_shuffled k_law_shuffled b_law_shuffled .nil pass0 (pa_cons (pv 0) (pa_cons (pe_lc (own := [("at", 9), ("pair", 10)]) (g := (gTup K 2 (gCons (gName 9) (gCons (gName 10) gNil)))) (by rfl) scRules.nd (pi_enum (by rfl) g_enumerate (pa_cons (pv 4) pa_nil)) (blkOk_by (own := [("at", 9), ("pair", 10)]) (N := ["tape", "kinds", "worth", "ways", "found", "kind", "turn", "outcome", "look", "at", "pair"]) (sc := defScope sRules) (by decide +kernel)) (fun _ _ _ _ _ => (pg_tupK (K := K) (n := 2) (by rfl) (pgs_cons (pg_name (i := 9) scRules.nd rfl (by first | exact Or.inl rfl | exact Or.inr rfl)) (pgs_cons (pg_name (i := 10) scRules.nd rfl (by first | exact Or.inl rfl | exact Or.inr rfl)) pgs_nil)))) (fun _ _ _ _ _ => pts_nil) (fun _ _ _ _ _ => (pe_tup (pa_cons (pe_ix ix_str pe_str (pv 9) (fun _ _ => rfl)) (pa_cons (pe_ix (ix_tupK (K := K)) (pv 10) pe_int (fun _ _ => rfl)) (pa_cons (pe_ix (ix_tupK (K := K)) (pv 10) pe_int (fun _ _ => rfl)) (pa_cons pe_int pa_nil))))))) pa_nil))))))))), ?_⟩
    refine ⟨Nat.zero_le _, fun l hl => ?_⟩
    have hkm : (ks.map V.str).length = ks.length := List.length_map _
    have hKl : ∀ {H1 : Hp}, Go t H H1 → H1 ka = some (.lst (ks.map V.str)) := fun g => g.lst hK
    have hKS : ∀ {H1 : Hp}, Go t H H1 → SqL K H1 ka (ks.map V.str) := fun g => SqL.of (hKl g)
    have hl0 : l ≠ ka := fun e => by rw [e, hK] at hl; cases hl
    refine ⟨_, rfl, ka, rfl, ⟨_, hKS ((Go.refl hT).new hl)⟩, for_list (K := K) (a := ka) (xs := ks.map V.str)
      (fun j σ H1 => Found t H l ks j H1 ∧ ∃ o5 o6 o7 o8 o9 o10 : Option V, σ = [some (.ref t), some (.ref ka), some x, some (.int wy), some (.ref l), o5, o6, o7, o8, o9, o10])
      ⟨⟨(Go.refl hT).new hl, [], [], upd_same, rfl, fun p hp => by (cases hp), Nat.le_refl 0⟩, _, _, _, _, _, _, rfl⟩ (fun _ _ H1 _ h => hKS h.1.go) ?_ ?_⟩
    · rintro j y σ H1 hy ⟨F1, o5, o6, o7, o8, o9, o10, rfl⟩
      have hj : j < ks.length := by
        have := (List.getElem?_eq_some_iff.mp hy).1
        rw [hkm] at this
        exact this
      obtain ⟨kd, hkd, rfl⟩ := List.mem_map.mp (List.mem_of_getElem? hy)
      refine ⟨_, rfl, t, 12, rfl, F1.go.t1, by decide, by decide, fun r d m hr d0 m0 m1 => ?_⟩
      have F2 := F1.on ((Go.refl F1.go.t1).tape (d := d) (m := m) d0 m0 m1)
      generalize upd H1 t (tapeO d m) = H2 at F2
      have eh : ∃ us, H2 l = some (.lst us) := let ⟨us, _, e, _⟩ := F2.ex; ⟨us, e⟩
      obtain ⟨u2, hu⟩ := eh
      refine ⟨_, _, rfl, rfl, _, rfl, ?_⟩
      refine ite2 (fun _ => ?_) (fun _ => ?_)
      · refine ⟨_, rfl, .inl ⟨rfl, _, SqL.of hu⟩, _, rfl, Nat.zero_le _, fun b hb => ⟨(by show 2 ≤ sizeLine; decide), fun a ha => ?_⟩⟩
        have F3 := (F2.on ((Go.refl F2.go.t1).new (o := .tup []) hb))
        have F4 := F3.on ((Go.refl F3.go.t1).new (o := .tup [.str kd, .ref b]) ha)
        have hab : b ≠ a := fun z => by rw [← z, upd_same] at ha; cases ha
        obtain ⟨us, e4, l4, F5⟩ := F4.add hl (by omega) (v := .ref a) (p := (kd, [])) ⟨a, b, rfl, upd_same, by rw [upd_ne hab, upd_same]; rfl⟩ ⟨hkd, fun x hx => by (cases hx), Nat.zero_le _⟩
        exact ⟨l, us, _, rfl, rfl, e4, l4, F5, _, _, _, _, _, _, rfl⟩
      · refine ⟨_, rfl, rfl, _, rfl, ?_⟩
        refine ite2 (fun _ => ?_) (fun _ => ?_)
        · refine ⟨_, rfl, .inl ⟨rfl, _, SqL.of hu⟩, _, rfl, Nat.zero_le _, fun b hb => ⟨(by show 2 ≤ sizeLine; decide), fun a ha => ?_⟩⟩
          have F3 := (F2.on ((Go.refl F2.go.t1).new (o := .tup []) hb))
          have F4 := F3.on ((Go.refl F3.go.t1).new (o := .tup [.str kd, .ref b]) ha)
          have hab : b ≠ a := fun z => by rw [← z, upd_same] at ha; cases ha
          obtain ⟨us, e4, l4, F5⟩ := F4.add hl (by omega) (v := .ref a) (p := (kd, [])) ⟨a, b, rfl, upd_same, by rw [upd_ne hab, upd_same]; rfl⟩ ⟨hkd, fun x hx => by (cases hx), Nat.zero_le _⟩
          exact ⟨l, us, _, rfl, rfl, e4, l4, F5, _, _, _, _, _, _, rfl⟩
        · exact ⟨F2.le (by omega), _, _, _, _, _, _, rfl⟩
    · rintro σ H1 ⟨F1, o5, o6, o7, o8, o9, o10, rfl⟩
      rw [hkm] at F1
      refine ⟨_, rfl, t, 5, rfl, F1.go.t1, by decide, by decide, fun r d m hr d0 m0 m1 => ?_⟩
      have F2 := F1.on ((Go.refl F1.go.t1).tape (d := d) (m := m) d0 m0 m1)
      generalize upd H1 t (tapeO d m) = H2 at F2
      refine ⟨_, rfl, by omega, by omega, for_range (lo := 0) (fun j σ H3 => Found t H l ks (6 + j) H3 ∧ ∃ o5 o6 o7 o8 o9 o10 : Option V, σ = [some (.ref t), some (.ref ka), some x, some (.int wy), some (.ref l), o5, o6, o7, o8, o9, o10])
        ⟨F2.le hk6, _, _, _, _, _, _, rfl⟩ ?_ ?_⟩
      · rintro j σ H3 hj ⟨F3, o5, o6, o7, o8, o9, o10, rfl⟩
        have hj4 : j < 5 := by omega
        refine ⟨_, rfl, _, rfl, (by show 3 ≤ sizeLine; decide), fun q hq => ?_⟩
        have g4 := (Go.refl F3.go.t1).new (o := .lst [.int 4, .int 4, .int 5]) hq
        have e4 : upd H3 q (.lst [.int 4, .int 4, .int 5]) q = some (.lst [.int 4, .int 4, .int 5]) := upd_same
        have F4 := F3.on g4
        generalize upd H3 q (.lst [.int 4, .int 4, .int 5]) = H4 at e4 F4
        refine ⟨t, q, _, rfl, F4.go.t1, SqL.of e4, (by show 0 < 3; decide), (by show 3 < 1073741824; decide), one_sq F4.go.t1 e4, fun v d m hv d0 m0 m1 => ?_⟩
        have F5 := F4.on ((Go.refl F4.go.t1).tape (d := d) (m := m) d0 m0 m1)
        generalize upd H4 t (tapeO d m) = H5 at F5
        have hv2 : ∃ n : Nat, v = .int (n : Int) ∧ 0 < n ∧ n ≤ 5 := by
          simp only [List.mem_cons, List.not_mem_nil, or_false] at hv
          rcases hv with rfl | rfl | rfl
          · exact ⟨4, rfl, by decide, by decide⟩
          · exact ⟨4, rfl, by decide, by decide⟩
          · exact ⟨5, rfl, by decide, by decide⟩
        obtain ⟨n, rfl, hn0, hn5⟩ := hv2
        refine ⟨t, n, rfl, F5.go.t1, hn0, by omega, fun r2 d m hr2 d0 m0 m1 => ?_⟩
        have F6 := F5.on ((Go.refl F5.go.t1).tape (d := d) (m := m) d0 m0 m1)
        generalize upd H5 t (tapeO d m) = H6 at F6
        refine ⟨_, rfl, by omega, by omega, fun D hD => lr_draw (ks := ks) F6.go.t1 (by omega) hD (fun z H7 Q7 g7 q7 => ?_) fun H7 os g7 e7 hlo hos => ?_⟩
        · have G7 := F6.go.trans g7
          refine ⟨_, rfl, _, rfl, t, ka, _, rfl, G7.t1, hKS G7, by omega, by omega, one_sq G7.t1 (hKl G7), fun v d m hv d0 m0 m1 => ?_⟩
          obtain ⟨k, hk, rfl⟩ := List.mem_map.mp hv
          exact q7 k _ hk ((Go.refl G7.t1).tape d0 m0 m1)
        · have F7 := F6.on g7
          refine ⟨D, _, rfl, .inl ⟨SqL.of e7, fun b hb => ?_⟩⟩
          have F8 := F7.on ((Go.refl F7.go.t1).new (o := .tup (os.map V.str)) hb)
          have e8 : upd H7 b (.tup (os.map V.str)) b = some (.tup (os.map V.str)) := upd_same
          generalize upd H7 b (.tup (os.map V.str)) = H8 at F8 e8
          have eh : ∃ us, H8 l = some (.lst us) := let ⟨us, _, e, _⟩ := F8.ex; ⟨us, e⟩
          obtain ⟨u2, hu⟩ := eh
          refine ⟨_, rfl, .inl ⟨rfl, _, SqL.of hu⟩, _, rfl, _, rfl, t, ka, _, rfl, F8.go.t1, hKS F8.go, by omega, by omega, one_sq F8.go.t1 (hKl F8.go), fun v d m hv d0 m0 m1 => ?_⟩
          obtain ⟨k, hk, rfl⟩ := List.mem_map.mp hv
          have g9 := (Go.refl F8.go.t1).tape (d := d) (m := m) d0 m0 m1
          have F9 := F8.on g9
          have e9 := g9.keepT e8
          generalize upd H8 t (tapeO d m) = H9 at F9 e9
          refine ⟨_, rfl, (by show 2 ≤ sizeLine; decide), fun a ha => ?_⟩
          have F10 := F9.on ((Go.refl F9.go.t1).new (o := .tup [.str k, .ref b]) ha)
          obtain ⟨us, e10, l10, F11⟩ := F10.add hl (by omega) (v := .ref a) (p := (k, os)) ⟨a, b, rfl, upd_same, same_upd ha _ _ e9⟩ ⟨hk, hos, by show os.length ≤ 4; omega⟩
          exact ⟨l, us, _, rfl, rfl, e10, l10, F11, _, _, _, _, _, _, rfl⟩
      · rintro σ H3 ⟨F3, o5, o6, o7, o8, o9, o10, rfl⟩
        have F3 := F3.le (show 6 + (r : Int).toNat ≤ 10 by omega)
        dsimp only
        refine seq_cut (fun σ H5 => ∃ l2, (∃ o5 o6 o7 o8 o9 o10 : Option V, σ = [some (.ref t), some (.ref ka), some x, some (.int wy), some (.ref l2), o5, o6, o7, o8, o9, o10]) ∧ Go t H H5 ∧ H l2 = none ∧
          ∃ us ps, H5 l2 = some (.lst us) ∧ Pairs H5 us ps ∧ (∀ p ∈ ps, PairOk ks p) ∧ ps.length ≤ 10) ?_ (fun fin => ?_)
        · rintro σ H5 ⟨l2, ⟨o5, o6, o7, o8, o9, o10, rfl⟩, g5, n5, us, ps, e5, hps, hok, hle⟩
          have hlen := hps.len
          refine ⟨_, rfl, _, rfl, l2, us, rfl, SqL.of e5, fun D hD => ?_⟩
          have hD0 : H D = none := g5.free hD
          refine lc_enum (K := K) (a := l2) (xs := us) (fun j H6 => Go t H5 H6 ∧ ∃ vs, H6 D = some (.lst vs) ∧ Rules H6 vs (numb 0 (ps.take j))) ⟨(Go.refl g5.t1).new hD, [], upd_same, rfl⟩ (fun _ _ _ h => SqL.of (h.1.lst e5)) ?_ ?_
          · rintro j v H6 T hv ⟨g6, vs, e6, hvs⟩ hT
            have hj : j < us.length := (List.getElem?_eq_some_iff.mp hv).1
            obtain ⟨p, hp, hpv⟩ := hps.get hv
            have g7 := g6.new (o := .tup [.int (j : Int), v]) hT
            have sT := same_upd (o := .tup [.int (j : Int), v]) hT
            have e7 := sT _ _ e6
            have h7 := hvs.up sT
            have eT : upd H6 T (.tup [.int (j : Int), v]) T = some (.tup [.int (j : Int), v]) := upd_same
            generalize upd H6 T (.tup [.int (j : Int), v]) = H7 at g7 e7 h7 eT
            obtain ⟨a, b, rfl, ha, hb⟩ := hpv.up (.go g7)
            have hlj := letter_at j (by omega)
            cases hc : atI ("abcdefghijklmnop" : Str).cps.toList (j : Int) with
            | none =>
              rw [hc] at hlj
              cases hlj
            | some c =>
              rw [hc] at hlj
              have hlj2 : (⟨#[c]⟩ : Str) = letters16.getD j "a" := Option.some.inj hlj
              refine ⟨T, _, rfl, SqT.of eT, rfl, _, _, rfl, _, _, rfl, rfl, rfl, yes_cut ?_⟩
              refine ⟨_, rfl, _, _, c, rfl, rfl, (by show 16 ≤ sizeLine; decide), hc, _, rfl, a, _, 0, .str p.1, rfl, rfl, SqT.of ha, rfl, _, rfl, a, _, 1, .ref b, rfl, rfl, SqT.of ha, rfl, (by show 4 ≤ sizeLine; decide), fun q hq => ?_⟩
              have sq := same_upd (o := .tup [.str ⟨#[c]⟩, .str p.1, .ref b, .int 0]) hq
              have hvl := h7.len
              rw [numb_len, List.length_take] at hvl
              refine ⟨vs, sq _ _ e7, by rw [sizeLine_eq]; omega, (g7.same sq).up hD, vs ++ [.ref q], upd_same, ?_⟩
              rw [List.take_add_one, hp]
              show Rules _ _ (numb 0 (ps.take j ++ [p]))
              rw [numb_snoc]
              have hjp : j < ps.length := by omega
              rw [List.length_take, Nat.zero_add, Nat.min_eq_left (by omega), ← hlj2]
              exact ((h7.up sq).ups (.lst (sq _ _ e7))).app ⟨⟨_, p.1, p.2, 0⟩, [], rfl, ⟨q, b, rfl, Tups.lst (sq _ _ e7) _ _ upd_same, Tups.lst (sq _ _ e7) _ _ (sq _ _ hb)⟩, rfl⟩
          · rintro H6 ⟨g6, vs, e6, hvs⟩
            rw [hlen, List.take_length] at hvs
            have hvl := hvs.len
            rw [numb_len] at hvl
            refine ⟨t, D, vs, rfl, g6.t1, SqL.of e6, by omega, fun p ws H7 hpm g7 n7 e7 => ?_⟩
            have G := (g5.trans g6).trans g7
            obtain ⟨ts, hts, hR⟩ := All2.perm hpm hvs
            exact hQ p ws ts H7 ((numb_ok hok hle).perm hts) (fun r hr => (numb_mem (hts.mem_iff.mp hr)).2) G ((g5.trans g6).free n7) e7 (Rules.go g7 hR)
        · have skip := fin _ _ ⟨l, ⟨o5, o6, o7, o8, o9, o10, rfl⟩, F3.go, hl, F3.ex⟩
          refine ⟨_, rfl, _, _, rfl, rfl, _, rfl, ?_⟩
          refine ite2 (fun _ => ?_) (fun _ => skip)
          refine ⟨_, rfl, _, _, rfl, .inl ⟨_, hKS F3.go, rfl⟩, _, _, rfl, rfl, _, rfl, ?_⟩
          refine ite2 (fun _ => ?_) (fun _ => skip)
          clear skip
          obtain ⟨us, ps, e3, hps, hok, hle⟩ := F3.ex
          have hlen := hps.len
          refine ⟨_, rfl, l, rfl, ⟨_, SqL.of e3⟩, fun D hD => ?_⟩
          have hD0 : H D = none := F3.go.free hD
          obtain ⟨kz, hkz, hkz2⟩ := at_last hk1
          refine lc_list (K := K) (a := l) (xs := us) (fun j H5 => Go t H3 H5 ∧ Found t H D ks j H5) ⟨(Go.refl F3.go.t1).new hD, F3.go.new hD, [], [], upd_same, rfl, fun p hp => by (cases hp), Nat.le_refl 0⟩ (fun _ _ _ h => SqL.of (h.1.lst e3)) ?_ ?_
          · rintro j v H5 hv ⟨g5, F5⟩
            have hj : j < us.length := (List.getElem?_eq_some_iff.mp hv).1
            obtain ⟨p, hp, hpv⟩ := hps.get hv
            have hpk := hok p (List.mem_of_getElem? hp)
            obtain ⟨a, b, rfl, ha, hb⟩ := hpv.up (.go g5)
            refine ⟨a, _, rfl, SqT.of ha, rfl, _, _, rfl, _, _, rfl, rfl, rfl, ?_⟩
            have hD3 : H3 D = none := hD
            refine yes_cut ?_
            refine if_cut (fun H6 => Go t H5 H6) (fun H6 g6 => ?_) (fun H6 g6 => ?_) (fun hA hB => ?_)
            · refine ⟨_, rfl, _, rfl, _, rfl, ka, _, -1, .str kz, rfl, rfl, hKS (F3.go.trans (g5.trans g6)), hkz2, (by show 1 ≤ sizeLine; decide), fun e he => ⟨(by show 2 ≤ sizeLine; decide), fun c hc => ?_⟩⟩
              have g7 := (g6.new (o := .tup [.str kz]) he).new (o := .tup [.str p.1, .ref e]) hc
              have hec : e ≠ c := fun z => by rw [← z, upd_same] at hc; cases hc
              obtain ⟨us3, e8, l8, F8⟩ := (F5.on g7).add hD0 (by omega) (v := .ref c) (p := (p.1, [kz])) ⟨c, e, rfl, upd_same, by rw [upd_ne hec, upd_same]; rfl⟩ ⟨hpk.1, fun x hx => by rw [List.mem_singleton.mp hx]; exact hkz, by show 1 ≤ 4; decide⟩
              exact ⟨us3, e8, l8, (g5.trans g7).up hD3, F8⟩
            · refine ⟨_, rfl, _, rfl, (by show 2 ≤ sizeLine; decide), fun c hc => ?_⟩
              have g7 := g6.new (o := .tup [.str p.1, .ref b]) hc
              obtain ⟨us3, e8, l8, F8⟩ := (F5.on g7).add hD0 (by omega) (v := .ref c) (p := p) ⟨c, b, rfl, upd_same, g7.keepT hb⟩ hpk
              exact ⟨us3, e8, l8, (g5.trans g7).up hD3, F8⟩
            · refine ⟨_, rfl, Nat.zero_le _, fun e he => ⟨b, e, _, rfl, rfl, SqT.of (same_upd he _ _ hb), SqT.of upd_same, _, rfl, ?_⟩⟩
              have g6 := (Go.refl g5.t1).new (o := .tup []) he
              generalize upd H5 e (.tup []) = H6 at g6
              cases (p.2.map V.str).isEmpty with
              | false => exact hB H6 g6
              | true =>
                refine ⟨_, rfl, _, rfl, _, rfl, ka, _, -1, .str kz, rfl, rfl, hKS (F3.go.trans (g5.trans g6)), hkz2, rfl, _, rfl, ?_⟩
                cases (!decide (V.str p.1 = V.str kz)) with
                | false => exact hB H6 g6
                | true =>
                  refine ⟨_, rfl, t, 4, rfl, g6.t1, by decide, by decide, fun r d m hr d0 m0 m1 => ⟨rfl, _, rfl, ?_⟩⟩
                  have g7 := g6.tape (d := d) (m := m) d0 m0 m1
                  generalize upd H6 t (tapeO d m) = H7 at g7
                  cases decide (V.int (r : Int) = V.int 0) with
                  | false => exact hB H7 g7
                  | true => exact hA H7 g7
          · rintro H5 ⟨g5, F5⟩
            obtain ⟨us2, ps2, e5, h5, ok5, n5⟩ := F5.ex
            exact fin _ _ ⟨D, ⟨_, _, _, _, _, _, rfl⟩, F5.go, hD0, us2, ps2, e5, h5, ok5, by omega⟩
end
end Dw
namespace Dw
open PySem PySem.Spec PyProof.Rows L2 He Fh
abbrev sPlan : Stmt := top 29
section
variable {P : Program} {w : World} {K : PySem.W.Frag} {mg : Str → Option Value} {base : Heap}
theorem scPlan : FnScope ["tape", "most", "kinds", "handles", "way", "plan", "living", "worth", "rules", "at", "kind", "name", "outcome", "change", "one"] ["tape", "most"] (defScope sPlan) := ⟨rfl, rfl, rfl, by decide +kernel, rfl, by decide +kernel, by decide +kernel⟩
theorem ok_plan {f fP fO fS fR fA : Addr} {fd fdP fdO fdS fdR fdA : FuncData} (F : FnP K "_law_drawn_plan" sPlan f fd) (g_len : mg "len" = none) (g_int : mg "int" = none) (g_dict : mg "dict" = none) (g_sum : mg "sum" = none)
    (G_law_pick : FnOk P w K mg base CX0 1 fP fdP ["tape", "many"] spPick) (m_law_pick : mg "_law_pick" = some (.ref fP)) (k_law_pick : PySem.W.keepIn K (.ref fP) = true) (b_law_pick : Binds K fdP ["tape", "many"] [])
    (G_law_one_of : FnOk P w K mg base CX0 2 fO fdO ["tape", "things"] (spOne K)) (m_law_one_of : mg "_law_one_of" = some (.ref fO)) (k_law_one_of : PySem.W.keepIn K (.ref fO) = true) (b_law_one_of : Binds K fdO ["tape", "things"] [])
    (G_law_shuffled : FnOk P w K mg base CX0 2 fS fdS ["tape", "things"] (spShuf K)) (m_law_shuffled : mg "_law_shuffled" = some (.ref fS)) (k_law_shuffled : PySem.W.keepIn K (.ref fS) = true) (b_law_shuffled : Binds K fdS ["tape", "things"] [])
    (G_law_alive : FnOk P w K mg base CX0 1 fA fdA ["plan"] spAlive) (m_law_alive : mg "_law_alive" = some (.ref fA)) (k_law_alive : PySem.W.keepIn K (.ref fA) = true) (b_law_alive : Binds K fdA ["plan"] [])
    (G_law_drawn_rules : FnOk P w K mg base CX0 3 fR fdR ["tape", "kinds", "worth", "ways"] spRules) (m_law_drawn_rules : mg "_law_drawn_rules" = some (.ref fR)) (k_law_drawn_rules : PySem.W.keepIn K (.ref fR) = true) (b_law_drawn_rules : Binds K fdR ["tape", "kinds", "worth", "ways"] []) :
    FnOk P w K mg base CX0 4 f fd ["tape", "most"] spPlan := by
  refine F.ok scPlan (fun vs H Q E h => ?_) (fun cdv A outer s H vs Q E hr h => ?_)
  · obtain ⟨t, n, rfl, _⟩ := h
    rfl
  · obtain ⟨t, n, rfl, hT, hn1, hn6, hQ⟩ := h
    have hu64 : (A.deeper (envOfC "_law_drawn_plan" (defScope sPlan) s.heap.objs.size f cdv)).units + 64 < cLine := hr.units
    have hu := hu_of hr
    have r_law_drawn_rules := hr
    have r_law_one_of : Room 2 _ := hr.mono (by decide)
    have r_law_shuffled : Room 2 _ := hr.mono (by decide)
    have r_law_pick : Room 1 _ := hr.mono (by decide)
    have r_law_alive : Room 1 _ := hr.mono (by decide)
    refine ⟨_, PSs.nox (pss_cons (ps_set (i := 2) scPlan.nd rfl (by first | exact Or.inl rfl | exact Or.inr rfl) (pe_slice sl_list (pe_call G_law_shuffled r_law_shuffled rfl m_law_shuffled k_law_shuffled b_law_shuffled .nil pass0 (pa_cons (pv 0) (pa_cons (pe_lst (pa_cons pe_str (pa_cons pe_str (pa_cons pe_str (pa_cons pe_str (pa_cons pe_str (pa_cons pe_str pa_nil))))))) pa_nil))) po_none (po_some (pe_op op_add pe_int (pe_call G_law_pick r_law_pick rfl m_law_pick k_law_pick b_law_pick .nil pass0 (pa_cons (pv 0) (pa_cons (pv 1) pa_nil)))))))
 (pss_cons (ps_setLc (i := 3) (own := [("kind", 10)]) (g := (gName 10)) (by rfl) scPlan.nd rfl rfl (sw_true rfl rfl rfl (by decide +kernel)) (pi_list (pv 2)) (blkOk_by (own := [("kind", 10)]) (N := ["tape", "most", "kinds", "handles", "way", "plan", "living", "worth", "rules", "at", "kind", "name", "outcome", "change", "one"]) (sc := defScope sPlan) (by decide +kernel)) (fun _ _ _ _ _ => pg_name (i := 10) scPlan.nd rfl (by first | exact Or.inl rfl | exact Or.inr rfl)) (fun _ _ _ _ _ => pts_one (pt_cmpR op_eq (pe_call G_law_pick r_law_pick rfl m_law_pick k_law_pick b_law_pick .nil pass0 (pa_cons (pv 0) (pa_cons pe_int pa_nil))) pe_int (nomark _))) (fun _ _ _ _ _ => (pv 10)))
 (pss_cons (ps_set (i := 4) scPlan.nd rfl (by first | exact Or.inl rfl | exact Or.inr rfl) (pe_call G_law_pick r_law_pick rfl m_law_pick k_law_pick b_law_pick .nil pass0 (pa_cons (pv 0) (pa_cons pe_int pa_nil))))
 (pss_cons (ps_set (i := 5) scPlan.nd rfl (by first | exact Or.inl rfl | exact Or.inr rfl) (pe_lst (pa_cons (pv 2) (pa_cons (pv 3) (pa_cons (pe_call G_law_drawn_rules r_law_drawn_rules rfl m_law_drawn_rules k_law_drawn_rules b_law_drawn_rules .nil pass0 (pa_cons (pv 0) (pa_cons (pv 2) (pa_cons pe_non (pa_cons (pe_call G_law_pick r_law_pick rfl m_law_pick k_law_pick b_law_pick .nil pass0 (pa_cons (pv 0) (pa_cons pe_int pa_nil))) pa_nil))))) (pa_cons (pe_call G_law_one_of r_law_one_of rfl m_law_one_of k_law_one_of b_law_one_of .nil pass0 (pa_cons (pv 0) (pa_cons (pv 2) pa_nil))) (pa_cons pe_int pa_nil)))))))
 (pss_cons (ps_set (i := 6) scPlan.nd rfl (by first | exact Or.inl rfl | exact Or.inr rfl) (pe_call G_law_alive r_law_alive rfl m_law_alive k_law_alive b_law_alive .nil pass0 (pa_cons (pv 5) pa_nil)))
 (pss_cons (ps_set (i := 7) scPlan.nd rfl (by first | exact Or.inl rfl | exact Or.inr rfl) (pe_callTy (call_dictP rfl) (by rfl) g_dict (by decide +kernel) (pa_cons (pe_lc (own := [("kind", 10)]) (g := (gName 10)) (by rfl) scPlan.nd (pi_list (pv 2)) (blkOk_by (own := [("kind", 10)]) (N := ["tape", "most", "kinds", "handles", "way", "plan", "living", "worth", "rules", "at", "kind", "name", "outcome", "change", "one"]) (sc := defScope sPlan) (by decide +kernel)) (fun _ _ _ _ _ => pg_name (i := 10) scPlan.nd rfl (by first | exact Or.inl rfl | exact Or.inr rfl)) (fun _ _ _ _ _ => pts_nil) (fun _ _ _ _ _ => (pe_tup (pa_cons (pv 10) (pa_cons (pe_op op_add (pe_callTy call_int1 (by rfl) g_int (by decide +kernel) (pa_cons (pe_cmpR (op_inK (K := K)) (pv 10) (pv 6) (by rfl)) pa_nil)) (pe_call G_law_pick r_law_pick rfl m_law_pick k_law_pick b_law_pick .nil pass0 (pa_cons (pv 0) (pa_cons pe_int pa_nil)))) pa_nil))))) pa_nil)))
 (pss_cons (ps_if (pt_cmpR op_eq (pv 4) pe_int (nomark _))
 (pss_one (ps_set (i := 7) scPlan.nd rfl (by first | exact Or.inl rfl | exact Or.inr rfl) (pe_callTy (call_dictP rfl) (by rfl) g_dict (by decide +kernel) (pa_cons (pe_lc (own := [("kind", 10)]) (g := (gName 10)) (by rfl) scPlan.nd (pi_list (pv 2)) (blkOk_by (own := [("kind", 10)]) (N := ["tape", "most", "kinds", "handles", "way", "plan", "living", "worth", "rules", "at", "kind", "name", "outcome", "change", "one"]) (sc := defScope sPlan) (by decide +kernel)) (fun _ _ _ _ _ => pg_name (i := 10) scPlan.nd rfl (by first | exact Or.inl rfl | exact Or.inr rfl)) (fun _ _ _ _ _ => pts_nil) (fun _ _ _ _ _ => (pe_tup (pa_cons (pv 10) (pa_cons (pe_op op_sub (pe_dget hu (pv 7) (pv 10) (fun _ _ => rfl)) (pe_call G_law_pick r_law_pick rfl m_law_pick k_law_pick b_law_pick .nil pass0 (pa_cons (pv 0) (pa_cons pe_int pa_nil)))) pa_nil))))) pa_nil)))) pss_nil)
 (pss_cons (ps_setLc (i := 8) (own := [("name", 11), ("kind", 10), ("outcome", 12), ("change", 13)]) (g := (gTup K 4 (gCons (gName 11) (gCons (gName 10) (gCons (gName 12) (gCons (gName 13) gNil)))))) (by rfl) scPlan.nd rfl rfl (sw_true rfl rfl rfl (by decide +kernel)) (pi_list (pe_ix ix_list (pv 5) pe_int (fun _ _ => rfl))) (blkOk_by (own := [("name", 11), ("kind", 10), ("outcome", 12), ("change", 13)]) (N := ["tape", "most", "kinds", "handles", "way", "plan", "living", "worth", "rules", "at", "kind", "name", "outcome", "change", "one"]) (sc := defScope sPlan) (by decide +kernel)) (fun _ _ _ _ _ => (pg_tupK (K := K) (n := 4) (by rfl) (pgs_cons (pg_name (i := 11) scPlan.nd rfl (by first | exact Or.inl rfl | exact Or.inr rfl)) (pgs_cons (pg_name (i := 10) scPlan.nd rfl (by first | exact Or.inl rfl | exact Or.inr rfl)) (pgs_cons (pg_name (i := 12) scPlan.nd rfl (by first | exact Or.inl rfl | exact Or.inr rfl)) (pgs_cons (pg_name (i := 13) scPlan.nd rfl (by first | exact Or.inl rfl | exact Or.inr rfl)) pgs_nil)))))) (fun _ _ _ _ _ => pts_nil) (fun _ _ _ _ _ => (pe_tup (pa_cons (pv 11) (pa_cons (pv 10) (pa_cons (pv 12) (pa_cons (pe_op op_sub (pe_callB (cr_sumK (K := K) rfl) (by rfl) g_sum (by decide +kernel) (pa_cons (pe_lc (own := [("one", 14)]) (g := (gName 14)) (by rfl) scPlan.nd (pi_tupK (K := K) (pv 12)) (blkOk_by (own := [("one", 14)]) (N := ["tape", "most", "kinds", "handles", "way", "plan", "living", "worth", "rules", "at", "kind", "name", "outcome", "change", "one"]) (by rfl)) (fun _ _ _ _ _ => pg_name (i := 14) scPlan.nd rfl (by first | exact Or.inl rfl | exact Or.inr rfl)) (fun _ _ _ _ _ => pts_nil) (fun _ _ _ _ _ => (pe_dget hu (pv 7) (pv 14) (fun _ _ => rfl)))) pa_nil)) (pe_dget hu (pv 7) (pv 10) (fun _ _ => rfl))) pa_nil)))))))
 (pss_cons (ps_if (pt_cmpR op_eq (pv 4) pe_int (nomark _))
 (pss_one (ps_setLc (i := 8) (own := [("name", 11), ("kind", 10), ("outcome", 12), ("change", 13)]) (g := (gTup K 4 (gCons (gName 11) (gCons (gName 10) (gCons (gName 12) (gCons (gName 13) gNil)))))) (by rfl) scPlan.nd rfl rfl (sw_true rfl rfl rfl (by decide +kernel)) (pi_list (pv 8)) (blkOk_by (own := [("name", 11), ("kind", 10), ("outcome", 12), ("change", 13)]) (N := ["tape", "most", "kinds", "handles", "way", "plan", "living", "worth", "rules", "at", "kind", "name", "outcome", "change", "one"]) (sc := defScope sPlan) (by decide +kernel)) (fun _ _ _ _ _ => (pg_tupK (K := K) (n := 4) (by rfl) (pgs_cons (pg_name (i := 11) scPlan.nd rfl (by first | exact Or.inl rfl | exact Or.inr rfl)) (pgs_cons (pg_name (i := 10) scPlan.nd rfl (by first | exact Or.inl rfl | exact Or.inr rfl)) (pgs_cons (pg_name (i := 12) scPlan.nd rfl (by first | exact Or.inl rfl | exact Or.inr rfl)) (pgs_cons (pg_name (i := 13) scPlan.nd rfl (by first | exact Or.inl rfl | exact Or.inr rfl)) pgs_nil)))))) (fun _ _ _ _ _ => pts_nil) (fun _ _ _ _ _ => (pe_tup (pa_cons (pv 11) (pa_cons (pv 10) (pa_cons (pv 12) (pa_cons (pe_op op_sub (pe_call G_law_pick r_law_pick rfl m_law_pick k_law_pick b_law_pick .nil pass0 (pa_cons (pv 0) (pa_cons pe_int pa_nil))) pe_int) pa_nil)))))))) pss_nil)
 (pss_cons (ps_if (PW.pt (pw_and (pt_cmpR op_eq (pv 4) pe_int (nomark _)) (pw_and1 (pt_cmpR (op_neE hu64) (pv 8) (pe_lst pa_nil) (nomark _)))))
 (pss_cons (ps_set (i := 9) scPlan.nd rfl (by first | exact Or.inl rfl | exact Or.inr rfl) (pe_call G_law_pick r_law_pick rfl m_law_pick k_law_pick b_law_pick .nil pass0 (pa_cons (pv 0) (pa_cons (pe_callB call_len (by rfl) g_len (by decide +kernel) (pa_cons (pv 8) pa_nil)) pa_nil))))
 (pss_cons (ps_asg (pe_ix ix_list (pv 8) (pv 9) (fun _ _ => rfl)) (pg_tup (by rfl) (pgs_cons (pg_name (i := 11) scPlan.nd rfl (by first | exact Or.inl rfl | exact Or.inr rfl)) (pgs_cons (pg_name (i := 10) scPlan.nd rfl (by first | exact Or.inl rfl | exact Or.inr rfl)) (pgs_cons (pg_name (i := 12) scPlan.nd rfl (by first | exact Or.inl rfl | exact Or.inr rfl)) (pgs_cons (pg_name (i := 13) scPlan.nd rfl (by first | exact Or.inl rfl | exact Or.inr rfl)) pgs_nil))))))
 (pss_one (ps_asg (pe_tup (pa_cons (pv 11) (pa_cons (pv 10) (pa_cons (pv 12) (pa_cons (pe_op op_add (pv 13) (pe_call G_law_one_of r_law_one_of rfl m_law_one_of k_law_one_of b_law_one_of .nil pass0 (pa_cons (pv 0) (pa_cons (pe_lst (pa_cons pe_int (pa_cons (pe_op op_sub pe_int pe_int) (pa_cons pe_int pa_nil)))) pa_nil)))) pa_nil))))) (pg_sub (pv 8) (pv 9) set_list))))) pss_nil)
 (pss_one (ps_ret (pe_lst (pa_cons (pv 2) (pa_cons (pv 3) (pa_cons (pv 8) (pa_cons (pe_ix ix_list (pv 5) pe_int (fun _ _ => rfl)) (pa_cons (pe_op op_add (pe_dget hu (pv 7) (pe_ix ix_list (pv 5) pe_int (fun _ _ => rfl)) (fun _ _ => rfl)) (pe_ifExp (pt_cmpR op_eq (pv 4) pe_int (nomark _)) (pe_call G_law_pick r_law_pick rfl m_law_pick k_law_pick b_law_pick .nil pass0 (pa_cons (pv 0) (pa_cons pe_int pa_nil))) pe_int)) pa_nil)))))))))))))))))), ?_⟩
    -- the kinds
    refine ⟨_, rfl, (by show 6 ≤ sizeLine; decide), fun q0 hq0 => ?_⟩
    have g0 := (Go.refl hT).new (o := .lst (pool.map V.str)) hq0
    have e0 : upd H q0 (.lst (pool.map V.str)) q0 = some (.lst (pool.map V.str)) := upd_same
    refine ⟨t, q0, pool.map V.str, rfl, g0.t1, SqL.of e0, (by show 6 ≤ 100000; decide), fun p1 ys H1 hpm g1 n1 e1 => ?_⟩
    have G1 := g0.trans g1
    clear e0
    obtain ⟨ts, hts, rfl⟩ := strs_perm hpm
    refine ⟨_, rfl, _, rfl, t, n, rfl, G1.t1, by omega, by omega, fun r d m hr d0 m0 m1 => ⟨_, _, rfl, rfl, _, rfl, ?_⟩⟩
    have g2 := (Go.refl G1.t1).tape (d := d) (m := m) d0 m0 m1
    have G2 := G1.trans g2
    have e2 := g2.lst e1
    generalize upd H1 t (tapeO d m) = H2 at g2 G2 e2
    refine ⟨p1, _, rfl, SqL.of e2, fun ka hka => ?_⟩
    have nka := G2.free hka
    have G3 := G2.new (o := .lst (cutV (ts.map V.str) none (some (1 + (r : Int))))) hka
    have e3 : upd H2 ka (.lst (cutV (ts.map V.str) none (some (1 + (r : Int))))) ka = some (.lst ((ts.take (1 + r)).map V.str)) := by
      rw [upd_same, show (1 + (r : Int)) = ((1 + r : Nat) : Int) by omega, cut_take, List.map_take]
    generalize upd H2 ka (.lst (cutV (ts.map V.str) none (some (1 + (r : Int))))) = H3 at G3 e3
    have hts6 : ts.length = 6 := hts.length_eq
    have hkn : (ts.take (1 + r)).Nodup := (List.take_sublist _ _).nodup (hts.nodup_iff.mpr pool_nodup)
    have hkp : ∀ x ∈ ts.take (1 + r), x ∈ pool := fun x hx => hts.mem_iff.mp (List.mem_of_mem_take hx)
    have hkl : 1 ≤ (ts.take (1 + r)).length ∧ (ts.take (1 + r)).length ≤ n := by
      rw [List.length_take]
      omega
    clear e2 g2 hka e1 n1 G1 g1 hpm hq0 g0
    generalize ts.take (1 + r) = ks at e3 hkn hkp hkl
    obtain ⟨hk1, hkn2⟩ := hkl
    have hk6 : ks.length ≤ 6 := by omega
    -- the handles
    refine ⟨_, rfl, ka, rfl, ⟨_, SqL.of e3⟩, fun ha hha => ?_⟩
    have nha := G3.free hha
    have nah : ka ≠ ha := fun z => by rw [← z, e3] at hha; cases hha
    refine lc_list (K := K) (a := ka) (xs := ks.map V.str) (fun j H4 => Go t H3 H4 ∧ ∃ hs : List Str, H4 ha = some (.lst (hs.map V.str)) ∧ hs.Sublist (ks.take j)) ⟨(Go.refl G3.t1).new hha, [], upd_same, List.Sublist.refl _⟩ (fun _ _ _ h => SqL.of (h.1.lst e3)) ?_ ?_
    · rintro j x H4 hx ⟨g4, hs, e4, sub⟩
      have hj : j < ks.length := by
        have := (List.getElem?_eq_some_iff.mp hx).1
        rw [List.length_map] at this
        exact this
      have hkj : ks[j]? = some ks[j] := List.getElem?_eq_getElem hj
      rw [List.getElem?_map, hkj] at hx
      cases hx
      have hlen := sub.length_le
      rw [List.length_take] at hlen
      refine ⟨rfl, _, rfl, t, 2, rfl, g4.t1, by decide, by decide, fun z d m hz d0 m0 m1 => ⟨rfl, _, rfl, ?_⟩⟩
      have g5 := g4.tape (d := d) (m := m) d0 m0 m1
      have e5 := ((Go.refl g4.t1).tape (d := d) (m := m) d0 m0 m1).lst e4
      generalize upd H4 t (tapeO d m) = H5 at g5 e5
      have tk : ks.take (j + 1) = ks.take j ++ [ks[j]] := by rw [List.take_add_one, hkj]; rfl
      cases decide (V.int (z : Int) = V.int 0) with
      | true =>
        refine ⟨_, rfl, _, e5, by rw [List.length_map, sizeLine_eq]; omega, g5.up hha, hs ++ [ks[j]], ?_, ?_⟩
        · rw [upd_same]
          simp
        · rw [tk]
          exact sub.append (List.Sublist.refl _)
      | false =>
        refine ⟨g5, hs, e5, ?_⟩
        rw [tk]
        exact sub.trans (List.sublist_append_left _ _)
    rintro H4 ⟨g4, hs, e4, sub⟩
    rw [List.length_map, List.take_length] at sub
    have G4 := G3.trans g4
    have k4 := g4.lst e3
    clear hha e3 g4 G3
    have hhn : hs.Nodup := sub.nodup hkn
    have hhs : ∀ x ∈ hs, x ∈ ks := fun x hx => sub.subset hx
    -- the way, the plan
    refine ⟨_, rfl, t, 5, rfl, G4.t1, by decide, by decide, fun wy d m hwy d0 m0 m1 => ?_⟩
    have g5 := (Go.refl G4.t1).tape (d := d) (m := m) d0 m0 m1
    have G5 := G4.trans g5
    have k5 := g5.lst k4
    have h5 := g5.lst e4
    clear k4 e4 G4
    generalize upd H4 t (tapeO d m) = H5 at g5 G5 k5 h5
    refine ⟨_, rfl, _, rfl, _, rfl, _, rfl, _, rfl, t, 3, rfl, G5.t1, by decide, by decide, fun w3 d m hw3 d0 m0 m1 => ?_⟩
    have g6 := (Go.refl G5.t1).tape (d := d) (m := m) d0 m0 m1
    have G6 := G5.trans g6
    have k6 := g6.lst k5
    have h6 := g6.lst h5
    clear k5 h5 G5 g5
    generalize upd H5 t (tapeO d m) = H6 at g6 G6 k6 h6
    refine ⟨t, ka, ks, .non, (w3 : Int), rfl, G6.t1, k6, hk1, hk6, fun ra us rs H7 rok rz g7 nra e7 hR => ?_⟩
    have G7 := G6.trans g7
    have k7 := g7.lst k6
    have h7 := g7.lst h6
    have nka2 : ka ≠ ra := fun z => by rw [← z, k6] at nra; cases nra
    have nha2 : ha ≠ ra := fun z => by rw [← z, h6] at nra; cases nra
    have nra0 := G6.free nra
    clear k6 h6 G6 g6 g7 nra
    refine ⟨_, rfl, _, rfl, t, ka, _, rfl, G7.t1, SqL.of k7, by rw [List.length_map]; omega, by rw [List.length_map]; omega, one_sq G7.t1 k7, fun v d m hv d0 m0 m1 => ?_⟩
    obtain ⟨st, hst, rfl⟩ := List.mem_map.mp hv
    have g8 := (Go.refl G7.t1).tape (d := d) (m := m) d0 m0 m1
    have G8 := G7.trans g8
    have k8 := g8.lst k7
    have h8 := g8.lst h7
    have e8 := g8.lst e7
    have R8 := Rules.go g8 hR
    clear k7 h7 e7 hR G7 hv
    generalize upd H7 t (tapeO d m) = H8 at g8 G8 k8 h8 e8 R8
    clear g8
    refine ⟨(by show 5 ≤ sizeLine; decide), fun pl hpl => ?_⟩
    have s9 := same_upd (o := .lst [.ref ka, .ref ha, .ref ra, .str st, .int 0]) hpl
    have P9 : PlanAt (upd H8 pl (.lst [.ref ka, .ref ha, .ref ra, .str st, .int 0])) pl ⟨ka, ha, ra, .str st, .int 0, us⟩ ks hs rs := ⟨upd_same, s9 _ _ k8, s9 _ _ h8, s9 _ _ e8, R8.up s9⟩
    have npl := G8.free hpl
    have G9 := G8.new (o := .lst [.ref ka, .ref ha, .ref ra, .str st, .int 0]) hpl
    generalize upd H8 pl (.lst [.ref ka, .ref ha, .ref ra, .str st, .int 0]) = H9 at P9 G9
    clear s9 hpl k8 h8 e8 R8 G8
    have small1 : ∀ r ∈ rs, r.kind ∈ ks ∧ r.out.length ≤ 1000 := fun r hr => ⟨(rok.each r hr).1, by have := (rok.each r hr).2.2; simp only at this; omega⟩
    refine ⟨_, rfl, pl, _, ks, hs, rs, rfl, P9, hhn, hhs, small1, by omega, fun la lv H10 _ _ s10 nla ela => ?_⟩
    have G10 := G9.same s10
    have P10 := P9.up s10
    clear P9 nla s10 G9
    generalize hq : (⟨ka, ha, ra, .str st, .int 0, us⟩ : PlanRef) = q at P10
    have hqa : q.ka = ka := by rw [← hq]
    -- numbers of the kinds
    refine ⟨_, rfl, ka, rfl, ⟨_, SqL.of (hqa ▸ P10.kinds)⟩, fun D hD => lc_worth (K := K) (ks := ks) (b := 20) (by show 10 < 15; decide) G10.t1 (by omega) (hqa ▸ P10.kinds) hD (fun k H11 Q11 hk g11 q11 => ?_) fun H11 ps kvs g11 e11 hpr hkeys hb => ?_⟩
    · refine ⟨_, rfl, _, rfl, la, _, rfl, .inl (SqL.of (g11.lst ela)), rfl, flatS _, .inr ⟨_, rfl, ?_⟩⟩
      refine ⟨_, rfl, t, 4, rfl, g11.t1, by decide, by decide, fun z d m hz d0 m0 m1 => ⟨_, _, rfl, rfl, ?_⟩⟩
      refine q11 _ _ ?_ ?_ ((Go.refl g11.t1).tape d0 m0 m1)
      · split <;> omega
      · split <;> omega
    have hnd : (kvs.map (·.1)).Nodup := by
      rw [hkeys]
      exact nodup_inr hkn
    refine ⟨D, ps, kvs, rfl, SqL.of e11, hpr, fun wd hwd => ?_⟩
    have W12 : WorthAt (upd H11 wd (.dK (mergeK [] kvs))) wd ks 20 := ⟨kvs, by rw [upd_same, merge_new (by simpa using hnd)]; rfl, hkeys, hb⟩
    have g12 := g11.new (o := .dK (mergeK [] kvs)) hwd
    have G12 := G10.trans g12
    have nwt : wd ≠ t := fun z => by rw [z] at hwd; exact g11.t1.ne hwd
    have P12 := P10.go g12
    have l12 := g12.lst ela
    generalize upd H11 wd (.dK (mergeK [] kvs)) = H12 at W12 G12 P12 l12
    clear hwd hpr hkeys hb e11 g11 g12 G10 P10 ela hD hnd
    dsimp only [gName]
    refine seq_cut (fun σ H13 => ∃ wd, σ = [some (.ref t), some (.int (n : Nat)), some (.ref ka), some (.ref ha), some (.int (wy : Nat)), some (.ref pl), some (.ref la), some (.ref wd), none, none, none, none, none, none, none] ∧ Go t H H13 ∧ wd ≠ t ∧ WorthAt H13 wd ks 40 ∧ PlanAt H13 pl q ks hs rs) ?_ (fun fin => ?_)
    · clear W12 G12 nwt P12 l12
      rintro σ H13 ⟨wd, rfl, G13, nwt, W13, P13⟩
      subst hq
      have small2 := fun (r : RuleD) (hr : r ∈ rs) => rok.each r hr
      have hrl : rs.length ≤ 10 := rok.few
      have hul := P13.each.len
      refine ⟨_, rfl, pl, _, 2, .ref ra, rfl, rfl, SqL.of P13.top, rfl, ra, rfl, ⟨_, SqL.of P13.rules⟩, fun D hD => ?_⟩
      refine lc_list (K := K) (a := ra) (xs := us) (fun j H14 => Go t H13 H14 ∧ RulesJ D rs 500 j H14) ⟨(Go.refl G13.t1).new hD, [], [], upd_same, rfl, rfl, fun r h => by (cases h)⟩ (fun _ _ _ h => SqL.of (h.1.lst P13.rules)) ?_ ?_
      · rintro j v H14 hv ⟨g14, J⟩
        obtain ⟨r, hr, hv14⟩ := (P13.go g14).each.get hv
        obtain ⟨a, b, rfl, ha14, hb14⟩ := hv14
        have hrm := List.mem_of_getElem? hr
        have hok := small2 r hrm
        have W14 := W13.go g14 nwt
        refine ⟨a, _, rfl, SqT.of ha14, rfl, _, _, rfl, _, _, rfl, _, _, rfl, _, _, rfl, rfl, rfl, yes_cut ?_⟩
        refine ⟨_, rfl, _, rfl, _, rfl, _, rfl, b, rfl, ⟨_, SqT.of hb14⟩, fun D2 hD2 => lt_ints (b := 40) (by have := hok.2.2; simp only at this; omega) (SqT.of hb14) hD2 (fun k H15 Q15 hk s15 q15 => ?_) fun H15 ns s15 e15 hnl hnb => ?_⟩
        · obtain ⟨z, hz, z1, z2⟩ := (W14.up s15).get (hok.2.1 k hk)
          exact ⟨_, rfl, _, rfl, wd, _, rfl, hz, q15 _ _ z1 z2 (Same.refl H15)⟩
        · obtain ⟨z, hz, z1, z2⟩ := (W14.up s15).get hok.1
          have hsum := sum_small hnb
          have hnl4 : ns.length ≤ 4 := by rw [hnl]; exact hok.2.2
          refine ⟨D2, ns, rfl, SqL.of e15, _, rfl, _, rfl, wd, _, rfl, hz, _, _, rfl, rfl, (by show 4 ≤ sizeLine; decide), fun e he => ?_⟩
          have g16 := (Go.of g14.t1 s15).new (o := .tup [.str r.name, .str r.kind, .ref b, .int (ns.sum - z)]) he
          have sb := same_upd (o := .tup [.str r.name, .str r.kind, .ref b, .int (ns.sum - z)]) he _ _ (s15 _ _ hb14)
          obtain ⟨vs, e17, l17, J17⟩ := J.add (u := ⟨r.name, r.kind, r.out, ns.sum - z⟩) g16 (by omega) hr ⟨e, b, rfl, upd_same, sb⟩ rfl (by simp only; omega)
          exact ⟨vs, e17, l17, (g14.trans g16).up hD, J17⟩
      rintro H14 ⟨g14, J⟩
      rw [hul] at J
      have RA : RulesAt H13 D rs 500 H14 := ⟨hD, let ⟨vs, ts, e, q, c, s⟩ := J; ⟨vs, ts, e, q, by rw [c, List.take_length], s⟩⟩
      have G14 := G13.trans g14
      have W14 := W13.go g14 nwt
      have P14 := P13.go g14
      clear J hD hul
      dsimp only [gName]
      refine seq_cut (fun σ H15 => ∃ rr, σ = [some (.ref t), some (.int (n : Nat)), some (.ref ka), some (.ref ha), some (.int (wy : Nat)), some (.ref pl), some (.ref la), some (.ref wd), some (.ref rr), none, none, none, none, none, none] ∧ Go t H13 H15 ∧ RulesAt H13 rr rs 500 H15) ?_ (fun fin => ?_)
      · clear G14 W14 P14 RA g14
        rintro σ H15 ⟨rr, rfl, g15, RA⟩
        refine seq_cut (fun σ H16 => ∃ rr, (∃ o9 o10 o11 o12 o13 o14 : Option V, σ = [some (.ref t), some (.int (n : Nat)), some (.ref ka), some (.ref ha), some (.int (wy : Nat)), some (.ref pl), some (.ref la), some (.ref wd), some (.ref rr), o9, o10, o11, o12, o13, o14]) ∧ Go t H13 H16 ∧ RulesAt H13 rr rs 600 H16) ?_ (fun fin => ?_)
        · clear g15 RA
          rintro σ H16 ⟨rr, ⟨o9, o10, o11, o12, o13, o14, rfl⟩, g16, RA⟩
          have P16 := P13.go g16
          obtain ⟨i, hi, i1, i2⟩ := (W13.go g16 nwt).get hst
          obtain ⟨vs, ts, e0, R0, c0, s0⟩ := RA.ex
          have nrr : H rr = none := G13.free RA.new
          have ne1 : ka ≠ rr := fun z => by
            have h1 := P13.kinds
            rw [z, RA.new] at h1
            cases h1
          have ne2 : ha ≠ rr := fun z => by
            have h1 := P13.handles
            rw [z, RA.new] at h1
            cases h1
          have fin : ∀ c H17, -1000 ≤ c → c ≤ 1000 → Go t H16 H17 → ∀ p, H17 p = none → Q (.ref p) (upd H17 p (.lst [.ref ka, .ref ha, .ref rr, .str st, .int c])) := fun c H17 c1 c2 g17 p hp => by
            have sp := same_upd (o := .lst [.ref ka, .ref ha, .ref rr, .str st, .int c]) hp
            have P17 := P16.go g17
            have G17 := (G13.trans (g16.trans g17))
            exact hQ p ⟨ka, ha, rr, .str st, .int c, vs⟩ ks hs ts st c _ ⟨hkn, hkp, hk1, hk6, hhn, hhs, rok.core c0, fun r hr => by have := s0 r hr; omega, hst, c1, c2⟩ hkn2 rfl rfl (G17.new hp) (G17.free hp) nka nha nrr nah ne1 ne2
              ⟨upd_same, sp _ _ P17.kinds, sp _ _ P17.handles, sp _ _ (g17.lst e0), (Rules.go g17 R0).up sp⟩
          refine ⟨_, rfl, _, rfl, _, rfl, _, rfl, pl, _, 3, .str st, rfl, rfl, SqL.of P16.top, rfl, _, rfl, _, rfl, pl, _, 3, .str st, rfl, rfl, SqL.of P16.top, rfl, wd, _, rfl, hi, ?_⟩
          refine ⟨_, rfl, rfl, _, rfl, ite2 (fun _ => ?_) (fun _ => ?_)⟩
          · refine ⟨_, rfl, t, 3, rfl, g16.t1, by decide, by decide, fun z d m hz d0 m0 m1 => ⟨_, _, rfl, rfl, (by show 5 ≤ sizeLine; decide), fun p hp => ?_⟩⟩
            exact fin _ _ (by omega) (by omega) ((Go.refl g16.t1).tape d0 m0 m1) p hp
          · exact ⟨_, _, rfl, rfl, (by show 5 ≤ sizeLine; decide), fun p hp => fin _ _ (by omega) (by omega) (Go.refl g16.t1) p hp⟩
        · have skip := fin _ _ ⟨rr, ⟨none, none, none, none, none, none, rfl⟩, g15, RA.new, let ⟨vs, ts, e, q, c, s⟩ := RA.ex; ⟨vs, ts, e, q, c, fun r hr => by have := s r hr; omega⟩⟩
          refine ⟨_, rfl, rfl, _, rfl, ite2 (fun _ => ?_) (fun _ => skip)⟩
          obtain ⟨vs, ts, e0, R0, c0, s0⟩ := RA.ex
          have hvl := R0.len
          have hct := congrArg List.length c0
          rw [List.length_map, List.length_map] at hct
          refine ⟨_, rfl, Nat.zero_le _, fun q5 hq5 => ⟨rr, q5, vs, rfl, rfl, SqL.of (same_upd hq5 _ _ e0), SqL.of upd_same, _, rfl, ?_⟩⟩
          have g16 := (Go.refl g15.t1).new (o := .lst []) hq5
          have skip2 := fin _ (upd H15 q5 (.lst [])) ⟨rr, ⟨none, none, none, none, none, none, rfl⟩, g15.trans g16, RA.new, let ⟨vs, ts, e, q, c, s⟩ := (RA.go g16).ex; ⟨vs, ts, e, q, c, fun r hr => by have := s r hr; omega⟩⟩
          generalize upd H15 q5 (.lst []) = H16 at g16 skip2
          cases hemp : vs.isEmpty with
          | true => exact skip2
          | false =>
            clear skip skip2
            have hpos : 0 < vs.length := by
              cases vs with
              | nil => cases hemp
              | cons _ _ => exact Nat.succ_pos _
            refine ⟨_, rfl, _, rfl, _, _, rfl, .inl ⟨_, SqL.of (g16.lst e0), rfl⟩, t, vs.length, rfl, g16.t1, hpos, by omega, fun z d m hz d0 m0 m1 => ?_⟩
            have g17 := g16.tape (d := d) (m := m) d0 m0 m1
            generalize upd H16 t (tapeO d m) = H17 at g17
            have hv : vs[z]? = some vs[z] := List.getElem?_eq_getElem hz
            generalize vs[z] = v at hv
            obtain ⟨r, hr, a, b, rfl, ha17, hb17⟩ := (Rules.go g17 R0).get hv
            have hrs := s0 r (List.mem_of_getElem? hr)
            refine ⟨_, rfl, _, rfl, rr, vs, (z : Int), _, rfl, rfl, SqL.of (g17.lst e0), atI_nat hv, a, _, rfl, SqT.of ha17, rfl, _, _, rfl, _, _, rfl, _, _, rfl, _, _, rfl, rfl, ?_⟩
            refine ⟨_, rfl, _, rfl, _, rfl, _, rfl, _, rfl, _, _, rfl, rfl, (by show 3 ≤ sizeLine; decide), fun q6 hq6 => ?_⟩
            have g18 := (Go.refl g17.t1).new (o := .lst [.int 1, .int (0 - 1), .int 2]) hq6
            have e18 : upd H17 q6 (.lst [.int 1, .int (0 - 1), .int 2]) q6 = some (.lst [.int 1, .int (0 - 1), .int 2]) := upd_same
            generalize upd H17 q6 (.lst [.int 1, .int (0 - 1), .int 2]) = H18 at g18 e18
            refine ⟨t, q6, _, rfl, g18.t1, SqL.of e18, (by show 0 < 3; decide), (by show 3 < 1073741824; decide), one_sq g18.t1 e18, fun v d m hv2 d0 m0 m1 => ?_⟩
            have hvi : ∃ x : Int, v = .int x ∧ -10 ≤ x ∧ x ≤ 10 := by
              simp only [List.mem_cons, List.not_mem_nil, or_false] at hv2
              rcases hv2 with rfl | rfl | rfl
              · exact ⟨_, rfl, by decide, by decide⟩
              · exact ⟨_, rfl, by decide, by decide⟩
              · exact ⟨_, rfl, by decide, by decide⟩
            obtain ⟨x, rfl, x1, x2⟩ := hvi
            have g19 := g18.tape (d := d) (m := m) d0 m0 m1
            generalize upd H18 t (tapeO d m) = H19 at g19
            refine ⟨_, _, rfl, rfl, (by show 4 ≤ sizeLine; decide), fun e he => ?_⟩
            have g20 := g19.new (o := .tup [.str r.name, .str r.kind, .ref b, .int (r.change + x)]) he
            have R20 := Rules.go (g17.trans g20) R0
            have e20 := (g17.trans g20).lst e0
            have b20 := g20.keepT hb17
            have u20 : upd H19 e (.tup [.str r.name, .str r.kind, .ref b, .int (r.change + x)]) e = some (.tup [.str r.name, .str r.kind, .ref b, .int (r.change + x)]) := upd_same
            generalize upd H19 e (.tup [.str r.name, .str r.kind, .ref b, .int (r.change + x)]) = H20 at g20 R20 e20 b20 u20
            refine ⟨_, rfl, _, rfl, rr, vs, (z : Int), z, rfl, rfl, e20, ?_, ?_⟩
            · unfold ixN
              rw [if_pos (by omega), if_pos (by omega)]
              rfl
            · refine fin _ _ ⟨rr, ⟨_, _, _, _, _, _, rfl⟩, (g15.trans (g17.trans g20)).up RA.new, RA.new, vs.set z (.ref e), ts.set z ⟨r.name, r.kind, r.out, r.change + x⟩, upd_same, ?_, ?_, fun y hy => ?_⟩
              · exact (R20.ups (.lst e20)).set ⟨e, b, rfl, Tups.lst e20 _ _ u20, Tups.lst e20 _ _ b20⟩
              · rw [List.map_set, ← c0]
                exact set_same (by rw [List.getElem?_map, hr]; rfl)
              · rcases List.mem_or_eq_of_mem_set hy with hy | hy
                · have := s0 y hy
                  omega
                · rw [hy]
                  simp only
                  omega
      · refine ⟨_, rfl, rfl, _, rfl, ite2 (fun _ => ?_) (fun _ => fin _ _ ⟨D, rfl, g14, RA⟩)⟩
        obtain ⟨vs0, ts0, e0, R0, c0, s0⟩ := RA.ex
        have hvl := R0.len
        have hct := congrArg List.length c0
        rw [List.length_map, List.length_map] at hct
        refine ⟨_, rfl, D, rfl, ⟨_, SqL.of e0⟩, fun D3 hD3 => ?_⟩
        refine lc_list (K := K) (a := D) (xs := vs0) (fun j H15 => Go t H14 H15 ∧ RulesJ D3 ts0 500 j H15) ⟨(Go.refl G14.t1).new hD3, [], [], upd_same, rfl, rfl, fun r h => by (cases h)⟩ (fun _ _ _ h => SqL.of (h.1.lst e0)) ?_ ?_
        · rintro j v H15 hv ⟨g15, J⟩
          obtain ⟨r, hr, hv15⟩ := (Rules.go g15 R0).get hv
          obtain ⟨a, b, rfl, ha15, hb15⟩ := hv15
          refine ⟨a, _, rfl, SqT.of ha15, rfl, _, _, rfl, _, _, rfl, _, _, rfl, _, _, rfl, rfl, rfl, yes_cut ?_⟩
          refine ⟨_, rfl, _, rfl, _, rfl, _, rfl, t, 5, rfl, g15.t1, by decide, by decide, fun z d m hz d0 m0 m1 => ⟨_, _, rfl, rfl, (by show 4 ≤ sizeLine; decide), fun e he => ?_⟩⟩
          have g16 := (Go.refl g15.t1).tape (d := d) (m := m) d0 m0 m1
          have b16 := g16.keepT hb15
          have g17 := g16.new (o := .tup [.str r.name, .str r.kind, .ref b, .int ((z : Int) - 2)]) he
          have sb := same_upd (o := .tup [.str r.name, .str r.kind, .ref b, .int ((z : Int) - 2)]) he _ _ b16
          obtain ⟨vs, e17, l17, J17⟩ := J.add (u := ⟨r.name, r.kind, r.out, (z : Int) - 2⟩) g17 (by omega) hr ⟨e, b, rfl, upd_same, sb⟩ rfl (by simp only; omega)
          exact ⟨vs, e17, l17, (g15.trans g17).up hD3, J17⟩
        · rintro H15 ⟨g15, J⟩
          rw [hvl] at J
          refine fin _ _ ⟨D3, rfl, g14.trans g15, g14.free hD3, let ⟨vs, ts, e, q, c, s⟩ := J; ⟨vs, ts, e, q, by rw [c, List.take_length, c0], s⟩⟩
    · refine ⟨_, rfl, rfl, _, rfl, ite2 (fun _ => ?_) (fun _ => fin _ _ ⟨wd, rfl, G12, nwt, (let ⟨kvs, e1, e2, e3⟩ := W12; ⟨kvs, e1, e2, fun p hp => let ⟨i, b0, b1, b2⟩ := e3 p hp; ⟨i, b0, by omega, by omega⟩⟩), P12⟩)⟩
      refine ⟨_, rfl, ka, rfl, ⟨_, SqL.of (hqa ▸ P12.kinds)⟩, fun D hD => lc_worth (K := K) (ks := ks) (b := 40) (by show 10 < 15; decide) G12.t1 (by omega) (hqa ▸ P12.kinds) hD (fun k H13 Q13 hk g13 q13 => ?_) fun H13 ps kvs g13 e13 hpr hkeys hb => ?_⟩
      · obtain ⟨z0, hz0, z1, z2⟩ := (W12.go g13 nwt).get hk
        refine ⟨_, rfl, _, rfl, wd, _, rfl, hz0, _, rfl, t, 2, rfl, g13.t1, by decide, by decide, fun z d m hz d0 m0 m1 => ⟨_, _, rfl, rfl, ?_⟩⟩
        exact q13 _ _ (by omega) (by omega) ((Go.refl g13.t1).tape d0 m0 m1)
      · have hnd : (kvs.map (·.1)).Nodup := by
          rw [hkeys]
          exact nodup_inr hkn
        refine ⟨D, ps, kvs, rfl, SqL.of e13, hpr, fun wd2 hwd2 => ?_⟩
        have g14 := g13.new (o := .dK (mergeK [] kvs)) hwd2
        refine fin _ _ ⟨wd2, rfl, G12.trans g14, fun z => by rw [z] at hwd2; exact g13.t1.ne hwd2, ⟨kvs, by rw [upd_same, merge_new (by simpa using hnd)]; rfl, hkeys, hb⟩, P12.go g14⟩
end
end Dw
namespace Dw
open PySem PySem.Spec PyProof.Rows L2 He Fh
abbrev sName : Stmt := top 13
abbrev sInt : Stmt := top 14
abbrev sAmong : Stmt := top 15
section
variable {P : Program} {w : World} {K : PySem.W.Frag} {mg : Str → Option Value} {base : Heap}
theorem scName : FnScope ["value", "letter"] ["value"] (defScope sName) := ⟨rfl, rfl, rfl, by decide +kernel, rfl, by decide +kernel, by decide +kernel⟩
theorem ok_name {f : Addr} {fd : FuncData} {t1 t2 : Tok} (F : FnP K "is_name" sName f fd) (g_isinstance : mg "isinstance" = none) (g_str : mg "str" = none) (g_len : mg "len" = none) (g_all : mg "all" = none) (m_LETTERS : mg "LETTERS" = some (.str letters t1)) (m_LONGEST_NAME : mg "LONGEST_NAME" = some (.int 8 t2)) :
    FnOk P w K mg base CX0 1 f fd ["value"] spIsName := by
  refine F.ok scName (fun vs H Q E h => ?_) (fun cdv A outer s H vs Q E hr h => ?_)
  · obtain ⟨v, d, rfl, _⟩ := h
    rfl
  · obtain ⟨v, d, rfl, hd, hle, hQ⟩ := h
    refine ⟨_, PSs.nox (pss_cons (ps_if (PW.pt (pw_or (pt_not (pt_val (pe_callB call_isi (by rfl) g_isinstance (by decide +kernel) (pa_cons (pv 0) (pa_cons (pe_bltn (v := .ty "str") (by rfl) g_str (by decide +kernel) rfl) pa_nil))))) (pw_or (pt_cmpR op_lt (pe_callB call_len (by rfl) g_len (by decide +kernel) (pa_cons (pv 0) pa_nil)) pe_int (nomark _)) (pw_or1 (pt_cmpR op_gt (pe_callB call_len (by rfl) g_len (by decide +kernel) (pa_cons (pv 0) pa_nil)) (pe_glob (v := .int 8) (by rfl) m_LONGEST_NAME ⟨_, rfl⟩) (nomark _))))))
 (pss_one (ps_ret pe_bl)) pss_nil)
 (pss_one (ps_ret (pe_callB (cr_all rfl) (by rfl) g_all (by decide +kernel) (pa_cons (pe_lc (own := [("letter", 1)]) (g := (gName 1)) (by rfl) scName.nd (pi_str (pv 0)) (blkOk_by (own := [("letter", 1)]) (N := ["value", "letter"]) (sc := defScope sName) (by decide +kernel)) (fun _ _ _ _ _ => pg_name (i := 1) scName.nd rfl (by first | exact Or.inl rfl | exact Or.inr rfl)) (fun _ _ _ _ _ => pts_nil) (fun _ _ _ _ _ => (pe_cmpR op_in_sign (pv 1) (pe_glob (v := .str letters) (by rfl) m_LETTERS ⟨_, rfl⟩) (by rfl)))) pa_nil))))), ?_⟩
    cases d with
    | str x =>
      simp only [Dq] at hd
      subst hd
      have hx : x.length ≤ 100000 := hle x rfl
      have hl : LenV K (.str x) H x.length := ⟨by rw [sizeLine_eq]; omega, rfl⟩
      have e0 : nameD (.str x) = if x.length < 1 ∨ x.length > 8 then false else x.cps.toList.all fun c => decide (c ∈ letters.cps.toList) := rfl
      rw [e0] at hQ
      refine ⟨_, rfl, _, _, _, _, true, rfl, .ty "str", .base (.str x), kit_ty (by decide +kernel), _, rfl, ?_⟩
      refine ⟨_, rfl, _, x.length, rfl, hl, _, _, rfl, rfl, _, rfl, ?_⟩
      refine ite2 (fun h1 => ?_) (fun h1 => ?_)
      · have h1 := of_decide_eq_true h1
        rw [if_pos (.inl (by omega))] at hQ
        exact hQ H (Same.refl H)
      · have h1 : ¬ ((x.length : Int) < 1) := fun z => h1 (decide_eq_true z)
        refine ⟨_, rfl, _, x.length, rfl, hl, _, _, rfl, rfl, _, rfl, ?_⟩
        refine ite2 (fun h2 => ?_) (fun h2 => ?_)
        · have h2 := of_decide_eq_true h2
          rw [if_pos (.inr (by omega))] at hQ
          exact hQ H (Same.refl H)
        · have h2 : ¬ ((8 : Int) < (x.length : Int)) := fun z => h2 (decide_eq_true z)
          rw [if_neg (by omega)] at hQ
          refine ⟨_, rfl, x, rfl, fun D hD => lc_str (fun c => decide (c ∈ letters.cps.toList)) hx hD (fun c H1 Q1 s1 q1 => ?_) fun H1 s1 e1 => ?_⟩
          · exact ⟨_, rfl, c, letters, rfl, rfl, q1⟩
          · refine ⟨D, _, rfl, SqL.of e1, ?_⟩
            rw [List.all_map]
            exact hQ H1 s1
    | _ => exact ⟨_, rfl, _, _, _, _, false, rfl, .ty "str", hd.ty, kit_ty (by simp only [tagD]; decide +kernel), _, rfl, hQ H (Same.refl H)⟩
theorem scInt : FnScope ["value"] ["value"] (defScope sInt) := ⟨rfl, rfl, rfl, by decide +kernel, rfl, by decide +kernel, by decide +kernel⟩
theorem ok_int {f : Addr} {fd : FuncData} (F : FnP K "is_integer" sInt f fd) (g_isinstance : mg "isinstance" = none) (g_int : mg "int" = none) (g_bool : mg "bool" = none) :
    FnOk P w K mg base CX0 1 f fd ["value"] spIsInt := by
  refine F.ok scInt (fun vs H Q E h => ?_) (fun cdv A outer s H vs Q E hr h => ?_)
  · obtain ⟨v, d, rfl, _⟩ := h
    rfl
  · obtain ⟨v, d, rfl, hd, hQ⟩ := h
    refine ⟨_, PSs.nox (pss_one (ps_ret (pe_and (pe_callB call_isi (by rfl) g_isinstance (by decide +kernel) (pa_cons (pv 0) (pa_cons (pe_bltn (v := .ty "int") (by rfl) g_int (by decide +kernel) rfl) pa_nil))) (pe_one (pe_not (pe_callB call_isi (by rfl) g_isinstance (by decide +kernel) (pa_cons (pv 0) (pa_cons (pe_bltn (v := .ty "bool") (by rfl) g_bool (by decide +kernel) rfl) pa_nil)))))))), ?_⟩
    cases d with
    | int i => exact ⟨_, rfl, _, _, _, _, true, rfl, .ty "int", hd.ty, kit_ty (by simp only [tagD]; decide +kernel), _, rfl, _, rfl, _, _, _, _, false, rfl, .ty "bool", hd.ty, kit_ty (by simp only [tagD]; decide +kernel), _, rfl, hQ⟩
    | bool b => exact ⟨_, rfl, _, _, _, _, true, rfl, .ty "int", hd.ty, kit_ty (by simp only [tagD]; decide +kernel), _, rfl, _, rfl, _, _, _, _, true, rfl, .ty "bool", hd.ty, kit_ty (by simp only [tagD]; decide +kernel), _, rfl, hQ⟩
    | _ => exact ⟨_, rfl, _, _, _, _, false, rfl, .ty "int", hd.ty, kit_ty (by simp only [tagD]; decide +kernel), _, rfl, hQ⟩
theorem scAmong : FnScope ["value", "names"] ["value", "names"] (defScope sAmong) := ⟨rfl, rfl, rfl, by decide +kernel, rfl, by decide +kernel, by decide +kernel⟩
theorem ok_among {f : Addr} {fd : FuncData} (F : FnP K "is_among" sAmong f fd) (g_isinstance : mg "isinstance" = none) (g_str : mg "str" = none) :
    FnOk P w K mg base CX0 1 f fd ["value", "names"] (spAmong K) := by
  refine F.ok scAmong (fun vs H Q E h => ?_) (fun cdv A outer s H vs Q E hr h => ?_)
  · obtain ⟨v, u, d, ns, rfl, _⟩ := h
    rfl
  · obtain ⟨v, u, d, ns, rfl, hd, hN, hQ⟩ := h
    have hu := hu_of hr
    refine ⟨_, PSs.nox (pss_one (ps_ret (pe_and (pe_callB call_isi (by rfl) g_isinstance (by decide +kernel) (pa_cons (pv 0) (pa_cons (pe_bltn (v := .ty "str") (by rfl) g_str (by decide +kernel) rfl) pa_nil))) (pe_one (pe_cmpR (op_inN (K := K) hu) (pv 0) (pv 1) (by rfl)))))), ?_⟩
    cases d with
    | str x =>
      simp only [Dq] at hd
      subst hd
      refine ⟨_, rfl, _, _, _, _, true, rfl, .ty "str", .base (.str x), kit_ty (by decide +kernel), _, rfl, _, rfl, _, rfl, ?_⟩
      obtain ⟨a, rfl, hS | ⟨kvs, e, hk⟩⟩ := hN
      · refine .inr ⟨a, _, rfl, .inl hS, rfl, flatS _, ?_⟩
        rw [if_neg (by decide), inV_strs]
        exact hQ
      · refine .inl ⟨a, _, rfl, DGet.k (k := (Sum.inr x : Key)) e, ?_⟩
        rw [key_some hk]
        exact hQ
    | _ => exact ⟨_, rfl, _, _, _, _, false, rfl, .ty "str", hd.ty, kit_ty (by simp only [tagD]; decide +kernel), _, rfl, hQ⟩
end
end Dw
namespace Dw
open PySem PySem.Spec PyProof.Rows L2 He Fh
abbrev sKinds : Stmt := top 16
abbrev sHandles : Stmt := top 17
section
variable {P : Program} {w : World} {K : PySem.W.Frag} {mg : Str → Option Value} {base : Heap}
theorem scKinds : FnScope ["value", "kind"] ["value"] (defScope sKinds) := ⟨rfl, rfl, rfl, by decide +kernel, rfl, by decide +kernel, by decide +kernel⟩
theorem ok_kinds {f fN : Addr} {fd fdN : FuncData} (F : FnP K "are_kinds" sKinds f fd) (g_isinstance : mg "isinstance" = none) (g_list : mg "list" = none) (g_tuple : mg "tuple" = none) (g_len : mg "len" = none) (g_all : mg "all" = none) (g_set : mg "set" = none)
    (G_is_name : FnOk P w K mg base CX0 1 fN fdN ["value"] spIsName) (m_is_name : mg "is_name" = some (.ref fN)) (k_is_name : PySem.W.keepIn K (.ref fN) = true) (b_is_name : Binds K fdN ["value"] []) :
    FnOk P w K mg base CX0 2 f fd ["value"] spKinds := by
  refine F.ok scKinds (fun vs H Q E h => ?_) (fun cdv A outer s H vs Q E hr h => ?_)
  · obtain ⟨v, d, rfl, _⟩ := h
    rfl
  · obtain ⟨v, d, rfl, hd, hle, hQ⟩ := h
    have r_is_name := hr
    have hu := hu_of hr
    refine ⟨_, PSs.nox (pss_cons (ps_if (PW.pt (pw_or (pt_not (pt_val (pe_callB call_isiT (by rfl) g_isinstance (by decide +kernel) (pa_cons (pv 0) (pa_cons (pe_tup (pa_cons (pe_bltn (v := .ty "list") (by rfl) g_list (by decide +kernel) rfl) (pa_cons (pe_bltn (v := .ty "tuple") (by rfl) g_tuple (by decide +kernel) rfl) pa_nil))) pa_nil))))) (pw_or1 (pt_cmpR op_eq (pe_callB call_len (by rfl) g_len (by decide +kernel) (pa_cons (pv 0) pa_nil)) pe_int (nomark _)))))
 (pss_one (ps_ret pe_bl)) pss_nil)
 (pss_one (ps_ret (pe_and (pe_callB (cr_all rfl) (by rfl) g_all (by decide +kernel) (pa_cons (pe_lc (own := [("kind", 1)]) (g := (gName 1)) (by rfl) scKinds.nd (pi_seq (K := K) (pv 0)) (blkOk_by (own := [("kind", 1)]) (N := ["value", "kind"]) (sc := defScope sKinds) (by decide +kernel)) (fun _ _ _ _ _ => pg_name (i := 1) scKinds.nd rfl (by first | exact Or.inl rfl | exact Or.inr rfl)) (fun _ _ _ _ _ => pts_nil) (fun _ _ _ _ _ => (pe_call G_is_name r_is_name rfl m_is_name k_is_name b_is_name .nil pass0 (pa_cons (pv 1) pa_nil)))) pa_nil)) (pe_one (pe_cmpR op_eq (pe_lenSetS rfl (by rfl) g_len (by rfl) g_set (pv 0)) (pe_callB call_len (by rfl) g_len (by decide +kernel) (pa_cons (pv 0) pa_nil)) (nomark _))))))), ?_⟩
    have ht := tag_mem d
    refine ⟨_, rfl, (by show 2 ≤ sizeLine; decide), fun tp htp => ⟨v, tp, [.ty "list", .ty "tuple"], .type (tagD d), [.type "list", .type "tuple"], _, rfl, upd_same, .cons (.ty _) (.cons (.ty _) .nil), (Dq.up (same_upd htp) _ _ hd).ty, kit_seq ht, _, rfl, ?_⟩⟩
    have s1 := same_upd (o := .tup [.ty "list", .ty "tuple"]) htp
    generalize upd H tp (.tup [.ty "list", .ty "tuple"]) = H1 at s1
    rw [tag_items]
    cases h : itemsD d with
    | none =>
      have e0 : kindsD d = false := by unfold kindsD; rw [h]
      rw [e0] at hQ
      exact hQ H1 s1
    | some ds =>
      have e0 : kindsD d = (!ds.isEmpty && (ds.all nameD && unlikeD ds)) := by unfold kindsD; rw [h]
      rw [e0] at hQ
      obtain ⟨hd1, hd2⟩ := hle ds h
      obtain ⟨a, xs, rfl, hq, hS⟩ := seq_at (K := K) (Dq.up s1 _ _ hd) h
      have hxl := hq.len
      have hl : LenV K (.ref a) H1 xs.length := hS.elim (fun z => .inl ⟨xs, z.1, rfl⟩) fun z => .inr ⟨xs, z.1, rfl⟩
      refine ⟨_, rfl, _, xs.length, rfl, hl, rfl, _, rfl, ?_⟩
      have call : ∀ x e H2 (Q2 : VK), e ∈ ds → Dq H2 e x → (∀ H3, Same H2 H3 → Q2 (.bl (nameD e)) H3) → tCall spIsName [] E0 (tCons (tVar 1) tNil) [some (.ref a), some x] H2 Q2 := fun x e H2 Q2 hm he q2 => ⟨x, rfl, x, e, rfl, he, hd2 e hm, q2⟩
      refine ite2 (fun hz => ?_) (fun hz => ?_)
      · have hz2 : xs.length = 0 := by
          have := of_decide_eq_true hz
          injection this with this
          omega
        have hz3 : ds.isEmpty = true := by
          rw [List.isEmpty_iff_length_eq_zero]
          omega
        rw [hz3] at hQ
        exact hQ H1 s1
      have hne : (!ds.isEmpty) = true := by
        cases ds with
        | nil => exact absurd (decide_eq_true (congrArg (fun n : Nat => V.int (n : Int)) hxl)) hz
        | cons _ _ => rfl
      refine ⟨_, rfl, a, rfl, ?_⟩
      rcases hS with ⟨hS, _⟩ | ⟨hS, _⟩
      · refine .inl ⟨⟨xs, hS⟩, fun D hD => lc_flags nameD hq (by omega) hS hD (fun x e H2 Q2 hm he s2 q2 => call x e H2 Q2 hm he q2) fun H2 s2 e2 => ?_⟩
        refine ⟨D, ds.map nameD, rfl, SqL.of e2, _, rfl, ?_⟩
        rw [all_flags]
        cases hall : ds.all nameD with
        | false =>
          rw [hall, Bool.false_and, Bool.and_false] at hQ
          exact hQ H2 (s1.trans s2)
        | true =>
          obtain ⟨ex, elen⟩ := strs_all hq (names_str hall)
          refine ⟨_, rfl, a, strsOf ds, rfl, .inl (s2.seq (ex ▸ hS)), by omega, _, rfl, _, xs.length, rfl, .inl ⟨xs, s2.seq hS, rfl⟩, rfl, ?_⟩
          rw [hxl, unlike_eq]
          rw [hall, Bool.true_and, hne, Bool.true_and] at hQ
          exact hQ H2 (s1.trans s2)
      · refine .inr ⟨⟨xs, hS⟩, fun D hD => lt_flags nameD hq (by omega) hS hD (fun x e H2 Q2 hm he s2 q2 => call x e H2 Q2 hm he q2) fun H2 s2 e2 => ?_⟩
        refine ⟨D, ds.map nameD, rfl, SqL.of e2, _, rfl, ?_⟩
        rw [all_flags]
        cases hall : ds.all nameD with
        | false =>
          rw [hall, Bool.false_and, Bool.and_false] at hQ
          exact hQ H2 (s1.trans s2)
        | true =>
          obtain ⟨ex, elen⟩ := strs_all hq (names_str hall)
          refine ⟨_, rfl, a, strsOf ds, rfl, .inr (sqT_up s2 (ex ▸ hS)), by omega, _, rfl, _, xs.length, rfl, .inr ⟨xs, sqT_up s2 hS, rfl⟩, rfl, ?_⟩
          rw [hxl, unlike_eq]
          rw [hall, Bool.true_and, hne, Bool.true_and] at hQ
          exact hQ H2 (s1.trans s2)
theorem scHandles : FnScope ["value", "kinds", "kind"] ["value", "kinds"] (defScope sHandles) := ⟨rfl, rfl, rfl, by decide +kernel, rfl, by decide +kernel, by decide +kernel⟩
theorem ok_handles {f fN : Addr} {fd fdN : FuncData} (F : FnP K "are_handles" sHandles f fd) (g_isinstance : mg "isinstance" = none) (g_list : mg "list" = none) (g_tuple : mg "tuple" = none) (g_len : mg "len" = none) (g_all : mg "all" = none) (g_set : mg "set" = none)
    (G_is_among : FnOk P w K mg base CX0 1 fN fdN ["value", "names"] (spAmong K)) (m_is_among : mg "is_among" = some (.ref fN)) (k_is_among : PySem.W.keepIn K (.ref fN) = true) (b_is_among : Binds K fdN ["value", "names"] []) :
    FnOk P w K mg base CX0 2 f fd ["value", "kinds"] (spHandles K) := by
  refine F.ok scHandles (fun vs H Q E h => ?_) (fun cdv A outer s H vs Q E hr h => ?_)
  · obtain ⟨v, u, d, ns, rfl, _⟩ := h
    rfl
  · obtain ⟨v, u, d, ns, rfl, hd, hle, hN, hQ⟩ := h
    have r_is_among := hr
    have hu := hu_of hr
    refine ⟨_, PSs.nox (pss_cons (ps_if (pt_not (pt_val (pe_callB call_isiT (by rfl) g_isinstance (by decide +kernel) (pa_cons (pv 0) (pa_cons (pe_tup (pa_cons (pe_bltn (v := .ty "list") (by rfl) g_list (by decide +kernel) rfl) (pa_cons (pe_bltn (v := .ty "tuple") (by rfl) g_tuple (by decide +kernel) rfl) pa_nil))) pa_nil)))))
 (pss_one (ps_ret pe_bl)) pss_nil)
 (pss_one (ps_ret (pe_and (pe_callB (cr_all rfl) (by rfl) g_all (by decide +kernel) (pa_cons (pe_lc (own := [("kind", 2)]) (g := (gName 2)) (by rfl) scHandles.nd (pi_seq (K := K) (pv 0)) (blkOk_by (own := [("kind", 2)]) (N := ["value", "kinds", "kind"]) (sc := defScope sHandles) (by decide +kernel)) (fun _ _ _ _ _ => pg_name (i := 2) scHandles.nd rfl (by first | exact Or.inl rfl | exact Or.inr rfl)) (fun _ _ _ _ _ => pts_nil) (fun _ _ _ _ _ => (pe_call G_is_among r_is_among rfl m_is_among k_is_among b_is_among .nil pass0 (pa_cons (pv 2) (pa_cons (pv 1) pa_nil))))) pa_nil)) (pe_one (pe_cmpR op_eq (pe_lenSetS rfl (by rfl) g_len (by rfl) g_set (pv 0)) (pe_callB call_len (by rfl) g_len (by decide +kernel) (pa_cons (pv 0) pa_nil)) (nomark _))))))), ?_⟩
    have ht := tag_mem d
    refine ⟨_, rfl, (by show 2 ≤ sizeLine; decide), fun tp htp => ⟨v, tp, [.ty "list", .ty "tuple"], .type (tagD d), [.type "list", .type "tuple"], _, rfl, upd_same, .cons (.ty _) (.cons (.ty _) .nil), (Dq.up (same_upd htp) _ _ hd).ty, kit_seq ht, _, rfl, ?_⟩⟩
    have s1 := same_upd (o := .tup [.ty "list", .ty "tuple"]) htp
    generalize upd H tp (.tup [.ty "list", .ty "tuple"]) = H1 at s1
    rw [tag_items]
    cases h : itemsD d with
    | none =>
      have e0 : handlesD ns d = false := by unfold handlesD; rw [h]
      rw [e0] at hQ
      exact hQ H1 s1
    | some ds =>
      have e0 : handlesD ns d = (ds.all (amongD ns) && unlikeD ds) := by unfold handlesD; rw [h]
      rw [e0] at hQ
      obtain ⟨hd1, hd2⟩ := hle ds h
      obtain ⟨a, xs, rfl, hq, hS⟩ := seq_at (K := K) (Dq.up s1 _ _ hd) h
      have hxl := hq.len
      have call : ∀ x e H2 (Q2 : VK), Dq H2 e x → Same H H2 → (∀ H3, Same H2 H3 → Q2 (.bl (amongD ns e)) H3) → tCall (spAmong K) [] E0 (tCons (tVar 2) (tCons (tVar 1) tNil)) [some (.ref a), some u, some x] H2 Q2 := fun x e H2 Q2 he s q2 => ⟨x, rfl, u, rfl, x, u, e, ns, rfl, he, hN.up s, q2 H2 (Same.refl H2)⟩
      refine ⟨_, rfl, a, rfl, ?_⟩
      rcases hS with ⟨hS, _⟩ | ⟨hS, _⟩
      · refine .inl ⟨⟨xs, hS⟩, fun D hD => lc_flags (amongD ns) hq (by omega) hS hD (fun x e H2 Q2 hm he s2 q2 => call x e H2 Q2 he (s1.trans s2) q2) fun H2 s2 e2 => ?_⟩
        refine ⟨D, ds.map (amongD ns), rfl, SqL.of e2, _, rfl, ?_⟩
        rw [all_flags]
        cases hall : ds.all (amongD ns) with
        | false =>
          rw [hall, Bool.false_and] at hQ
          exact hQ H2 (s1.trans s2)
        | true =>
          obtain ⟨ex, elen⟩ := strs_all hq (among_str hall)
          refine ⟨_, rfl, a, strsOf ds, rfl, .inl (s2.seq (ex ▸ hS)), by omega, _, rfl, _, xs.length, rfl, .inl ⟨xs, s2.seq hS, rfl⟩, rfl, ?_⟩
          rw [hxl, unlike_eq]
          rw [hall, Bool.true_and] at hQ
          exact hQ H2 (s1.trans s2)
      · refine .inr ⟨⟨xs, hS⟩, fun D hD => lt_flags (amongD ns) hq (by omega) hS hD (fun x e H2 Q2 hm he s2 q2 => call x e H2 Q2 he (s1.trans s2) q2) fun H2 s2 e2 => ?_⟩
        refine ⟨D, ds.map (amongD ns), rfl, SqL.of e2, _, rfl, ?_⟩
        rw [all_flags]
        cases hall : ds.all (amongD ns) with
        | false =>
          rw [hall, Bool.false_and] at hQ
          exact hQ H2 (s1.trans s2)
        | true =>
          obtain ⟨ex, elen⟩ := strs_all hq (among_str hall)
          refine ⟨_, rfl, a, strsOf ds, rfl, .inr (sqT_up s2 (ex ▸ hS)), by omega, _, rfl, _, xs.length, rfl, .inr ⟨xs, sqT_up s2 hS, rfl⟩, rfl, ?_⟩
          rw [hxl, unlike_eq]
          rw [hall, Bool.true_and] at hQ
          exact hQ H2 (s1.trans s2)
end
end Dw
namespace Dw
open PySem PySem.Spec PyProof.Rows L2 He Fh
abbrev sRule : Stmt := top 18
section
variable {P : Program} {w : World} {K : PySem.W.Frag} {mg : Str → Option Value} {base : Heap}
theorem scRule : FnScope ["value", "kinds", "name", "kind", "outcome", "change", "part"] ["value", "kinds"] (defScope sRule) := ⟨rfl, rfl, rfl, by decide +kernel, rfl, by decide +kernel, by decide +kernel⟩
theorem ok_rule {f fN fI fA : Addr} {fd fdN fdI fdA : FuncData} (F : FnP K "is_rule" sRule f fd) (g_isinstance : mg "isinstance" = none) (g_tuple : mg "tuple" = none) (g_len : mg "len" = none) (g_all : mg "all" = none)
    (G_is_name : FnOk P w K mg base CX0 1 fN fdN ["value"] spIsName) (m_is_name : mg "is_name" = some (.ref fN)) (k_is_name : PySem.W.keepIn K (.ref fN) = true) (b_is_name : Binds K fdN ["value"] [])
    (G_is_integer : FnOk P w K mg base CX0 1 fI fdI ["value"] spIsInt) (m_is_integer : mg "is_integer" = some (.ref fI)) (k_is_integer : PySem.W.keepIn K (.ref fI) = true) (b_is_integer : Binds K fdI ["value"] [])
    (G_is_among : FnOk P w K mg base CX0 1 fA fdA ["value", "names"] (spAmong K)) (m_is_among : mg "is_among" = some (.ref fA)) (k_is_among : PySem.W.keepIn K (.ref fA) = true) (b_is_among : Binds K fdA ["value", "names"] []) :
    FnOk P w K mg base CX0 2 f fd ["value", "kinds"] (spIsRule K) := by
  refine F.ok scRule (fun vs H Q E h => ?_) (fun cdv A outer s H vs Q E hr h => ?_)
  · obtain ⟨v, u, d, ns, rfl, _⟩ := h
    rfl
  · obtain ⟨v, u, d, ns, rfl, hd, hle, hN, hQ⟩ := h
    have r_is_name := hr
    have r_is_among := hr
    have r_is_integer := hr
    refine ⟨_, PSs.nox (pss_cons (ps_if (PW.pt (pw_or (pt_not (pt_val (pe_callB call_isi (by rfl) g_isinstance (by decide +kernel) (pa_cons (pv 0) (pa_cons (pe_bltn (v := .ty "tuple") (by rfl) g_tuple (by decide +kernel) rfl) pa_nil))))) (pw_or1 (pt_cmpR op_ne (pe_callB call_len (by rfl) g_len (by decide +kernel) (pa_cons (pv 0) pa_nil)) pe_int (nomark _)))))
 (pss_one (ps_ret pe_bl)) pss_nil)
 (pss_cons (ps_asg (pv 0) (pg_tup (by rfl) (pgs_cons (pg_name (i := 2) scRule.nd rfl (by first | exact Or.inl rfl | exact Or.inr rfl)) (pgs_cons (pg_name (i := 3) scRule.nd rfl (by first | exact Or.inl rfl | exact Or.inr rfl)) (pgs_cons (pg_name (i := 4) scRule.nd rfl (by first | exact Or.inl rfl | exact Or.inr rfl)) (pgs_cons (pg_name (i := 5) scRule.nd rfl (by first | exact Or.inl rfl | exact Or.inr rfl)) pgs_nil))))))
 (pss_cons (ps_if (PW.pt (pw_or (pt_not (pt_val (pe_call G_is_name r_is_name rfl m_is_name k_is_name b_is_name .nil pass0 (pa_cons (pv 2) pa_nil)))) (pw_or (pt_not (pt_val (pe_call G_is_among r_is_among rfl m_is_among k_is_among b_is_among .nil pass0 (pa_cons (pv 3) (pa_cons (pv 1) pa_nil))))) (pw_or1 (pt_not (pt_val (pe_call G_is_integer r_is_integer rfl m_is_integer k_is_integer b_is_integer .nil pass0 (pa_cons (pv 5) pa_nil))))))))
 (pss_one (ps_ret pe_bl)) pss_nil)
 (pss_one (ps_ret (pe_and (pe_callB call_isi (by rfl) g_isinstance (by decide +kernel) (pa_cons (pv 4) (pa_cons (pe_bltn (v := .ty "tuple") (by rfl) g_tuple (by decide +kernel) rfl) pa_nil))) (pe_one (pe_callB (cr_all rfl) (by rfl) g_all (by decide +kernel) (pa_cons (pe_lc (own := [("part", 6)]) (g := (gName 6)) (by rfl) scRule.nd (pi_tup (pv 4)) (blkOk_by (own := [("part", 6)]) (N := ["value", "kinds", "name", "kind", "outcome", "change", "part"]) (sc := defScope sRule) (by decide +kernel)) (fun _ _ _ _ _ => pg_name (i := 6) scRule.nd rfl (by first | exact Or.inl rfl | exact Or.inr rfl)) (fun _ _ _ _ _ => pts_nil) (fun _ _ _ _ _ => (pe_call G_is_among r_is_among rfl m_is_among k_is_among b_is_among .nil pass0 (pa_cons (pv 6) (pa_cons (pv 1) pa_nil))))) pa_nil))))))))), ?_⟩
    cases d with
    | tuple ds =>
      obtain ⟨hl, hle2⟩ := hle ds rfl
      have hty := hd.ty (K := K)
      simp only [Dq] at hd
      obtain ⟨a, xs, rfl, ha, hq⟩ := hd
      have hxl := hq.len
      refine ⟨_, rfl, _, _, _, _, true, rfl, .ty "tuple", hty, kit_ty (by simp only [tagD]; decide +kernel), _, rfl, ?_⟩
      refine ⟨_, rfl, _, xs.length, rfl, .inr ⟨xs, SqT.of ha, rfl⟩, rfl, _, rfl, ?_⟩
      by_cases h4 : ds.length = 4
      · have e4 : (!decide (V.int (xs.length : Int) = V.int 4)) = false := by
          rw [hxl, h4]
          rfl
        rw [e4]
        obtain ⟨n, k, o, c, rfl⟩ := four h4
        simp only [DqAll] at hq
        obtain ⟨x1, _, rfl, q1, x2, _, rfl, q2, x3, _, rfl, q3, x4, _, rfl, q4, rfl⟩ := hq
        refine ⟨_, rfl, a, _, rfl, SqT.of ha, rfl, _, _, rfl, _, _, rfl, _, _, rfl, _, _, rfl, rfl, ?_⟩
        have e0 : ruleD ns (.tuple [n, k, o, c]) = if (!nameD n || (!amongD ns k || !integerD c)) = true then false else outD ns o := rfl
        rw [e0] at hQ
        refine ⟨_, rfl, x1, n, rfl, q1, (hle2 n List.mem_cons_self).1, fun H1 s1 => ⟨_, rfl, ?_⟩⟩
        cases hn : nameD n with
        | false =>
          rw [hn] at hQ
          exact hQ H1 s1
        | true =>
          refine ⟨_, rfl, _, rfl, x2, u, k, ns, rfl, Dq.up s1 _ _ q2, hN.up s1, _, rfl, ?_⟩
          cases hk : amongD ns k with
          | false =>
            rw [hn, hk] at hQ
            exact hQ H1 s1
          | true =>
            refine ⟨_, rfl, x4, c, rfl, Dq.up s1 _ _ q4, _, rfl, ?_⟩
            cases hc : integerD c with
            | false =>
              rw [hn, hk, hc] at hQ
              exact hQ H1 s1
            | true =>
              rw [hn, hk, hc] at hQ
              have hQ2 : ∀ H', Same H H' → Q (.bl (outD ns o)) H' := hQ
              have q3 := Dq.up s1 _ _ q3
              cases o with
              | tuple es =>
                have hty3 := q3.ty (K := K)
                simp only [Dq] at q3
                obtain ⟨b, ys, rfl, hb, hqs⟩ := q3
                have hyl := hqs.len
                have hes := (hle2 (.tuple es) (List.mem_cons_of_mem _ (List.mem_cons_of_mem _ List.mem_cons_self))).2 es rfl
                refine ⟨_, rfl, _, _, _, _, true, rfl, .ty "tuple", hty3, kit_ty (by simp only [tagD]; decide +kernel), _, rfl, ?_⟩
                refine ⟨_, rfl, b, rfl, ⟨_, SqT.of hb⟩, fun D hD => lt_flags (amongD ns) hqs (by omega) (SqT.of hb) hD (fun x e H2 Q2 hm he s2 q2 => ⟨x, rfl, u, rfl, x, u, e, ns, rfl, he, hN.up (s1.trans s2), q2 H2 (Same.refl H2)⟩) fun H2 s2 e2 => ?_⟩
                refine ⟨D, es.map (amongD ns), rfl, SqL.of e2, ?_⟩
                rw [all_flags]
                exact hQ2 H2 (s1.trans s2)
              | _ => exact ⟨_, rfl, _, _, _, _, false, rfl, .ty "tuple", q3.ty, kit_ty (by simp only [tagD]; decide +kernel), _, rfl, hQ2 H1 s1⟩
      · have e4 : (!decide (V.int (xs.length : Int) = V.int 4)) = true := by
          rw [hxl]
          simp
          omega
        rw [e4]
        rw [rule_no h4] at hQ
        exact hQ H (Same.refl H)
    | _ => exact ⟨_, rfl, _, _, _, _, false, rfl, .ty "tuple", hd.ty, kit_ty (by simp only [tagD]; decide +kernel), _, rfl, hQ H (Same.refl H)⟩
end
end Dw
namespace Fh
open PySem PySem.Spec PyProof.Rows L2 He
/-! ### raise C(e), C an own class with def __init__(self, f): self.f = f -/
def tExN (C : Addr) (f : Str) (te : TE) : TE := fun σ H Q => te σ H fun y H1 => ∀ a dx H', Same H1 H' → H1 a = none → H1 dx = none → dx ≠ a → H' a = some (exo a C (some dx)) → H' dx = some (exd dx [(f, y)]) → Q (.ref a) H'
theorem ex_endN {K : PySem.W.Frag} {C : Addr} {f : Str} {H : Hp} {y : V} {Q : VK} (T : OexC K C) (hf : PySem.W.findIn K (.ref C) f = some none) (q : ∀ a dx H', Same H H' → H a = none → H dx = none → dx ≠ a → H' a = some (exo a C (some dx)) → H' dx = some (exd dx [(f, y)]) → Q (.ref a) H') (a : Addr) (ha : H a = none) :
    spXi K C f [.ref a, y] (upd H a (exo a C none)) (fun v H2 => v = .non ∧ Q (.ref a) H2) (fun _ _ _ => False) := by
  refine ⟨a, y, rfl, T, hf, upd_same, fun dx hd hne => ?_⟩
  have hd0 : H dx = none := by rw [upd_ne hne] at hd; exact hd
  refine ⟨rfl, q a dx _ (fun b o e => ?_) ha hd0 hne upd_same ?_⟩
  · rw [upd_ne (ne_of_none e ha), upd_ne (ne_of_none e hd0), upd_ne (ne_of_none e ha)]
    exact e
  · rw [upd_ne hne, upd_same]
section
variable {X : Cx} {CX : CXT} {k : Nat} {C fI : Addr} {fd : FuncData} {f x : Str} {p pos : Pos} {e : Expr} {te : TE}
theorem pe_exN (T : OexC X.K C) (hf : PySem.W.findIn X.K (.ref C) f = some none) (iC : PySem.W.findIn X.K (.ref C) "__init__" = some (some (.ref fI))) (tI : PySem.W.typeIn X.K (.ref fI) = some (.type "function"))
    (F1 : FnOk X.prog X.w X.K X.mg X.base CX k fI fd ["self", f] (spXi X.K C f)) (hr : Room (k + 1) X.A) (hb : ∀ (s : Shared) (a u : Value), BindsTo s fd ⟨[a, u], []⟩ [("self", a), (f, u)]) (hx : Passes CX X (fun _ _ _ => False))
    (hg : Gl X x) (hm : X.mg x = some (.ref C)) (he : PE X e te) (hdb : (x == ("__debug__" : Str)) = false := by decide) (hst : starEach [e] X.env = (false, eval e X.env) :: starEach [] X.env := by rfl) (hpl : (backTo pos (starEach [] X.env)).any (·.1) = false := by rfl) :
    PE X (.Call (.Name x p) [e] [] pos) (tExN C f te) := by
  refine ⟨fun pins s σ H Q I h => ?_⟩
  refine wpAny_Call_Name_kw (ld_glob I hg hm ?_ hdb)
  refine PySem.W.callWith_K (h₀ := X.base) I.ok.mod.kin T.kC (thn ((pa_cons he pa_nil hst).run pos pins s σ H (only1 fun y H1 => ∀ a dx H', Same H1 H' → H1 a = none → H1 dx = none → dx ≠ a → H' a = some (exo a C (some dx)) → H' dx = some (exd dx [(f, y)]) → Q (.ref a) H') I h) fun us s1 hh => ?_) hst hpl
  obtain ⟨vs, H1, I1, r1, q1⟩ := hh
  obtain ⟨y, u, rfl, rfl, ru, q⟩ := only1_vals q1 r1
  exact ⟨I1.kIn, run_ex (ws := [u]) (zs := [y]) T iC tI F1 hr (fun s a => hb s a u) hx (by rw [sizeLine_eq]; show 1 ≤ 16777216; decide) I1 (.cons ru .nil) (ex_endN T hf q)⟩
/-- what gives such an exception back makes an exception -/
theorem pmk_exN (hx : X.ex = []) (T : OexC X.K C) (he : PE X e (tExN C f te)) :
    PMk X e (fun σ H Q => tExN C f te σ H fun v H' => ∃ a dx, v = .ref a ∧ H' a = some (exo a C (some dx)) ∧ Fr0 X.H_0 a ∧ Q (.ref C) (some dx) (delH H' a)) := by
  intro pins s σ H Q I h
  refine wpAny_mono (he.run pins s σ H _ I h) (fun u s1 hu => ?_) fun _ _ x => x
  obtain ⟨v, H1, I1, r1, a, dx, rfl, ha, h0, q⟩ := hu
  cases r1
  obtain ⟨t1, ho⟩ := exo_at I1.hok ha
  obtain ⟨G, gs, ga, J⟩ := I1.untrack ha h0 hx
  exact ⟨a, _, _, { s1 with heap := G }, delH H1 a, .ref C, some dx, rfl, J, gs, ga, ho, ⟨rfl, rfl⟩, rfl, rfl, delH_same, rfl, I1.bare, raises_own T.exC T.tyC, q⟩
/-- the raise of an own class that cl_mk tells of -/
theorem ps_raiseN {W : WX} {pos2 : Pos} (hc : X.calm = true) (tk : Takes X W) (hx : X.ex = []) (c : Cl X.prog X.w X.K X.mg X.base x f) (hr : Room 2 X.A) (hg : Gl X x) (he : PE X e te) (hdb : (x == ("__debug__" : Str)) = false := by decide) (hst : starEach [e] X.env = (false, eval e X.env) :: starEach [] X.env := by rfl) (hpl : (backTo pos (starEach [] X.env)).any (·.1) = false := by rfl) :
    PS X (.Raise (some (.Call (.Name x p) [e] [] pos)) none pos2) (fun _ σ H => tExN (ga X.K x) f te σ H fun v H' => ∃ a dx, v = .ref a ∧ H' a = some (exo a (ga X.K x) (some dx)) ∧ Fr0 X.H_0 a ∧ W (.ref (ga X.K x)) (some dx) σ (delH H' a)) := by
  obtain ⟨fd, F, b, _⟩ := c.fn
  exact ps_raise hc tk (pmk_exN hx c.ex.oex (pe_exN c.ex.oex c.no c.ex.init c.ex.ty F hr b pass0 hg c.at_ he hdb hst hpl))
/-- the reading's end: what the raise leaves, told of the heap ahead of it -/
theorem raise_end {H0 H1 : Hp} {C : Addr} {y : V} {W : Addr → Hp → Prop} (h0 : ∀ b, H1 b = none → Fr0 H0 b) (w : ∀ dx H2, Same H1 H2 → H1 dx = none → H2 dx = some (exd dx [(f, y)]) → W dx H2) : ∀ a dx H', Same H1 H' → H1 a = none → H1 dx = none → dx ≠ a → H' a = some (exo a C (some dx)) → H' dx = some (exd dx [(f, y)]) →
    ∃ a2 dx2, V.ref a = .ref a2 ∧ H' a2 = some (exo a2 C (some dx2)) ∧ Fr0 H0 a2 ∧ W dx2 (delH H' a2) := fun a dx H' s n1 n2 ne e1 e2 =>
  ⟨a, dx, rfl, e1, h0 a n1, w dx _ (fun b o e => by rw [delH_ne (ne_of_none e n1)]; exact s b o e) n2 (by rw [delH_ne ne]; exact e2)⟩
end
/-- a rule by its name, or NoRule -/
def spNamed (K : PySem.W.Frag) (C : Addr) : Sp := fun vs H Q E => ∃ p v d ks hs rs st c, vs = [.ref p, v] ∧ BookAt C H p ks hs rs st c ∧ Dq H d v ∧
  (∀ r u, r ∈ rs → d = .str r.name → RuleAt H u r → Q u H) ∧ (amongD (rs.map (·.name)) d = false → ∀ dx H2, Same H H2 → H dx = none → H2 dx = some (exd dx [("value", v)]) → E (.ref (ga K "NoRule")) (some dx) H2)
theorem named_at {H : Hp} : ∀ {rs : List RuleD} {kvs : List (Key × V)} {vs : List V} {x : Str}, kvs.map (·.1) = (rs.map (·.name)).map Sum.inr → kvs.map (·.2) = vs → Rules H vs rs → (rs.map (·.name)).contains x = true → ∃ r u, r ∈ rs ∧ r.name = x ∧ valV kvs (Sum.inr x : Key) = some u ∧ RuleAt H u r
  | [], kvs, vs, x, h1, h2, h3, hx => by cases hx
  | r :: rs, [], vs, x, h1, h2, h3, hx => by cases h1
  | r :: rs, (k, u) :: kvs, vs, x, h1, h2, h3, hx => by
    rw [List.map_cons, List.map_cons, List.map_cons] at h1
    obtain ⟨hk, h1'⟩ := List.cons.inj h1
    have hk' : k = Sum.inr r.name := hk
    subst hk'
    rw [List.map_cons] at h2
    subst h2
    obtain ⟨r', t, e, hu, ht⟩ := h3
    obtain ⟨rfl, rfl⟩ := List.cons.inj e
    by_cases hn : r.name = x
    · exact ⟨r, u, List.mem_cons_self, hn, valV_pos (p := (Sum.inr r.name, u)) (by rw [hn]), hu⟩
    · rw [List.map_cons, List.contains_cons] at hx
      have hx2 : (rs.map (·.name)).contains x = true := by
        rcases Bool.or_eq_true_iff.mp hx with z | z
        · exact absurd (eq_of_beq z).symm hn
        · exact z
      obtain ⟨r2, u2, m, e2, e3, e4⟩ := named_at h1' rfl ht hx2
      refine ⟨r2, u2, List.mem_cons_of_mem _ m, e2, ?_, e4⟩
      rw [valV_neg (p := (Sum.inr r.name, u)) (fun z => hn (Sum.inr.inj z))]
      exact e3
end Fh
namespace Fh
open PySem PySem.Spec PyProof.Rows L2 He
/-! ### rounds that only append: what stays -/
theorem aliveStep_pre (F : List Str) (r : RuleD) : ∃ t, aliveStep F r = F ++ t := by
  unfold aliveStep
  split
  · exact ⟨[r.kind], rfl⟩
  · exact ⟨[], (List.append_nil F).symm⟩
theorem aliveRound_pre : ∀ (rs : List RuleD) (F : List Str), ∃ t, aliveRound rs F = F ++ t
  | [], F => ⟨[], (List.append_nil F).symm⟩
  | r :: rs, F => by
    obtain ⟨t, e⟩ := aliveStep_pre F r
    obtain ⟨u, e2⟩ := aliveRound_pre rs (aliveStep F r)
    refine ⟨t ++ u, ?_⟩
    show aliveRound rs (aliveStep F r) = _
    rw [e2, e, List.append_assoc]
theorem aliveRound_fix {rs : List RuleD} {F : List Str} (h : (aliveRound rs F).length ≤ F.length) : aliveRound rs F = F := by
  obtain ⟨t, e⟩ := aliveRound_pre rs F
  rw [e, List.length_append] at h
  have : t = [] := List.eq_nil_of_length_eq_zero (by omega)
  rw [e, this, List.append_nil]
theorem aliveFix_add (rs : List RuleD) (F : List Str) (n : Nat) : ∀ m, aliveFix rs (n + m) F = aliveFix rs m (aliveFix rs n F)
  | 0 => rfl
  | m + 1 => by
    show aliveRound rs (aliveFix rs (n + m) F) = aliveRound rs (aliveFix rs m (aliveFix rs n F))
    rw [aliveFix_add rs F n m]
theorem aliveFix_stay {rs : List RuleD} {F : List Str} (h : aliveRound rs F = F) : ∀ m, aliveFix rs m F = F
  | 0 => rfl
  | m + 1 => by
    show aliveRound rs (aliveFix rs m F) = F
    rw [aliveFix_stay h m, h]
/-- after so many rounds as there are kinds nothing more is found -/
theorem alive_grow {rs : List RuleD} {hs : List Str} : ∀ n, aliveRound rs (aliveFix rs n hs) = aliveFix rs n hs ∨ n + hs.length ≤ (aliveFix rs n hs).length
  | 0 => .inr (by show 0 + hs.length ≤ hs.length; omega)
  | n + 1 => by
    rcases alive_grow (rs := rs) (hs := hs) n with h | h
    · left
      show aliveRound rs (aliveRound rs (aliveFix rs n hs)) = aliveRound rs (aliveFix rs n hs)
      rw [h, h]
    · by_cases hl : (aliveRound rs (aliveFix rs n hs)).length ≤ (aliveFix rs n hs).length
      · left
        have e := aliveRound_fix hl
        show aliveRound rs (aliveRound rs (aliveFix rs n hs)) = aliveRound rs (aliveFix rs n hs)
        rw [e, e]
      · right
        show n + 1 + hs.length ≤ (aliveRound rs (aliveFix rs n hs)).length
        omega
theorem aliveStep_nil (r : RuleD) : aliveStep [] r = [] := by
  unfold aliveStep
  rw [show (r.out.any fun x => ([] : List Str).contains x) = false by rw [List.any_eq_false]; intro x _; simp, Bool.and_false, if_neg (by decide)]
theorem aliveRound_nil : ∀ rs : List RuleD, aliveRound rs [] = []
  | [] => rfl
  | r :: rs => by
    show aliveRound rs (aliveStep [] r) = []
    rw [aliveStep_nil, aliveRound_nil rs]
theorem alive_full {ks F : List Str} (hn : F.Nodup) (hs : ∀ x ∈ F, x ∈ ks) (hl : ks.length < F.length) : False := by
  have := nodup_len hn hs
  omega
theorem alive_done {ks hs : List Str} {rs : List RuleD} (hn : hs.Nodup) (hsub : ∀ x ∈ hs, x ∈ ks) (hr : ∀ r ∈ rs, r.kind ∈ ks) : aliveRound rs (aliveFix rs ks.length hs) = aliveFix rs ks.length hs := by
  by_cases h0 : hs = []
  · subst h0
    rw [aliveFix_stay (aliveRound_nil rs), aliveRound_nil]
  · have hp : 0 < hs.length := List.length_pos_iff.mpr h0
    rcases alive_grow (rs := rs) (hs := hs) ks.length with h | h
    · exact h
    · have ok := aliveFix_ok (ks := ks) ⟨hn, hsub⟩ hr ks.length
      exact (alive_full ok.1 ok.2 (by omega)).elim
/-- two that stay are the same -/
theorem alive_same {rs : List RuleD} {hs : List Str} {m n : Nat} (h1 : aliveRound rs (aliveFix rs m hs) = aliveFix rs m hs) (h2 : aliveRound rs (aliveFix rs n hs) = aliveFix rs n hs) : aliveFix rs m hs = aliveFix rs n hs := by
  have e1 : aliveFix rs (m + n) hs = aliveFix rs m hs := by rw [aliveFix_add, aliveFix_stay h1]
  have e2 : aliveFix rs (n + m) hs = aliveFix rs n hs := by rw [aliveFix_add, aliveFix_stay h2]
  rw [← e1, ← e2, Nat.add_comm]
/-! ### what comes about -/
inductive Reach (rs : List RuleD) (s : Str) : Str → Prop
  | refl : Reach rs s s
  | step {r : RuleD} {x : Str} : Reach rs s r.kind → r ∈ rs → x ∈ r.out → Reach rs s x
def Closed (rs : List RuleD) (F : List Str) : Prop := ∀ r ∈ rs, r.kind ∈ F → ∀ x ∈ r.out, x ∈ F
theorem Reach.mem {rs : List RuleD} {s : Str} {F : List Str} (hs : s ∈ F) (hc : Closed rs F) {x : Str} (h : Reach rs s x) : x ∈ F := by
  induction h with
  | refl => exact hs
  | step _ hr hx ih => exact hc _ hr ih _ hx
/-- the kinds that come about, each once -/
structure AboutOk (rs : List RuleD) (s : Str) (F : List Str) : Prop where
  nodup : F.Nodup
  all : ∀ x, x ∈ F ↔ Reach rs s x
theorem AboutOk.of {rs : List RuleD} {s : Str} {F : List Str} (hn : F.Nodup) (hs : s ∈ F) (hc : Closed rs F) (hr : ∀ x ∈ F, Reach rs s x) : AboutOk rs s F :=
  ⟨hn, fun x => ⟨hr x, fun h => h.mem hs hc⟩⟩
/-! ### ways to nothing: trees with their number of rules -/
mutual
inductive TreeN (rs : List RuleD) : Str → Nat → Prop
  | mk : ∀ (r : RuleD) (n : Nat), r ∈ rs → TreesN rs r.out n → TreeN rs r.kind (n + 1)
inductive TreesN (rs : List RuleD) : List Str → Nat → Prop
  | nil : TreesN rs [] 0
  | cons : ∀ (k : Str) (ks : List Str) (n m : Nat), TreeN rs k n → TreesN rs ks m → TreesN rs (k :: ks) (n + m)
end
/-- numbers of kinds -/
abbrev NumsW : Type := List (Str × Nat)
def inW (ps : NumsW) (k : Str) : Bool := (ps.map (·.1)).contains k
def atW (ps : NumsW) (k : Str) : Nat := (ps.lookup k).getD 0
def sumW (ps : NumsW) (ks : List Str) : Nat := (ks.map (atW ps)).sum
def costW (ps : NumsW) (r : RuleD) : Nat := 1 + sumW ps r.out
def candW (ps : NumsW) (r : RuleD) : Bool := !inW ps r.kind && r.out.all (inW ps)
theorem inW_mem {ps : NumsW} {k : Str} : inW ps k = true ↔ k ∈ ps.map (·.1) := List.contains_iff_mem
theorem lookup_in : ∀ {ps : NumsW} {k : Str}, (ps.lookup k).isSome = inW ps k
  | [], k => rfl
  | (a, n) :: ps, k => by
    unfold inW
    rw [List.map_cons, List.contains_cons, List.lookup_cons]
    cases h : k == a with
    | true => rfl
    | false => exact lookup_in (ps := ps)
theorem inW_some {ps : NumsW} {k : Str} (h : inW ps k = true) : ∃ n, ps.lookup k = some n := by
  rw [← lookup_in] at h
  exact Option.isSome_iff_exists.mp h
theorem atW_of {ps : NumsW} {k : Str} {n : Nat} (h : ps.lookup k = some n) : atW ps k = n := by
  unfold atW
  rw [h]
  rfl
theorem inW_of {ps : NumsW} {k : Str} {n : Nat} (h : ps.lookup k = some n) : inW ps k = true := by
  rw [← lookup_in, h]
  rfl
theorem lookup_app : ∀ {ps qs : NumsW} {k : Str}, (ps ++ qs).lookup k = (ps.lookup k).or (qs.lookup k)
  | [], qs, k => by simp
  | (a, n) :: ps, qs, k => by
    rw [List.cons_append, List.lookup_cons, List.lookup_cons]
    cases h : k == a with
    | true => rfl
    | false => exact lookup_app (ps := ps)
theorem atW_app {ps qs : NumsW} {k : Str} (h : inW ps k = true) : atW (ps ++ qs) k = atW ps k := by
  obtain ⟨n, e⟩ := inW_some h
  unfold atW
  rw [lookup_app, e]
  rfl
theorem sumW_app {ps qs : NumsW} : ∀ {ks : List Str}, (∀ k ∈ ks, inW ps k = true) → sumW (ps ++ qs) ks = sumW ps ks
  | [], _ => rfl
  | k :: ks, h => by
    show (atW (ps ++ qs) k :: ks.map (atW (ps ++ qs))).sum = (atW ps k :: ks.map (atW ps)).sum
    rw [List.sum_cons, List.sum_cons, atW_app (h k List.mem_cons_self)]
    have := sumW_app (qs := qs) (ks := ks) fun x hx => h x (List.mem_cons_of_mem _ hx)
    unfold sumW at this
    rw [this]
/-- least numbers, each by a rule whose outcome stands ahead -/
structure WaysOk (rs : List RuleD) (ps : NumsW) : Prop where
  nodup : (ps.map (·.1)).Nodup
  tree : ∀ k n, ps.lookup k = some n → TreeN rs k n
  least : ∀ k n, ps.lookup k = some n → ∀ m, TreeN rs k m → n ≤ m
  chain : ∀ i k n, ps[i]? = some (k, n) → ∃ r ∈ rs, r.kind = k ∧ (∀ x ∈ r.out, inW (ps.take i) x = true) ∧ n = 1 + sumW (ps.take i) r.out
theorem WaysOk.nil (rs : List RuleD) : WaysOk rs [] := ⟨List.nodup_nil, fun k n h => (by cases h), fun k n h => (by cases h), fun i k n h => (by simp at h)⟩
theorem trees_of {rs : List RuleD} {ps : NumsW} (ht : ∀ k n, ps.lookup k = some n → TreeN rs k n) : ∀ {ks : List Str}, (∀ k ∈ ks, inW ps k = true) → TreesN rs ks (sumW ps ks)
  | [], _ => .nil
  | k :: ks, h => by
    obtain ⟨n, e⟩ := inW_some (h k List.mem_cons_self)
    have q := TreesN.cons k ks n _ (ht k n e) (trees_of ht (ks := ks) fun x hx => h x (List.mem_cons_of_mem _ hx))
    have e2 : sumW ps (k :: ks) = n + sumW ps ks := by
      show (atW ps k :: ks.map (atW ps)).sum = _
      rw [List.sum_cons, atW_of e]
      rfl
    rw [e2]
    exact q
theorem tree_above {rs : List RuleD} {ps : NumsW} (W : WaysOk rs ps) {c : Nat} (hc : ∀ r ∈ rs, candW ps r = true → c ≤ costW ps r) : ∀ {k : Str} {n : Nat}, TreeN rs k n → inW ps k = false → c ≤ n := by
  intro k n h
  refine TreeN.rec (rs := rs) (motive_1 := fun k n _ => inW ps k = false → c ≤ n) (motive_2 := fun ks n _ => ((∃ k ∈ ks, inW ps k = false) → c ≤ n) ∧ ((∀ k ∈ ks, inW ps k = true) → sumW ps ks ≤ n)) ?_ ?_ ?_ h
  · rintro r n hr _ ⟨h1, h2⟩ hk
    by_cases ha : ∀ x ∈ r.out, inW ps x = true
    · have hcand : candW ps r = true := by
        unfold candW
        rw [hk, List.all_eq_true.mpr ha]
        rfl
      have q1 := hc r hr hcand
      have q2 := h2 ha
      unfold costW at q1
      omega
    · have : ∃ x ∈ r.out, inW ps x = false := by
        apply Classical.byContradiction
        intro hne
        apply ha
        intro x hx
        cases e : inW ps x with
        | true => rfl
        | false => exact absurd ⟨x, hx, e⟩ hne
      have := h1 this
      omega
  · exact ⟨fun ⟨k, hk, _⟩ => absurd hk List.not_mem_nil, fun _ => Nat.le_refl _⟩
  · rintro k ks n m t1 t2 ih ⟨h1, h2⟩
    refine ⟨fun ⟨x, hx, e⟩ => ?_, fun ha => ?_⟩
    · rcases List.mem_cons.mp hx with rfl | hx
      · have := ih e
        omega
      · have := h1 ⟨x, hx, e⟩
        omega
    · obtain ⟨v, ev⟩ := inW_some (ha k List.mem_cons_self)
      have q1 := W.least k v ev n t1
      have q2 := h2 fun x hx => ha x (List.mem_cons_of_mem _ hx)
      show (atW ps k :: ks.map (atW ps)).sum ≤ _
      rw [List.sum_cons, atW_of ev]
      unfold sumW at q2
      omega
theorem candW_parts {ps : NumsW} {r : RuleD} (h : candW ps r = true) : inW ps r.kind = false ∧ ∀ x ∈ r.out, inW ps x = true := by
  unfold candW at h
  obtain ⟨h1, h2⟩ := Bool.and_eq_true_iff.mp h
  refine ⟨by simpa using h1, List.all_eq_true.mp h2⟩
theorem lookup_one {k x : Str} {n m : Nat} (h : ([(k, n)] : NumsW).lookup x = some m) : x = k ∧ m = n := by
  rw [List.lookup_cons] at h
  cases e : x == k with
  | true =>
    rw [e] at h
    exact ⟨eq_of_beq e, (Option.some.inj h).symm⟩
  | false =>
    rw [e] at h
    cases h
theorem WaysOk.add {rs : List RuleD} {ps : NumsW} (W : WaysOk rs ps) {r : RuleD} (hr : r ∈ rs) (hc : candW ps r = true) (hm : ∀ q ∈ rs, candW ps q = true → costW ps r ≤ costW ps q) : WaysOk rs (ps ++ [(r.kind, costW ps r)]) := by
  obtain ⟨h1, h2⟩ := candW_parts hc
  have hnl : ps.lookup r.kind = none := by
    cases e : ps.lookup r.kind with
    | none => rfl
    | some n => rw [inW_of e] at h1; cases h1
  have tr : TreeN rs r.kind (costW ps r) := by
    have := TreeN.mk r _ hr (trees_of W.tree h2)
    unfold costW
    rw [Nat.add_comm]
    exact this
  refine ⟨?_, fun k n h => ?_, fun k n h m t => ?_, fun i k n h => ?_⟩
  · rw [List.map_append]
    refine List.nodup_append.mpr ⟨W.nodup, by simp, fun a ha b hb e => ?_⟩
    have hb' : b = r.kind := List.mem_singleton.mp hb
    rw [e, hb', ← inW_mem, h1] at ha
    cases ha
  · rw [lookup_app] at h
    cases e : ps.lookup k with
    | some v =>
      rw [e] at h
      cases h
      exact W.tree k _ e
    | none =>
      rw [e] at h
      obtain ⟨rfl, rfl⟩ := lookup_one h
      exact tr
  · rw [lookup_app] at h
    cases e : ps.lookup k with
    | some v =>
      rw [e] at h
      cases h
      exact W.least k _ e m t
    | none =>
      rw [e] at h
      obtain ⟨rfl, rfl⟩ := lookup_one h
      exact tree_above W hm t h1
  · by_cases hi : i < ps.length
    · rw [List.getElem?_append_left hi] at h
      obtain ⟨q, hq, e1, e2, e3⟩ := W.chain i k n h
      rw [List.take_append_of_le_length (Nat.le_of_lt hi)]
      exact ⟨q, hq, e1, e2, e3⟩
    · have hi2 : i = ps.length := by
        have := (List.getElem?_eq_some_iff.mp h).1
        rw [List.length_append] at this
        simp at this
        omega
      subst hi2
      rw [List.getElem?_append_right (Nat.le_refl _), Nat.sub_self] at h
      cases h
      rw [List.take_append_of_le_length (Nat.le_refl _), List.take_length]
      exact ⟨r, hr, rfl, h2, rfl⟩
/-- nothing more: all trees are of these -/
theorem WaysOk.full {rs : List RuleD} {ps : NumsW} (hn : ∀ r ∈ rs, candW ps r = false) {k : Str} {n : Nat} (h : TreeN rs k n) : inW ps k = true := by
  refine TreeN.rec (rs := rs) (motive_1 := fun k n _ => inW ps k = true) (motive_2 := fun ks n _ => ∀ k ∈ ks, inW ps k = true) ?_ ?_ ?_ h
  · intro r n hr _ ih
    cases e : inW ps r.kind with
    | true => rfl
    | false =>
      have := hn r hr
      unfold candW at this
      rw [e, List.all_eq_true.mpr ih] at this
      cases this
  · intro k hk
    cases hk
  · intro k ks n m _ _ h1 h2 x hx
    rcases List.mem_cons.mp hx with rfl | hx
    · exact h1
    · exact h2 x hx
/-! ### the same, round by round -/
def setW (k : Str) (n : Nat) (p : Str × Nat) : Str × Nat := if p.1 = k then (p.1, n) else p
def putW (ps : NumsW) (k : Str) (n : Nat) : NumsW := if inW ps k = true then ps.map (setW k n) else ps ++ [(k, n)]
theorem setW_key (k : Str) (n : Nat) (p : Str × Nat) : (setW k n p).1 = p.1 := by
  unfold setW
  split <;> rfl
theorem setW_keys (k : Str) (n : Nat) (ps : NumsW) : (ps.map (setW k n)).map (·.1) = ps.map (·.1) := by
  rw [List.map_map]
  exact List.map_congr_left fun p _ => setW_key k n p
theorem lookup_set (k : Str) (n : Nat) (x : Str) : ∀ ps : NumsW, (ps.map (setW k n)).lookup x = if x = k then (ps.lookup k).map (fun _ => n) else ps.lookup x
  | [] => by split <;> rfl
  | (a, m) :: ps => by
    have ih := lookup_set k n x ps
    rw [List.map_cons]
    unfold setW
    by_cases ha : a = k
    · rw [if_pos (show (a, m).1 = k from ha), List.lookup_cons, List.lookup_cons, List.lookup_cons]
      show (match x == a with | true => some n | false => List.lookup x (List.map (setW k n) ps)) = _
      rw [ih]
      by_cases h : x = k
      · rw [if_pos h, if_pos h, show (x == a) = true from beq_iff_eq.mpr (h.trans ha.symm), show (k == a) = true from beq_iff_eq.mpr ha.symm]
        rfl
      · rw [if_neg h, if_neg h, show (x == a) = false from beq_eq_false_iff_ne.mpr fun e => h (e.trans ha)]
    · rw [if_neg (show ¬ (a, m).1 = k from ha), List.lookup_cons, List.lookup_cons, List.lookup_cons]
      show (match x == a with | true => some m | false => List.lookup x (List.map (setW k n) ps)) = _
      rw [ih]
      by_cases h : x = k
      · rw [if_pos h, if_pos h, show (x == a) = false from beq_eq_false_iff_ne.mpr fun e => ha (e.symm.trans h), show (k == a) = false from beq_eq_false_iff_ne.mpr fun e => ha e.symm]
      · rw [if_neg h, if_neg h]
        cases x == a <;> rfl
theorem lookup_put (ps : NumsW) (k : Str) (n : Nat) (x : Str) : (putW ps k n).lookup x = if x = k then some n else ps.lookup x := by
  unfold putW
  split
  · rename_i h
    obtain ⟨m, e⟩ := inW_some h
    rw [lookup_set, e]
    rfl
  · rename_i h
    rw [lookup_app]
    by_cases hx : x = k
    · subst hx
      have e : ps.lookup x = none := by
        cases q : ps.lookup x with
        | none => rfl
        | some m => exact absurd (inW_of q) h
      rw [if_pos rfl, e, List.lookup_cons, show (x == x) = true from beq_self_eq_true x]
      rfl
    · rw [if_neg hx, List.lookup_cons, show (x == k) = false from beq_eq_false_iff_ne.mpr hx]
      cases ps.lookup x <;> rfl
theorem put_keys (ps : NumsW) (k : Str) (n : Nat) : (putW ps k n).map (·.1) = if inW ps k = true then ps.map (·.1) else ps.map (·.1) ++ [k] := by
  unfold putW
  split
  · exact setW_keys k n ps
  · rw [List.map_append]
    rfl
/-- one rule of a round -/
def wayStep (ps : NumsW) (r : RuleD) : NumsW := if r.out.all (inW ps) = true then putW ps r.kind (min (1 + sumW ps r.out) ((ps.lookup r.kind).getD (1 + sumW ps r.out))) else ps
def wayRound (rs : List RuleD) (ps : NumsW) : NumsW := rs.foldl wayStep ps
def wayFix (rs : List RuleD) : Nat → NumsW → NumsW
  | 0, ps => ps
  | n + 1, ps => wayRound rs (wayFix rs n ps)
/-- a later one has no greater numbers -/
def LeW (ps qs : NumsW) : Prop := ∀ k n, ps.lookup k = some n → ∃ m, m ≤ n ∧ qs.lookup k = some m
theorem LeW.refl (ps : NumsW) : LeW ps ps := fun k n h => ⟨n, Nat.le_refl _, h⟩
theorem LeW.trans {ps qs us : NumsW} (h : LeW ps qs) (g : LeW qs us) : LeW ps us := fun k n e => by
  obtain ⟨m, l, e2⟩ := h k n e
  obtain ⟨p, l2, e3⟩ := g k m e2
  exact ⟨p, Nat.le_trans l2 l, e3⟩
theorem LeW.inW {ps qs : NumsW} (h : LeW ps qs) {k : Str} (hk : inW ps k = true) : Fh.inW qs k = true ∧ atW qs k ≤ atW ps k := by
  obtain ⟨n, e⟩ := inW_some hk
  obtain ⟨m, l, e2⟩ := h k n e
  exact ⟨inW_of e2, by rw [atW_of e, atW_of e2]; exact l⟩
theorem LeW.sum {ps qs : NumsW} (h : LeW ps qs) : ∀ {ks : List Str}, (∀ k ∈ ks, Fh.inW ps k = true) → (∀ k ∈ ks, Fh.inW qs k = true) ∧ sumW qs ks ≤ sumW ps ks
  | [], _ => ⟨fun _ hk => absurd hk List.not_mem_nil, Nat.le_refl _⟩
  | k :: ks, hk => by
    obtain ⟨a1, a2⟩ := h.inW (hk k List.mem_cons_self)
    obtain ⟨b1, b2⟩ := LeW.sum h (ks := ks) fun x hx => hk x (List.mem_cons_of_mem _ hx)
    refine ⟨fun x hx => ?_, ?_⟩
    · rcases List.mem_cons.mp hx with rfl | hx
      · exact a1
      · exact b1 x hx
    · show (atW qs k :: ks.map (atW qs)).sum ≤ (atW ps k :: ks.map (atW ps)).sum
      rw [List.sum_cons, List.sum_cons]
      unfold sumW at b2
      omega
theorem wayStep_le (ps : NumsW) (r : RuleD) : LeW ps (wayStep ps r) := by
  unfold wayStep
  split
  · intro k n h
    rw [lookup_put]
    by_cases e : k = r.kind
    · subst e
      rw [if_pos rfl, h]
      exact ⟨_, Nat.min_le_right _ _, rfl⟩
    · rw [if_neg e]
      exact ⟨n, Nat.le_refl _, h⟩
  · exact LeW.refl ps
theorem wayRound_le : ∀ (rs : List RuleD) (ps : NumsW), LeW ps (wayRound rs ps)
  | [], ps => LeW.refl ps
  | r :: rs, ps => (wayStep_le ps r).trans (wayRound_le rs (wayStep ps r))
theorem wayStep_by {ps : NumsW} {r : RuleD} (h : ∀ x ∈ r.out, inW ps x = true) : ∃ m, m ≤ 1 + sumW ps r.out ∧ (wayStep ps r).lookup r.kind = some m := by
  unfold wayStep
  rw [if_pos (List.all_eq_true.mpr h), lookup_put, if_pos rfl]
  exact ⟨_, Nat.min_le_left _ _, rfl⟩
theorem wayRound_by : ∀ {rs : List RuleD} {ps : NumsW} {r : RuleD}, r ∈ rs → (∀ x ∈ r.out, inW ps x = true) → ∃ m, m ≤ 1 + sumW ps r.out ∧ (wayRound rs ps).lookup r.kind = some m
  | q :: rs, ps, r, hr, h => by
    rcases List.mem_cons.mp hr with rfl | hr
    · obtain ⟨m, l, e⟩ := wayStep_by h
      obtain ⟨p, l2, e2⟩ := wayRound_le rs (wayStep ps r) _ _ e
      exact ⟨p, Nat.le_trans l2 l, e2⟩
    · obtain ⟨a, b⟩ := (wayStep_le ps q).sum h
      obtain ⟨m, l, e⟩ := wayRound_by (rs := rs) (ps := wayStep ps q) hr a
      exact ⟨m, by omega, e⟩
theorem wayStep_tree {rs : List RuleD} {ps : NumsW} {r : RuleD} (hr : r ∈ rs) (h : ∀ k n, ps.lookup k = some n → TreeN rs k n) : ∀ k n, (wayStep ps r).lookup k = some n → TreeN rs k n := by
  intro k n
  unfold wayStep
  split
  · rename_i ha
    rw [lookup_put]
    by_cases e : k = r.kind
    · subst e
      rw [if_pos rfl]
      intro e2
      have t : TreeN rs r.kind (1 + sumW ps r.out) := by
        rw [Nat.add_comm]
        exact TreeN.mk r _ hr (trees_of h (List.all_eq_true.mp ha))
      have e2' := Option.some.inj e2
      cases e3 : ps.lookup r.kind with
      | none =>
        rw [e3] at e2'
        rw [← e2']
        show TreeN rs r.kind (min _ (1 + sumW ps r.out))
        rw [Nat.min_self]
        exact t
      | some v =>
        rw [e3] at e2'
        rw [← e2']
        show TreeN rs r.kind (min _ v)
        rcases Nat.le_total (1 + sumW ps r.out) v with l | l
        · rw [Nat.min_eq_left l]; exact t
        · rw [Nat.min_eq_right l]; exact h _ _ e3
    · rw [if_neg e]
      exact h k n
  · exact h k n
theorem wayRound_tree {all : List RuleD} : ∀ {rs : List RuleD} {ps : NumsW}, (∀ r ∈ rs, r ∈ all) → (∀ k n, ps.lookup k = some n → TreeN all k n) → ∀ k n, (wayRound rs ps).lookup k = some n → TreeN all k n
  | [], ps, _, h => h
  | r :: rs, ps, hs, h => wayRound_tree (rs := rs) (fun q hq => hs q (List.mem_cons_of_mem _ hq)) (wayStep_tree (hs r List.mem_cons_self) h)
theorem wayFix_tree {rs : List RuleD} : ∀ n k m, (wayFix rs n []).lookup k = some m → TreeN rs k m
  | 0 => fun k m h => by cases h
  | n + 1 => wayRound_tree (fun _ h => h) (wayFix_tree n)
theorem wayFix_chain {rs : List RuleD} {ps : NumsW} (W : WaysOk rs ps) : ∀ j, LeW (ps.take j) (wayFix rs j [])
  | 0 => fun k n h => by rw [List.take_zero] at h; cases h
  | j + 1 => by
    intro k n h
    have ih := wayFix_chain W j
    have up := wayRound_le rs (wayFix rs j [])
    rw [List.take_add_one, lookup_app] at h
    cases e : (ps.take j).lookup k with
    | some v =>
      rw [e] at h
      cases h
      exact (ih.trans up) k _ e
    | none =>
      rw [e] at h
      cases e2 : ps[j]? with
      | none =>
        rw [e2] at h
        cases h
      | some p =>
        obtain ⟨a, v⟩ := p
        rw [e2] at h
        obtain ⟨rfl, rfl⟩ := lookup_one (h : List.lookup k [(a, v)] = some n)
        obtain ⟨r, hr, rfl, h1, h2⟩ := W.chain j _ _ e2
        obtain ⟨q1, q2⟩ := ih.sum h1
        obtain ⟨m, l, e3⟩ := wayRound_by hr q1
        exact ⟨m, by omega, e3⟩
/-- both ways tell the same -/
theorem ways_same {rs : List RuleD} {ps : NumsW} (W : WaysOk rs ps) (hn : ∀ r ∈ rs, candW ps r = false) {n : Nat} (hl : ps.length ≤ n) (k : Str) : (wayFix rs n []).lookup k = ps.lookup k := by
  have c := wayFix_chain W n
  rw [List.take_of_length_le hl] at c
  cases e : (wayFix rs n []).lookup k with
  | none =>
    cases e2 : ps.lookup k with
    | none => rfl
    | some v =>
      obtain ⟨m, _, e3⟩ := c k v e2
      rw [e] at e3
      cases e3
  | some m =>
    have t := wayFix_tree n k m e
    obtain ⟨v, e2⟩ := inW_some (WaysOk.full hn t)
    obtain ⟨m', l, e3⟩ := c k v e2
    rw [e] at e3
    cases e3
    have := W.least k v e2 _ t
    rw [e2, Nat.le_antisymm l this]
theorem wayFix_keys {rs : List RuleD} : ∀ n, ((wayFix rs n []).map (·.1)).Nodup := by
  have one : ∀ (ps : NumsW) (r : RuleD), (ps.map (·.1)).Nodup → ((wayStep ps r).map (·.1)).Nodup := fun ps r h => by
    unfold wayStep
    split
    · rw [put_keys]
      split
      · exact h
      · rename_i hk
        refine List.nodup_append.mpr ⟨h, by simp, fun a ha b hb e => hk ?_⟩
        rw [inW_mem, ← List.mem_singleton.mp hb, ← e]
        exact ha
    · exact h
  have round : ∀ (rs : List RuleD) (ps : NumsW), (ps.map (·.1)).Nodup → ((wayRound rs ps).map (·.1)).Nodup := by
    intro rs
    induction rs with
    | nil => exact fun ps h => h
    | cons r rs ih => exact fun ps h => ih _ (one ps r h)
  intro n
  induction n with
  | zero => exact List.nodup_nil
  | succ n ih => exact round rs _ ih
theorem ways_perm {rs : List RuleD} {ps : NumsW} (W : WaysOk rs ps) (hn : ∀ r ∈ rs, candW ps r = false) {n : Nat} (hl : ps.length ≤ n) : ((wayFix rs n []).map (·.1)).Perm (ps.map (·.1)) := by
  refine (List.perm_ext_iff_of_nodup (wayFix_keys n) W.nodup).mpr fun k => ?_
  rw [← inW_mem, ← inW_mem, ← lookup_in, ← lookup_in, ways_same W hn hl]
end Fh
namespace Fh
open PySem PySem.Spec PyProof.Rows L2 He
/-! ### what comes about, turn by turn: what is found, what is new in this turn -/
abbrev AbSt : Type := List Str × List Str
def growS (p : AbSt) (x : Str) : AbSt := if p.1.contains x = true then p else (p.1 ++ [x], p.2 ++ [x])
def grow (xs : List Str) (p : AbSt) : AbSt := xs.foldl growS p
theorem grow_app (xs ys : List Str) (p : AbSt) : grow (xs ++ ys) p = grow ys (grow xs p) := List.foldl_append
theorem grow_snoc (xs : List Str) (y : Str) (p : AbSt) : grow (xs ++ [y]) p = growS (grow xs p) y := grow_app xs [y] p
theorem grow_ok : ∀ (xs F L : List Str), F.Nodup → ∃ t, grow xs (F, L) = (F ++ t, L ++ t) ∧ (F ++ t).Nodup ∧ (∀ x ∈ t, x ∈ xs) ∧ ∀ x ∈ xs, x ∈ F ++ t
  | [], F, L, h => ⟨[], by rw [List.append_nil, List.append_nil]; rfl, by rw [List.append_nil]; exact h, fun x hx => hx, fun x hx => absurd hx List.not_mem_nil⟩
  | y :: xs, F, L, h => by
    by_cases hy : F.contains y = true
    · obtain ⟨t, e, n, a, b⟩ := grow_ok xs F L h
      refine ⟨t, ?_, n, fun x hx => List.mem_cons_of_mem _ (a x hx), fun x hx => ?_⟩
      · show grow xs (growS (F, L) y) = _
        rw [show growS (F, L) y = (F, L) from if_pos hy, e]
      · rcases List.mem_cons.mp hx with rfl | hx
        · exact List.mem_append_left _ (List.contains_iff_mem.mp hy)
        · exact b x hx
    · have hn : (F ++ [y]).Nodup := List.nodup_append.mpr ⟨h, by simp, fun a ha b hb e => hy (List.contains_iff_mem.mpr (by rw [← List.mem_singleton.mp hb, ← e]; exact ha))⟩
      obtain ⟨t, e, n, a, b⟩ := grow_ok xs (F ++ [y]) (L ++ [y]) hn
      refine ⟨y :: t, ?_, ?_, fun x hx => ?_, fun x hx => ?_⟩
      · show grow xs (growS (F, L) y) = _
        rw [show growS (F, L) y = (F ++ [y], L ++ [y]) from if_neg hy, e, List.append_assoc, List.append_assoc]
        rfl
      · rw [List.append_assoc] at n
        exact n
      · rcases List.mem_cons.mp hx with rfl | hx
        · exact List.mem_cons_self
        · exact List.mem_cons_of_mem _ (a x hx)
      · rcases List.mem_cons.mp hx with rfl | hx
        · exact List.mem_append_right _ List.mem_cons_self
        · have := b x hx
          rw [List.append_assoc] at this
          exact this
structure AboutSt (rs : List RuleD) (s : Str) (F L : List Str) : Prop where
  nodup : F.Nodup
  start : s ∈ F
  new : ∀ x ∈ L, x ∈ F
  reach : ∀ x ∈ F, Reach rs s x
  done : ∀ r ∈ rs, r.kind ∈ F → r.kind ∉ L → ∀ x ∈ r.out, x ∈ F
theorem AboutSt.one (rs : List RuleD) (s : Str) : AboutSt rs s [s] [s] :=
  ⟨by simp, List.mem_singleton.mpr rfl, fun x hx => hx, fun x hx => by rw [List.mem_singleton.mp hx]; exact .refl, fun r _ h1 h2 => absurd h1 h2⟩
theorem AboutSt.next {rs : List RuleD} {s : Str} {F L xs : List Str} (h : AboutSt rs s F L) (hx : ∀ x, x ∈ xs ↔ ∃ r ∈ rs, r.kind ∈ L ∧ x ∈ r.out) :
    AboutSt rs s (grow xs (F, [])).1 (grow xs (F, [])).2 ∧ (grow xs (F, [])).1.length = F.length + (grow xs (F, [])).2.length := by
  obtain ⟨t, e, n, a, b⟩ := grow_ok xs F [] h.nodup
  rw [e]
  refine ⟨⟨n, List.mem_append_left _ h.start, fun x hx => List.mem_append_right _ hx, fun x hm => ?_, fun r hr hk hn x hxo => ?_⟩, List.length_append⟩
  · rcases List.mem_append.mp hm with hm | hm
    · exact h.reach x hm
    · obtain ⟨r, hr, hk, ho⟩ := (hx x).mp (a x hm)
      exact .step (h.reach _ (h.new _ hk)) hr ho
  · have hF : r.kind ∈ F := by
      rcases List.mem_append.mp hk with hk | hk
      · exact hk
      · exact absurd hk hn
    by_cases hl : r.kind ∈ L
    · exact b x ((hx x).mpr ⟨r, hr, hl, hxo⟩)
    · exact List.mem_append_left _ (h.done r hr hF hl x hxo)
theorem AboutSt.end_ {rs : List RuleD} {s : Str} {F : List Str} (h : AboutSt rs s F []) : AboutOk rs s F :=
  .of h.nodup h.start (fun r hr hk x hx => h.done r hr hk List.not_mem_nil x hx) h.reach
theorem Reach.inside {rs : List RuleD} {s : Str} {ks : List Str} (hs : s ∈ ks) (ho : ∀ r ∈ rs, ∀ x ∈ r.out, x ∈ ks) {x : Str} (h : Reach rs s x) : x ∈ ks := by
  cases h with
  | refl => exact hs
  | step _ hr hx => exact ho _ hr _ hx
theorem AboutSt.few {rs : List RuleD} {s : Str} {F L ks : List Str} (h : AboutSt rs s F L) (hs : s ∈ ks) (ho : ∀ r ∈ rs, ∀ x ∈ r.out, x ∈ ks) : F.length ≤ ks.length := nodup_len h.nodup fun x hx => (h.reach x hx).inside hs ho
theorem AboutOk.same {rs : List RuleD} {s : Str} {F G : List Str} (h : AboutOk rs s F) (g : AboutOk rs s G) : F.Perm G := (List.perm_ext_iff_of_nodup h.nodup g.nodup).mpr fun x => by rw [h.all, g.all]
/-- one turn of a law -/
def layerOut (rs : List RuleD) (L : List Str) : List Str := rs.flatMap fun r => if L.contains r.kind = true then r.out else []
theorem layerOut_mem {rs : List RuleD} {L : List Str} (x : Str) : x ∈ layerOut rs L ↔ ∃ r ∈ rs, r.kind ∈ L ∧ x ∈ r.out := by
  unfold layerOut
  rw [List.mem_flatMap]
  constructor
  · rintro ⟨r, hr, hx⟩
    split at hx
    · rename_i hc
      exact ⟨r, hr, List.contains_iff_mem.mp hc, hx⟩
    · cases hx
  · rintro ⟨r, hr, hk, hx⟩
    refine ⟨r, hr, ?_⟩
    rw [if_pos (List.contains_iff_mem.mpr hk)]
    exact hx
def aboutFix (rs : List RuleD) (s : Str) : Nat → AbSt
  | 0 => ([s], [s])
  | n + 1 => grow (layerOut rs (aboutFix rs s n).2) ((aboutFix rs s n).1, [])
theorem aboutFix_st (rs : List RuleD) (s : Str) : ∀ n, AboutSt rs s (aboutFix rs s n).1 (aboutFix rs s n).2 ∧ ((aboutFix rs s n).2 = [] ∨ n + 1 ≤ (aboutFix rs s n).1.length)
  | 0 => ⟨.one rs s, .inr (Nat.le_refl _)⟩
  | n + 1 => by
    obtain ⟨h, g⟩ := aboutFix_st rs s n
    obtain ⟨h2, hl⟩ := h.next (layerOut_mem (rs := rs) (L := (aboutFix rs s n).2))
    refine ⟨h2, ?_⟩
    show (grow (layerOut rs (aboutFix rs s n).2) ((aboutFix rs s n).1, [])).2 = [] ∨ _ ≤ (grow (layerOut rs (aboutFix rs s n).2) ((aboutFix rs s n).1, [])).1.length
    rcases g with g | g
    · left
      rw [g]
      have e : layerOut rs [] = [] := by
        cases q : layerOut rs [] with
        | nil => rfl
        | cons z zs =>
          have : z ∈ layerOut rs [] := by rw [q]; exact List.mem_cons_self
          obtain ⟨r, _, hk, _⟩ := (layerOut_mem z).mp this
          cases hk
      rw [e]
      rfl
    · cases q : (grow (layerOut rs (aboutFix rs s n).2) ((aboutFix rs s n).1, [])).2 with
      | nil => exact .inl rfl
      | cons z zs =>
        right
        rw [q, List.length_cons] at hl
        omega
theorem aboutFix_done {rs : List RuleD} {s : Str} {ks : List Str} (hs : s ∈ ks) (ho : ∀ r ∈ rs, ∀ x ∈ r.out, x ∈ ks) : AboutOk rs s (aboutFix rs s ks.length).1 := by
  obtain ⟨h, g⟩ := aboutFix_st rs s ks.length
  rcases g with g | g
  · rw [g] at h
    exact h.end_
  · have := h.few hs ho
    omega
end Fh
namespace Fh
open PySem PySem.Spec PySem.W PyProof.Rows L2 He
/-! ### a sorted list of strings is told by what it has -/
theorem rising_pw : ∀ {xs : List Str} {p : Str}, risingS p xs = true → ∀ x ∈ xs, ¬ (x.cps.toList < p.cps.toList)
  | [], _, _ => fun x hx => absurd hx List.not_mem_nil
  | y :: ys, p, h => by
    have h' : (!ltCps y.cps.toList p.cps.toList && risingS y ys) = true := h
    obtain ⟨h1, h2⟩ := Bool.and_eq_true_iff.mp h'
    rw [ltCps_eq] at h1
    have n1 : ¬ (y.cps.toList < p.cps.toList) := by simpa using h1
    intro x hx
    rcases List.mem_cons.mp hx with rfl | hx
    · exact n1
    · have n2 := rising_pw h2 x hx
      exact List.not_lt.mpr (List.le_trans (List.not_lt.mp n1) (List.not_lt.mp n2))
theorem sortedS_tail {x : Str} {xs : List Str} (h : sortedS (x :: xs) = true) : sortedS xs = true := by
  have h' : risingS x xs = true := h
  cases xs with
  | nil => rfl
  | cons y ys =>
    have h2 : (!ltCps y.cps.toList x.cps.toList && risingS y ys) = true := h'
    exact (Bool.and_eq_true_iff.mp h2).2
theorem str_cps {x y : Str} (h : x.cps.toList = y.cps.toList) : x = y := by
  have hc : x.cps = y.cps := Array.toList_inj.mp h
  cases x
  cases y
  cases hc
  rfl
theorem sortedS_unique : ∀ {xs ys : List Str}, sortedS xs = true → sortedS ys = true → xs.Perm ys → xs = ys
  | [], ys, _, _, hp => (List.Perm.nil_eq hp)
  | x :: xs, [], _, _, hp => absurd hp.length_eq (by simp)
  | x :: xs, y :: ys, h1, h2, hp => by
    have e : x = y := by
      by_cases q : x = y
      · exact q
      · have mx : x ∈ y :: ys := hp.mem_iff.mp List.mem_cons_self
        have my : y ∈ x :: xs := hp.mem_iff.mpr List.mem_cons_self
        have mx' : x ∈ ys := (List.mem_cons.mp mx).resolve_left q
        have my' : y ∈ xs := (List.mem_cons.mp my).resolve_left fun e => q e.symm
        have n1 := rising_pw (show risingS y ys = true from h2) x mx'
        have n2 := rising_pw (show risingS x xs = true from h1) y my'
        exact str_cps (List.le_antisymm (List.not_lt.mp n2) (List.not_lt.mp n1))
    subst e
    rw [sortedS_unique (sortedS_tail h1) (sortedS_tail h2) (List.Perm.cons_inv hp)]
/-! ### == and != over data -/
def rEqQ (b : Bool) : R2 := fun x y H Q => ∃ d e, Dq H d x ∧ Dq H e y ∧ SeqAt.shaped d = true ∧ SeqAt.shaped e = true ∧ Q (.bl (if b = true then !PyData.eqv d e else PyData.eqv d e)) H
section
variable {X : Cx}
theorem op_eqQ (hu : X.A.units + 64 < cLine) : OpR X (compareOp .Eq) (rEqQ false) := by
  intro pins s σ H x y v u Q I rx ry h
  obtain ⟨d, e, hd, he, l1, l2, q⟩ := h
  obtain ⟨as, ra, _⟩ := Dq.reads I.hok d x v hd rx
  obtain ⟨bs, rb, _⟩ := Dq.reads I.hok e y u he ry
  exact SeqAt.compareEq_shaped ra rb l1 l2 hu ⟨.bl _, H, I, rfl, q⟩
theorem op_neQ (hu : X.A.units + 64 < cLine) : OpR X (compareOp .NotEq) (rEqQ true) := by
  intro pins s σ H x y v u Q I rx ry h
  obtain ⟨d, e, hd, he, l1, l2, q⟩ := h
  obtain ⟨as, ra, _⟩ := Dq.reads I.hok d x v hd rx
  obtain ⟨bs, rb, _⟩ := Dq.reads I.hok e y u he ry
  exact SeqAt.compareNe_shaped ra rb l1 l2 hu ⟨.bl _, H, I, rfl, q⟩
end
/-! ### sorted and least over data -/
abbrev VD : Type := V × PyData
structure DatOk (H : Hp) (bs : List VD) : Prop where
  dq : ∀ b ∈ bs, Dq H b.2 b.1
  alike : AllAlike (bs.map (·.2))
  some : ∀ b ∈ bs, b.2 ≠ .none
  deep : ∀ b ∈ bs, b.2.depth ≤ 50
  size : bs.length ≤ 100000
def rSortedD (K : PySem.W.Frag) : List V → Hp → VK → Prop := fun vs H Q => ∃ (a : Addr) (bs : List VD), vs = [V.ref a] ∧ SqL K H a (bs.map (·.1)) ∧ DatOk H bs ∧ Sortable (bs.map (·.2)) ∧
  ∀ p, H p = none → Q (.ref p) (upd H p (.lst ((bs.mergeSort (dataLe false (·.2))).map (·.1))))
def rMinD (K : PySem.W.Frag) : List V → List V → Hp → VK → Prop := fun vs zs H Q => ∃ (a : Addr) (bs : List VD) (d : V), vs = [V.ref a] ∧ zs = [d] ∧ SqL K H a (bs.map (·.1)) ∧ DatOk H bs ∧
  (bs = [] → Q d H) ∧ ∀ b ∈ bs, (∀ c ∈ bs, dataLt c.2 b.2 = false) → Q b.1 H
theorem reads_all {P : Program} {w : World} {H : Hp} {h : Heap} (ok : HOk P w H h) : ∀ {bs : List VD} {vs : List Value}, (∀ b ∈ bs, Dq H b.2 b.1) → Vals (bs.map (·.1)) vs → ∃ as, ReadsAll h vs (bs.map (·.2)) as
  | [], vs, _, r => by cases r; exact ⟨[], .nil⟩
  | b :: bs, vs, hd, r => by
    cases r with
    | cons r1 r2 =>
      obtain ⟨as, q1, _⟩ := Dq.reads ok _ _ _ (hd b List.mem_cons_self) r1
      obtain ⟨cs, q2⟩ := reads_all ok (bs := bs) (fun c hc => hd c (List.mem_cons_of_mem _ hc)) r2
      exact ⟨_, .cons q1 q2⟩
theorem each_rel {P : Program} {w : World} {H : Hp} {h : Heap} (ok : HOk P w H h) : ∀ {bs : List VD} {vs : List Value}, (∀ b ∈ bs, Dq H b.2 b.1) → Vals (bs.map (·.1)) vs → EachIs (fun v b => RelV b.1 v) vs bs ∧ EachIs (fun v (b : VD) => ∃ as, Reads h v b.2 as) vs bs
  | [], vs, _, r => by cases r; exact ⟨.nil, .nil⟩
  | b :: bs, vs, hd, r => by
    cases r with
    | cons r1 r2 =>
      obtain ⟨as, q1, _⟩ := Dq.reads ok _ _ _ (hd b List.mem_cons_self) r1
      obtain ⟨x, y⟩ := each_rel ok (bs := bs) (fun c hc => hd c (List.mem_cons_of_mem _ hc)) r2
      exact ⟨.cons r1 x, .cons ⟨as, q1⟩ y⟩
theorem vals_each : ∀ {bs : List VD} {vs : List Value}, EachIs (fun v (b : VD) => RelV b.1 v) vs bs → Vals (bs.map (·.1)) vs
  | [], _, h => by cases h; exact .nil
  | b :: bs, _, h => by
    cases h with
    | cons h1 h2 => exact .cons h1 (vals_each h2)
theorem depth_le50 : ∀ {ds : List PyData} {n : Nat}, (∀ d ∈ ds, d.depth ≤ n) → PyData.depthAll ds ≤ n
  | [], n, _ => by simp [PyData.depthAll]
  | d :: ds, n, h => by
    have h1 := h d List.mem_cons_self
    have h2 := depth_le50 (ds := ds) fun x hx => h x (List.mem_cons_of_mem _ hx)
    simp only [PyData.depthAll]
    omega
theorem lt_irr (d : PyData) : dataLt d d = false := (listOrd itemOrd).irrefl _
theorem minD_le : ∀ (xs : List PyData) (y : PyData), dataLt y (minD y xs) = false ∧ ∀ x ∈ xs, dataLt x (minD y xs) = false
  | [], y => ⟨lt_irr y, fun x hx => absurd hx List.not_mem_nil⟩
  | z :: xs, y => by
    have key : ∀ a b c : PyData, dataLt a b = false → dataLt b c = false → dataLt a c = false := fun a b c h1 h2 => by
      cases q : dataLt a c with
      | false => rfl
      | true =>
        rcases (listOrd itemOrd).negTrans (keyToks a) (keyToks b) (keyToks c) q with z | z
        · have z' : dataLt a b = true := z
          rw [h1] at z'
          cases z'
        · have z' : dataLt b c = true := z
          rw [h2] at z'
          cases z'
    have e : minD y (z :: xs) = minD (if dataLt z y = true then z else y) xs := rfl
    rw [e]
    obtain ⟨h1, h2⟩ := minD_le xs (if dataLt z y = true then z else y)
    cases q : dataLt z y with
    | true =>
      rw [q, if_pos rfl] at h1 h2
      have yz : dataLt y z = false := by
        cases q2 : dataLt y z with
        | false => rfl
        | true =>
          have := (listOrd itemOrd).trans (keyToks y) (keyToks z) (keyToks y) q2 q
          rw [(listOrd itemOrd).irrefl] at this
          cases this
      rw [if_pos rfl]
      refine ⟨key _ _ _ yz h1, fun x hx => ?_⟩
      rcases List.mem_cons.mp hx with rfl | hx
      · exact h1
      · exact h2 x hx
    | false =>
      rw [q, if_neg (by decide)] at h1 h2
      rw [if_neg (by decide)]
      refine ⟨h1, fun x hx => ?_⟩
      rcases List.mem_cons.mp hx with rfl | hx
      · exact key _ _ _ q h1
      · exact h2 x hx
theorem minD_mem : ∀ (xs : List PyData) (y : PyData), minD y xs ∈ y :: xs
  | [], y => List.mem_cons_self
  | z :: xs, y => by
    have h := minD_mem xs (if dataLt z y = true then z else y)
    rw [show minD y (z :: xs) = minD (if dataLt z y = true then z else y) xs from rfl]
    rcases List.mem_cons.mp h with e | e
    · rw [e]
      split
      · exact List.mem_cons_of_mem _ List.mem_cons_self
      · exact List.mem_cons_self
    · exact List.mem_cons_of_mem _ (List.mem_cons_of_mem _ e)
section
variable {X : Cx}
theorem cr_sortedD (hu : X.A.units + 64 < cLine) : CallR X (.builtin "sorted") (rSortedD X.K) := by
  intro pins s σ H vs us Q I r h
  obtain ⟨a, bs, rfl, hs, D, hk, q⟩ := h
  obtain ⟨its, rv, hl, _⟩ := I.list hs
  rw [Vals.ref1 r]
  obtain ⟨e1, e2⟩ := each_rel I.hok D.dq rv
  have hz := D.size
  refine sorted_data (enc := fun b : VD => b.2) hl.isList e1 e2 D.alike hk (by rw [sizeLine_eq]; omega) (fun b hb => by have := D.deep b hb; omega) fun out h1 h2 => ?_
  obtain ⟨ep, he'⟩ := PyProof.Rows.sortedAll_at s.heap its (List.toArray out)
  have rv2 := vals_each h2
  have hlen : ((bs.mergeSort (dataLe false (·.2))).map (·.1)).length ≤ sizeLine := by rw [rv2.length, h1, sizeLine_eq]; omega
  exact ⟨.ref _, upd H (s.heap.objs.size + 1) (.lst ((bs.mergeSort (dataLe false (·.2))).map (·.1))), I.laid (t' := s.toks) (fun _ _ => PyProof.Rows.sortedAll_old) (Nat.le_succ _) ⟨hlen, out, ep, rv2, he'⟩, rfl, q _ (I.hok.fresh (Nat.le_succ _))⟩
theorem cr_minD (hc : X.calm = true) (hu : X.A.units + 64 < cLine) : CallRK X (.builtin "min") [Str.ofString "default"] (rMinD X.K) := by
  intro pins s σ H vs zs us ws Q I r rz h
  obtain ⟨a, bs, d, rfl, rfl, hs, D, q0, q⟩ := h
  obtain ⟨its, rv, hl, _⟩ := I.list hs
  rw [Vals.ref1 r]
  obtain ⟨w1, rfl, e1⟩ := vals1 rz
  obtain ⟨as, hr⟩ := reads_all I.hok D.dq rv
  have hdp := depth_le50 (ds := bs.map (·.2)) (n := 50) fun x hx => by
    obtain ⟨b, hb, rfl⟩ := List.mem_map.mp hx
    exact D.deep b hb
  refine min_list_default (I.ok.hd hc) hl.isList hr ⟨D.alike, fun x hx => ?_⟩ (by omega) (fun h0 h' tk hk => ?_) (fun y ys i v h' tk cs h0 hv hrd hk => ?_)
  · obtain ⟨b, hb, rfl⟩ := List.mem_map.mp hx
    exact D.some b hb
  · exact ⟨d, H, I.kept hk, e1, q0 (List.map_eq_nil_iff.mp h0)⟩
  · have hv' : its[i]? = some v := by simpa using hv
    have hlen := rv.length
    have hi : i < (bs.map (·.1)).length := by rw [hlen]; exact (List.getElem?_eq_some_iff.mp hv').1
    rw [List.length_map] at hi
    have hb : bs[i] ∈ bs := List.getElem_mem hi
    have hrel : RelV bs[i].1 v := by
      obtain ⟨u, hu1, hu2⟩ := rv.get (i := i) (x := bs[i].1) (by rw [List.getElem?_map, List.getElem?_eq_getElem hi]; rfl)
      rw [hv'] at hu1
      cases hu1
      exact hu2
    obtain ⟨cs2, hr2, _⟩ := Dq.reads (I.kept (t' := tk) hk).hok _ _ _ (D.dq _ hb) hrel
    have mem : ∀ z ∈ y :: ys, ∃ b ∈ bs, b.2 = z := fun z hz => by
      rw [← h0] at hz
      obtain ⟨b, hb, e⟩ := List.mem_map.mp hz
      exact ⟨b, hb, e⟩
    have mm : minD y ys ∈ y :: ys := minD_mem ys y
    obtain ⟨c, hc1, hc2⟩ := mem _ mm
    have e : bs[i].2 = minD y ys := alike_unique _ _ _ _ _ (by rw [← hc2]; exact D.alike _ (List.mem_map.mpr ⟨_, hb, rfl⟩) _ (List.mem_map.mpr ⟨_, hc1, rfl⟩)) hr2 hrd
    refine ⟨bs[i].1, H, I.kept hk, hrel, q _ hb fun c hc => ?_⟩
    rw [e]
    have hm : c.2 ∈ y :: ys := by rw [← h0]; exact List.mem_map.mpr ⟨c, hc, rfl⟩
    obtain ⟨m1, m2⟩ := minD_le ys y
    rcases List.mem_cons.mp hm with z | z
    · rw [z]; exact m1
    · exact m2 _ z
end
end Fh
namespace Fh
open PySem PySem.Spec PyProof.Rows L2 He
/-! ### what a book tells, as a word -/
/-- what is asked of the class Book -/
structure BookC (K : PySem.W.Frag) (C : Addr) : Prop where
  cl : Cls K C
  n1 : NoAttr K C "_kinds"
  n2 : NoAttr K C "_handles"
  n3 : NoAttr K C "_rules"
  n4 : NoAttr K C "_start"
  n5 : NoAttr K C "_amount"
def GetOf (P : Program) (w : World) (K : PySem.W.Frag) (mg : Str → Option Value) (base : Heap) (C : Addr) (f : Str) (sp : Sp) : Prop := ∃ p g fd, PropOf K C f p g ∧ FnOk P w K mg base CX0 1 g fd ["self"] sp ∧ Binds K fd ["self"] []
structure BkC (P : Program) (w : World) (K : PySem.W.Frag) (mg : Str → Option Value) (base : Heap) (C : Addr) : Prop where
  bk : BookC K C
  kinds : GetOf P w K mg base C "kinds" (spBKinds C)
  handles : GetOf P w K mg base C "handles" (spBHandles C)
  rules : GetOf P w K mg base C "rules" (spBRules C)
  start : GetOf P w K mg base C "start" (spBStart C)
  amount : GetOf P w K mg base C "amount" (spBAmount C)
theorem book_ins {C : Addr} {H : Hp} {p : Addr} {ks hs : List Str} {rs : List RuleD} {st : Str} {c : Int} (h : BookAt C H p ks hs rs st c) : ∃ dx fs, H p = some (.ins C dx fs) := by
  obtain ⟨dx, dk, dh, dr, kvs, us, hp, _⟩ := h
  exact ⟨_, _, hp⟩
theorem BookAt.up {C : Addr} {H H' : Hp} {p : Addr} {ks hs : List Str} {rs : List RuleD} {st : Str} {c : Int} (s : Same H H') (h : BookAt C H p ks hs rs st c) : BookAt C H' p ks hs rs st c := by
  obtain ⟨dx, dk, dh, dr, kvs, us, hp, hk, hh, hr3, k1, k2, hU⟩ := h
  exact ⟨dx, dk, dh, dr, kvs, us, s _ _ hp, s _ _ hk, s _ _ hh, s _ _ hr3, k1, k2, hU.up s⟩
theorem BookAt.go {C t : Addr} {H H' : Hp} {p : Addr} {ks hs : List Str} {rs : List RuleD} {st : Str} {c : Int} (g : Go t H H') (h : BookAt C H p ks hs rs st c) : BookAt C H' p ks hs rs st c := by
  obtain ⟨dx, dk, dh, dr, kvs, us, hp, hk, hh, hr3, k1, k2, hU⟩ := h
  have kd : ∀ (a : Addr) (kvs : List (Key × V)), (∀ p ∈ kvs, ∀ i, p.2 ≠ V.int i) → H a = some (.dK kvs) → a ≠ t := fun a kvs hn ha e => by
    obtain ⟨d, m, q, _⟩ := g.t0
    rw [← e, ha] at q
    injection (Option.some.inj q) with q
    exact hn (kDig, V.int d) (by rw [q]; exact List.mem_cons_self) d rfl
  have km : ∀ ns : List Str, ∀ p ∈ marks ns, ∀ i, p.2 ≠ V.int i := fun ns p hp i e => by
    obtain ⟨x, _, rfl⟩ := List.mem_map.mp hp
    cases e
  have kr : ∀ p ∈ kvs, ∀ i, p.2 ≠ V.int i := fun p hp i e => by
    have hm : p.2 ∈ us := by rw [← k2]; exact List.mem_map_of_mem hp
    obtain ⟨j, hj⟩ := List.mem_iff_getElem?.mp hm
    obtain ⟨r, _, a, b, ea, _⟩ := hU.get hj
    rw [e] at ea
    cases ea
  exact ⟨dx, dk, dh, dr, kvs, us, g.keep _ _ (fun e => by
    obtain ⟨d, m, q, _⟩ := g.t0
    rw [← e, hp] at q
    cases q) hp, g.keep _ _ (kd _ _ (km ks) hk) hk, g.keep _ _ (kd _ _ (km hs) hh) hh, g.keep _ _ (kd _ _ kr hr3) hr3, k1, k2, hU.go g⟩
def tKinds (C : Addr) (ta : TE) : TE := fun σ H Q => ta σ H fun x H1 => ∃ p ks hs rs st c, x = .ref p ∧ BookAt C H1 p ks hs rs st c ∧ ∀ q, H1 q = none → Q (.ref q) (upd H1 q (.lst (ks.map V.str)))
def tHandles (C : Addr) (ta : TE) : TE := fun σ H Q => ta σ H fun x H1 => ∃ p ks hs rs st c, x = .ref p ∧ BookAt C H1 p ks hs rs st c ∧ ∀ q, H1 q = none → Q (.ref q) (upd H1 q (.lst (hs.map V.str)))
def tRules (C : Addr) (ta : TE) : TE := fun σ H Q => ta σ H fun x H1 => ∃ p ks hs rs st c, x = .ref p ∧ BookAt C H1 p ks hs rs st c ∧ ∀ q us, Rules H1 us rs → H1 q = none → Q (.ref q) (upd H1 q (.lst us))
def tStart (C : Addr) (ta : TE) : TE := fun σ H Q => ta σ H fun x H1 => ∃ p ks hs rs st c, x = .ref p ∧ BookAt C H1 p ks hs rs st c ∧ Q (.str st) H1
def tAmount (C : Addr) (ta : TE) : TE := fun σ H Q => ta σ H fun x H1 => ∃ p ks hs rs st c, x = .ref p ∧ BookAt C H1 p ks hs rs st c ∧ Q (.int c) H1
section
variable {X : Cx} {C : Addr} {e : Expr} {pos : Pos} {ta : TE}
theorem var_mono {i : Nat} : ∀ σ H Q Q', (∀ x H', Q x H' → Q' x H') → tVar i σ H Q → tVar i σ H Q' := fun _ _ _ _ m ⟨x, e, q⟩ => ⟨x, e, m _ _ q⟩
theorem pe_kinds (B : BkC X.prog X.w X.K X.mg X.base C) (hr : Room 2 X.A) {i : Nat} (he : PE X e (tVar i)) (hab : attributeBase e "kinds" X.env (eval e X.env) = eval e X.env := by rfl) : PE X (.Attribute e "kinds" pos) (tKinds C (tVar i)) := by
  obtain ⟨p, g, fd, hp, F, hb⟩ := B.kinds
  refine pe_imp (pe_prop he B.bk.cl hp F hr hb .nil pass0 hab) fun σ H Q q => var_mono _ _ _ _ (fun x H1 => ?_) q
  rintro ⟨p, ks, hs, rs, st, c, rfl, hB, q⟩
  obtain ⟨dx, fs, hi⟩ := book_ins hB
  exact ⟨p, dx, fs, rfl, hi, p, ks, hs, rs, st, c, rfl, hB, q⟩
theorem pe_handles (B : BkC X.prog X.w X.K X.mg X.base C) (hr : Room 2 X.A) {i : Nat} (he : PE X e (tVar i)) (hab : attributeBase e "handles" X.env (eval e X.env) = eval e X.env := by rfl) : PE X (.Attribute e "handles" pos) (tHandles C (tVar i)) := by
  obtain ⟨p, g, fd, hp, F, hb⟩ := B.handles
  refine pe_imp (pe_prop he B.bk.cl hp F hr hb .nil pass0 hab) fun σ H Q q => var_mono _ _ _ _ (fun x H1 => ?_) q
  rintro ⟨p, ks, hs, rs, st, c, rfl, hB, q⟩
  obtain ⟨dx, fs, hi⟩ := book_ins hB
  exact ⟨p, dx, fs, rfl, hi, p, ks, hs, rs, st, c, rfl, hB, q⟩
theorem pe_rules (B : BkC X.prog X.w X.K X.mg X.base C) (hr : Room 2 X.A) {i : Nat} (he : PE X e (tVar i)) (hab : attributeBase e "rules" X.env (eval e X.env) = eval e X.env := by rfl) : PE X (.Attribute e "rules" pos) (tRules C (tVar i)) := by
  obtain ⟨p, g, fd, hp, F, hb⟩ := B.rules
  refine pe_imp (pe_prop he B.bk.cl hp F hr hb .nil pass0 hab) fun σ H Q q => var_mono _ _ _ _ (fun x H1 => ?_) q
  rintro ⟨p, ks, hs, rs, st, c, rfl, hB, q⟩
  obtain ⟨dx, fs, hi⟩ := book_ins hB
  exact ⟨p, dx, fs, rfl, hi, p, ks, hs, rs, st, c, rfl, hB, q⟩
theorem pe_start (B : BkC X.prog X.w X.K X.mg X.base C) (hr : Room 2 X.A) {i : Nat} (he : PE X e (tVar i)) (hab : attributeBase e "start" X.env (eval e X.env) = eval e X.env := by rfl) : PE X (.Attribute e "start" pos) (tStart C (tVar i)) := by
  obtain ⟨p, g, fd, hp, F, hb⟩ := B.start
  refine pe_imp (pe_prop he B.bk.cl hp F hr hb .nil pass0 hab) fun σ H Q q => var_mono _ _ _ _ (fun x H1 => ?_) q
  rintro ⟨p, ks, hs, rs, st, c, rfl, hB, q⟩
  obtain ⟨dx, fs, hi⟩ := book_ins hB
  exact ⟨p, dx, fs, rfl, hi, p, ks, hs, rs, st, c, rfl, hB, q⟩
theorem pe_amount (B : BkC X.prog X.w X.K X.mg X.base C) (hr : Room 2 X.A) {i : Nat} (he : PE X e (tVar i)) (hab : attributeBase e "amount" X.env (eval e X.env) = eval e X.env := by rfl) : PE X (.Attribute e "amount" pos) (tAmount C (tVar i)) := by
  obtain ⟨p, g, fd, hp, F, hb⟩ := B.amount
  refine pe_imp (pe_prop he B.bk.cl hp F hr hb .nil pass0 hab) fun σ H Q q => var_mono _ _ _ _ (fun x H1 => ?_) q
  rintro ⟨p, ks, hs, rs, st, c, rfl, hB, q⟩
  obtain ⟨dx, fs, hi⟩ := book_ins hB
  exact ⟨p, dx, fs, rfl, hi, p, ks, hs, rs, st, c, rfl, hB, q⟩
end
/-! ### the def's promises -/
/-- a new sorted list of just these strings -/
def NewSorted (H H' : Hp) (v : V) (F : List Str) : Prop := ∃ a ys, v = .ref a ∧ ys.Perm F ∧ sortedS ys = true ∧ Same H H' ∧ H a = none ∧ H' a = some (.lst (ys.map V.str))
def spAliveB (C : Addr) : Sp := fun vs H Q _ => ∃ p ks hs rs st c, vs = [.ref p] ∧ BookAt C H p ks hs rs st c ∧ BookOk ks hs rs st ∧ ks.length ≤ 40 ∧ ∀ v H', NewSorted H H' v (aliveFix rs ks.length hs) → Q v H'
end Fh
namespace Fh
open PySem PySem.Spec PyProof.Rows L2
/-! ### dicts of data against each other -/
def lookD (ks : List (Key × PyData)) (k : Key) : Option PyData := match ks with
  | [] => none
  | p :: r => if p.1 = k then some p.2 else lookD r k
def eqvK (ks ls : List (Key × PyData)) : Bool := ks.length == ls.length && ks.all fun p => match lookD ls p.1 with
  | some d => PyData.eqv p.2 d
  | none => false
/-- the dict at a holds these data -/
structure KDat (H : Hp) (ps : List (Key × V)) (ks : List (Key × PyData)) : Prop where
  keys : ps.map (·.1) = ks.map (·.1)
  vals : DqAll H (ks.map (·.2)) (ps.map (·.2))
def rEqKD : R2 := fun x y H Q => ∃ a b ps qs ks ls, x = .ref a ∧ y = .ref b ∧ H a = some (.dK ps) ∧ H b = some (.dK qs) ∧ KDat H ps ks ∧ KDat H qs ls ∧ (ks.map (·.1)).Nodup ∧ (∀ p ∈ ks, p.2.canLay0 = true) ∧ (∀ p ∈ ls, p.2.canLay0 = true) ∧ (∀ p ∈ ks, p.2.depth ≤ 20) ∧ Q (.bl (eqvK ks ls)) H
theorem kdat_at {H : Hp} {P : Program} {w : World} {h : Heap} (ok : HOk P w H h) : ∀ {ps : List (Key × V)} {ks : List (Key × PyData)} {vs : List (Key × Value)} {k : Key} {v : Value}, KDat H ps ks → KV ps vs → valueAt vs k = some v → ∃ d as, lookD ks k = some d ∧ Reads h v d as
  | [], ks, vs, k, v, hk, hv, e => by
    cases hv
    cases e
  | (k0, v0) :: ps, ks, vs, k, v, hk, hv, e => by
    obtain ⟨h1, h2⟩ := hk
    cases ks with
    | nil => cases h1
    | cons q ks =>
      rw [List.map_cons, List.map_cons, List.cons.injEq] at h1
      rw [List.map_cons, List.map_cons] at h2
      simp only [DqAll] at h2
      obtain ⟨v1, r1, e1, d1, d2⟩ := h2
      rw [List.cons.injEq] at e1
      obtain ⟨rfl, rfl⟩ := e1
      cases hv with
      | cons x y =>
        rename_i u us
        have hx : k0 = u.1 := x.1
        have hx2 : RelV v0 u.2 := x.2
        unfold lookD
        obtain ⟨uk, uv⟩ := u
        have hx : k0 = uk := hx
        subst hx
        have hq : k0 = q.1 := h1.1
        by_cases hkk : k0 = k
        · have ev : valueAt ((k0, uv) :: us) k = some uv := by
            unfold valueAt
            simp [hkk]
          rw [ev] at e
          cases e
          obtain ⟨as, ra, _⟩ := Dq.reads ok _ _ _ d1 hx2
          exact ⟨_, as, by rw [if_pos (hq ▸ hkk)], ra⟩
        · have ev : valueAt ((k0, uv) :: us) k = valueAt us k := by
            unfold valueAt
            simp [hkk]
          rw [ev] at e
          rw [if_neg (hq ▸ hkk)]
          exact kdat_at ok ⟨h1.2, d2⟩ y e
theorem kdat_none {H : Hp} : ∀ {ps : List (Key × V)} {ks : List (Key × PyData)} {vs : List (Key × Value)} {k : Key}, KDat H ps ks → KV ps vs → valueAt vs k = none → lookD ks k = none
  | [], ks, vs, k, hk, hv, e => by
    obtain ⟨h1, h2⟩ := hk
    cases ks with
    | nil => rfl
    | cons q ks => cases h1
  | (k0, v0) :: ps, ks, vs, k, hk, hv, e => by
    obtain ⟨h1, h2⟩ := hk
    cases ks with
    | nil => cases h1
    | cons q ks =>
      rw [List.map_cons, List.map_cons, List.cons.injEq] at h1
      rw [List.map_cons, List.map_cons] at h2
      simp only [DqAll] at h2
      obtain ⟨v1, r1, e1, d1, d2⟩ := h2
      rw [List.cons.injEq] at e1
      obtain ⟨rfl, rfl⟩ := e1
      cases hv with
      | cons x y =>
        rename_i u us
        obtain ⟨uk, uv⟩ := u
        have hx : k0 = uk := x.1
        subst hx
        have hq : k0 = q.1 := h1.1
        unfold lookD
        by_cases hkk : k0 = k
        · have ev : valueAt ((k0, uv) :: us) k = some uv := by
            unfold valueAt
            simp [hkk]
          rw [ev] at e
          cases e
        · have ev : valueAt ((k0, uv) :: us) k = valueAt us k := by
            unfold valueAt
            simp [hkk]
          rw [ev] at e
          rw [if_neg (hq ▸ hkk)]
          exact kdat_none ⟨h1.2, d2⟩ y e
theorem lookD_mem : ∀ {ks : List (Key × PyData)} {k : Key} {d : PyData}, lookD ks k = some d → (k, d) ∈ ks
  | [], k, d, h => by cases h
  | p :: r, k, d, h => by
    unfold lookD at h
    by_cases e : p.1 = k
    · rw [if_pos e] at h
      cases h
      rw [← e]
      exact List.mem_cons_self
    · rw [if_neg e] at h
      exact List.mem_cons_of_mem _ (lookD_mem h)
theorem lookD_self : ∀ {ks : List (Key × PyData)} {k : Key} {d : PyData}, (ks.map (·.1)).Nodup → (k, d) ∈ ks → lookD ks k = some d
  | [], k, d, _, h => by cases h
  | p :: r, k, d, hn, h => by
    rw [List.map_cons, List.nodup_cons] at hn
    unfold lookD
    rcases List.mem_cons.mp h with e | h
    · rw [← e, if_pos rfl]
    · rw [if_neg fun z => hn.1 (by rw [z]; exact List.mem_map.mpr ⟨_, h, rfl⟩)]
      exact lookD_self hn.2 h
/-- the entries of the first dict, told at the keys -/
theorem kv_all {H : Hp} {eb : Key → Bool} {g : Key → Bool} : ∀ {ps : List (Key × V)} {ks : List (Key × PyData)} {vs : List (Key × Value)}, KDat H ps ks → KV ps vs → vs.all (fun p => g p.1 && eb p.1) = ks.all (fun p => g p.1 && eb p.1)
  | [], ks, vs, hk, hv => by
    obtain ⟨h1, _⟩ := hk
    cases hv
    cases ks with
    | nil => rfl
    | cons q ks => cases h1
  | (k0, v0) :: ps, ks, vs, hk, hv => by
    obtain ⟨h1, h2⟩ := hk
    cases ks with
    | nil => cases h1
    | cons q ks =>
      rw [List.map_cons, List.map_cons, List.cons.injEq] at h1
      rw [List.map_cons, List.map_cons] at h2
      simp only [DqAll] at h2
      obtain ⟨v1, r1, e1, d1, d2⟩ := h2
      rw [List.cons.injEq] at e1
      obtain ⟨rfl, rfl⟩ := e1
      cases hv with
      | cons x y =>
        rename_i u us
        obtain ⟨uk, uv⟩ := u
        have hx : k0 = uk := x.1
        subst hx
        have hq : k0 = q.1 := h1.1
        rw [List.all_cons, List.all_cons, kv_all ⟨h1.2, d2⟩ y, hq]
def eqAtK (ks ls : List (Key × PyData)) (k : Key) : Bool := match lookD ks k, lookD ls k with
  | some d, some e => PyData.eqv d e
  | _, _ => true
theorem all_cong {α : Type} {f g : α → Bool} : ∀ {l : List α}, (∀ x ∈ l, f x = g x) → l.all f = l.all g
  | [], _ => rfl
  | x :: l, h => by rw [List.all_cons, List.all_cons, h x List.mem_cons_self, all_cong fun y hy => h y (List.mem_cons_of_mem _ hy)]
theorem KDat.len {H : Hp} {ps : List (Key × V)} {ks : List (Key × PyData)} (h : KDat H ps ks) : ps.length = ks.length := by
  have := congrArg List.length h.keys
  simpa using this
theorem kv_keys : ∀ {ps : List (Key × V)} {vs : List (Key × Value)}, KV ps vs → vs.map (·.1) = ps.map (·.1)
  | [], _, h => by cases h; rfl
  | p :: ps, _, h => by
    cases h with
    | cons x y => rw [List.map_cons, List.map_cons, kv_keys y, x.1]
theorem valueAt_self : ∀ {vs : List (Key × Value)} {k : Key} {v : Value}, (vs.map (·.1)).Nodup → (k, v) ∈ vs → valueAt vs k = some v
  | [], k, v, _, h => by cases h
  | p :: vs, k, v, hn, h => by
    rw [List.map_cons, List.nodup_cons] at hn
    unfold valueAt
    rcases List.mem_cons.mp h with e | h
    · rw [← e]; simp
    · have hne : ¬ p.1 = k := fun z => hn.1 (by rw [z]; exact List.mem_map.mpr ⟨_, h, rfl⟩)
      rw [List.find?_cons]
      simp only [hne, decide_false]
      exact valueAt_self hn.2 h
theorem op_eqKD {X : Cx} (hu : X.A.units + 64 < cLine) : OpR X (compareOp .Eq) rEqKD := by
  intro pins s σ H x y v u Q I rx ry h
  obtain ⟨a, b, ps, qs, ks, ls, rfl, rfl, ea, eb, hk, hl, hn, ck, cl, dk, q⟩ := h
  obtain rfl : v = Value.ref a := rx
  obtain rfl : u = Value.ref b := ry
  obtain ⟨_, ya, va, ra, da⟩ := (show ObjOk X.prog X.w H s.heap a (.dK ps) from I.hok a _ ea)
  obtain ⟨_, yb, vb, rb, db⟩ := (show ObjOk X.prog X.w H s.heap b (.dK qs) from I.hok b _ eb)
  refine PySem.W.eq_dictsT (knd := mixKind X.prog X.w) (n := 30) (e := eqAtK ks ls) ya yb da db ?_ (by omega) ⟨.bl _, H, I, rfl, ?_⟩
  · intro k v1 v2 hm hv
    have hm' : valueAt va k = some v1 := valueAt_self (by rw [kv_keys ra, hk.keys]; exact hn) hm
    obtain ⟨d, as, l1, r1⟩ := kdat_at I.hok hk ra hm'
    obtain ⟨e, bs, l2, r2⟩ := kdat_at I.hok hl rb hv
    refine .leaf fun A hA => ?_
    have hE : eqAtK ks ls k = PyData.eqv d e := by unfold eqAtK; rw [l1, l2]
    rw [hE]
    have hdd := dk _ (lookD_mem l1)
    exact SeqAt.eqAt_reads d e A s v1 v2 as bs r1 r2 (ck _ (lookD_mem l1)) (cl _ (lookD_mem l2)) (by
      have : min d.depth e.depth ≤ d.depth := Nat.min_le_left _ _
      have hdd : d.depth ≤ 20 := hdd
      omega)
  · have e1 : va.length = ks.length := by rw [← ra.length, hk.len]
    have e2 : vb.length = ls.length := by rw [← rb.length, hl.len]
    have e3 := kv_all (g := fun k => (valueAt vb k).isSome) (eb := eqAtK ks ls) hk ra
    rw [e1, e2, e3]
    have e4 : (ks.all fun p => (valueAt vb p.1).isSome && eqAtK ks ls p.1) = ks.all fun p => match lookD ls p.1 with
        | some d => PyData.eqv p.2 d
        | none => false := all_cong fun p hp => by
      have l1 := lookD_self hn (k := p.1) (d := p.2) hp
      cases hv : valueAt vb p.1 with
      | none => rw [kdat_none hl rb hv]; rfl
      | some z =>
        obtain ⟨e, bs, l2, _⟩ := kdat_at I.hok hl rb hv
        unfold eqAtK
        rw [l1, l2]
        rfl
    rw [e4]
    exact q
end Fh
namespace Fh
open PySem PySem.Spec PyProof.Rows L2
/-! ### x == y by the own == of x, whatever it answers -/
def rEqO (K : PySem.W.Frag) (C : Addr) (sp : Sp) (E : XK) : R2 := fun x y H Q => ∃ a dx fs tb, x = .ref a ∧ H a = some (.ins C dx fs) ∧ TyX K H y tb ∧ PySem.W.notFirst K C tb = true ∧ sp [.ref a, y] H (fun v H' => ∃ b, v = .bl b ∧ Q (.bl b) H') E
theorem op_eqOwn {X : Cx} {CX : CXT} {n : Nat} {C f : Addr} {fd : FuncData} {ps : List Str} {sp : Sp} {E : XK} (F : FnOk X.prog X.w X.K X.mg X.base CX n f fd ps sp) (hr : Room n X.A)
    (hs : PySem.W.findIn X.K (.ref C) "__eq__" = some (some (.ref f))) (hf : PySem.W.isFn X.K (.ref f) = true) (hb : Binds X.K fd ps []) (hx : Passes CX X E) : OpR X (compareOp .Eq) (rEqO X.K C sp E) := by
  intro pins s σ H x y v u Q I rx ry h
  obtain ⟨a, dx, fs, tb, rfl, ha, ty, hn, hsp⟩ := h
  show wpAny (model X.prog X.w) X.A (richCompare .Eq v u) (EP X pins σ Q) X.xe s
  obtain rfl : v = Value.ref a := rx
  obtain ⟨mA, J, _⟩ := ins_get I.hok ha
  obtain ⟨od, J, _⟩ := J.look
  obtain ⟨Pk, Z, pk, _⟩ := kit_of I ry ty
  obtain ⟨m, hF⟩ := I.fr
  refine PySem.W.cmp_K (op := .Eq) (tb := tb) hr.units0 hF I.ok.mod.kin J (Z.ty _ _ I.kIn pk) hn hs hf ?_
  have hl := F.len _ _ _ _ hsp
  have r2 : Vals [V.ref a, y] [Value.ref a, u] := .cons rfl (.cons ry .nil)
  refine wpAny_call (codeAny_mono (F.run X.A X.stack s H ⟨[.ref a, u], []⟩ [.ref a, u] [.ref a, y] _ E hr I.env0 (by
    have := hb s [.ref a, u] I.kIn (by simpa using hl)
    simpa using this) r2 hsp) fun r s' hq => ?_)
  cases r with
  | error e => exact hx pins σ H s e s' I hq
  | ok fl =>
    cases fl with
    | ret w =>
      obtain ⟨z, H', I', rz, b, ez, q⟩ := I.after hq
      subst ez
      cases rz
      exact ⟨.bl b, H', I', rfl, q⟩
    | next => exact False.elim hq
    | brk => exact False.elim hq
    | cont => exact False.elim hq
end Fh
namespace Fh
open PySem PySem.Spec PyProof.Rows L2 He
/-! ### a comprehension over a tuple or a list of strings -/
section
variable {K : PySem.W.Frag} {a : Addr} {os : List Str} {i : Nat} {te : TE} {σ : Sto} {H1 : Hp} {D : Addr} {Qd : Hp → Prop}
theorem map_at {g : Str → V} {j : Nat} {x y : V} (hx : (os.map V.str)[j]? = some x) (hy : (os.map g)[j]? = some y) : ∃ z, z ∈ os ∧ x = .str z ∧ y = g z := by
  rw [List.getElem?_map] at hx hy
  cases e : os[j]? with
  | none => rw [e] at hx; cases hx
  | some z =>
    rw [e] at hx hy
    exact ⟨z, List.mem_of_getElem? e, (Option.some.inj hx).symm, (Option.some.inj hy).symm⟩
theorem lt_strs (g : Str → V) (hz : os.length ≤ 100000) (hS : SqT K H1 a (os.map V.str)) (hD : H1 D = none)
    (hel : ∀ z H (Q : VK), z ∈ os → Same H1 H → (∀ H', Same H H' → Q (g z) H') → te ((wipe σ [i]).set i (some (.str z))) H Q)
    (hd : ∀ H, Same H1 H → H D = some (.lst (os.map g)) → Qd H) : LtGoal K a i tYes te σ H1 D Qd := by
  refine lt_flat (os.map g) (by rw [List.length_map, List.length_map]) (by rw [List.length_map]; exact hz) hS hD (fun j x y H Q hx hy s q => ?_) hd
  obtain ⟨z, hm, rfl, rfl⟩ := map_at hx hy
  exact hel z H Q hm s q
theorem lc_strs (g : Str → V) (hz : os.length ≤ 100000) (hS : SqL K H1 a (os.map V.str)) (hD : H1 D = none)
    (hel : ∀ z H (Q : VK), z ∈ os → Same H1 H → (∀ H', Same H H' → Q (g z) H') → te ((wipe σ [i]).set i (some (.str z))) H Q)
    (hd : ∀ H, Same H1 H → H D = some (.lst (os.map g)) → Qd H) : LcGoal K a i te σ H1 D Qd := by
  refine lc_flat (os.map g) (by rw [List.length_map, List.length_map]) (by rw [List.length_map]; exact hz) hS hD (fun j x y H Q hx hy s q => ?_) hd
  obtain ⟨z, hm, rfl, rfl⟩ := map_at hx hy
  exact hel z H Q hm s q
end
theorem any_flags {α : Type} (f : α → Bool) : ∀ ds : List α, (ds.map f).any id = ds.any f
  | [] => rfl
  | d :: ds => by rw [List.map_cons, List.any_cons, List.any_cons, any_flags f ds]; rfl
theorem map_bl {α : Type} (f : α → Bool) (ds : List α) : (ds.map fun x => V.bl (f x)) = (ds.map f).map V.bl := by
  rw [List.map_map]
  rfl
theorem marks_len (ns : List Str) : (marks ns).length = ns.length := List.length_map _
theorem marks_get (F : List Str) (x : Str) : (valV (marks F) (Sum.inr x : Key)).isSome = F.contains x := key_some (marks_keys F) x
/-- d[k] = True -/
theorem marks_any (F : List Str) (x : Str) : ((marks F).any fun kv => decide (kv.1 = (Sum.inr x : Key))) = F.contains x := by
  rw [← marks_get F x]
  unfold valV
  rw [Option.isSome_map, Bool.eq_iff_iff, List.find?_isSome, List.any_eq_true]
theorem marks_set (F : List Str) (x : Str) : putK (marks F) (Sum.inr x : Key) (.bl true) = marks (if F.contains x = true then F else F ++ [x]) := by
  unfold putK
  rw [marks_any]
  split
  · unfold marks
    rw [List.map_map]
    refine List.map_congr_left fun y _ => ?_
    show (if (Sum.inr y : Key) = Sum.inr x then (Sum.inr y, V.bl true) else (Sum.inr y, V.bl true)) = _
    split <;> rfl
  · unfold marks
    rw [List.map_append]
    rfl
theorem Tups.dict {H : Hp} {D : Addr} {kvs : List (Key × V)} {o : HO} (h : H D = some (.dK kvs)) : Tups H (upd H D o) := fun b xs e => by
  rw [upd_ne (fun z => by rw [z, h] at e; cases e)]
  exact e
theorem ne_dict {H : Hp} {D r : Addr} {kvs : List (Key × V)} {xs : List V} (h : H D = some (.dK kvs)) (hr : H r = some (.lst xs)) : r ≠ D := fun z => by
  rw [z, h] at hr
  cases hr
def dictLen (H : Hp) (a : Addr) : Nat := match H a with
  | some (.dK kvs) => kvs.length
  | _ => 0
theorem dictLen_eq {H : Hp} {a : Addr} {kvs : List (Key × V)} (h : H a = some (.dK kvs)) : dictLen H a = kvs.length := by
  unfold dictLen
  rw [h]
def flagAt (σ : Sto) (i : Nat) : Nat := match σ[i]? with
  | some (some (.bl true)) => 1
  | _ => 0
end Fh
namespace Fh
open PySem PySem.Spec PySem.W PyProof.Rows L2 He
section
variable {X : Cx} {K : PySem.W.Frag}
theorem cr_allK (hc : X.calm = true) (hK : X.K = K := by rfl) : CallR X (.builtin "all") (rAll K) := by
  subst hK
  exact cr_all hc
theorem cr_anyK (hc : X.calm = true) (hK : X.K = K := by rfl) : CallR X (.builtin "any") (rAny K) := by
  subst hK
  exact cr_any hc
/-! ### x not in a dict or a list -/
def rNotInN (K : PySem.W.Frag) : R2 := fun x y H Q => (∃ a o, y = .ref a ∧ DGet H a x o ∧ Q (.bl (!o.isSome)) H) ∨ rIn K true x y H Q
theorem op_notInN (hu : X.A.units + 1 < cLine) (hK : X.K = K := by rfl) : OpR X (compareOp .NotIn) (rNotInN K) := by
  subst hK
  intro pins s σ H x y v u Q I rx ry h
  rcases h with ⟨a, o, rfl, g, q⟩ | h
  · obtain rfl : u = Value.ref a := ry
    exact d_notIn hu I g rx fun s3 I3 => ⟨.bl (!o.isSome), H, I3, rfl, q⟩
  · exact op_notIn_seq pins s σ H x y v u Q I rx ry h
end
/-! ### steps to nothing: a number and a rule for each kind -/
abbrev StepD : Type := Nat × RuleD
def nosOf (ss : List StepD) : NumsW := ss.map fun s => (s.2.kind, s.1)
def StepAt (H : Hp) (v : V) (s : StepD) : Prop := ∃ a b, v = .ref a ∧ H a = some (.tup [.int (s.1 : Nat), .str s.2.name, .ref b]) ∧ H b = some (.tup (s.2.out.map V.str))
structure StepsAt (H : Hp) (kvs : List (Key × V)) (ss : List StepD) : Prop where
  keys : kvs.map (·.1) = (ss.map fun s => s.2.kind).map Sum.inr
  vals : All2 (StepAt H) (kvs.map (·.2)) ss
theorem StepAt.ups {H H' : Hp} {v : V} {r : StepD} (s : Tups H H') (h : StepAt H v r) : StepAt H' v r := let ⟨a, b, e, h1, h2⟩ := h; ⟨a, b, e, s _ _ h1, s _ _ h2⟩
theorem StepsAt.ups {H H' : Hp} {kvs : List (Key × V)} {ss : List StepD} (s : Tups H H') (h : StepsAt H kvs ss) : StepsAt H' kvs ss := ⟨h.keys, h.vals.imp fun _ _ q => q.ups s⟩
theorem nosOf_keys (ss : List StepD) : (nosOf ss).map (·.1) = ss.map fun s => s.2.kind := by
  unfold nosOf
  rw [List.map_map]
  rfl
theorem StepsAt.has {H : Hp} {kvs : List (Key × V)} {ss : List StepD} (h : StepsAt H kvs ss) (x : Str) : (valV kvs (Sum.inr x : Key)).isSome = inW (nosOf ss) x := by
  rw [key_some h.keys]
  unfold inW
  rw [nosOf_keys]
theorem StepsAt.at_ {H : Hp} : ∀ {ss : List StepD} {kvs : List (Key × V)} {x : Str}, StepsAt H kvs ss → inW (nosOf ss) x = true → ∃ v s, valV kvs (Sum.inr x : Key) = some v ∧ s ∈ ss ∧ s.2.kind = x ∧ StepAt H v s ∧ s.1 = atW (nosOf ss) x
  | [], kvs, x, _, hx => by cases hx
  | s :: ss, [], x, h, _ => by
    have := h.keys
    cases this
  | s :: ss, (k, v) :: kvs, x, h, hx => by
    have hk := h.keys
    rw [List.map_cons, List.map_cons, List.map_cons] at hk
    obtain ⟨hk1, hk2⟩ := List.cons.inj hk
    have hk1' : k = Sum.inr s.2.kind := hk1
    subst hk1'
    obtain ⟨s', t', e, h1, h2⟩ := h.vals
    obtain ⟨rfl, rfl⟩ := List.cons.inj e
    by_cases hs : s.2.kind = x
    · refine ⟨v, s, valV_pos (p := (Sum.inr s.2.kind, v)) (by rw [hs]), List.mem_cons_self, hs, h1, ?_⟩
      unfold atW nosOf
      rw [List.map_cons, List.lookup_cons, show (x == s.2.kind) = true from beq_iff_eq.mpr hs.symm]
      rfl
    · have hx2 : inW (nosOf ss) x = true := by
        unfold inW nosOf at hx ⊢
        rw [List.map_cons, List.map_cons, List.contains_cons] at hx
        rcases Bool.or_eq_true_iff.mp hx with z | z
        · exact absurd (eq_of_beq z).symm hs
        · exact z
      obtain ⟨v2, s2, e1, e2, e3, e4, e5⟩ := StepsAt.at_ (ss := ss) (kvs := kvs) ⟨hk2, h2⟩ hx2
      refine ⟨v2, s2, ?_, List.mem_cons_of_mem _ e2, e3, e4, ?_⟩
      · rw [valV_neg (p := (Sum.inr s.2.kind, v)) (fun z => hs (Sum.inr.inj z))]
        exact e1
      · rw [e5]
        unfold atW nosOf
        rw [List.map_cons, List.lookup_cons, show (x == s.2.kind) = false from beq_eq_false_iff_ne.mpr fun z => hs z.symm]
/-- a candidate as data -/
def stepDat (ps : NumsW) (r : RuleD) : PyData := .tuple [.int (costW ps r : Nat), .str r.name, .str r.kind, .tuple (r.out.map .str)]
/-- the nearest step, or None -/
def NearOk (rs : List RuleD) (ps : NumsW) (H' : Hp) (v : V) : Prop := (v = .non ∧ ∀ r ∈ rs, candW ps r = false) ∨
  ∃ r T b, r ∈ rs ∧ candW ps r = true ∧ (∀ q ∈ rs, candW ps q = true → costW ps r ≤ costW ps q) ∧ v = .ref T ∧ H' T = some (.tup [.int (costW ps r : Nat), .str r.name, .str r.kind, .ref b]) ∧ H' b = some (.tup (r.out.map V.str)) ∧ ∀ q ∈ rs, candW ps q = true → PySem.W.dataLt (stepDat ps q) (stepDat ps r) = false
def spNear : Sp := fun vs H Q _ => ∃ r D us rs kvs ss, vs = [.ref r, .ref D] ∧ H r = some (.lst us) ∧ Rules H us rs ∧ H D = some (.dK kvs) ∧ StepsAt H kvs ss ∧ rs.length ≤ 1000 ∧ (∀ r ∈ rs, r.out.length ≤ 1000) ∧
  ∀ v H', Same H H' → NearOk rs (nosOf ss) H' v → Q v H'
/-- a candidate as it stands -/
def CandAt (ps : NumsW) (H : Hp) (v : V) (r : RuleD) : Prop := ∃ T b, v = .ref T ∧ H T = some (.tup [.int (costW ps r : Nat), .str r.name, .str r.kind, .ref b]) ∧ H b = some (.tup (r.out.map V.str))
theorem CandAt.ups {ps : NumsW} {H H' : Hp} {v : V} {r : RuleD} (s : Tups H H') (h : CandAt ps H v r) : CandAt ps H' v r := let ⟨a, b, e, h1, h2⟩ := h; ⟨a, b, e, s _ _ h1, s _ _ h2⟩
def candVD (ps : NumsW) : List V → List RuleD → List VD
  | v :: vs, r :: rs => (v, stepDat ps r) :: candVD ps vs rs
  | _, _ => []
theorem candVD_fst {ps : NumsW} : ∀ {vs : List V} {rs : List RuleD}, vs.length = rs.length → (candVD ps vs rs).map (·.1) = vs
  | [], [], _ => rfl
  | [], _ :: _, h => by cases h
  | _ :: _, [], h => by cases h
  | v :: vs, r :: rs, h => by
    show v :: (candVD ps vs rs).map (·.1) = _
    rw [candVD_fst (Nat.succ.inj h)]
theorem candVD_len {ps : NumsW} : ∀ {vs : List V} {rs : List RuleD}, (candVD ps vs rs).length ≤ vs.length
  | [], _ => Nat.le_refl _
  | _ :: _, [] => Nat.zero_le _
  | v :: vs, r :: rs => Nat.succ_le_succ (candVD_len (vs := vs) (rs := rs))
theorem candVD_nil {ps : NumsW} : ∀ {vs : List V} {rs : List RuleD}, vs.length = rs.length → candVD ps vs rs = [] → rs = []
  | [], [], _, _ => rfl
  | [], _ :: _, h, _ => by cases h
  | _ :: _, [], _, _ => rfl
  | v :: vs, r :: rs, _, h => by cases h
theorem candVD_mem {ps : NumsW} {H : Hp} : ∀ {vs : List V} {rs : List RuleD} {x : VD}, All2 (CandAt ps H) vs rs → x ∈ candVD ps vs rs → ∃ r, r ∈ rs ∧ x.2 = stepDat ps r ∧ CandAt ps H x.1 r
  | [], rs, x, _, hx => by cases hx
  | v :: vs, rs, x, ⟨r, t, e, h1, h2⟩, hx => by
    subst e
    rcases List.mem_cons.mp (show x ∈ (v, stepDat ps r) :: candVD ps vs t from hx) with e | hx
    · subst e
      exact ⟨r, List.mem_cons_self, rfl, h1⟩
    · obtain ⟨q, m, a, b⟩ := candVD_mem h2 hx
      exact ⟨q, List.mem_cons_of_mem _ m, a, b⟩
theorem candVD_of {ps : NumsW} : ∀ {vs : List V} {rs : List RuleD} {r : RuleD}, vs.length = rs.length → r ∈ rs → ∃ y ∈ candVD ps vs rs, y.2 = stepDat ps r
  | [], rs, r, h, hr => by
    cases rs with
    | nil => cases hr
    | cons _ _ => cases h
  | v :: vs, [], r, h, hr => by cases hr
  | v :: vs, q :: rs, r, h, hr => by
    rcases List.mem_cons.mp hr with e | hr
    · subst e
      exact ⟨_, List.mem_cons_self, rfl⟩
    · obtain ⟨y, hy, e⟩ := candVD_of (ps := ps) (Nat.succ.inj h) hr
      exact ⟨y, List.mem_cons_of_mem _ hy, e⟩
theorem strs_dq {H : Hp} : ∀ (os : List Str), DqAll H (os.map .str) (os.map V.str)
  | [] => by simp only [List.map_nil, DqAll]
  | x :: os => by
    simp only [List.map_cons, DqAll, Dq]
    exact ⟨_, _, rfl, rfl, strs_dq os⟩
theorem cand_dq {ps : NumsW} {H : Hp} {v : V} {r : RuleD} (h : CandAt ps H v r) : Dq H (stepDat ps r) v := by
  obtain ⟨T, b, rfl, e1, e2⟩ := h
  unfold stepDat
  simp only [Dq, DqAll]
  exact ⟨T, _, rfl, e1, _, _, rfl, rfl, _, _, rfl, rfl, _, _, rfl, rfl, _, _, rfl, ⟨b, _, rfl, e2, strs_dq r.out⟩, rfl⟩
theorem alike_strs : ∀ xs ys : List Str, alikeAll (xs.map .str) (ys.map .str) = true
  | [], ys => by cases ys <;> simp [alikeAll]
  | x :: xs, [] => by simp [alikeAll]
  | x :: xs, y :: ys => by
    simp only [List.map_cons, alikeAll, alike, Bool.true_and]
    exact alike_strs xs ys
theorem alike_steps (ps : NumsW) (r q : RuleD) : alike (stepDat ps r) (stepDat ps q) = true := by
  unfold stepDat
  simp only [alike, alikeAll, alike_strs, Bool.and_self]
theorem depth_strs : ∀ os : List Str, PyData.depthAll (os.map .str) = 0
  | [] => by simp [PyData.depthAll]
  | x :: os => by simp [PyData.depthAll, PyData.depth, depth_strs os]
theorem depth_step (ps : NumsW) (r : RuleD) : (stepDat ps r).depth ≤ 50 := by
  unfold stepDat
  simp [PyData.depth, PyData.depthAll, depth_strs]
theorem candVD_ok {ps : NumsW} {H : Hp} {vs : List V} {rs : List RuleD} (h : All2 (CandAt ps H) vs rs) (hl : vs.length ≤ 1000) (hz : ∀ r ∈ rs, r.out.length ≤ 1000) : DatOk H (candVD ps vs rs) := by
  refine ⟨fun x hx => ?_, fun d hd e he => ?_, fun x hx => ?_, fun x hx => ?_, ?_⟩
  · obtain ⟨r, _, e, h1⟩ := candVD_mem h hx
    rw [e]
    exact cand_dq h1
  · obtain ⟨x, hx, rfl⟩ := List.mem_map.mp hd
    obtain ⟨y, hy, rfl⟩ := List.mem_map.mp he
    obtain ⟨r, _, e1, _⟩ := candVD_mem h hx
    obtain ⟨q, _, e2, _⟩ := candVD_mem h hy
    rw [e1, e2]
    exact alike_steps ps r q
  · obtain ⟨r, _, e, _⟩ := candVD_mem h hx
    rw [e]
    exact fun z => by cases z
  · obtain ⟨r, _, e, _⟩ := candVD_mem h hx
    rw [e]
    exact depth_step ps r
  · have := candVD_len (ps := ps) (vs := vs) (rs := rs)
    omega
theorem cand_le {ps : NumsW} {r q : RuleD} (h : dataLt (stepDat ps q) (stepDat ps r) = false) : costW ps r ≤ costW ps q := by
  apply Classical.byContradiction
  intro hn
  have hlt : ((costW ps q : Nat) : Int) < ((costW ps r : Nat) : Int) := by omega
  have : dataLt (stepDat ps q) (stepDat ps r) = true := by
    unfold stepDat dataLt
    simp only [keyToks, keyToksAll]
    refine (lex_self (O := itemOrd) _ _ _).trans ?_
    exact lex_true.mpr (.inl (decide_eq_true hlt))
  rw [h] at this
  cases this
theorem sum_cast (f : Str → Nat) : ∀ os : List Str, (os.map fun x => (f x : Int)).sum = (((os.map f).sum : Nat) : Int)
  | [] => rfl
  | x :: os => by
    rw [List.map_cons, List.map_cons, List.sum_cons, List.sum_cons, sum_cast f os]
    omega
theorem map_int (f : Str → Nat) (os : List Str) : (os.map fun x => V.int (f x : Nat)) = (os.map fun x => (f x : Int)).map V.int := by
  rw [List.map_map]
  rfl
/-! ### first steps -/
structure StepChain (rs : List RuleD) (ss : List StepD) : Prop where
  ok : ∀ i s, ss[i]? = some s → s.2 ∈ rs ∧ candW (nosOf (ss.take i)) s.2 = true ∧ s.1 = costW (nosOf (ss.take i)) s.2
structure FirstOk (rs : List RuleD) (ss : List StepD) : Prop where
  ways : WaysOk rs (nosOf ss)
  chain : StepChain rs ss
theorem FirstOk.nil (rs : List RuleD) : FirstOk rs [] := ⟨WaysOk.nil rs, ⟨fun i s h => by simp at h⟩⟩
theorem nosOf_app (ss ts : List StepD) : nosOf (ss ++ ts) = nosOf ss ++ nosOf ts := List.map_append
theorem FirstOk.add {rs : List RuleD} {ss : List StepD} (W : FirstOk rs ss) {r : RuleD} (hr : r ∈ rs) (hc : candW (nosOf ss) r = true) (hm : ∀ q ∈ rs, candW (nosOf ss) q = true → costW (nosOf ss) r ≤ costW (nosOf ss) q) : FirstOk rs (ss ++ [(costW (nosOf ss) r, r)]) := by
  refine ⟨?_, ⟨fun i s h => ?_⟩⟩
  · rw [nosOf_app]
    exact W.ways.add hr hc hm
  · by_cases hi : i < ss.length
    · rw [List.getElem?_append_left hi] at h
      rw [List.take_append_of_le_length (Nat.le_of_lt hi)]
      exact W.chain.ok i s h
    · have hi2 : i = ss.length := by
        have := (List.getElem?_eq_some_iff.mp h).1
        rw [List.length_append] at this
        simp at this
        omega
      subst hi2
      rw [List.getElem?_append_right (Nat.le_refl _), Nat.sub_self] at h
      cases h
      rw [List.take_append_of_le_length (Nat.le_refl _), List.take_length]
      exact ⟨hr, hc, rfl⟩
theorem StepChain.mem {rs : List RuleD} {ss : List StepD} (h : StepChain rs ss) {s : StepD} (hs : s ∈ ss) : s.2 ∈ rs := by
  obtain ⟨i, hi⟩ := List.mem_iff_getElem?.mp hs
  exact (h.ok i s hi).1
theorem FirstOk.few {rs : List RuleD} {ss : List StepD} {ks : List Str} (W : FirstOk rs ss) (hk : ∀ r ∈ rs, r.kind ∈ ks) : ss.length ≤ ks.length := by
  have h := W.ways.nodup
  rw [nosOf_keys] at h
  have := nodup_len h fun x hx => by
    obtain ⟨s, hs, rfl⟩ := List.mem_map.mp hx
    exact hk _ (W.chain.mem hs)
  rw [List.length_map] at this
  exact this
theorem StepsAt.len {H : Hp} {kvs : List (Key × V)} {ss : List StepD} (h : StepsAt H kvs ss) : kvs.length = ss.length := by
  have := h.vals.len
  rw [List.length_map] at this
  exact this
/-- one more step -/
theorem StepsAt.add {H : Hp} {kvs : List (Key × V)} {ss : List StepD} (h : StepsAt H kvs ss) {v : V} {s : StepD} (hv : StepAt H v s) (hn : inW (nosOf ss) s.2.kind = false) : StepsAt H (putK kvs (Sum.inr s.2.kind : Key) v) (ss ++ [s]) := by
  have hnone : valV kvs (Sum.inr s.2.kind : Key) = none := by
    have := h.has s.2.kind
    rw [hn] at this
    cases q : valV kvs (Sum.inr s.2.kind : Key) with
    | none => rfl
    | some _ => rw [q] at this; cases this
  rw [putK_new _ hnone]
  refine ⟨?_, ?_⟩
  · rw [List.map_append, h.keys, List.map_append, List.map_append]
    rfl
  · rw [List.map_append]
    exact h.vals.app ⟨s, [], rfl, hv, rfl⟩
/-- each step is the least of all that might be -/
def StepsDet (rs : List RuleD) (ss : List StepD) : Prop := ∀ i s, ss[i]? = some s → ∀ q ∈ rs, candW (nosOf (ss.take i)) q = true → PySem.W.dataLt (stepDat (nosOf (ss.take i)) q) (stepDat (nosOf (ss.take i)) s.2) = false
theorem StepsDet.nil (rs : List RuleD) : StepsDet rs [] := fun i s h => by simp at h
theorem StepsDet.add {rs : List RuleD} {ss : List StepD} (h : StepsDet rs ss) {s : StepD} (hs : ∀ q ∈ rs, candW (nosOf ss) q = true → PySem.W.dataLt (stepDat (nosOf ss) q) (stepDat (nosOf ss) s.2) = false) : StepsDet rs (ss ++ [s]) := fun i t e => by
  by_cases hi : i < ss.length
  · rw [List.getElem?_append_left hi] at e
    rw [List.take_append_of_le_length (Nat.le_of_lt hi)]
    exact h i t e
  · have hl := (List.getElem?_eq_some_iff.mp e).1
    rw [List.length_append] at hl
    have hil : i = ss.length := by
      have : i < ss.length + 1 := hl
      omega
    subst hil
    rw [List.getElem?_append_right (Nat.le_refl _), Nat.sub_self] at e
    cases e
    rw [List.take_left]
    exact hs
theorem str_anti {x y : Str} (h1 : PySem.W.dataLt (.str x) (.str y) = false) (h2 : PySem.W.dataLt (.str y) (.str x) = false) : x = y := by
  have e1 := congrFun (congrFun (PySem.W.dataLe_str (β := Str) id) y) x
  have e2 := congrFun (congrFun (PySem.W.dataLe_str (β := Str) id) x) y
  rw [PySem.W.dataLe_eq] at e1 e2
  have a1 : (!PySem.W.dataLt (.str x) (.str y)) = decide (y.cps.toList ≤ x.cps.toList) := e1
  have a2 : (!PySem.W.dataLt (.str y) (.str x)) = decide (x.cps.toList ≤ y.cps.toList) := e2
  rw [h1] at a1
  rw [h2] at a2
  have b1 : y.cps.toList ≤ x.cps.toList := of_decide_eq_true a1.symm
  have b2 : x.cps.toList ≤ y.cps.toList := of_decide_eq_true a2.symm
  have e := List.le_antisymm b2 b1
  cases x with
  | mk a =>
    cases y with
    | mk b =>
      have : a = b := Array.ext' e
      rw [this]
theorem step_anti {ps : NumsW} {r q : RuleD} (h1 : PySem.W.dataLt (stepDat ps q) (stepDat ps r) = false) (h2 : PySem.W.dataLt (stepDat ps r) (stepDat ps q) = false) : r.name = q.name := by
  have hc : costW ps r = costW ps q := Nat.le_antisymm (cand_le h1) (cand_le h2)
  unfold stepDat at h1 h2
  rw [PySem.W.dataLt_tuple, hc, PySem.W.dataLt_cons (by simp [alike]), if_pos (by simp [PyData.eqv])] at h1 h2
  by_cases hn : r.name = q.name
  · exact hn
  · rw [PySem.W.dataLt_cons (by simp [alike]), if_neg (by simpa [PyData.eqv] using fun z : q.name = r.name => hn z.symm)] at h1
    rw [PySem.W.dataLt_cons (by simp [alike]), if_neg (by simpa [PyData.eqv] using hn)] at h2
    exact str_anti h2 h1
theorem name_inj : ∀ {rs : List RuleD} {r q : RuleD}, (rs.map (·.name)).Nodup → r ∈ rs → q ∈ rs → r.name = q.name → r = q
  | [], _, _, _, h, _, _ => by cases h
  | a :: rs, r, q, hn, hr, hq, e => by
    rw [List.map_cons, List.nodup_cons] at hn
    rcases List.mem_cons.mp hr with er | hr1 <;> rcases List.mem_cons.mp hq with eq | hq1
    · rw [er, eq]
    · exact absurd (List.mem_map.mpr ⟨q, hq1, rfl⟩ : q.name ∈ rs.map (·.name)) (by rw [← e, er]; exact hn.1)
    · exact absurd (List.mem_map.mpr ⟨r, hr1, rfl⟩ : r.name ∈ rs.map (·.name)) (by rw [e, eq]; exact hn.1)
    · exact name_inj hn.2 hr1 hq1 e
/-- such steps are the same each time -/
theorem steps_uniq {rs : List RuleD} (hn : (rs.map (·.name)).Nodup) {ss ts : List StepD} (W : FirstOk rs ss) (D : StepsDet rs ss) (N : ∀ r ∈ rs, candW (nosOf ss) r = false) (W2 : FirstOk rs ts) (D2 : StepsDet rs ts) (N2 : ∀ r ∈ rs, candW (nosOf ts) r = false) : ss = ts := by
  have key : ∀ n, ss.take n = ts.take n := by
    intro n
    induction n with
    | zero => rfl
    | succ n ih =>
      rw [List.take_add_one, List.take_add_one, ih]
      cases e : ss[n]? with
      | none =>
        cases e2 : ts[n]? with
        | none => rfl
        | some t =>
          obtain ⟨h1, h2, _⟩ := W2.chain.ok n t e2
          have : ss.take n = ss := List.take_of_length_le (List.getElem?_eq_none_iff.mp e)
          rw [← ih, this, N _ h1] at h2
          cases h2
      | some s =>
        cases e2 : ts[n]? with
        | none =>
          obtain ⟨h1, h2, _⟩ := W.chain.ok n s e
          have : ts.take n = ts := List.take_of_length_le (List.getElem?_eq_none_iff.mp e2)
          rw [ih, this, N2 _ h1] at h2
          cases h2
        | some t =>
          obtain ⟨h1, h2, h3⟩ := W.chain.ok n s e
          obtain ⟨g1, g2, g3⟩ := W2.chain.ok n t e2
          have a1 := D n s e t.2 g1 (by rw [ih]; exact g2)
          have a2 := D2 n t e2 s.2 h1 (by rw [← ih]; exact h2)
          rw [ih] at a1
          have er := name_inj hn h1 g1 (step_anti a1 a2)
          have : s = t := by
            obtain ⟨s1, s2⟩ := s
            obtain ⟨t1, t2⟩ := t
            have er' : s2 = t2 := er
            subst er'
            rw [ih] at h3
            have h3' : s1 = costW (nosOf (ts.take n)) s2 := h3
            have g3' : t1 = costW (nosOf (ts.take n)) s2 := g3
            rw [h3', g3']
          rw [this]
  have h1 := key (max ss.length ts.length)
  rwa [List.take_of_length_le (Nat.le_max_left _ _), List.take_of_length_le (Nat.le_max_right _ _)] at h1
def spFirst (C : Addr) : Sp := fun vs H Q _ => ∃ p ks hs rs st c, vs = [.ref p] ∧ BookAt C H p ks hs rs st c ∧ BookOk ks hs rs st ∧ ks.length ≤ 40 ∧
  ∀ D kvs ss H', Same H H' → H D = none → H' D = some (.dK kvs) → StepsAt H' kvs ss → FirstOk rs ss → (∀ r ∈ rs, candW (nosOf ss) r = false) → StepsDet rs ss → Q (.ref D) H'
def spEnding (C : Addr) : Sp := fun vs H Q _ => ∃ p ks hs rs st c, vs = [.ref p] ∧ BookAt C H p ks hs rs st c ∧ BookOk ks hs rs st ∧ ks.length ≤ 40 ∧
  ∀ v ss H', FirstOk rs ss → (∀ r ∈ rs, candW (nosOf ss) r = false) → NewSorted H H' v (ss.map fun s => s.2.kind) → Q v H'
/-- NoKind, or nothing -/
def spDemand (K : PySem.W.Frag) (C : Addr) : Sp := fun vs H Q E => ∃ p v d ks hs rs st c, vs = [.ref p, v] ∧ BookAt C H p ks hs rs st c ∧ Dq H d v ∧
  (amongD ks d = true → ∀ H', Same H H' → Q .non H') ∧ (amongD ks d = false → ∀ dx H2, Same H H2 → H dx = none → H2 dx = some (exd dx [("value", v)]) → E (.ref (ga K "NoKind")) (some dx) H2)
def optV : Option Nat → V
  | some n => .int (n : Nat)
  | none => .non
def spWay (K : PySem.W.Frag) (C : Addr) : Sp := fun vs H Q E => ∃ p v d ks hs rs st c, vs = [.ref p, v] ∧ BookAt C H p ks hs rs st c ∧ BookOk ks hs rs st ∧ ks.length ≤ 40 ∧ Dq H d v ∧
  (∀ x ss H', d = .str x → x ∈ ks → FirstOk rs ss → (∀ r ∈ rs, candW (nosOf ss) r = false) → Same H H' → Q (optV ((nosOf ss).lookup x)) H') ∧
  (amongD ks d = false → ∀ dx H2, Same H H2 → H dx = none → H2 dx = some (exd dx [("value", v)]) → E (.ref (ga K "NoKind")) (some dx) H2)
end Fh
namespace Fh
open PySem PySem.Spec PySem.W PyProof.Rows L2 He
/-! ### runs to kinds -/
inductive PathR (rs : List RuleD) (s : Str) : List Str → Str → Prop
  | nil : PathR rs s [] s
  | snoc {run : List Str} {r : RuleD} {x : Str} : PathR rs s run r.kind → r ∈ rs → x ∈ r.out → PathR rs s (run ++ [r.name]) x
inductive ReachIn (rs : List RuleD) (s : Str) : Nat → Str → Prop
  | zero : ReachIn rs s 0 s
  | succ {n : Nat} {r : RuleD} {x : Str} : ReachIn rs s n r.kind → r ∈ rs → x ∈ r.out → ReachIn rs s (n + 1) x
abbrev RunD : Type := Str × List Str
structure RunsOk (rs : List RuleD) (s : Str) (rr : List RunD) : Prop where
  about : AboutOk rs s (rr.map (·.1))
  path : ∀ q ∈ rr, PathR rs s q.2 q.1
  least : ∀ q ∈ rr, ∀ m, ReachIn rs s m q.1 → q.2.length ≤ m
/-- within a turn: F what was there ahead of it, L its newest, with runs of n rules; G what is there now, N the newest of this turn -/
structure RunsSt (rs : List RuleD) (s : Str) (n : Nat) (F L G N : List Str) (rr : List RunD) : Prop where
  keys : rr.map (·.1) = G
  path : ∀ q ∈ rr, PathR rs s q.2 q.1
  least : ∀ q ∈ rr, ∀ m, ReachIn rs s m q.1 → q.2.length ≤ m
  old : ∀ q ∈ rr, q.1 ∈ L → q.2.length = n
  new : ∀ q ∈ rr, q.1 ∈ N → q.2.length = n + 1
  full : ∀ m x, m ≤ n → ReachIn rs s m x → x ∈ F
  inF : ∀ x ∈ F, x ∈ G
  nL : ∀ x ∈ N, x ∉ L
  lF : ∀ x ∈ L, x ∈ F
theorem RunsSt.add {rs : List RuleD} {s : Str} {n : Nat} {F L G N : List Str} {rr : List RunD} (h : RunsSt rs s n F L G N rr) {r : RuleD} {run : List Str} {x : Str} (hr : r ∈ rs) (hx : x ∈ r.out) (hk : r.kind ∈ L) (hm : (r.kind, run) ∈ rr) (hn : x ∉ G) :
    RunsSt rs s n F L (G ++ [x]) (N ++ [x]) (rr ++ [(x, run ++ [r.name])]) := by
  have hl : run.length = n := h.old _ hm hk
  refine ⟨?_, fun q hq => ?_, fun q hq m hR => ?_, fun q hq hL => ?_, fun q hq hN => ?_, h.full, fun y hy => List.mem_append_left _ (h.inF y hy), fun y hy hL => ?_, h.lF⟩
  · rw [List.map_append, h.keys]
    rfl
  · rcases List.mem_append.mp hq with hq | hq
    · exact h.path q hq
    · rw [List.mem_singleton.mp hq]
      exact .snoc (h.path _ hm) hr hx
  · rcases List.mem_append.mp hq with hq | hq
    · exact h.least q hq m hR
    · rw [List.mem_singleton.mp hq] at hR ⊢
      show (run ++ [r.name]).length ≤ m
      rw [List.length_append, hl]
      by_cases hmn : m ≤ n
      · exact absurd (h.inF _ (h.full m x hmn hR)) hn
      · show n + 1 ≤ m
        omega
  · rcases List.mem_append.mp hq with hq | hq
    · exact h.old q hq hL
    · rw [List.mem_singleton.mp hq] at hL
      exact absurd (h.inF _ (h.lF _ hL)) hn
  · rcases List.mem_append.mp hq with hq | hq
    · rcases List.mem_append.mp hN with hN | hN
      · exact h.new q hq hN
      · have e := List.mem_singleton.mp hN
        have : q.1 ∈ G := by rw [← h.keys]; exact List.mem_map_of_mem hq
        rw [e] at this
        exact absurd this hn
    · rw [List.mem_singleton.mp hq]
      show (run ++ [r.name]).length = n + 1
      rw [List.length_append, hl]
      rfl
  · rcases List.mem_append.mp hy with hy | hy
    · exact h.nL y hy hL
    · rw [List.mem_singleton.mp hy] at hL
      exact hn (h.inF _ (h.lF _ hL))
/-- the next turn -/
theorem RunsSt.turn {rs : List RuleD} {s : Str} {n : Nat} {F L G N : List Str} {rr : List RunD} (h : RunsSt rs s n F L G N rr) (hA : AboutSt rs s G N) (hN : ∀ x ∈ N, x ∉ F) : RunsSt rs s (n + 1) G N G [] rr := by
  refine ⟨h.keys, h.path, h.least, h.new, fun q _ hq => absurd hq List.not_mem_nil, fun m x hm hR => ?_, fun x hx => hx, fun x hx => absurd hx List.not_mem_nil, hA.new⟩
  cases hR with
  | zero => exact hA.start
  | succ hR hr hx =>
    have hF := h.full _ _ (by omega) hR
    exact hA.done _ hr (h.inF _ hF) (fun z => hN _ z hF) _ hx
theorem RunsSt.one (rs : List RuleD) (s : Str) : RunsSt rs s 0 [s] [s] [s] [] [(s, [])] := by
  refine ⟨rfl, fun q hq => ?_, fun q hq m _ => ?_, fun q hq _ => ?_, fun q _ hq => absurd hq List.not_mem_nil, fun m x hm hR => ?_, fun x hx => hx, fun x hx => absurd hx List.not_mem_nil, fun x hx => hx⟩
  · rw [List.mem_singleton.mp hq]; exact .nil
  · rw [List.mem_singleton.mp hq]; exact Nat.zero_le _
  · rw [List.mem_singleton.mp hq]; rfl
  · cases hR with
    | zero => exact List.mem_singleton.mpr rfl
    | succ => omega
theorem RunsSt.end_ {rs : List RuleD} {s : Str} {n : Nat} {F L G N : List Str} {rr : List RunD} (h : RunsSt rs s n F L G N rr) (hA : AboutOk rs s G) : RunsOk rs s rr := ⟨by rw [h.keys]; exact hA, h.path, h.least⟩
/-! ### as they stand -/
def RunAt (H : Hp) (v : V) (q : RunD) : Prop := ∃ a, v = .ref a ∧ H a = some (.lst (q.2.map V.str))
structure RunsAt (H : Hp) (kvs : List (Key × V)) (rr : List RunD) : Prop where
  keys : kvs.map (·.1) = (rr.map (·.1)).map Sum.inr
  vals : All2 (RunAt H) (kvs.map (·.2)) rr
theorem RunsAt.len {H : Hp} {kvs : List (Key × V)} {rr : List RunD} (h : RunsAt H kvs rr) : kvs.length = rr.length := by
  have := h.vals.len
  rw [List.length_map] at this
  exact this
theorem RunsAt.has {H : Hp} {kvs : List (Key × V)} {rr : List RunD} (h : RunsAt H kvs rr) (x : Str) : (valV kvs (Sum.inr x : Key)).isSome = (rr.map (·.1)).contains x := key_some h.keys x
theorem RunsAt.imp {H H' : Hp} {kvs : List (Key × V)} {rr : List RunD} (s : ∀ a xs, H a = some (.lst xs) → H' a = some (.lst xs)) (h : RunsAt H kvs rr) : RunsAt H' kvs rr := ⟨h.keys, h.vals.imp fun _ _ ⟨a, e, q⟩ => ⟨a, e, s _ _ q⟩⟩
theorem RunsAt.at_ {H : Hp} : ∀ {rr : List RunD} {kvs : List (Key × V)} {x : Str}, RunsAt H kvs rr → x ∈ rr.map (·.1) → ∃ a run, valV kvs (Sum.inr x : Key) = some (.ref a) ∧ (x, run) ∈ rr ∧ H a = some (.lst (run.map V.str))
  | [], kvs, x, _, hx => by cases hx
  | q :: rr, [], x, h, _ => by
    have := h.keys
    cases this
  | q :: rr, (k, v) :: kvs, x, h, hx => by
    have hk := h.keys
    rw [List.map_cons, List.map_cons, List.map_cons] at hk
    obtain ⟨hk1, hk2⟩ := List.cons.inj hk
    have hk1' : k = Sum.inr q.1 := hk1
    subst hk1'
    obtain ⟨q', t', e, ⟨a, rfl, h1⟩, h2⟩ := h.vals
    obtain ⟨rfl, rfl⟩ := List.cons.inj e
    by_cases hs : q.1 = x
    · subst hs
      exact ⟨a, q.2, valV_pos (p := (Sum.inr q.1, _)) rfl, List.mem_cons_self, h1⟩
    · have hx2 : x ∈ rr.map (·.1) := by
        rw [List.map_cons] at hx
        exact (List.mem_cons.mp hx).resolve_left fun e => hs e.symm
      obtain ⟨a2, run, e1, e2, e3⟩ := RunsAt.at_ (rr := rr) (kvs := kvs) ⟨hk2, h2⟩ hx2
      refine ⟨a2, run, ?_, List.mem_cons_of_mem _ e2, e3⟩
      rw [valV_neg (p := (Sum.inr q.1, _)) (fun z => hs (Sum.inr.inj z))]
      exact e1
theorem RunsAt.add {H : Hp} {kvs : List (Key × V)} {rr : List RunD} (h : RunsAt H kvs rr) {v : V} {q : RunD} (hv : RunAt H v q) (hn : q.1 ∉ rr.map (·.1)) : RunsAt H (putK kvs (Sum.inr q.1 : Key) v) (rr ++ [q]) := by
  have hnone : valV kvs (Sum.inr q.1 : Key) = none := by
    have := h.has q.1
    cases e : valV kvs (Sum.inr q.1 : Key) with
    | none => rfl
    | some _ =>
      rw [e] at this
      exact absurd (List.contains_iff_mem.mp this.symm) hn
  rw [putK_new _ hnone]
  refine ⟨?_, ?_⟩
  · rw [List.map_append, h.keys, List.map_append, List.map_append]
    rfl
  · rw [List.map_append]
    exact h.vals.app ⟨q, [], rfl, hv, rfl⟩
/-! ### the parts of a kind -/
def partsOf (rs : List RuleD) (k : Str) : List (Str × Str) := rs.flatMap fun r => if r.kind = k then r.out.map fun x => (r.name, x) else []
def PartAt (H : Hp) (v : V) (q : Str × Str) : Prop := ∃ a, v = .ref a ∧ H a = some (.tup [.str q.1, .str q.2])
theorem PartAt.ups {H H' : Hp} {v : V} {q : Str × Str} (s : Tups H H') (h : PartAt H v q) : PartAt H' v q := let ⟨a, e, h1⟩ := h; ⟨a, e, s _ _ h1⟩
theorem partsOf_mem {rs : List RuleD} {k : Str} {q : Str × Str} : q ∈ partsOf rs k ↔ ∃ r ∈ rs, r.kind = k ∧ r.name = q.1 ∧ q.2 ∈ r.out := by
  unfold partsOf
  rw [List.mem_flatMap]
  constructor
  · rintro ⟨r, hr, hq⟩
    split at hq
    · rename_i hk
      obtain ⟨x, hx, rfl⟩ := List.mem_map.mp hq
      exact ⟨r, hr, hk, rfl, hx⟩
    · cases hq
  · rintro ⟨r, hr, hk, hn, hx⟩
    refine ⟨r, hr, ?_⟩
    rw [if_pos hk]
    exact List.mem_map.mpr ⟨q.2, hx, by rw [hn]⟩
def spParts : Sp := fun vs H Q _ => ∃ r us rs k, vs = [.ref r, .str k] ∧ H r = some (.lst us) ∧ Rules H us rs ∧ rs.length ≤ 1000 ∧ (∀ r ∈ rs, r.out.length ≤ 1000) ∧
  ∀ D vs H', Same H H' → H D = none → H' D = some (.lst vs) → All2 (PartAt H') vs (partsOf rs k) → Q (.ref D) H'
/-! ### the runs, step by step: they are the same each time -/
def stepR (k : Str) (S : List RunD × List Str) (q : Str × Str) : List RunD × List Str := if (S.1.map (·.1)).contains q.2 = true then S else (S.1 ++ [(q.2, (S.1.lookup k).getD [] ++ [q.1])], S.2 ++ [q.2])
def kindR (ts : List RuleD) (S : List RunD × List Str) (k : Str) : List RunD × List Str := (partsOf ts k).foldl (stepR k) S
def turnR (ts : List RuleD) (S : List RunD × List Str) : List RunD × List Str := S.2.foldl (kindR ts) (S.1, [])
def iterR (ts : List RuleD) (st : Str) : Nat → List RunD × List Str
  | 0 => ([(st, [])], [st])
  | n + 1 => turnR ts (iterR ts st n)
def RunsDet (ts : List RuleD) (st : Str) (rr : List RunD) : Prop := ∃ n, iterR ts st n = (rr, [])
theorem iterR_stay {ts : List RuleD} {st : Str} {n : Nat} {rr : List RunD} (h : iterR ts st n = (rr, [])) : ∀ m, iterR ts st (n + m) = (rr, [])
  | 0 => h
  | m + 1 => by
    show turnR ts (iterR ts st (n + m)) = _
    rw [iterR_stay h m]
    rfl
theorem RunsDet.uniq {ts : List RuleD} {st : Str} {rr qq : List RunD} (h : RunsDet ts st rr) (h2 : RunsDet ts st qq) : rr = qq := by
  obtain ⟨n, e⟩ := h
  obtain ⟨m, e2⟩ := h2
  have a := iterR_stay e m
  have b := iterR_stay e2 n
  rw [Nat.add_comm m n] at b
  exact congrArg Prod.fst (a.symm.trans b)
def sortR (rs : List RuleD) : List RuleD := rs.mergeSort (dataLe false ruleData)
/-- a list that was not there at H -/
def NewV (H : Hp) (v : V) : Prop := ∀ a, v = .ref a → H a = none
def spRuns (C : Addr) : Sp := fun vs H Q _ => ∃ p ks hs rs st c, vs = [.ref p] ∧ BookAt C H p ks hs rs st c ∧ BookOk ks hs rs st ∧ ks.length ≤ 40 ∧
  ∀ D kvs rr H', Same H H' → H D = none → H' D = some (.dK kvs) → RunsAt H' kvs rr → RunsOk rs st rr → (∀ v ∈ kvs.map (·.2), NewV H v) → RunsDet (sortR rs) st rr → Q (.ref D) H'
def spAbout (C : Addr) : Sp := fun vs H Q _ => ∃ p ks hs rs st c, vs = [.ref p] ∧ BookAt C H p ks hs rs st c ∧ BookOk ks hs rs st ∧ ks.length ≤ 40 ∧
  ∀ v F H', AboutOk rs st F → NewSorted H H' v F → Q v H'
/-! ### rules sorted -/
def datVD {α : Type} (f : α → PyData) : List V → List α → List VD
  | v :: vs, r :: rs => (v, f r) :: datVD f vs rs
  | _, _ => []
section
variable {α : Type} {f : α → PyData}
theorem datVD_fst : ∀ {vs : List V} {rs : List α}, vs.length = rs.length → (datVD f vs rs).map (·.1) = vs
  | [], [], _ => rfl
  | [], _ :: _, h => by cases h
  | _ :: _, [], h => by cases h
  | v :: vs, r :: rs, h => by
    show v :: (datVD f vs rs).map (·.1) = _
    rw [datVD_fst (Nat.succ.inj h)]
theorem datVD_len : ∀ {vs : List V} {rs : List α}, (datVD f vs rs).length ≤ vs.length
  | [], _ => Nat.le_refl _
  | _ :: _, [] => Nat.zero_le _
  | v :: vs, r :: rs => Nat.succ_le_succ (datVD_len (vs := vs) (rs := rs))
theorem datVD_mem {R : V → α → Prop} : ∀ {vs : List V} {rs : List α} {x : VD}, All2 R vs rs → x ∈ datVD f vs rs → ∃ r, r ∈ rs ∧ x.2 = f r ∧ R x.1 r
  | [], rs, x, _, hx => by cases hx
  | v :: vs, rs, x, ⟨r, t, e, h1, h2⟩, hx => by
    subst e
    rcases List.mem_cons.mp (show x ∈ (v, f r) :: datVD f vs t from hx) with e | hx
    · subst e
      exact ⟨r, List.mem_cons_self, rfl, h1⟩
    · obtain ⟨q, m, a, b⟩ := datVD_mem h2 hx
      exact ⟨q, List.mem_cons_of_mem _ m, a, b⟩
theorem datVD_ok {R : V → α → Prop} {H : Hp} {vs : List V} {rs : List α} (h : All2 R vs rs) (hd : ∀ v r, R v r → Dq H (f r) v) (ha : ∀ r q : α, alike (f r) (f q) = true) (hn : ∀ r, f r ≠ .none) (hp : ∀ r, (f r).depth ≤ 50) (hl : vs.length ≤ 100000) : DatOk H (datVD f vs rs) := by
  refine ⟨fun x hx => ?_, fun d hd e he => ?_, fun x hx => ?_, fun x hx => ?_, ?_⟩
  · obtain ⟨r, _, e, h1⟩ := datVD_mem h hx
    rw [e]
    exact hd _ _ h1
  · obtain ⟨x, hx, rfl⟩ := List.mem_map.mp hd
    obtain ⟨y, hy, rfl⟩ := List.mem_map.mp he
    obtain ⟨r, _, e1, _⟩ := datVD_mem h hx
    obtain ⟨q, _, e2, _⟩ := datVD_mem h hy
    rw [e1, e2]
    exact ha r q
  · obtain ⟨r, _, e, _⟩ := datVD_mem h hx
    rw [e]
    exact hn r
  · obtain ⟨r, _, e, _⟩ := datVD_mem h hx
    rw [e]
    exact hp r
  · have := datVD_len (f := f) (vs := vs) (rs := rs)
    omega
end
theorem alike_rules (r q : RuleD) : alike (ruleData r) (ruleData q) = true := by
  unfold ruleData
  simp only [alike, alikeAll, alike_strs, Bool.and_self]
theorem depth_rule (r : RuleD) : (ruleData r).depth ≤ 50 := by
  unfold ruleData
  simp [PyData.depth, PyData.depthAll, depth_strs]
theorem rules_vd {H : Hp} {vs : List V} {rs : List RuleD} (h : Rules H vs rs) (hl : vs.length ≤ 1000) : DatOk H (datVD ruleData vs rs) ∧ PySem.W.Sortable ((datVD ruleData vs rs).map (·.2)) := by
  refine ⟨datVD_ok h (fun v r q => q.dq) alike_rules (fun r z => by cases z) depth_rule (by omega), .inl fun d hd => ?_⟩
  obtain ⟨x, hx, rfl⟩ := List.mem_map.mp hd
  obtain ⟨r, _, e, _⟩ := datVD_mem h hx
  exact ⟨_, _, e⟩
theorem sorted_perm (bs : List VD) : ((bs.mergeSort (dataLe false (·.2))).map (·.1)).Perm (bs.map (·.1)) := (List.mergeSort_perm bs _).map _
theorem datVD_zip {α : Type} {f : α → PyData} : ∀ {vs : List V} {rs : List α}, datVD f vs rs = (vs.zip rs).map fun z => (z.1, f z.2)
  | [], rs => by simp [datVD]
  | _ :: _, [] => rfl
  | v :: vs, r :: rs => by
    show (v, f r) :: datVD f vs rs = _
    rw [datVD_zip (vs := vs)]
    rfl
theorem All2.zips {α : Type} {R : V → α → Prop} : ∀ {zs : List (V × α)}, (∀ z ∈ zs, R z.1 z.2) → All2 R (zs.map (·.1)) (zs.map (·.2))
  | [], _ => rfl
  | z :: zs, h => ⟨z.2, zs.map (·.2), rfl, h z List.mem_cons_self, All2.zips fun y hy => h y (List.mem_cons_of_mem _ hy)⟩
theorem All2.zip_in {α : Type} {R : V → α → Prop} : ∀ {vs : List V} {rs : List α}, All2 R vs rs → ∀ z ∈ vs.zip rs, R z.1 z.2
  | [], rs, h, z, hz => by simp at hz
  | v :: vs, rs, h, z, hz => by
    obtain ⟨r, t, rfl, h1, h2⟩ := h
    rcases List.mem_cons.mp (show z ∈ (v, r) :: vs.zip t from hz) with rfl | hz
    · exact h1
    · exact h2.zip_in z hz
/-- sorted rules, and which ones -/
theorem rules_sorted {H : Hp} {us : List V} {rs : List RuleD} (h : Rules H us rs) : Rules H (((datVD ruleData us rs).mergeSort (dataLe false (·.2))).map (·.1)) (sortR rs) := by
  have hl := h.len
  have e1 : ((us.zip rs).mergeSort fun a b => dataLe false ruleData a.2 b.2).map (fun z => (z.1, ruleData z.2)) = (datVD ruleData us rs).mergeSort (dataLe false (·.2)) := by
    rw [datVD_zip]
    exact List.map_mergeSort (r := fun a b : V × RuleD => dataLe false ruleData a.2 b.2) (s := dataLe false fun b : VD => b.2) (f := fun z : V × RuleD => ((z.1, ruleData z.2) : VD)) (l := us.zip rs) fun a _ b _ => rfl
  have e2 : ((us.zip rs).mergeSort fun a b => dataLe false ruleData a.2 b.2).map (·.2) = sortR rs := by
    unfold sortR
    rw [List.map_mergeSort (r := fun a b : V × RuleD => dataLe false ruleData a.2 b.2) (s := dataLe false ruleData) (f := fun z : V × RuleD => z.2) (l := us.zip rs) (fun a _ b _ => rfl), List.map_snd_zip (by omega)]
  rw [← e1, ← e2, List.map_map]
  exact All2.zips fun z hz => h.zip_in z ((List.mergeSort_perm _ _).mem_iff.mp hz)
theorem sortR_perm (rs : List RuleD) : (sortR rs).Perm rs := List.mergeSort_perm _ _
theorem runs_lookup : ∀ {rr : List RunD} {k : Str} {run : List Str}, (rr.map (·.1)).Nodup → (k, run) ∈ rr → rr.lookup k = some run
  | [], _, _, _, h => by cases h
  | (a, m) :: rr, k, run, hn, h => by
    rw [List.map_cons, List.nodup_cons] at hn
    rw [List.lookup_cons]
    rcases List.mem_cons.mp h with e | h
    · cases e
      rw [beq_self_eq_true]
    · rw [show (k == a) = false from beq_eq_false_iff_ne.mpr fun z => hn.1 (by rw [← z]; exact List.mem_map.mpr ⟨_, h, rfl⟩)]
      exact runs_lookup hn.2 h
end Fh
namespace Fh
open PySem PySem.Spec PySem.W PyProof.Rows L2 He
/-! ### a walk over a list or a tuple, whatever is done in it -/
section
variable {K : PySem.W.Frag} {a : Addr} {xs : List V} {B : V → Hp → (Hp → Prop) → Prop} {H0 : Hp} {Qd : Hp → Prop}
theorem lo_list (Pv : Nat → Hp → Prop) (h0 : Pv 0 H0) (hl : ∀ i H, i ≤ xs.length → Pv i H → SqL K H a xs) (hs : ∀ i x H, xs[i]? = some x → Pv i H → B x H (Pv (i + 1))) (hd : ∀ H, Pv xs.length H → Qd H) :
    ∃ W : Nat → Nat → Hp → Prop, (∃ m, W 0 m H0) ∧ ∀ i m H, W i m H → ((Itl K a).stop i H ∧ Qd H) ∨ ((Itl K a).go i H ∧ ∃ Nx : Hp → Prop, (∀ H', Nx H' → ∃ m', m' < m ∧ W (i + 1) m' H') ∧ ∀ x H', (Itl K a).yld i H x H' → B x H' Nx) := by
  refine ⟨fun i m H => m = xs.length - i ∧ i ≤ xs.length ∧ Pv i H, ⟨xs.length, by simp, Nat.zero_le _, h0⟩, ?_⟩
  rintro i m H ⟨rfl, hi, p⟩
  have q := hl i H hi p
  by_cases hlt : i < xs.length
  · refine .inr ⟨⟨_, _, q, List.getElem?_eq_getElem hlt⟩, Pv (i + 1), fun H' p' => ⟨xs.length - (i + 1), by omega, rfl, hlt, p'⟩, fun x H' y => ?_⟩
    obtain ⟨e, y⟩ := y
    subst e
    exact hs i x H' (y _ q) p
  · have e : i = xs.length := by omega
    subst e
    exact .inl ⟨⟨_, q, Nat.le_refl _⟩, hd H p⟩
theorem lo_tup (Pv : Nat → Hp → Prop) (h0 : Pv 0 H0) (hl : ∀ i H, i ≤ xs.length → Pv i H → SqT K H a xs) (hs : ∀ i x H, xs[i]? = some x → Pv i H → B x H (Pv (i + 1))) (hd : ∀ H, Pv xs.length H → Qd H) :
    ∃ W : Nat → Nat → Hp → Prop, (∃ m, W 0 m H0) ∧ ∀ i m H, W i m H → ((Itt K a).stop i H ∧ Qd H) ∨ ((Itt K a).go i H ∧ ∃ Nx : Hp → Prop, (∀ H', Nx H' → ∃ m', m' < m ∧ W (i + 1) m' H') ∧ ∀ x H', (Itt K a).yld i H x H' → B x H' Nx) := by
  refine ⟨fun i m H => m = xs.length - i ∧ i ≤ xs.length ∧ Pv i H, ⟨xs.length, by simp, Nat.zero_le _, h0⟩, ?_⟩
  rintro i m H ⟨rfl, hi, p⟩
  have q := hl i H hi p
  by_cases hlt : i < xs.length
  · refine .inr ⟨⟨_, _, q, List.getElem?_eq_getElem hlt⟩, Pv (i + 1), fun H' p' => ⟨xs.length - (i + 1), by omega, rfl, hlt, p'⟩, fun x H' y => ?_⟩
    obtain ⟨e, y⟩ := y
    subst e
    exact hs i x H' (y _ q) p
  · have e : i = xs.length := by omega
    subst e
    exact .inl ⟨⟨_, q, Nat.le_refl _⟩, hd H p⟩
end
theorem partsOf_snoc (rs : List RuleD) (r : RuleD) (k : Str) : partsOf (rs ++ [r]) k = partsOf rs k ++ (if r.kind = k then r.out.map fun x => (r.name, x) else []) := by
  unfold partsOf
  rw [List.flatMap_append, List.flatMap_cons, List.flatMap_nil, List.append_nil]
theorem partsOf_len {k : Str} : ∀ {rs : List RuleD}, (∀ r ∈ rs, r.out.length ≤ 1000) → (partsOf rs k).length ≤ rs.length * 1000
  | [], _ => Nat.zero_le _
  | r :: rs, h => by
    have ih := partsOf_len (k := k) (rs := rs) fun q hq => h q (List.mem_cons_of_mem _ hq)
    have h1 := h r List.mem_cons_self
    have e : partsOf (r :: rs) k = (if r.kind = k then r.out.map fun x => (r.name, x) else []) ++ partsOf rs k := by
      unfold partsOf
      rw [List.flatMap_cons]
    rw [e, List.length_append, List.length_cons]
    split
    · rw [List.length_map]
      omega
    · rw [List.length_nil]
      omega
end Fh
namespace Fh
open PySem PySem.Spec PySem.W PyProof.Rows L2 He
/-! ### the heap while runs are looked for -/
structure RunsHp (R D Ln Lr : Addr) (vs : List V) (ts : List RuleD) (L : List Str) (H0 : Hp) (N : List Str) (rr : List RunD) (H' : Hp) : Prop where
  same : Same H0 H'
  r : H' R = some (.lst vs)
  rat : Rules H' vs ts
  d : ∃ kvs, H' D = some (.dK kvs) ∧ RunsAt H' kvs rr ∧ ∀ v ∈ kvs.map (·.2), v ≠ .ref Lr ∧ NewV H0 v
  ln : H' Ln = some (.lst (L.map V.str))
  lr : H' Lr = some (.lst (N.map V.str))
  neR : R ≠ Lr
  neN : Ln ≠ Lr
  nD : H0 D = none
  nLr : H0 Lr = none
section
variable {R D Ln Lr : Addr} {vs : List V} {ts : List RuleD} {L N : List Str} {H0 H' H'' : Hp} {rr : List RunD}
theorem RunsHp.up (h : RunsHp R D Ln Lr vs ts L H0 N rr H') (s : Same H' H'') : RunsHp R D Ln Lr vs ts L H0 N rr H'' := by
  obtain ⟨kvs, e, ra, n⟩ := h.d
  exact ⟨h.same.trans s, s _ _ h.r, h.rat.up s, ⟨kvs, s _ _ e, ra.imp fun a xs q => s _ _ q, n⟩, s _ _ h.ln, s _ _ h.lr, h.neR, h.neN, h.nD, h.nLr⟩
theorem RunsHp.add (h : RunsHp R D Ln Lr vs ts L H0 N rr H') {kvs : List (Key × V)} (e : H' D = some (.dK kvs)) {a : Addr} {x : Str} {run : List Str} (ha : a ≠ Lr) (ha0 : H0 a = none) (hv : H' a = some (.lst (run.map V.str))) (hn : x ∉ rr.map (·.1)) :
    RunsHp R D Ln Lr vs ts L H0 (N ++ [x]) (rr ++ [(x, run)]) (upd (upd H' D (.dK (putK kvs (Sum.inr x : Key) (.ref a)))) Lr (.lst (N.map V.str ++ [.str x]))) := by
  obtain ⟨kvs', e', ra, n⟩ := h.d
  have ek : kvs' = kvs := by
    rw [e] at e'
    injection (Option.some.inj e') with z
    exact z.symm
  subst ek
  have dLr : D ≠ Lr := fun z => by
    have q := h.lr
    rw [← z, e] at q
    cases q
  have lst : ∀ b xs, b ≠ Lr → H' b = some (.lst xs) → upd (upd H' D (.dK (putK kvs' (Sum.inr x : Key) (.ref a)))) Lr (.lst (N.map V.str ++ [.str x])) b = some (.lst xs) := fun b xs nb q => by
    rw [upd_ne nb, upd_ne (ne_dict e q)]
    exact q
  have tup : Tups H' (upd (upd H' D (.dK (putK kvs' (Sum.inr x : Key) (.ref a)))) Lr (.lst (N.map V.str ++ [.str x]))) := fun b xs q => by
    rw [upd_ne (fun z => by rw [z, h.lr] at q; cases q), upd_ne (fun z => by rw [z, e] at q; cases q)]
    exact q
  have hnone : valV kvs' (Sum.inr x : Key) = none := by
    have := ra.has x
    cases q : valV kvs' (Sum.inr x : Key) with
    | none => rfl
    | some _ =>
      rw [q] at this
      exact absurd (List.contains_iff_mem.mp this.symm) hn
  refine ⟨same_updX (same_updX h.same h.nD) h.nLr, lst _ _ h.neR h.r, h.rat.ups tup, ⟨putK kvs' (Sum.inr x : Key) (.ref a), by rw [upd_ne dLr, upd_same], ?_, fun v hv2 => ?_⟩, lst _ _ h.neN h.ln, by rw [upd_same, List.map_append]; rfl, h.neR, h.neN, h.nD, h.nLr⟩
  · have r2 : RunsAt (upd (upd H' D (.dK (putK kvs' (Sum.inr x : Key) (.ref a)))) Lr (.lst (N.map V.str ++ [.str x]))) kvs' rr := by
      refine ⟨ra.keys, ?_⟩
      have key : ∀ {us : List V} {qs : List RunD}, All2 (RunAt H') us qs → (∀ v ∈ us, v ≠ .ref Lr) → All2 (RunAt (upd (upd H' D (.dK (putK kvs' (Sum.inr x : Key) (.ref a)))) Lr (.lst (N.map V.str ++ [.str x])))) us qs := by
        intro us
        induction us with
        | nil => exact fun h _ => h
        | cons u us ih =>
          rintro qs ⟨q, t, e1, ⟨b, rfl, h1⟩, h2⟩ hne
          exact ⟨q, t, e1, ⟨b, rfl, lst _ _ (fun z => hne _ List.mem_cons_self (by rw [z])) h1⟩, ih h2 fun v hv => hne v (List.mem_cons_of_mem _ hv)⟩
      exact key ra.vals fun v hv => (n v hv).1
    exact RunsAt.add (q := (x, run)) r2 ⟨a, rfl, lst _ _ ha hv⟩ hn
  · rw [putK_new _ hnone, List.map_append] at hv2
    rcases List.mem_append.mp hv2 with hv2 | hv2
    · exact n v hv2
    · rw [List.mem_singleton.mp hv2]
      exact ⟨fun z => ha (by injection z), fun b z => by injection z with z; rw [← z]; exact ha0⟩
end
/-- what is gone through in a turn: the kinds ahead of i, and of the next one the parts ahead of j -/
def turnOut (ts : List RuleD) (L : List Str) : List Str := L.flatMap fun k => (partsOf ts k).map (·.2)
theorem turnOut_snoc (ts : List RuleD) (L : List Str) (k : Str) : turnOut ts (L ++ [k]) = turnOut ts L ++ (partsOf ts k).map (·.2) := by
  unfold turnOut
  rw [List.flatMap_append, List.flatMap_cons, List.flatMap_nil, List.append_nil]
theorem turnOut_mem {ts : List RuleD} {L : List Str} (x : Str) : x ∈ turnOut ts L ↔ ∃ r ∈ ts, r.kind ∈ L ∧ x ∈ r.out := by
  unfold turnOut
  rw [List.mem_flatMap]
  constructor
  · rintro ⟨k, hk, hx⟩
    obtain ⟨q, hq, rfl⟩ := List.mem_map.mp hx
    obtain ⟨r, hr, rfl, _, ho⟩ := partsOf_mem.mp hq
    exact ⟨r, hr, hk, ho⟩
  · rintro ⟨r, hr, hk, hx⟩
    exact ⟨r.kind, hk, List.mem_map.mpr ⟨(r.name, x), partsOf_mem.mpr ⟨r, hr, rfl, rfl, hx⟩, rfl⟩⟩
theorem reach_perm {rs ts : List RuleD} (h : ∀ r, r ∈ ts ↔ r ∈ rs) {s x : Str} (hR : Reach ts s x) : Reach rs s x := by
  induction hR with
  | refl => exact .refl
  | step _ hr hx ih => exact .step ih ((h _).mp hr) hx
theorem reachIn_perm {rs ts : List RuleD} (h : ∀ r, r ∈ ts ↔ r ∈ rs) {s x : Str} {n : Nat} (hR : ReachIn ts s n x) : ReachIn rs s n x := by
  induction hR with
  | zero => exact .zero
  | succ _ hr hx ih => exact .succ ih ((h _).mp hr) hx
theorem pathR_perm {rs ts : List RuleD} (h : ∀ r, r ∈ ts ↔ r ∈ rs) {s x : Str} {run : List Str} (hR : PathR ts s run x) : PathR rs s run x := by
  induction hR with
  | nil => exact .nil
  | snoc _ hr hx ih => exact .snoc ih ((h _).mp hr) hx
theorem RunsOk.perm {rs ts : List RuleD} (h : ∀ r, r ∈ ts ↔ r ∈ rs) {s : Str} {rr : List RunD} (W : RunsOk ts s rr) : RunsOk rs s rr :=
  ⟨⟨W.about.nodup, fun x => (W.about.all x).trans ⟨reach_perm h, reach_perm fun r => (h r).symm⟩⟩, fun q hq => pathR_perm h (W.path q hq), fun q hq m hR => W.least q hq m (reachIn_perm (fun r => (h r).symm) hR)⟩
/-! ### wiped slots -/
theorem wipe_in {σ : Sto} {j : Nat} : ∀ {vs : List Nat}, j ∈ vs → (wipe σ vs)[j]? = (σ[j]?).map fun _ => none
  | v :: vs, h => by
    show ((wipe σ vs).set v none)[j]? = _
    rw [List.getElem?_set]
    by_cases e : v = j
    · subst e
      rw [if_pos rfl, wipe_length]
      by_cases hl : v < σ.length
      · rw [if_pos hl, List.getElem?_eq_getElem hl]
        rfl
      · rw [if_neg hl, List.getElem?_eq_none (Nat.le_of_not_lt hl)]
        rfl
    · rw [if_neg e]
      exact wipe_in ((List.mem_cons.mp h).resolve_left fun z => e z.symm)
theorem wipe_set {σ : Sto} {i : Nat} {x : Option V} {vs : List Nat} (h : i ∈ vs) : wipe (σ.set i x) vs = wipe σ vs := by
  apply List.ext_getElem?
  intro j
  by_cases hj : j ∈ vs
  · rw [wipe_in hj, wipe_in hj, List.getElem?_set]
    by_cases e : i = j
    · subst e
      rw [if_pos rfl]
      by_cases hl : i < σ.length
      · rw [if_pos hl, List.getElem?_eq_getElem hl]
        rfl
      · rw [if_neg hl, List.getElem?_eq_none (Nat.le_of_not_lt hl)]
    · rw [if_neg e]
  · rw [wipe_out hj, wipe_out hj, List.getElem?_set_ne (fun e : i = j => hj (by rw [← e]; exact h))]
theorem wipe_wipe {σ : Sto} {us : List Nat} : ∀ {vs : List Nat}, (∀ i ∈ vs, i ∈ us) → wipe (wipe σ vs) us = wipe σ us
  | [], _ => rfl
  | v :: vs, h => by
    show wipe ((wipe σ vs).set v none) us = _
    rw [wipe_set (h v List.mem_cons_self), wipe_wipe fun i hi => h i (List.mem_cons_of_mem _ hi)]
theorem wipe1 {σ : Sto} {vs : List Nat} {a : Nat} {x : Option V} (h : a ∈ vs) : wipe ((wipe σ vs).set a x) vs = wipe σ vs := by
  rw [wipe_set h, wipe_wipe fun _ hi => hi]
theorem wipe2 {σ : Sto} {vs : List Nat} {a b : Nat} {x y : Option V} (h : a ∈ vs) (h2 : b ∈ vs) : wipe (((wipe σ vs).set a x).set b y) vs = wipe σ vs := by
  rw [wipe_set h2, wipe1 h]
theorem wipe3 {σ : Sto} {vs : List Nat} {a b c : Nat} {x y z : Option V} (h : a ∈ vs) (h2 : b ∈ vs) (h3 : c ∈ vs) : wipe ((((wipe σ vs).set a x).set b y).set c z) vs = wipe σ vs := by
  rw [wipe_set h3, wipe2 h h2]
theorem wipe4 {σ : Sto} {vs : List Nat} {a b c d : Nat} {x y z w : Option V} (h : a ∈ vs) (h2 : b ∈ vs) (h3 : c ∈ vs) (h4 : d ∈ vs) : wipe (((((wipe σ vs).set a x).set b y).set c z).set d w) vs = wipe σ vs := by
  rw [wipe_set h4, wipe3 h h2 h3]
theorem grow_nodup {F xs : List Str} (hn : F.Nodup) : (grow xs (F, [])).1.Nodup := by
  obtain ⟨t, e, n, _⟩ := grow_ok xs F [] hn
  rw [e]
  exact n
theorem grow_few {F ks xs : List Str} (hn : F.Nodup) (hF : ∀ x ∈ F, x ∈ ks) (hx : ∀ x ∈ xs, x ∈ ks) : (grow xs (F, [])).1.length ≤ ks.length ∧ (grow xs (F, [])).2.length ≤ ks.length ∧ (∀ x ∈ (grow xs (F, [])).2, x ∉ F) := by
  obtain ⟨t, e, n, a, b⟩ := grow_ok xs F [] hn
  rw [e]
  have h1 : (F ++ t).length ≤ ks.length := nodup_len n fun x hm => by
    rcases List.mem_append.mp hm with hm | hm
    · exact hF x hm
    · exact hx x (a x hm)
  refine ⟨h1, ?_, fun x hm hf => (List.nodup_append.mp n).2.2 x hf x hm rfl⟩
  rw [List.length_append] at h1
  show t.length ≤ _
  omega
def lstFlag (σ : Sto) (H : Hp) (i : Nat) : Nat := match σ[i]? with
  | some (some (.ref a)) => if lenAt H a = 0 then 0 else 1
  | _ => 0
theorem lstFlag_eq {σ : Sto} {H : Hp} {i : Nat} {a : Addr} {ls : List V} (hs : σ[i]? = some (some (.ref a))) (h : H a = some (.lst ls)) : lstFlag σ H i = if ls.length = 0 then 0 else 1 := by
  unfold lstFlag
  rw [hs]
  show (if lenAt H a = 0 then 0 else 1) = _
  rw [lenAt_eq h]
end Fh
namespace Fh
open PySem PySem.Spec PySem.W PyProof.Rows L2 He
/-! ### numbers of kinds in a dict -/
def numK (ps : NumsW) : List (Key × V) := ps.map fun p => ((Sum.inr p.1 : Key), V.int (p.2 : Nat))
theorem numK_keys (ps : NumsW) : (numK ps).map (·.1) = (ps.map (·.1)).map Sum.inr := by
  unfold numK
  rw [List.map_map, List.map_map]
  rfl
theorem numK_len (ps : NumsW) : (numK ps).length = ps.length := List.length_map _
theorem numK_has (ps : NumsW) (x : Str) : (valV (numK ps) (Sum.inr x : Key)).isSome = inW ps x := key_some (numK_keys ps) x
theorem numK_at : ∀ (ps : NumsW) (x : Str), valV (numK ps) (Sum.inr x : Key) = (ps.lookup x).map fun n => V.int (n : Nat)
  | [], x => rfl
  | (a, n) :: ps, x => by
    have ih := numK_at ps x
    rw [List.lookup_cons]
    by_cases h : a = x
    · subst h
      rw [show (a == a) = true from beq_self_eq_true a]
      exact valV_pos (p := ((Sum.inr a : Key), V.int (n : Nat))) rfl
    · rw [show (x == a) = false from beq_eq_false_iff_ne.mpr fun e => h e.symm]
      refine Eq.trans (valV_neg (p := ((Sum.inr a : Key), V.int (n : Nat))) (fun z => h (Sum.inr.inj z))) ih
theorem numK_any (ps : NumsW) (x : Str) : ((numK ps).any fun kv => decide (kv.1 = (Sum.inr x : Key))) = inW ps x := by
  rw [← numK_has ps x]
  unfold valV
  rw [Option.isSome_map, Bool.eq_iff_iff, List.find?_isSome, List.any_eq_true]
theorem numK_put (ps : NumsW) (x : Str) (n : Nat) : putK (numK ps) (Sum.inr x : Key) (.int (n : Nat)) = numK (putW ps x n) := by
  unfold putK putW
  rw [numK_any]
  split
  · unfold numK
    rw [List.map_map, List.map_map]
    refine List.map_congr_left fun p _ => ?_
    show (if (Sum.inr p.1 : Key) = Sum.inr x then _ else _) = ((Sum.inr (setW x n p).1 : Key), V.int ((setW x n p).2 : Nat))
    unfold setW
    by_cases h : p.1 = x
    · rw [if_pos h, if_pos (by rw [h])]
    · rw [if_neg h, if_neg fun z => h (Sum.inr.inj z)]
  · unfold numK
    rw [List.map_append]
    rfl
theorem wayFix_kinds {rs : List RuleD} {ks : List Str} (hk : ∀ r ∈ rs, r.kind ∈ ks) : ∀ n, ∀ x ∈ (wayFix rs n []).map (·.1), x ∈ ks := fun n x hx => by
  obtain ⟨m, e⟩ := inW_some (inW_mem.mpr hx)
  have t := wayFix_tree n x m e
  cases t with
  | mk r _ hr _ => exact hk r hr
/-! ### what a law counts -/
structure PlanB (ks : List Str) (rs : List RuleD) : Prop where
  few : ks.length ≤ 40
  kinds : ∀ r ∈ rs, r.kind ∈ ks
  outs : ∀ r ∈ rs, ∀ x ∈ r.out, x ∈ ks
  len : ∀ r ∈ rs, r.out.length ≤ 1000
  rlen : rs.length ≤ 1000
def spLWays : Sp := fun vs H Q _ => ∃ p q ks hs rs, vs = [.ref p] ∧ PlanAt H p q ks hs rs ∧ PlanB ks rs ∧ ∀ D H', Same H H' → H D = none → H' D = some (.dK (numK (wayFix rs (ks.length + 1) []))) → Q (.ref D) H'
/-- the lengths of runs -/
def lensOf (rr : List RunD) : NumsW := rr.map fun q => (q.1, q.2.length)
def spLAbout : Sp := fun vs H Q _ => ∃ p q ks hs rs st, vs = [.ref p, .str st] ∧ PlanAt H p q ks hs rs ∧ PlanB ks rs ∧ st ∈ ks ∧ ∀ D rr H', Same H H' → H D = none → H' D = some (.dK (numK (lensOf rr))) → RunsOk rs st rr → Q (.ref D) H'
def notW (ps : NumsW) : V → Bool
  | .str z => !inW ps z
  | _ => false
theorem notW_empty (ps : NumsW) : ∀ os : List Str, ((os.map V.str).filter (notW ps)).isEmpty = os.all (inW ps)
  | [] => rfl
  | x :: os => by
    have ih := notW_empty ps os
    rw [List.map_cons, List.filter_cons, List.all_cons, ← ih]
    show (if (!inW ps x) = true then _ else _ : List V).isEmpty = _
    cases inW ps x <;> simp
theorem wayStep_ok {ks : List Str} {ps : NumsW} {r : RuleD} (h : (ps.map (·.1)).Nodup ∧ ∀ x ∈ ps.map (·.1), x ∈ ks) (hr : r.kind ∈ ks) : ((wayStep ps r).map (·.1)).Nodup ∧ ∀ x ∈ (wayStep ps r).map (·.1), x ∈ ks := by
  unfold wayStep
  split
  · rw [put_keys]
    split
    · exact h
    · rename_i hk
      refine ⟨List.nodup_append.mpr ⟨h.1, by simp, fun a ha b hb e => hk ?_⟩, fun x hx => ?_⟩
      · rw [inW_mem, ← List.mem_singleton.mp hb, ← e]
        exact ha
      · rcases List.mem_append.mp hx with hx | hx
        · exact h.2 x hx
        · rw [List.mem_singleton.mp hx]; exact hr
  · exact h
theorem wayFold_ok {ks : List Str} : ∀ {rs : List RuleD} {ps : NumsW}, ((ps.map (·.1)).Nodup ∧ ∀ x ∈ ps.map (·.1), x ∈ ks) → (∀ r ∈ rs, r.kind ∈ ks) → ((rs.foldl wayStep ps).map (·.1)).Nodup ∧ ∀ x ∈ (rs.foldl wayStep ps).map (·.1), x ∈ ks
  | [], _, h, _ => h
  | r :: rs, _, h, hr => wayFold_ok (rs := rs) (wayStep_ok h (hr r List.mem_cons_self)) fun q hq => hr q (List.mem_cons_of_mem _ hq)
theorem way_few {ks : List Str} {ps : NumsW} (h : (ps.map (·.1)).Nodup ∧ ∀ x ∈ ps.map (·.1), x ∈ ks) : ps.length ≤ ks.length := by
  have := nodup_len h.1 h.2
  rw [List.length_map] at this
  exact this
theorem numK_get {ps : NumsW} {x : Str} (h : inW ps x = true) : valV (numK ps) (Sum.inr x : Key) = some (.int (atW ps x : Nat)) := by
  obtain ⟨n, e⟩ := inW_some h
  rw [numK_at, e, atW_of e]
  rfl
theorem numK_or (ps : NumsW) (x : Str) (n : Nat) : (valV (numK ps) (Sum.inr x : Key)).getD (.int (n : Nat)) = .int (((ps.lookup x).getD n : Nat) : Int) := by
  rw [numK_at]
  cases ps.lookup x <;> rfl
theorem lensOf_keys (rr : List RunD) : (lensOf rr).map (·.1) = rr.map (·.1) := by
  unfold lensOf
  rw [List.map_map]
  rfl
theorem lensOf_in {rr : List RunD} {G : List Str} (h : rr.map (·.1) = G) (x : Str) : inW (lensOf rr) x = G.contains x := by
  unfold inW
  rw [lensOf_keys, h]
theorem lensOf_put {rr : List RunD} {G : List Str} (h : rr.map (·.1) = G) {x : Str} (hx : x ∉ G) (run : List Str) (nm : Str) : putW (lensOf rr) x (run.length + 1) = lensOf (rr ++ [(x, run ++ [nm])]) := by
  unfold putW
  rw [lensOf_in h, if_neg (fun z => hx (List.contains_iff_mem.mp z))]
  unfold lensOf
  rw [List.map_append]
  show _ ++ [(x, run.length + 1)] = _ ++ [(x, (run ++ [nm]).length)]
  rw [List.length_append]
  rfl
theorem layerOut_snoc (rs : List RuleD) (r : RuleD) (L : List Str) : layerOut (rs ++ [r]) L = layerOut rs L ++ (if L.contains r.kind = true then r.out else []) := by
  unfold layerOut
  rw [List.flatMap_append, List.flatMap_cons, List.flatMap_nil, List.append_nil]
/-- the heap while a law looks for what comes about -/
structure LabHp (D La Lr : Addr) (L : List Str) (H0 : Hp) (N : List Str) (rr : List RunD) (H' : Hp) : Prop where
  same : Same H0 H'
  d : H' D = some (.dK (numK (lensOf rr)))
  la : H' La = some (.lst (L.map V.str))
  lr : H' Lr = some (.lst (N.map V.str))
  ne : La ≠ Lr
  nD : H0 D = none
  nLr : H0 Lr = none
theorem LabHp.up {D La Lr : Addr} {L N : List Str} {H0 H' H'' : Hp} {rr : List RunD} (h : LabHp D La Lr L H0 N rr H') (s : Same H' H'') : LabHp D La Lr L H0 N rr H'' := ⟨h.same.trans s, s _ _ h.d, s _ _ h.la, s _ _ h.lr, h.ne, h.nD, h.nLr⟩
theorem LabHp.add {D La Lr : Addr} {L N : List Str} {H0 H' : Hp} {rr : List RunD} (h : LabHp D La Lr L H0 N rr H') {G : List Str} (hk : rr.map (·.1) = G) {x : Str} (hx : x ∉ G) (run : List Str) (nm : Str) :
    upd H' D (.dK (putK (numK (lensOf rr)) (Sum.inr x : Key) (.int (run.length + 1 : Nat)))) Lr = some (.lst (N.map V.str)) ∧
    LabHp D La Lr L H0 (N ++ [x]) (rr ++ [(x, run ++ [nm])]) (upd (upd H' D (.dK (putK (numK (lensOf rr)) (Sum.inr x : Key) (.int (run.length + 1 : Nat))))) Lr (.lst (N.map V.str ++ [.str x]))) := by
  have dLr : D ≠ Lr := fun z => by
    have q := h.lr
    rw [← z, h.d] at q
    cases q
  refine ⟨by rw [upd_ne (Ne.symm dLr)]; exact h.lr, same_updX (same_updX h.same h.nD) h.nLr, ?_, ?_, by rw [upd_same, List.map_append]; rfl, h.ne, h.nD, h.nLr⟩
  · rw [upd_ne dLr, upd_same, numK_put, lensOf_put hk hx]
  · rw [upd_ne h.ne, upd_ne (ne_dict h.d h.la)]
    exact h.la
end Fh
namespace Fh
open PySem PySem.Spec PyProof.Rows L2 He
/-! ### several clauses 'except X as n', one name for all of them -/
def behindAs (i : Nat) (D : Ends) : Ends := { nx := fun τ G => D.nx (τ.set i none) G, rt := D.rt, bk := fun τ G => D.bk (τ.set i none) G, ct := fun τ G => D.ct (τ.set i none) G }
abbrev Clause : Type := Value × (Addr → Value → Option Addr → TS)
def wishAs (K : PySem.W.Frag) (i : Nat) (Wo : WX) (D : Ends) : List Clause → WX
  | [] => Wo
  | (c, ts) :: more => fun cls d τ G => ∃ yes, PySem.W.exmOne K cls c = some yes ∧ (yes = true → ∀ a, G a = none → ts a cls d (behindAs i D) (τ.set i (some (.ref a))) G) ∧ (yes = false → wishAs K i Wo D more cls d τ G)
inductive ClausesAs (X : Cx) (n : Str) : List ExceptHandler → List Clause → Prop
  | nil : ClausesAs X n [] []
  | cons {x : Str} {c : Value} {ts : Addr → Value → Option Addr → TS} {b0 : Stmt} {rest : List Stmt} {np hp : Pos} {hds : List ExceptHandler} {l : List Clause} (named : Names X x c)
      (suite : ∀ (a : Addr) (oe : Obj) (cls : Value) (d : Option Addr) (pn : List (Addr × Obj)), Zc cls d oe → (∃ fs, oe.data = .fields fs) → PSs (X.suite a ((a, oe) :: pn)) (b0 :: rest) (ts a cls d)) (more : ClausesAs X n hds l) :
      ClausesAs X n (.ExceptHandler (some (.Name x np)) (some n) (b0 :: rest) hp :: hds) ((c, ts) :: l)
section
variable {X : Cx} {n : Str} {i : Nat} {body : List Stmt} {hd0 : ExceptHandler} {hds : List ExceptHandler} {l : List Clause} {pos : Pos} {tb : WX → TS} {Wo : WX}
theorem ps_tryAs (hs : X.stack = X.env :: X.outer) (hf : X.env.frame = some X.env.locals) (hN : X.N.Nodup) (hi : X.N[i]? = some n) (hln : X.env.kindOf n = some .local) (tk : Takes X Wo)
    (hb : ∀ (W : WX) (pn : List (Addr × Obj)) (xe : Value → Shared → Prop), Takes (X.tr pn xe) W → PassesOwn (model X.prog X.w) X.A X.env xe → PSs (X.tr pn xe) body (tb W))
    (hc : ClausesAs X n (hd0 :: hds) l) : PS X (.Try body (hd0 :: hds) [] [] pos) (fun D σ H => tb (wishAs X.K i Wo D l) D σ H) := by
  refine ⟨fun pins s σ H D I h => ?_⟩
  have good := I.ok
  have frames : X.A.frames = some (X.env :: X.outer) := by rw [good.frames, hs]
  have local_ : Loc X.env.scope n := .inl hln
  refine wpAny_Try_except (wpAny_mono ((hb (wishAs X.K i Wo D l) (X.pn ++ pins) (fun e t1 => wpAny (model X.prog X.w) X.A (noteFrame e X.env) (fun _ t2 =>
    wpAny (model X.prog X.w) X.A (setFlight e none) (fun _ t3 => wpAny (model X.prog X.w) X.A (handleBy e X.env (hd0 :: hds)) (SP X pins D) X.xe t3) X.xe t2) X.xe t1)
    (fun u t caught => ?_) PassesOwn.looking).run [] s σ H D (I.toTry _) h) (fun fl t ends => ?_) fun _ _ z => z)
  · obtain ⟨a, B, sI, pins2, τ, G, cls, d, rfl, J0, nb, up, sky, na, os, ag, wish⟩ := caught
    have J : Inv X pins τ G sI := J0.ofTry good
    have sky2 : Sky B (X.env :: X.outer) a (Zc cls d) X.env.locals t.heap := by rw [← hs]; exact sky
    show wpAny (model X.prog X.w) X.A (noteFrame (.ref a) X.env) _ _ _
    refine Sky.land Zc.steady frames hf sky2 fun g3 land3 up3 => ?_
    have K3 : Inv X pins τ G { t with heap := g3 } := J.landed nb land3.1 (up.trans up3) os ag
    obtain ⟨oe3, fs3, at3, zc3, dt3⟩ := land3.there
    have away : a ∉ frs (X.env :: X.outer) := fun hm => by
      obtain ⟨_, o2, e2, hnf⟩ := land3.2.2.1.mem hm
      rw [at3] at e2
      cases e2
      exact hnf _ dt3
    have nL : a ≠ X.env.locals := fun z => away (List.mem_filterMap.mpr ⟨X.env, List.mem_cons_self, by rw [hf, z]⟩)
    have nF : a ∉ X.fs := fun hm => by
      obtain ⟨e, he, q⟩ := List.mem_filterMap.mp hm
      exact away (List.mem_filterMap.mpr ⟨e, List.mem_cons_of_mem _ he, q⟩)
    have S3 := K3.suite at3 dt3 na nL nF
    have go : ∀ {hs2 : List ExceptHandler} {l2 : List Clause}, ClausesAs X n hs2 l2 → wishAs X.K i Wo D l2 cls d τ G → wpAny (model X.prog X.w) X.A (handleBy (.ref a) X.env hs2) (SP X pins D) X.xe { t with heap := g3 } := by
      intro hs2 l2 cl
      induction cl with
      | nil =>
        intro wish2
        refine wpAny_handleBy_nil ?_
        obtain ⟨_, _, _, oe, fs, T, oT, _, at_, zc, dt, trace, _⟩ := id land3
        unfold PySem.passOn
        refine wpAny_bind (wpAny_field at_ dt trace ?_)
        rw [if_neg (show ¬ ((Value.ref T == Value.none) = true) from by simp)]
        have out : wpAny (model X.prog X.w) X.A (setFlight (.ref a) X.env.frame) (fun _ t4 => wpAny (model X.prog X.w) X.A (throw (.ref a) : Sem Flow) (SP X pins D) X.xe t4) X.xe { t with heap := g3 } := by
          rw [hf]
          exact HandSPX.setFlight_upZ land3 fun g4 sky4 up4 => wpAny_throw (tk _ _ ⟨a, B, sI, pins, τ, G, cls, d, rfl, J, nb, (up.trans up3).trans up4, .inr (.inr (by rw [hs]; exact sky4)), na, os, ag, wish2⟩)
        first
          | exact wpAny_bind (wpAny_pure (wpAny_bind out))
          | exact wpAny_bind out
      | @cons x c ts b0 rest np hp hds2 l3 named suite more ih =>
        rintro ⟨yes, is, onYes, onNo⟩
        refine wpAny_handleBy_cons (codeAny_handlers_test ?_) (by intro q; cases q)
        have looks : PySem.W.Looks (model X.prog X.w) g3 (typeOf (.ref a)) cls := fun A Q E u keep q => wpAny_typeOf_ref (keep _ _ at3) (by rw [zc3.1]; exact q)
        have same := PySem.W.exm_one (M := model X.prog X.w) K3.kIn looks is
        have ask : ∀ {Q E : Value → Shared → Prop}, Q c { t with heap := g3 } → wpAny (model X.prog X.w) (X.A.mark (some (.ref a))) (eval (.Name x np) X.env) Q E { t with heap := g3 } := fun {Q E} q => by
          obtain ⟨hg, hdbg, hm | ⟨hm, hv, hnn⟩⟩ := named
          · exact ld_glob (X := X.suite a ((a, oe3) :: (X.pn ++ pins))) S3 hg hm q hdbg
          · exact ld_blt (X := X.suite a ((a, oe3) :: (X.pn ++ pins))) S3 hg hm hv q hnn hdbg
        refine ask (same.here ?_)
        cases yes with
        | true =>
          refine codeAny_handlers_suite_as (HandSPX.lands_againZ land3 fun g4 land4 up4 => ?_)
          have K4 : Inv X pins τ G { t with heap := g4 } := J.landed nb land4.1 ((up.trans up3).trans up4) os ag
          obtain ⟨oe4, fs4, at4, zc4, dt4⟩ := land4.there
          refine store_ok (X := X.suite a ((a, oe4) :: (X.pn ++ pins))) (v := .ref a) (K4.suite at4 dt4 na nL nF) hN hi local_ rfl (fun t5 S5 => ?_) (.inr hln)
          refine wpAny_mono ((suite a oe4 cls d (X.pn ++ pins) zc4 ⟨_, dt4⟩).run [] t5 _ G _ S5 (onYes rfl a na)) (fun fl t6 ends => ?_) (fun _ _ z => False.elim z)
          have leave : ∀ {τ6 : Sto} {G6 : Hp} {Q : Shared → Prop}, Inv (X.suite a ((a, oe4) :: (X.pn ++ pins))) [] τ6 G6 t6 → (∀ t7, Inv X pins (τ6.set i none) G6 t7 → Q t7) →
              wpAny (model X.prog X.w) X.A (do bindName X.env n .none; unbindBehindTheSuite X.env n hp) (fun _ t7 => Q t7) X.xe t6 := fun {τ6 G6 Q} S6 q => gone_ok (S6.unsuite good) hN hi hln q
          cases fl with
          | next => exact let ⟨τ6, G6, S6, q⟩ := ends; leave S6 fun t7 J7 => ⟨_, _, J7, q⟩
          | brk => exact let ⟨τ6, G6, S6, q⟩ := ends; leave S6 fun t7 J7 => ⟨_, _, J7, q⟩
          | cont => exact let ⟨τ6, G6, S6, q⟩ := ends; leave S6 fun t7 J7 => ⟨_, _, J7, q⟩
          | ret u => exact let ⟨v6, τ6, G6, S6, r6, q⟩ := ends; leave S6 fun t7 J7 => ⟨_, _, _, J7, r6, q⟩
        | false =>
          show wpAny _ X.A (handleBy (.ref a) X.env hds2) _ _ _
          exact ih (onNo rfl)
    exact go hc wish
  · cases fl with
    | next => exact let ⟨τ, G, J, q⟩ := ends; wpAny_execs_nil ⟨τ, G, J.ofTry good, q⟩
    | brk => exact let ⟨τ, G, J, q⟩ := ends; ⟨τ, G, J.ofTry good, q⟩
    | cont => exact let ⟨τ, G, J, q⟩ := ends; ⟨τ, G, J.ofTry good, q⟩
    | ret u => exact let ⟨v, τ, G, J, r, q⟩ := ends; ⟨v, τ, G, J.ofTry good, r, q⟩
end
/-! ### e.f in such a suite -/
def tExS (C a : Addr) (cls : Value) (d : Option Addr) (f : Str) (te : TE) : TE := fun σ H Q => te σ H fun x H1 => x = .ref a ∧ cls = .ref C ∧ ∃ dx y, d = some dx ∧ H1 dx = some (exd dx [(f, y)]) ∧ Q y H1
theorem pe_exS {X : Cx} {C a : Addr} {oe : Obj} {cls : Value} {d : Option Addr} {pn : List (Addr × Obj)} {e : Expr} {f : Str} {te : TE} {pos : Pos} (T : XfC X.K C) (hno : PySem.W.findIn X.K (.ref C) f = some none) (hz : Zc cls d oe) (hf : ∃ fs, oe.data = .fields fs)
    (he : PE (X.suite a ((a, oe) :: pn)) e te) (hb : attributeBase e f X.env (eval e X.env) = eval e X.env := by rfl) : PE (X.suite a ((a, oe) :: pn)) (.Attribute e f pos) (tExS C a cls d f te) := by
  refine ⟨fun pins s σ H Q I h => attr_of hb (thn (he.run pins s σ H _ I h) fun u s1 read => ?_)⟩
  obtain ⟨x, H1, I1, rx, ex, ec, dx, y, ed, hd, q⟩ := read
  subst ex ec ed
  cases rx
  obtain ⟨held, _⟩ := I1.pin (a, oe) (List.mem_append_left _ List.mem_cons_self)
  obtain ⟨fs, dat⟩ := hf
  obtain ⟨mA, hns, rel⟩ := exd_at I1.hok hd
  obtain ⟨od, hod, hl⟩ := lookIn_ns hns
  have look : ([(f, y)] : List (Str × V)).lookup f = some y := by simp [List.lookup]
  obtain ⟨u, hu, ru⟩ := RelO.some_of (v := y) (o := mA f) (by rw [← look]; exact rel f)
  have inst : PySem.W.InstAt s1.heap a oe C (some od) := ⟨held, hz.1, by unfold PySem.W.notCls; rw [dat] <;> rfl, by rw [hz.2]; exact hod⟩
  exact PySem.HandSPX.exc_get I1.kIn inst T.ga T.gg T.exC (PySem.W.findObj_own T.hdC hno rfl (by rw [hl, hu])) (handed_of ru) ⟨y, H1, I1.tok _, ru, q⟩
end Fh
namespace Fh
open PySem PySem.Spec PyProof.Rows L2 He LamX
/-! ### a lambda's call, told of the very slots at which it is caught -/
section
variable {X : Cx} {pins : List (Addr × Obj)} {σ : Sto} {H : Hp} {s : Shared}
theorem pe_actS {CXg : CXT} {Eg : XK} {Ng : List Str} {qg a : Str} {sg scope : Scope} {g f c' : Addr} {cdg pm ctv : Value} {params : Arguments} {body : Expr} {k i : Nat} {pn : List (Addr × Obj)} {xe : Value → Shared → Prop} {W : WX} {tb : XK → TE} {p1 p2 : Pos}
    (I : Inv X pins σ H s) (L : LamS X.env.scope scope) (made : s.heap.get? f = some (PySem.W.kla_obj "<lambda>" (X.env.qual ++ "<lambda>") params body scope (cloFrom X.env.cells scope.names []) pm c' ctv)) (new : H f = none) (away : f ∉ frs X.stack)
    (bind0 : bindArgs (PySem.W.kla_fn "<lambda>" (X.env.qual ++ "<lambda>") params body scope (cloFrom X.env.cells scope.names []) pm (.ref c') ctv) ⟨[], []⟩ = pure [])
    (tk : Takes ((cxOf CXg X.prog X.w X.K X.mg X.base Ng qg sg g cdg X.A X.stack s H Eg).tr pn xe) W) (hr : Room (k + 1) (X.A.deeper (envOfC qg sg s.heap.objs.size g cdg)))
    (inside : ∀ (E : XK) (A : Around) (outer : List Env) (s : Shared) (H : Hp), Room k (A.deeper (lamEnv X scope s.heap.objs.size f c')) → PE (lamCx X A outer s H E scope f c') body (tb E))
    (hN : Ng[i]? = some a) (hv : Vis sg a) (hd : (a == ("__debug__" : Str)) = false := by decide) (hcd : (a == ("__classdict__" : Str)) = false := by decide) :
    PE ((cxOf CXg X.prog X.w X.K X.mg X.base Ng qg sg g cdg X.A X.stack s H Eg).tr pn xe) (.Call (.Name a p1) [] [] p2) (fun τ G Q => τ[i]? = some (some (.ref f)) ∧ G c' = some (CodeO c' (X.env.qual ++ "<lambda>")) ∧ tb (WE W τ) σ G Q) := by
  refine ⟨fun pins2 s2 τ G Q J ⟨slot, code, ask⟩ => ?_⟩
  refine wpAny_Call_Name_kw (thn ((pe_var (pos := p1) (i := i) hN hv hd hcd).run pins2 s2 τ G (fun v G1 => v = .ref f ∧ G1 = G) J ⟨.ref f, slot, rfl, rfl⟩) fun u s3 ⟨v, G1, J1, rel, ev, eG⟩ => ?_)
  subst ev
  rw [eG] at J1
  obtain rfl : u = Value.ref f := rel
  have there : s3.heap.get? f = some (PySem.W.kla_obj "<lambda>" (X.env.qual ++ "<lambda>") params body scope (cloFrom X.env.cells scope.names []) pm c' ctv) := J1.base.keep f _ made new away (fun z => nomatch (show f ∈ ([] : List Addr) from z))
  have gone : Un (frs X.stack) [] H G s.heap s3.heap := J1.base
  obtain ⟨⟨oc, fs, t, atC, dtC, nmC⟩, _, _⟩ := J1.hok c' _ code
  refine PySem.W.callWith_F0 ⟨_, _, _, _, there⟩ (wpAny_call (codeAny_mono (?_ : codeAny (model X.prog X.w) (X.A.deeper (envOfC qg sg s.heap.objs.size g cdg)) (.call (.ref f) ⟨[], []⟩)
    (CR (L2.CX X.prog X.w) (envOfC qg sg s.heap.objs.size g cdg :: X.stack) X.prog X.w G s3 Q (WE W τ)) s3) fun r s4 hq => ?_))
  · refine PySem.W.kla_callFunE hr.depth there rfl L.co L.gen rfl ⟨c', oc, fs, t, rfl, atC, dtC, nmC⟩ ?_
    rw [bind0]
    refine wpAny_pure (wpAny_newFunctionEnv (fun y hy => (L.own y hy).2) (fun y hy => absurd hy (by simp)) (fun h1 names same => ⟨J1.nolimit.fresh _ same, ?_⟩) L.kind)
    show codeAny _ _ (.expr body (lamEnv X scope s3.heap.objs.size f c')) _ _
    have kept : ∀ b o, s3.heap.get? b = some o → h1.get? b = some o := fun b o e => same.extBut b o (Nat.ne_of_lt (Heap.lt_size e)) (Heap.get?_push_of_some _ e)
    have I0 : Inv (lamCx X (X.A.deeper (envOfC qg sg s.heap.objs.size g cdg)) (envOfC qg sg s.heap.objs.size g cdg :: X.stack) s3 G (WE W τ) scope f c') [] σ G { s3 with heap := h1, toks := s3.toks + ([] : List (Str × Value)).length } :=
      lam_start2 I L J1.env0 hr.hd gone names kept
    refine PySem.W.kla_codeExpr (wpAny_mono ((inside (WE W τ) _ _ s3 G (hr.deeper _)).run [] _ _ G Q I0 ask) (fun v s5 ⟨x, G5, J5, rv, q⟩ => ⟨x, G5, J5.os, J5.bare, J5.base, J5.hok, rv, q⟩) fun e s5 hq => hq)
  · have way := passAt (X := (cxOf CXg X.prog X.w X.K X.mg X.base Ng qg sg g cdg X.A X.stack s H Eg).tr pn xe) tk τ
    cases r with
    | error e => exact way pins2 G s3 e s4 J1 hq
    | ok fl =>
      cases fl with
      | ret u => exact J1.after hq
      | next => exact False.elim hq
      | brk => exact False.elim hq
      | cont => exact False.elim hq
end
/-- the def that calls what it is handed, by its name a -/
def GivesS (X : Cx) (Ng : List Str) (x : Str) (sg : Scope) (g : Addr) (cdg : Value) (bg : List Stmt) (a : Str) (q : Str) (TT : (XK → Hp → VK → Prop) → Hp → VK → Prop) : Prop :=
  ∀ (f c' : Addr) (s : Shared) (H : Hp) (Q : VK) (tl : XK → Hp → VK → Prop),
    (∀ (W : WX) (pn : List (Addr × Obj)) (xe : Value → Shared → Prop) (p1 p2 : Pos), Takes ((cxOf C8.CX0 X.prog X.w X.K X.mg X.base Ng x sg g cdg X.A X.stack s H C8.E0).tr pn xe) W →
      PE ((cxOf C8.CX0 X.prog X.w X.K X.mg X.base Ng x sg g cdg X.A X.stack s H C8.E0).tr pn xe) (.Call (.Name a p1) [] [] p2) (fun τ G Q => τ[0]? = some (some (.ref f)) ∧ G c' = some (CodeO c' q) ∧ tl (WE W τ) G Q)) →
    H c' = some (CodeO c' q) → TT tl H Q →
    ∃ t, PSs (cxOf C8.CX0 X.prog X.w X.K X.mg X.base Ng x sg g cdg X.A X.stack s H C8.E0).nox bg t ∧ t { nx := fun _ G => Q .non G, rt := Q } (L2.start Ng [.ref f]) H
section
variable {X : Cx}
/-- x(lambda: body) -/
theorem pe_lamS {T : List (Addr × Str)} {TT : (XK → Hp → VK → Prop) → Hp → VK → Prop} {x a : Str} {g c P : Addr} {k : Nat} {pg : Arguments} {bg : List Stmt} {sg scope : Scope} {dV kV doc pm cdv ct oc : Value} {an od : Option Addr} {osl : Array (Option Value)} {Ng : List Str}
    {params : Arguments} {body : Expr} {t : XK → TE} {p lpos pos : Pos} (hg : Gl X x) (hm : X.mg x = some (.ref g)) (hk : PySem.W.keepIn X.K (.ref g) = true)
    (at_ : X.K.lookup g = some ⟨oc, od, .func (PySem.W.fnOf x x pg bg sg dV kV doc pm an cdv ct), osl⟩) (cod : PySem.W.codeIn X.K cdv x = true) (hb : L2.Binds X.K (PySem.W.fnOf x x pg bg sg dV kV doc pm an cdv ct) [a] []) (Sg : FnScope Ng [a] sg) (hNg : Ng[0]? = some a) (hva : Vis sg a)
    (gives : GivesS X Ng x sg g cdv bg a (X.env.qual ++ "<lambda>") TT) (TB : TabB X.base X.mg c P) (mine : X.env.code = .ref c) (hmT : (P, X.env.qual ++ "<lambda>") ∈ T) (hu : ∀ p ∈ T, p.1 = P → p.2 = X.env.qual ++ "<lambda>")
    (hr : Room (k + 2) X.A) (L : LamS X.env.scope scope) (noD : defaultsOf params X.env = ([], [])) (bind0 : ∀ (q : Str) (cl : List (Str × Addr)) (pm cv ctv : Value), bindArgs (PySem.W.kla_fn "<lambda>" q params body scope cl pm cv ctv) ⟨[], []⟩ = pure [])
    (inside : ∀ (E : XK) (A : Around) (outer : List Env) (s : Shared) (H : Hp) (f c' : Addr), Room k (A.deeper (lamEnv X scope s.heap.objs.size f c')) → PE (lamCx X A outer s H E scope f c') body (t E))
    (hdb : (x == ("__debug__" : Str)) = false := by decide) (hd : (a == ("__debug__" : Str)) = false := by decide) (hcd : (a == ("__classdict__" : Str)) = false := by decide) :
    PE X (.Call (.Name x p) [.Lambda params body scope lpos] [] pos) (tLam T TT t) := by
  refine ⟨fun pins s σ H Q I ⟨tabs, ask⟩ => wpAny_Call_Name_kw (ld_glob I hg hm ?_ hdb)⟩
  refine PySem.W.callWith_K (h₀ := X.base) I.ok.mod.kin hk ?_ (by rfl) (by rfl)
  show wpAny _ _ (spliced ((false, eval (.Lambda params body scope lpos) X.env) :: backTo pos (starEach [] X.env))) _ _ s
  refine Calls.spliced_cons (lam_make2 I TB mine hmT hu tabs noD (L.has I.ok) fun f c' pm' ctv H1 s1 I1 ext tabs1 made new away code => ?_)
  refine Calls.spliced_nil ⟨I1.kIn, wpAny_call (codeAny_mono (?_ : codeAny (model X.prog X.w) X.A (.call (.ref g) ⟨[.ref f], []⟩) (CR C8.CX0 X.stack X.prog X.w H1 s1 Q C8.E0) s1) fun r s2 hq => ?_)⟩
  · refine run_ofS (N := Ng) (ps := [a]) (us := [.ref f]) (vs := [.ref f]) at_ cod Sg hr I1.env0 (hb s1 [.ref f] I1.kIn rfl) (.cons rfl .nil) rfl fun deep => ?_
    obtain ⟨t2, ht, hq⟩ := gives f c' s1 H1 Q (fun E G Q2 => t E σ G Q2) (fun W pn xe p1 p2 tk => pe_actS (i := 0) I1 L made new away (bind0 _ _ _ _ _) tk deep (fun E A outer s H hr2 => inside E A outer s H f c' hr2) hNg hva hd hcd) code (ask H1 ext tabs1)
    exact ⟨t2, ht.nox, hq⟩
  · cases r with
    | error e => exact (show False from hq).elim
    | ok fl =>
      cases fl with
      | ret u => exact I1.after hq
      | next => exact False.elim hq
      | brk => exact False.elim hq
      | cont => exact False.elim hq
end
end Fh
namespace Fh
open PySem PySem.Spec PyProof.Rows L2 He LamX
/-- what a law finds of a call that may be refused: [], or a word and the value -/
def RefE (K : PySem.W.Frag) (x f word : Str) (Q : VK) : XK := fun cls d H => cls = .ref (ga K x) ∧ ∃ dx y, d = some dx ∧ H dx = some (exd dx [(f, y)]) ∧ ∀ l, H l = none → Q (.ref l) (upd H l (.lst [.str word, y]))
def TTR (K : PySem.W.Frag) (x f word : Str) : (XK → Hp → VK → Prop) → Hp → VK → Prop := fun tl H Q =>
  ∀ (l : Addr) (E2 : XK) (Q2 : VK), H l = none → (∀ cls d G, RefE K x f word Q cls d G → E2 cls d G) → (∀ v G, Q (.ref l) G → Q2 v G) → tl E2 (upd H l (.lst [])) Q2
end Fh
namespace Fh
open PySem PySem.Spec PyProof.Rows L2 He
/-! ### f(k = v, ..): keywords alone -/
def tCallK0 (sp : Sp) (gV : List V → List V → List V) (E : XK) (tk : TA) : TE := fun σ H Q => tk σ H fun zs H2 => sp (gV [] zs) H2 Q E
section
variable {X : Cx} {CX : CXT} {k : Nat} {f : Addr} {fd : FuncData} {ps ks : List Str} {sp : Sp} {E : XK} {x : Str} {p pos : Pos} {kws : List Keyword} {tk : TA} {g : List Value → List Value → List Value} {gV : List V → List V → List V}
theorem pe_callK0 (F : FnOk X.prog X.w X.K X.mg X.base CX k f fd ps sp) (hr : Room k X.A) (hg : Gl X x) (hm : X.mg x = some (.ref f)) (hk : PySem.W.keepIn X.K (.ref f) = true) (hb : KBinds X.K fd ps ks g gV) (hx : Passes CX X E) (hkw : PK X kws tk)
    (hall : (backToKw pos (keywordEach kws X.env)).all (·.1.isSome) = true := by rfl) (hks : (backToKw pos (keywordEach kws X.env)).filterMap (·.1) = ks := by rfl) (hdb : (x == ("__debug__" : Str)) = false := by decide)
    (hpl : ((backTo pos (starEach [] X.env)).any (·.1) || (backToKw pos (keywordEach kws X.env)).any (·.1.isNone)) = false := by rfl) : PE X (.Call (.Name x p) [] kws pos) (tCallK0 sp gV E tk) := by
  refine ⟨fun pins s σ H Q I h => wpAny_Call_Name_kw (ld_glob I hg hm ?_ hdb)⟩
  refine PySem.W.callWith_KW0 (h₀ := X.base) I.ok.mod.kin hk hall (thn (hkw.run pos pins s σ H _ I h) fun ws s2 ⟨zs, H2, I2, rz, q2⟩ => ?_) hpl
  rw [hks]
  exact ⟨I2.kIn, run_fnk (us := []) F hr hb hx I2 .nil rz q2⟩
end
/-- one parameter, by its name -/
def kw1 {α : Type} : List α → List α → List α
  | [], [b] => [b]
  | _, _ => []
/-- two, the second one first -/
def kw2 {α : Type} : List α → List α → List α
  | [], [b, a] => [a, b]
  | _, _ => []
section
variable {K : PySem.W.Frag} {fd : FuncData} {p q : Str}
theorem kbinds1 (h : ∀ b : Value, bindArgs fd ⟨[], [(p, b)]⟩ = pure [(p, b)]) : KBinds K fd [p] [p] kw1 kw1 := by
  refine ⟨fun s us ws _ hl => ?_, fun {vs us zs ws} r rz => ?_⟩
  · match us, ws, hl with
    | [], [b], _ => exact .of_eq (h b)
    | [], [], hl => cases hl
    | [], _ :: _ :: _, hl => cases hl
    | _ :: _, _, hl => cases hl
  · cases r with
    | nil =>
      cases rz with
      | nil => exact .nil
      | cons r1 r2 =>
        cases r2 with
        | nil => exact .cons r1 .nil
        | cons _ _ => exact .nil
    | cons _ _ => exact .nil
theorem kbinds2 (h : ∀ a b : Value, bindArgs fd ⟨[], [(q, b), (p, a)]⟩ = pure [(p, a), (q, b)]) : KBinds K fd [p, q] [q, p] kw2 kw2 := by
  refine ⟨fun s us ws _ hl => ?_, fun {vs us zs ws} r rz => ?_⟩
  · match us, ws, hl with
    | [], [b, a], _ => exact .of_eq (h a b)
    | [], [], hl => cases hl
    | [], [_], hl => cases hl
    | [], _ :: _ :: _ :: _, hl => cases hl
    | _ :: _, _, hl => cases hl
  · cases r with
    | nil =>
      cases rz with
      | nil => exact .nil
      | cons r1 r2 =>
        cases r2 with
        | nil => exact .nil
        | cons r3 r4 =>
          cases r4 with
          | nil => exact .cons r3 (.cons r1 .nil)
          | cons _ _ => exact .nil
    | cons _ _ => exact .nil
theorem FunD.kbinds1 {x qual : Str} {params : Arguments} {body : List Stmt} {scope : Scope} {f : Addr} (F : FunD K x qual params body scope [] [] f fd)
    (h : ∀ (kV doc pm : Value) (an : Option Addr) (cdv ct : Value) (b : Value), bindArgs (PySem.W.fnOf x qual params body scope .none kV doc pm an cdv ct) ⟨[], [(p, b)]⟩ = pure [(p, b)]) : KBinds K fd [p] [p] kw1 kw1 := by
  obtain ⟨oc, od, dV, kV, doc, pm, an, cdv, ct, osl, rfl, lk, hcd, hD, hK⟩ := F.ex
  rcases hD with ⟨_, rfl⟩ | ⟨e, _⟩
  · exact Fh.kbinds1 (h kV doc pm an cdv ct)
  · exact absurd rfl e
theorem FunD.kbinds2 {x qual : Str} {params : Arguments} {body : List Stmt} {scope : Scope} {f : Addr} (F : FunD K x qual params body scope [] [] f fd)
    (h : ∀ (kV doc pm : Value) (an : Option Addr) (cdv ct : Value) (a b : Value), bindArgs (PySem.W.fnOf x qual params body scope .none kV doc pm an cdv ct) ⟨[], [(q, b), (p, a)]⟩ = pure [(p, a), (q, b)]) : KBinds K fd [p, q] [q, p] kw2 kw2 := by
  obtain ⟨oc, od, dV, kV, doc, pm, an, cdv, ct, osl, rfl, lk, hcd, hD, hK⟩ := F.ex
  rcases hD with ⟨_, rfl⟩ | ⟨e, _⟩
  · exact Fh.kbinds2 (h kV doc pm an cdv ct)
  · exact absurd rfl e
end
/-! ### data of plans -/
def namesD (ks : List Str) : PyData := .list (ks.map .str)
def planD (ks hs : List Str) (rs : List RuleD) (st : Str) (c : Int) : PyData := .list [namesD ks, namesD hs, .list (rs.map ruleData), .str st, .int c]
theorem strs_lay {os : List Str} (h : ∀ x ∈ os, PyData.strOk x = true) : PyData.canLayAll0 (os.map .str) = true := by
  induction os with
  | nil => simp [PyData.canLayAll0]
  | cons x os ih =>
    rw [List.map_cons, PyData.canLayAll0, ih fun y hy => h y (List.mem_cons_of_mem _ hy), PyData.canLay0, h x List.mem_cons_self]
    rfl
theorem names_lay {ks : List Str} (h : ∀ x ∈ ks, PyData.strOk x = true) : (namesD ks).canLay0 = true := by
  unfold namesD
  rw [PyData.canLay0, strs_lay h]
theorem pool_ok : ∀ x ∈ pool, PyData.strOk x = true := by decide +kernel
theorem letter_ok : ∀ x ∈ letters16, PyData.strOk x = true := by decide +kernel
theorem rules_lay : ∀ {rs : List RuleD}, (∀ r ∈ rs, PyData.strOk r.name = true ∧ PyData.strOk r.kind = true ∧ ∀ x ∈ r.out, PyData.strOk x = true) → PyData.canLayAll0 (rs.map ruleData) = true
  | [], _ => by simp [PyData.canLayAll0]
  | r :: rs, h => by
    obtain ⟨h1, h2, h3⟩ := h r List.mem_cons_self
    rw [List.map_cons, PyData.canLayAll0, rules_lay fun q hq => h q (List.mem_cons_of_mem _ hq)]
    unfold ruleData
    simp [PyData.canLay0, PyData.canLayAll0, h1, h2, strs_lay h3]
theorem depth_names (ks : List Str) : (namesD ks).depth ≤ 1 := by
  unfold namesD
  simp [PyData.depth, depth_strs]
theorem depth_rules : ∀ rs : List RuleD, PyData.depthAll (rs.map ruleData) ≤ 2
  | [] => by simp [PyData.depthAll]
  | r :: rs => by
    have h := depth_rules rs
    rw [List.map_cons]
    simp only [PyData.depthAll]
    have h2 : (ruleData r).depth ≤ 2 := by
      unfold ruleData
      simp [PyData.depth, PyData.depthAll, depth_strs]
    omega
theorem plan_strs {ks hs : List Str} {rs : List RuleD} {st : Str} {c : Int} (h : PlanOk ks hs rs st c) : (∀ x ∈ ks, PyData.strOk x = true) ∧ (∀ x ∈ hs, PyData.strOk x = true) ∧ PyData.strOk st = true ∧ ∀ r ∈ rs, PyData.strOk r.name = true ∧ PyData.strOk r.kind = true ∧ ∀ x ∈ r.out, PyData.strOk x = true := by
  have hk : ∀ x ∈ ks, PyData.strOk x = true := fun x hx => pool_ok x (h.pool x hx)
  exact ⟨hk, fun x hx => hk x (h.hsub x hx), hk _ h.start, fun r hr => ⟨letter_ok _ (h.rules.letters r hr), hk _ (h.rules.each r hr).1, fun x hx => hk x ((h.rules.each r hr).2.1 x hx)⟩⟩
theorem plan_shaped {ks hs : List Str} {rs : List RuleD} {st : Str} {c : Int} (h : PlanOk ks hs rs st c) : SeqAt.shaped (planD ks hs rs st c) = true := by
  obtain ⟨h1, h2, h3, h4⟩ := plan_strs h
  unfold SeqAt.shaped planD
  have d1 := depth_names ks
  have d2 := depth_names hs
  have d3 := depth_rules rs
  refine Bool.and_eq_true_iff.mpr ⟨?_, decide_eq_true ?_⟩
  · simp [PyData.canLay0, PyData.canLayAll0, names_lay h1, names_lay h2, rules_lay h4, h3]
  · simp only [PyData.depth, PyData.depthAll]
    omega
theorem shaped_refl {d : PyData} (h : SeqAt.shaped d = true) : PyData.eqv d d = true := PySem.SeqAt.eqv_refl d (Bool.and_eq_true_iff.mp h).1
theorem dq_names {H : Hp} {a : Addr} {ks : List Str} (h : H a = some (.lst (ks.map V.str))) (n : a ≠ sysModules) : Dq H (namesD ks) (.ref a) := by
  unfold namesD
  simp only [Dq]
  exact ⟨a, _, rfl, n, h, strs_dq ks⟩
theorem dq_rules {H : Hp} {a : Addr} {us : List V} {rs : List RuleD} (h : H a = some (.lst us)) (n : a ≠ sysModules) (hU : Rules H us rs) : Dq H (.list (rs.map ruleData)) (.ref a) := by
  simp only [Dq]
  exact ⟨a, _, rfl, n, h, hU.dq⟩
theorem dq_plan {H : Hp} {p a b c : Addr} {us : List V} {ks hs : List Str} {rs : List RuleD} {st : Str} {n : Int} (h : H p = some (.lst [.ref a, .ref b, .ref c, .str st, .int n])) (hp : p ≠ sysModules) (h1 : H a = some (.lst (ks.map V.str))) (n1 : a ≠ sysModules)
    (h2 : H b = some (.lst (hs.map V.str))) (n2 : b ≠ sysModules) (h3 : H c = some (.lst us)) (n3 : c ≠ sysModules) (hU : Rules H us rs) : Dq H (planD ks hs rs st n) (.ref p) := by
  unfold planD
  simp only [Dq, DqAll]
  exact ⟨p, _, rfl, hp, h, _, _, rfl, dq_names h1 n1, _, _, rfl, dq_names h2 n2, _, _, rfl, (by simpa only [Dq] using dq_rules h3 n3 hU), _, _, rfl, rfl, _, _, rfl, rfl, rfl⟩
def spKept (C : Addr) : Sp := fun vs H Q _ => ∃ p pl q ks hs rs st c, vs = [.ref p, .ref pl] ∧ BookAt C H p ks hs rs st c ∧ PlanAt H pl q ks hs rs ∧ q.s = .str st ∧ q.c = .int c ∧ Sys H ∧ SeqAt.shaped (planD ks hs rs st c) = true ∧ ∀ H', Same H H' → Q (.bl true) H'
def oddD : List PyData := [.str "q", .str "", .none, .int 0, .list [.str "h"], .tuple [.str "h"], .dict [], .bool true]
def spOdd : Sp := fun vs H Q _ => ∃ t, vs = [.ref t] ∧ TapeAt H t ∧ ∀ v d H', d ∈ oddD → Go t H H' → Dq H' d v → Q v H'
end Fh
namespace Fh
open PySem PySem.Spec PySem.W PyProof.Rows L2
/-! ### books against each other -/
def marksD (ks : List Str) : List (Key × PyData) := ks.map fun x => ((Sum.inr x : Key), PyData.bool true)
def rulesD (rs : List RuleD) : List (Key × PyData) := rs.map fun r => ((Sum.inr r.name : Key), ruleData r)
theorem marks_kdat {H : Hp} (ks : List Str) : KDat H (marks ks) (marksD ks) := by
  refine ⟨?_, ?_⟩
  · rw [marks_keys]; unfold marksD; rw [List.map_map]; rfl
  · unfold marks marksD
    rw [List.map_map, List.map_map]
    induction ks with
    | nil => simp only [List.map_nil, DqAll]
    | cons x ks ih =>
      simp only [List.map_cons, DqAll]
      exact ⟨_, _, rfl, by simp only [Function.comp, Dq], ih⟩
theorem rules_kdat {H : Hp} {kvs : List (Key × V)} {vs : List V} {rs : List RuleD} (h1 : kvs.map (·.1) = (rs.map (·.name)).map Sum.inr) (h2 : kvs.map (·.2) = vs) (hU : Rules H vs rs) : KDat H kvs (rulesD rs) := by
  refine ⟨?_, ?_⟩
  · rw [h1]; unfold rulesD; rw [List.map_map, List.map_map]; rfl
  · rw [h2]
    have e : (rulesD rs).map (·.2) = rs.map ruleData := by unfold rulesD; rw [List.map_map]; rfl
    rw [e]
    exact hU.dq
theorem letters_small : ∀ c ∈ letters.cps.toList, c < 0x110000 := by decide +kernel
theorem nameB_all {x : Str} (h : nameB x = true) : ∀ c ∈ x.cps.toList, c ∈ letters.cps.toList := by
  unfold nameB at h
  split at h
  · cases h
  · intro c hc
    exact of_decide_eq_true (List.all_eq_true.mp h c hc)
theorem strOk_of {x : Str} (h : ∀ c ∈ x.cps.toList, c < 0x110000) : PyData.strOk x = true := by
  unfold PyData.strOk
  rw [← Array.all_toList]
  exact List.all_eq_true.mpr fun c hc => decide_eq_true (h c hc)
theorem nameB_ok {x : Str} (h : nameB x = true) : PyData.strOk x = true := strOk_of fun c hc => letters_small c (nameB_all h c hc)
theorem nameB_len {x : Str} (h : nameB x = true) : 1 ≤ x.length ∧ x.length ≤ 8 := by
  unfold nameB at h
  split at h
  · cases h
  · omega
theorem rule_lay {r : RuleD} (h1 : PyData.strOk r.name = true) (h2 : PyData.strOk r.kind = true) (h3 : ∀ x ∈ r.out, PyData.strOk x = true) : (ruleData r).canLay0 = true := by
  unfold ruleData
  simp only [PyData.canLay0, PyData.canLayAll0, h1, h2, strs_lay h3, Bool.and_self]
theorem BookOk.lay {ks hs : List Str} {rs : List RuleD} {st : Str} (b : BookOk ks hs rs st) : ∀ r ∈ rs, (ruleData r).canLay0 = true := fun r hr => by
  obtain ⟨h1, h2, h3, _⟩ := b.rgood r hr
  exact rule_lay (nameB_ok h1) (nameB_ok (b.names _ h2)) fun x hx => nameB_ok (b.names _ (h3 x hx))
theorem nodup_inr_inj {ks : List Str} (h : ks.Nodup) : (ks.map (Sum.inr : Str → Key)).Nodup := nodup_inr h
theorem marksD_keys (ks : List Str) : (marksD ks).map (·.1) = ks.map Sum.inr := by unfold marksD; rw [List.map_map]; rfl
theorem rulesD_keys (rs : List RuleD) : (rulesD rs).map (·.1) = (rs.map (·.name)).map Sum.inr := by unfold rulesD; rw [List.map_map, List.map_map]; rfl
def sameB (ks hs : List Str) (rs : List RuleD) (st : Str) (c : Int) (ks2 hs2 : List Str) (rs2 : List RuleD) (st2 : Str) (c2 : Int) : Bool :=
  eqvK (marksD ks) (marksD ks2) && (eqvK (marksD hs) (marksD hs2) && (eqvK (rulesD rs) (rulesD rs2) && (decide (V.str st = V.str st2) && decide (V.int c = V.int c2))))
/-! ### equal data -/
theorem RuleD.eq_iff (r q : RuleD) : r = q ↔ (r.name = q.name ∧ r.kind = q.kind ∧ r.out = q.out ∧ r.change = q.change) := by
  obtain ⟨n, k, o, c⟩ := r
  obtain ⟨n2, k2, o2, c2⟩ := q
  constructor
  · intro h; cases h; exact ⟨rfl, rfl, rfl, rfl⟩
  · rintro ⟨h1, h2, h3, h4⟩
    have h1 : n = n2 := h1
    have h2 : k = k2 := h2
    have h3 : o = o2 := h3
    have h4 : c = c2 := h4
    subst h1 h2 h3 h4
    rfl
instance decRuleD : DecidableEq RuleD := fun r q => decidable_of_iff _ (RuleD.eq_iff r q).symm
theorem eqvAll_strs : ∀ xs ys : List Str, PyData.eqvAll (xs.map .str) (ys.map .str) = decide (xs = ys)
  | [], [] => by simp [PyData.eqvAll]
  | [], y :: ys => by simp [PyData.eqvAll]
  | x :: xs, [] => by simp [PyData.eqvAll]
  | x :: xs, y :: ys => by
    simp only [List.map_cons, PyData.eqvAll, PyData.eqv]
    rw [eqvAll_strs xs ys]
    by_cases h : x = y
    · simp [h]
    · simp [h]
theorem eqv_rule (r q : RuleD) : PyData.eqv (ruleData r) (ruleData q) = decide (r = q) := by
  obtain ⟨n, k, o, c⟩ := r
  obtain ⟨n2, k2, o2, c2⟩ := q
  unfold ruleData
  simp only [PyData.eqv, PyData.eqvAll, eqvAll_strs, Bool.and_true]
  have e : (RuleD.mk n k o c = RuleD.mk n2 k2 o2 c2) ↔ (n = n2 ∧ k = k2 ∧ o = o2 ∧ c = c2) := by
    constructor
    · intro h; cases h; exact ⟨rfl, rfl, rfl, rfl⟩
    · rintro ⟨rfl, rfl, rfl, rfl⟩; rfl
  rw [Bool.eq_iff_iff]
  simp only [Bool.and_eq_true, beq_iff_eq, decide_eq_true_eq, e]
theorem eqvAll_rules : ∀ rs qs : List RuleD, PyData.eqvAll (rs.map ruleData) (qs.map ruleData) = decide (rs = qs)
  | [], [] => by simp [PyData.eqvAll]
  | [], y :: ys => by simp [PyData.eqvAll]
  | x :: xs, [] => by simp [PyData.eqvAll]
  | x :: xs, y :: ys => by
    simp only [List.map_cons, PyData.eqvAll]
    rw [eqvAll_rules xs ys, eqv_rule]
    by_cases h : x = y
    · simp [h]
    · simp [h]
/-! ### dicts by what they hold -/
theorem lookD_marks (ks : List Str) (x : Str) : lookD (marksD ks) (Sum.inr x) = if x ∈ ks then some (.bool true) else none := by
  induction ks with
  | nil => rfl
  | cons y ks ih =>
    unfold marksD lookD
    rw [List.map_cons]
    by_cases h : y = x
    · simp [h]
    · have h2 : ¬ x = y := fun z => h z.symm
      have h3 : ¬ (Sum.inr y : Key) = Sum.inr x := fun z => h (Sum.inr.inj z)
      simp only [h3, if_false]
      have ih' := ih
      unfold marksD at ih'
      rw [ih']
      simp [h2]
theorem perm_of_sub {α : Type} [DecidableEq α] {l m : List α} (hl : l.Nodup) (hm : m.Nodup) (h : l.length = m.length) (s : ∀ x ∈ l, x ∈ m) : l.Perm m := by
  refine (List.perm_ext_iff_of_nodup hl hm).mpr fun x => ⟨s x, fun hx => ?_⟩
  refine Decidable.byContradiction fun hn => ?_
  have h1 := nodup_len (l := x :: l) (m := m) (List.nodup_cons.mpr ⟨hn, hl⟩) fun y hy => (List.mem_cons.mp hy).elim (fun e => e ▸ hx) (s y)
  rw [List.length_cons] at h1
  omega
theorem marks_eqv {ks ks2 : List Str} (h1 : ks.Nodup) (h2 : ks2.Nodup) : eqvK (marksD ks) (marksD ks2) = true ↔ ks.Perm ks2 := by
  have hl : ∀ l : List Str, (marksD l).length = l.length := fun l => List.length_map _
  unfold eqvK
  rw [hl, hl, Bool.and_eq_true, beq_iff_eq, List.all_eq_true]
  constructor
  · rintro ⟨e, a⟩
    refine perm_of_sub h1 h2 e fun x hx => ?_
    have := a ((Sum.inr x : Key), .bool true) (List.mem_map.mpr ⟨x, hx, rfl⟩)
    rw [lookD_marks] at this
    by_cases hm : x ∈ ks2
    · exact hm
    · rw [if_neg hm] at this
      cases this
  · intro p
    refine ⟨p.length_eq, fun q hq => ?_⟩
    obtain ⟨x, hx, rfl⟩ := List.mem_map.mp hq
    show (match lookD (marksD ks2) (Sum.inr x) with | some d => _ | none => _) = true
    rw [lookD_marks, if_pos (p.mem_iff.mp hx)]
    simp [PyData.eqv]
theorem nodup_of_names {rs : List RuleD} (h : (rs.map (·.name)).Nodup) : rs.Nodup := (List.pairwise_map.mp h).imp fun hab e => hab (by rw [e])
theorem rules_eqv {rs rs2 : List RuleD} (h1 : (rs.map (·.name)).Nodup) (h2 : (rs2.map (·.name)).Nodup) : eqvK (rulesD rs) (rulesD rs2) = true ↔ rs.Perm rs2 := by
  have hl : ∀ l : List RuleD, (rulesD l).length = l.length := fun l => List.length_map _
  have hn2 : ((rulesD rs2).map (·.1)).Nodup := by rw [rulesD_keys]; exact nodup_inr h2
  unfold eqvK
  rw [hl, hl, Bool.and_eq_true, beq_iff_eq, List.all_eq_true]
  constructor
  · rintro ⟨e, a⟩
    refine perm_of_sub (nodup_of_names h1) (nodup_of_names h2) e fun r hr => ?_
    have := a ((Sum.inr r.name : Key), ruleData r) (List.mem_map.mpr ⟨r, hr, rfl⟩)
    revert this
    show (match lookD (rulesD rs2) (Sum.inr r.name) with | some d => PyData.eqv (ruleData r) d | none => false) = true → _
    cases hq : lookD (rulesD rs2) (Sum.inr r.name) with
    | none => intro z; cases z
    | some d =>
      obtain ⟨q, hqm, e2⟩ := List.mem_map.mp (lookD_mem hq)
      rw [← (Prod.mk.inj e2).2]
      intro z
      have z : PyData.eqv (ruleData r) (ruleData q) = true := z
      rw [eqv_rule] at z
      rw [of_decide_eq_true z]
      exact hqm
  · intro p
    refine ⟨p.length_eq, fun q hq => ?_⟩
    obtain ⟨r, hr, rfl⟩ := List.mem_map.mp hq
    show (match lookD (rulesD rs2) (Sum.inr r.name) with | some d => PyData.eqv (ruleData r) d | none => false) = true
    rw [lookD_self hn2 (d := ruleData r) (List.mem_map.mpr ⟨r, p.mem_iff.mp hr, rfl⟩)]
    show PyData.eqv (ruleData r) (ruleData r) = true
    rw [eqv_rule]
    exact decide_eq_true rfl
/-! ### sorted rules -/
theorem rule_anti {r q : RuleD} (h1 : PySem.W.dataLt (ruleData q) (ruleData r) = false) (h2 : PySem.W.dataLt (ruleData r) (ruleData q) = false) : r.name = q.name := by
  unfold ruleData at h1 h2
  rw [PySem.W.dataLt_tuple] at h1 h2
  by_cases hn : r.name = q.name
  · exact hn
  · rw [PySem.W.dataLt_cons (by simp [alike]), if_neg (by simpa [PyData.eqv] using fun z : q.name = r.name => hn z.symm)] at h1
    rw [PySem.W.dataLt_cons (by simp [alike]), if_neg (by simpa [PyData.eqv] using hn)] at h2
    exact str_anti h2 h1
theorem lt_neg_trans (a b c : PyData) (h1 : dataLt a b = false) (h2 : dataLt b c = false) : dataLt a c = false := by
  cases q : dataLt a c with
  | false => rfl
  | true =>
    rcases (listOrd itemOrd).negTrans (keyToks a) (keyToks b) (keyToks c) q with z | z
    · have z' : dataLt a b = true := z
      rw [h1] at z'
      cases z'
    · have z' : dataLt b c = true := z
      rw [h2] at z'
      cases z'
theorem lt_total (a b : PyData) : dataLt a b = false ∨ dataLt b a = false := by
  cases q : dataLt a b with
  | false => exact .inl rfl
  | true =>
    right
    cases q2 : dataLt b a with
    | false => rfl
    | true =>
      have h := lt_irr a
      have q3 : dataLt a a = true := (listOrd itemOrd).trans _ _ _ q q2
      rw [h] at q3
      cases q3
theorem sortR_pw (rs : List RuleD) : (sortR rs).Pairwise fun r q => dataLe false ruleData r q = true := by
  refine List.pairwise_mergeSort (fun a b c h1 h2 => ?_) (fun a b => ?_) rs
  · rw [dataLe_eq] at h1 h2 ⊢
    have h1 : (!dataLt (ruleData b) (ruleData a)) = true := h1
    have h2 : (!dataLt (ruleData c) (ruleData b)) = true := h2
    show (!dataLt (ruleData c) (ruleData a)) = true
    rw [lt_neg_trans _ _ _ (by simpa using h2) (by simpa using h1)]
    rfl
  · rw [dataLe_eq]
    show ((!dataLt (ruleData b) (ruleData a)) || (!dataLt (ruleData a) (ruleData b))) = true
    rcases lt_total (ruleData a) (ruleData b) with h | h
    · rw [h]; simp
    · rw [h]; simp
theorem sortR_same {rs qs : List RuleD} (hn : (rs.map (·.name)).Nodup) : sortR rs = sortR qs ↔ rs.Perm qs := by
  constructor
  · intro e
    exact ((sortR_perm rs).symm.trans (by rw [e])).trans (sortR_perm qs)
  · intro p
    refine List.Perm.eq_of_pairwise (le := fun r q => dataLe false ruleData r q = true) (fun a b ha hb h1 h2 => ?_) (sortR_pw rs) (sortR_pw qs) (((sortR_perm rs).trans p).trans (sortR_perm qs).symm)
    rw [dataLe_eq] at h1 h2
    have h1 : (!dataLt (ruleData b) (ruleData a)) = true := h1
    have h2 : (!dataLt (ruleData a) (ruleData b)) = true := h2
    have e := rule_anti (r := a) (q := b) (by simpa using h1) (by simpa using h2)
    exact name_inj hn ((sortR_perm rs).mem_iff.mp ha) (p.mem_iff.mpr ((sortR_perm qs).mem_iff.mp hb)) e
/-- sorted parts are equal just if the dicts are -/
theorem parts_same {ks hs ks2 hs2 A B A2 B2 : List Str} {rs rs2 : List RuleD} {st st2 : Str} {c c2 : Int} (n1 : ks.Nodup) (n2 : hs.Nodup) (n3 : (rs.map (·.name)).Nodup) (m1 : ks2.Nodup) (m2 : hs2.Nodup) (m3 : (rs2.map (·.name)).Nodup)
    (pA : A.Perm ks) (sA : sortedS A = true) (pB : B.Perm hs) (sB : sortedS B = true) (pA2 : A2.Perm ks2) (sA2 : sortedS A2 = true) (pB2 : B2.Perm hs2) (sB2 : sortedS B2 = true) :
    PyData.eqv (planD A B (sortR rs) st c) (planD A2 B2 (sortR rs2) st2 c2) = sameB ks hs rs st c ks2 hs2 rs2 st2 c2 := by
  unfold planD namesD sameB
  simp only [PyData.eqv, PyData.eqvAll, eqvAll_strs, eqvAll_rules, Bool.and_true]
  have e1 : (A = A2) ↔ ks.Perm ks2 := ⟨fun e => (pA.symm.trans (by rw [e])).trans pA2, fun p => sortedS_unique sA sA2 ((pA.trans p).trans pA2.symm)⟩
  have e2 : (B = B2) ↔ hs.Perm hs2 := ⟨fun e => (pB.symm.trans (by rw [e])).trans pB2, fun p => sortedS_unique sB sB2 ((pB.trans p).trans pB2.symm)⟩
  rw [Bool.eq_iff_iff]
  simp only [Bool.and_eq_true, decide_eq_true_eq, beq_iff_eq, marks_eqv n1 m1, marks_eqv n2 m2, rules_eqv n3 m3, e1, e2, sortR_same n3, V.str.injEq, V.int.injEq]
end Fh
namespace Fh
open PySem PySem.Spec PyProof.Rows L2 He LamX
/-! ### repr, of what can be written out -/
structure DOkW (d : PyData) : Prop where
  sh : d.showable = true
  dp : d.depth ≤ 60
  sz : d.shown.length ≤ sizeLine
def rReprW : List V → Hp → VK → Prop := fun xs H Q => ∃ v d, xs = [v] ∧ Dq H d v ∧ DOkW d ∧ Q (.str d.shown) H
theorem call_reprW {X : Cx} (hg : X.A.guards = some []) (hu : X.A.units + 64 < cLine) : CallR X (.builtin "repr") rReprW := by
  intro pins s σ H xs us Q I r h
  obtain ⟨v, d, rfl, hd, ok, q⟩ := h
  obtain ⟨u, rfl, ru⟩ := vals1 r
  obtain ⟨as, hr, hn⟩ := Dq.reads I.hok d v u hd ru
  have sh := ok.sh
  have dp := ok.dp
  have sz := ok.sz
  cases d with
  | none =>
    simp only [Dq] at hd; subst hd; cases ru
    exact P.repr_of_none ⟨V.str _, H, I.tok _, ⟨_, rfl⟩, by simpa only [PyData.shown] using q⟩
  | bool b =>
    simp only [Dq] at hd; subst hd; cases ru
    exact P.repr_of_bool ⟨V.str _, H, I.tok _, ⟨_, rfl⟩, by simpa only [PyData.shown] using q⟩
  | int i =>
    simp only [Dq] at hd; subst hd; obtain ⟨t, rfl⟩ := ru
    exact P.repr_of_int (by simpa [PyData.showable] using sh) ⟨V.str _, H, I.tok _, ⟨_, rfl⟩, by simpa only [PyData.shown] using q⟩
  | str x =>
    simp only [Dq] at hd; subst hd; obtain ⟨t, rfl⟩ := ru
    exact P.repr_of_str ⟨V.str _, H, I.tok _, ⟨_, rfl⟩, by simpa only [PyData.shown] using q⟩ (by simpa only [PyData.shown] using sz)
  | list ds =>
    simp only [Dq] at hd; obtain ⟨a, _, rfl, _⟩ := hd; cases ru
    exact repr_of_reads' hr sh (fun _ => hn) hg (by omega) (fun _ _ e => e) (fun h' u tk hk => ⟨V.str _, H, I.kept hk, ⟨_, rfl⟩, q⟩) sz
  | tuple ds =>
    simp only [Dq] at hd; obtain ⟨a, _, rfl, _⟩ := hd; cases ru
    exact repr_of_reads' hr sh (fun _ => hn) hg (by omega) (fun _ _ e => e) (fun h' u tk hk => ⟨V.str _, H, I.kept hk, ⟨_, rfl⟩, q⟩) sz
  | dict kvs =>
    simp only [Dq] at hd; obtain ⟨a, rfl, _⟩ := hd; cases ru
    exact repr_of_reads' hr sh (fun _ => hn) hg (by omega) (fun _ _ e => e) (fun h' u tk hk => ⟨V.str _, H, I.kept hk, ⟨_, rfl⟩, q⟩) sz

def optD : Option Nat → PyData
  | some n => .int (n : Nat)
  | none => .none
theorem opt_ok {o : Option Nat} (h : ∀ n, o = some n → n < 10 ^ 12) : DOkW (.list [optD o, optD o]) := by
  cases o with
  | none => exact ⟨by decide +kernel, by decide +kernel, by decide +kernel⟩
  | some n =>
    have hn := h n rfl
    have hl : ((n : Int).natAbs).log2 < 1920 := by
      by_cases h0 : n = 0
      · subst h0
        decide
      · exact (Nat.log2_lt (by omega)).mpr (Nat.lt_of_lt_of_le hn (by decide +kernel))
    have hs : (PyData.shown (.int (n : Int))).length ≤ 13 := PyData.shown_int_le (by omega)
    refine ⟨?_, ?_, ?_⟩
    · simp [PyData.showable, PyData.showableAll, optD]
      exact hl
    · simp [PyData.depth, PyData.depthAll, optD]
    · refine PyData.shown_fits (B := 13) (by decide) (by decide) ?_ ?_
      · simp [PyData.leavesShort, PyData.leavesShortAll, optD]
        exact hs
      · have hw : (PyData.int (n : Int)).weight ≤ 2000 := by
          simp only [PyData.weight]
          split
          · decide
          · omega
        simp only [PyData.weight, PyData.weightAll, optD]
        simp only [PyData.weight] at hw
        have e : (2 : Nat) ^ 20 = 1048576 := by decide
        omega
theorem odd_ok : ∀ d ∈ oddD, DOkW (.list [.str "kind", d]) := by
  have h : ∀ d ∈ oddD, (PyData.list [.str "kind", d]).showable = true ∧ (PyData.list [.str "kind", d]).depth ≤ 60 ∧ (PyData.list [.str "kind", d]).shown.length ≤ sizeLine := by decide +kernel
  exact fun d hd => ⟨(h d hd).1, (h d hd).2.1, (h d hd).2.2⟩
theorem odd_not : ∀ d ∈ oddD, amongD pool d = false := by decide +kernel
theorem among_sub {ks ns : List Str} {d : PyData} (h : ∀ x ∈ ks, x ∈ ns) (hd : amongD ns d = false) : amongD ks d = false := by
  cases d with
  | str x =>
    cases e : amongD ks (.str x) with
    | false => rfl
    | true =>
      have m := h x (List.contains_iff_mem.mp e)
      have z : amongD ns (.str x) = true := List.contains_iff_mem.mpr m
      rw [hd] at z
      cases z
  | _ => rfl
/-! ### the ways' numbers are small -/
theorem sum_le {ps : NumsW} {b : Nat} : ∀ {os : List Str}, (∀ x ∈ os, atW ps x ≤ b) → sumW ps os ≤ os.length * b
  | [], _ => Nat.zero_le _
  | x :: os, h => by
    have ih := sum_le (os := os) fun y hy => h y (List.mem_cons_of_mem _ hy)
    have h1 := h x List.mem_cons_self
    show (atW ps x :: os.map (atW ps)).sum ≤ _
    rw [List.sum_cons, List.length_cons, Nat.succ_mul]
    unfold sumW at ih
    omega
theorem lookup_mem {ps : NumsW} {k : Str} {n : Nat} (h : ps.lookup k = some n) : (k, n) ∈ ps := by
  induction ps with
  | nil => cases h
  | cons p ps ih =>
    obtain ⟨a, m⟩ := p
    rw [List.lookup_cons] at h
    cases e : k == a with
    | true =>
      rw [e] at h
      cases h
      rw [eq_of_beq e]
      exact List.mem_cons_self
    | false =>
      rw [e] at h
      exact List.mem_cons_of_mem _ (ih h)
theorem chain_le {rs : List RuleD} {ps : NumsW} (W : WaysOk rs ps) (h4 : ∀ r ∈ rs, r.out.length ≤ 4) : ∀ i k n, ps[i]? = some (k, n) → n ≤ 5 ^ (i + 1) := by
  intro i
  induction i using Nat.strongRecOn with
  | ind i ih =>
    intro k n h
    obtain ⟨r, hr, _, h1, rfl⟩ := W.chain i k n h
    have hb : ∀ x ∈ r.out, atW (ps.take i) x ≤ 5 ^ i := fun x hx => by
      obtain ⟨m, e⟩ := inW_some (h1 x hx)
      rw [atW_of e]
      obtain ⟨j, hj⟩ := List.mem_iff_getElem?.mp (lookup_mem e)
      have hji : j < i := by
        have := (List.getElem?_eq_some_iff.mp hj).1
        rw [List.length_take] at this
        omega
      rw [List.getElem?_take_of_lt hji] at hj
      exact Nat.le_trans (ih j hji x m hj) (Nat.pow_le_pow_right (by decide) hji)
    have hs := sum_le hb
    have ho := h4 r hr
    have hm : r.out.length * 5 ^ i ≤ 4 * 5 ^ i := Nat.mul_le_mul_right _ ho
    have h5 : 1 ≤ 5 ^ i := Nat.one_le_pow _ _ (by decide)
    rw [Nat.pow_succ]
    omega
theorem ways_small {rs : List RuleD} {ps : NumsW} (W : WaysOk rs ps) (h4 : ∀ r ∈ rs, r.out.length ≤ 4) (hl : ps.length ≤ 10) {k : Str} {n : Nat} (h : ps.lookup k = some n) : n < 10 ^ 12 := by
  obtain ⟨i, hi⟩ := List.mem_iff_getElem?.mp (lookup_mem h)
  have hil := (List.getElem?_eq_some_iff.mp hi).1
  have := chain_le W h4 i k n hi
  have h2 : 5 ^ (i + 1) ≤ 5 ^ 10 := Nat.pow_le_pow_right (by decide) (by omega)
  have h3 : (5 : Nat) ^ 10 < 10 ^ 12 := by decide
  omega
/-! ### a def by its body, its code told -/
theorem funGT {P : Program} {w : World} {K : PySem.W.Frag} {mg : Str → Option Value} {base : Heap} {CX : CXT} {k : Nat} {x0 : Str} {fd : FuncData} {N ps : List Str} {sp : Sp} {x qual : Str} {params : Arguments} {body : List Stmt} {scope : Scope} {dvs : List V} {kws : List (Str × V)}
    (F : FunD K x qual params body scope dvs kws (fAd K (x0, none)) fd) (S : FnScope N ps scope) (len : ∀ vs H Q E, sp vs H Q E → vs.length = ps.length)
    (hbody : ∀ (A : Around) (outer : List Env) (s : Shared) (H : Hp) (vs : List V) (Q : VK) (E : XK), A.guards = some [] → Room k (A.deeper (envOfC qual scope s.heap.objs.size (fAd K (x0, none)) (.ref (codeA K x0)))) → sp vs H Q E →
      ∃ t, PSs (cxOf CX P w K mg base N qual scope (fAd K (x0, none)) (.ref (codeA K x0)) A outer s H E) body t ∧ t { nx := fun _ H' => Q .non H', rt := Q } (L2.start N vs) H) : FnG P w K mg base CX (k + 1) (fAd K (x0, none)) fd ps sp := by
  obtain ⟨oc, od, dV, kV, doc, pm, an, cdv, ct, osl, rfl, lk, hcd, _, _⟩ := F.ex
  have hc : cdv = .ref (codeA K x0) := by
    unfold codeA
    rw [lk]
    cases cdv with
    | ref c => rfl
    | _ => cases hcd
  subst hc
  exact fnG_of lk hcd S len fun A outer s H vs Q E hg hr hsp => hbody A outer s H vs Q E hg hr hsp
/-! ### a def that stands ready to be called -/
def Rdy (P : Program) (w : World) (K : PySem.W.Frag) (mg : Str → Option Value) (base : Heap) (CX : CXT) (k : Nat) (x : Str) (ps : List Str) (sp : Sp) : Prop := ∃ f fd, FnOk P w K mg base CX k f fd ps sp ∧ mg x = some (.ref f) ∧ PySem.W.keepIn K (.ref f) = true ∧ Binds K fd ps []
def Rdy1 (P : Program) (w : World) (K : PySem.W.Frag) (mg : Str → Option Value) (base : Heap) (CX : CXT) (k : Nat) (x p : Str) (sp : Sp) : Prop := ∃ f fd, FnOk P w K mg base CX k f fd [p] sp ∧ mg x = some (.ref f) ∧ PySem.W.keepIn K (.ref f) = true ∧ Binds K fd [p] [] ∧ KBinds K fd [p] [p] kw1 kw1
def Rdy2 (P : Program) (w : World) (K : PySem.W.Frag) (mg : Str → Option Value) (base : Heap) (CX : CXT) (k : Nat) (x p q : Str) (sp : Sp) : Prop := ∃ f fd, FnOk P w K mg base CX k f fd [p, q] sp ∧ mg x = some (.ref f) ∧ PySem.W.keepIn K (.ref f) = true ∧ Binds K fd [p, q] [] ∧ KBinds K fd [p, q] [q, p] kw2 kw2
/-! ### what stays when a lambda is made: all but the tables -/
def noTab (H : Hp) : Hp := fun b => match H b with
  | some (.tbl _) => none
  | o => o
theorem noTab_some {H : Hp} {b : Addr} {o : HO} (h : H b = some o) (n : ∀ ps, o ≠ .tbl ps) : noTab H b = some o := by
  unfold noTab
  rw [h]
  cases o with
  | tbl ps => exact absurd rfl (n ps)
  | _ => rfl
theorem noTab_same {H H1 : Hp} (e : ExtN H H1) : Same (noTab H) H1 := fun b o h => by
  unfold noTab at h
  cases q : H b with
  | none => rw [q] at h; cases h
  | some u =>
    rw [q] at h
    cases u with
    | tbl ps => cases h
    | _ =>
      cases h
      exact e b _ q fun ps z => by cases z
theorem noTab_tups {H : Hp} : Tups H (noTab H) := fun b xs e => noTab_some e fun ps z => by cases z
theorem BookAt.ext {C : Addr} {H H' : Hp} {p : Addr} {ks hs : List Str} {rs : List RuleD} {st : Str} {c : Int} (e : ExtN H H') (h : BookAt C H p ks hs rs st c) : BookAt C H' p ks hs rs st c := by
  obtain ⟨dx, dk, dh, dr, kvs, us, hp, hk, hh, hr3, k1, k2, hU⟩ := h
  have n : BookAt C (noTab H) p ks hs rs st c := ⟨dx, dk, dh, dr, kvs, us, noTab_some hp (fun ps z => by cases z), noTab_some hk (fun ps z => by cases z), noTab_some hh (fun ps z => by cases z), noTab_some hr3 (fun ps z => by cases z), k1, k2, hU.ups noTab_tups⟩
  exact n.up (noTab_same e)
theorem PlanAt.ext {H H' : Hp} {p : Addr} {q : PlanRef} {ks hs : List Str} {rs : List RuleD} (e : ExtN H H') (h : PlanAt H p q ks hs rs) : PlanAt H' p q ks hs rs := by
  have n : PlanAt (noTab H) p q ks hs rs := ⟨noTab_some h.top (fun ps z => by cases z), noTab_some h.kinds (fun ps z => by cases z), noTab_some h.handles (fun ps z => by cases z), noTab_some h.rules (fun ps z => by cases z), h.each.ups noTab_tups⟩
  exact n.up (noTab_same e)
theorem Sys.ext {H H' : Hp} (e : ExtN H H') (h : Sys H) : Sys H' := let ⟨o, q⟩ := h; ⟨o, e _ _ q (fun ps z => by cases z)⟩
theorem TapeAt.ext {H H' : Hp} {t : Addr} (e : ExtN H H') (h : TapeAt H t) : TapeAt H' t := let ⟨d, m, q, r⟩ := h; ⟨d, m, e _ _ q (fun ps z => by cases z), r⟩
mutual
theorem Dq.noTab {H : Hp} : ∀ (d : PyData) (v : V), Dq H d v → Dq (noTab H) d v
  | .none, _, h => by simpa only [Dq] using h
  | .bool _, _, h => by simpa only [Dq] using h
  | .int _, _, h => by simpa only [Dq] using h
  | .str _, _, h => by simpa only [Dq] using h
  | .list ds, v, h => by
    simp only [Dq] at h ⊢
    obtain ⟨a, xs, rfl, n, q, r⟩ := h
    exact ⟨a, xs, rfl, n, noTab_some q (fun ps z => by cases z), DqAll.noTab ds xs r⟩
  | .tuple ds, v, h => by
    simp only [Dq] at h ⊢
    obtain ⟨a, xs, rfl, q, r⟩ := h
    exact ⟨a, xs, rfl, noTab_some q (fun ps z => by cases z), DqAll.noTab ds xs r⟩
  | .dict kvs, v, h => by
    simp only [Dq] at h ⊢
    obtain ⟨a, rfl, ⟨ps, q, r⟩ | ⟨ps, q, r⟩⟩ := h
    · exact ⟨a, rfl, .inl ⟨ps, noTab_some q (fun ps z => by cases z), DqK.noTab kvs ps r⟩⟩
    · exact ⟨a, rfl, .inr ⟨ps, noTab_some q (fun ps z => by cases z), DqT.noTab kvs ps r⟩⟩
theorem DqAll.noTab {H : Hp} : ∀ (ds : List PyData) (vs : List V), DqAll H ds vs → DqAll (noTab H) ds vs
  | [], _, h => by simpa only [DqAll] using h
  | d :: ds, _, h => by
    simp only [DqAll] at h ⊢
    obtain ⟨v, r, rfl, h1, h2⟩ := h
    exact ⟨v, r, rfl, Dq.noTab d v h1, DqAll.noTab ds r h2⟩
theorem DqK.noTab {H : Hp} : ∀ (ds : List (PyData × PyData)) (vs : List (Key × V)), DqK H ds vs → DqK (noTab H) ds vs
  | [], _, h => by simpa only [DqK] using h
  | (k, d) :: ds, _, h => by
    simp only [DqK] at h ⊢
    obtain ⟨key, v, q, rfl, h0, h1, h2⟩ := h
    exact ⟨key, v, q, rfl, h0, Dq.noTab d v h1, DqK.noTab ds q h2⟩
theorem DqT.noTab {H : Hp} : ∀ (ds : List (PyData × PyData)) (vs : List (List Key × V)), DqT H ds vs → DqT (noTab H) ds vs
  | [], _, h => by simpa only [DqT] using h
  | (k, d) :: ds, _, h => by
    simp only [DqT] at h ⊢
    obtain ⟨ks, v, q, rfl, h0, h1, h2⟩ := h
    exact ⟨ks, v, q, rfl, h0, Dq.noTab d v h1, DqT.noTab ds q h2⟩
end
theorem Dq.ext {H H' : Hp} (e : ExtN H H') {d : PyData} {v : V} (h : Dq H d v) : Dq H' d v := Dq.up (noTab_same e) _ _ (Dq.noTab _ _ h)
end Fh
namespace Fh
open PySem PySem.Spec PyProof.Rows L2 He LamX
theorem sqL_ext {K : PySem.W.Frag} {H H' : Hp} {a : Addr} {xs : List V} (e : ExtN H H') (h : SqL K H a xs) : SqL K H' a xs := by
  rcases h with h | h
  · rcases h with h | ⟨o, h⟩
    · exact .inl (.inl (e _ _ h fun ps z => by cases z))
    · exact .inl (.inr ⟨o, e _ _ h fun ps z => by cases z⟩)
  · exact .inr h
theorem Tabs.go {T : List (Addr × Str)} {t : Addr} {H H' : Hp} (g : Go t H H') (h : Tabs T H) : Tabs T H' := by
  intro p hp
  obtain ⟨ps, e, ok, co⟩ := h p hp
  have keep : ∀ b o, (∀ d m, o ≠ tapeO d m) → H b = some o → H' b = some o := fun b o hn eb => g.keep b o (fun z => by
    obtain ⟨d, m, q, _⟩ := g.t0
    rw [← z, eb] at q
    exact hn d m (Option.some.inj q)) eb
  refine ⟨ps, keep _ _ (fun d m z => by cases z) e, ok, fun pos cv hc => ?_⟩
  obtain ⟨c, rfl, ec⟩ := co pos cv hc
  exact ⟨c, rfl, keep _ _ (fun d m z => by
    unfold CodeO at z
    cases z) ec⟩
theorem Tabs.same {T : List (Addr × Str)} {H H' : Hp} (s : Same H H') (h : Tabs T H) : Tabs T H' := h.ext s
/-- what stands from turn to turn -/
structure Base (K : PySem.W.Frag) (T : List (Addr × Str)) (a : Addr) (ns : List Int) (H : Hp) : Prop where
  script : SqL K H a (ns.map V.int)
  sys : Sys H
  tabs : Tabs T H
section
variable {K : PySem.W.Frag} {T : List (Addr × Str)} {a t : Addr} {ns : List Int} {H H' : Hp}
theorem Base.same (h : Base K T a ns H) (s : Same H H') : Base K T a ns H' := ⟨s.seq h.script, h.sys.up s, Tabs.same s h.tabs⟩
theorem Base.go (h : Base K T a ns H) (g : Go t H H') : Base K T a ns H' := ⟨g.seq h.script, h.sys.go g, Tabs.go g h.tabs⟩
end
/-! ### the three lists that ways tells -/
def threeD (A B C : List Str) : PyData := .list [namesD A, namesD B, namesD C]
theorem three_shaped {A B C : List Str} (h1 : ∀ x ∈ A, PyData.strOk x = true) (h2 : ∀ x ∈ B, PyData.strOk x = true) (h3 : ∀ x ∈ C, PyData.strOk x = true) : SeqAt.shaped (threeD A B C) = true := by
  unfold SeqAt.shaped threeD
  have d1 := depth_names A
  have d2 := depth_names B
  have d3 := depth_names C
  refine Bool.and_eq_true_iff.mpr ⟨?_, decide_eq_true ?_⟩
  · simp [PyData.canLay0, PyData.canLayAll0, names_lay h1, names_lay h2, names_lay h3]
  · simp only [PyData.depth, PyData.depthAll]
    omega
theorem dq_three {H : Hp} {p a b c : Addr} {A B C : List Str} (hY : Sys H) (h : H p = some (.lst [.ref a, .ref b, .ref c])) (h1 : H a = some (.lst (A.map V.str))) (h2 : H b = some (.lst (B.map V.str))) (h3 : H c = some (.lst (C.map V.str))) : Dq H (threeD A B C) (.ref p) := by
  unfold threeD
  simp only [Dq, DqAll]
  exact ⟨p, _, rfl, hY.lst h, h, _, _, rfl, dq_names h1 (hY.lst h1), _, _, rfl, dq_names h2 (hY.lst h2), _, _, rfl, dq_names h3 (hY.lst h3), rfl⟩
/-- a new list of three new lists of strings -/
def Three (H H' : Hp) (p : Addr) (A B C : List Str) : Prop := ∃ a b c, Same H H' ∧ H p = none ∧ H a = none ∧ H b = none ∧ H c = none ∧ H' p = some (.lst [.ref a, .ref b, .ref c]) ∧ H' a = some (.lst (A.map V.str)) ∧ H' b = some (.lst (B.map V.str)) ∧ H' c = some (.lst (C.map V.str))
/-- what a law has worked out of a plan -/
structure Due (ks hs : List Str) (rs : List RuleD) (st : Str) (A B C : List Str) : Prop where
  a : A.Perm (aliveFix rs ks.length hs)
  sa : sortedS A = true
  b : AboutOk rs st B
  sb : sortedS B = true
  c : C.Perm ((wayFix rs (ks.length + 1) []).map (·.1))
  sc : sortedS C = true
theorem due_end {ks hs : List Str} {rs : List RuleD} {st : Str} {A B C ys : List Str} (D : Due ks hs rs st A B C) {ss : List StepD} (W : FirstOk rs ss) (hn : ∀ r ∈ rs, candW (nosOf ss) r = false) (hk : ∀ r ∈ rs, r.kind ∈ ks) (hp : ys.Perm (ss.map fun s => s.2.kind)) (srt : sortedS ys = true) : ys = C := by
  have hl : (nosOf ss).length ≤ ks.length + 1 := by
    have := W.few hk
    show (ss.map _).length ≤ _
    rw [List.length_map]
    omega
  have h := ways_perm W.ways hn hl
  rw [nosOf_keys] at h
  exact sortedS_unique srt D.sc (hp.trans (h.symm.trans D.c.symm))
theorem due_about {ks hs : List Str} {rs : List RuleD} {st : Str} {A B C ys F : List Str} (D : Due ks hs rs st A B C) (hF : AboutOk rs st F) (hp : ys.Perm F) (srt : sortedS ys = true) : ys = B := sortedS_unique srt D.sb (hp.trans (hF.same D.b))
theorem due_alive {ks hs : List Str} {rs : List RuleD} {st : Str} {A B C ys : List Str} (D : Due ks hs rs st A B C) (hp : ys.Perm (aliveFix rs ks.length hs)) (srt : sortedS ys = true) : ys = A := sortedS_unique srt D.sa (hp.trans D.a.symm)
section
variable {Cb bk : Addr} {σ : Sto} {H : Hp} {Q : VK} {ks hs : List Str} {rs : List RuleD} {st : Str} {c : Int} {A B C : List Str} {i : Nat}
theorem told_three (hs10 : σ[i]? = some (some (.ref bk))) (hB : BookAt Cb H bk ks hs rs st c) (hO : BookOk ks hs rs st) (hk : ks.length ≤ 40) (D : Due ks hs rs st A B C) (q : ∀ p H', Three H H' p A B C → Q (.ref p) H') :
    tLst (tCons (tCall (spAliveB Cb) [] E0 (tCons (tVar i) tNil)) (tCons (tCall (spAbout Cb) [] E0 (tCons (tVar i) tNil)) (tCons (tCall (spEnding Cb) [] E0 (tCons (tVar i) tNil)) tNil))) σ H Q := by
  refine ⟨_, hs10, bk, ks, hs, rs, st, c, rfl, hB, hO, hk, fun v1 H1 ⟨a1, y1, e1, p1, r1, s1, n1, h1⟩ => ?_⟩
  subst e1
  refine ⟨_, hs10, bk, ks, hs, rs, st, c, rfl, hB.up s1, hO, hk, fun v2 F H2 hF ⟨a2, y2, e2, p2, r2, s2, n2, h2⟩ => ?_⟩
  subst e2
  have s12 := s1.trans s2
  refine ⟨_, hs10, bk, ks, hs, rs, st, c, rfl, hB.up s12, hO, hk, fun v3 ss H3 W hno ⟨a3, y3, e3, p3, r3, s3, n3, h3⟩ => ?_⟩
  subst e3
  have s13 := s12.trans s3
  refine ⟨(by show 3 ≤ sizeLine; decide), fun p hp => q p _ ⟨a1, a2, a3, s13.trans (same_upd hp), s13.free hp, n1, s1.free n2, s12.free n3, upd_same, ?_, ?_, ?_⟩⟩
  · rw [← due_alive D p1 r1]
    exact same_upd hp _ _ (s3 _ _ (s2 _ _ h1))
  · rw [← due_about D hF p2 r2]
    exact same_upd hp _ _ (s3 _ _ h2)
  · rw [← due_end D W hno (fun r hr => (hO.rgood r hr).2.1) p3 r3]
    exact same_upd hp _ _ h3
theorem told_threeK (hs10 : σ[i]? = some (some (.ref bk))) (hB : BookAt Cb H bk ks hs rs st c) (hO : BookOk ks hs rs st) (hk : ks.length ≤ 40) (D : Due ks hs rs st A B C) (q : ∀ p H', Three H H' p A B C → Q (.ref p) H') :
    tLst (tCons (tCallK0 (spAliveB Cb) kw1 E0 (tCons (tVar i) tNil)) (tCons (tCallK0 (spAbout Cb) kw1 E0 (tCons (tVar i) tNil)) (tCons (tCallK0 (spEnding Cb) kw1 E0 (tCons (tVar i) tNil)) tNil))) σ H Q := by
  refine ⟨_, hs10, bk, ks, hs, rs, st, c, rfl, hB, hO, hk, fun v1 H1 ⟨a1, y1, e1, p1, r1, s1, n1, h1⟩ => ?_⟩
  subst e1
  refine ⟨_, hs10, bk, ks, hs, rs, st, c, rfl, hB.up s1, hO, hk, fun v2 F H2 hF ⟨a2, y2, e2, p2, r2, s2, n2, h2⟩ => ?_⟩
  subst e2
  have s12 := s1.trans s2
  refine ⟨_, hs10, bk, ks, hs, rs, st, c, rfl, hB.up s12, hO, hk, fun v3 ss H3 W hno ⟨a3, y3, e3, p3, r3, s3, n3, h3⟩ => ?_⟩
  subst e3
  have s13 := s12.trans s3
  refine ⟨(by show 3 ≤ sizeLine; decide), fun p hp => q p _ ⟨a1, a2, a3, s13.trans (same_upd hp), s13.free hp, n1, s1.free n2, s12.free n3, upd_same, ?_, ?_, ?_⟩⟩
  · rw [← due_alive D p1 r1]
    exact same_upd hp _ _ (s3 _ _ (s2 _ _ h1))
  · rw [← due_about D hF p2 r2]
    exact same_upd hp _ _ (s3 _ _ h2)
  · rw [← due_end D W hno (fun r hr => (hO.rgood r hr).2.1) p3 r3]
    exact same_upd hp _ _ h3
end
/-- the way told is the law's -/
theorem way_at {rs : List RuleD} {ks : List Str} {ss : List StepD} (W : FirstOk rs ss) (hn : ∀ r ∈ rs, candW (nosOf ss) r = false) (hk : ∀ r ∈ rs, r.kind ∈ ks) (x : Str) : (nosOf ss).lookup x = (wayFix rs (ks.length + 1) []).lookup x := by
  have hl : (nosOf ss).length ≤ ks.length + 1 := by
    have := W.few hk
    show (ss.map _).length ≤ _
    rw [List.length_map]
    omega
  exact (ways_same W.ways hn hl x).symm
theorem way_lt {rs : List RuleD} {ks : List Str} {ss : List StepD} (W : FirstOk rs ss) (hn : ∀ r ∈ rs, candW (nosOf ss) r = false) (hk : ∀ r ∈ rs, r.kind ∈ ks) (h6 : ks.length ≤ 6) (h4 : ∀ r ∈ rs, r.out.length ≤ 4) (x : Str) (n : Nat) (e : (wayFix rs (ks.length + 1) []).lookup x = some n) : n < 10 ^ 12 := by
  rw [← way_at W hn hk] at e
  have hl : (nosOf ss).length ≤ 10 := by
    have := W.few hk
    show (ss.map _).length ≤ _
    rw [List.length_map]
    omega
  exact ways_small W.ways h4 hl e
theorem dq_opt {H : Hp} (o : Option Nat) : Dq H (optD o) (optV o) := by
  cases o <;> simp only [optD, optV, Dq]
theorem dq_pair {H : Hp} {p : Addr} {x y : V} {d e : PyData} (hY : Sys H) (h : H p = some (.lst [x, y])) (h1 : Dq H d x) (h2 : Dq H e y) : Dq H (.list [d, e]) (.ref p) := by
  simp only [Dq, DqAll]
  exact ⟨p, _, rfl, hY.lst h, h, _, _, rfl, h1, _, _, rfl, h2, rfl⟩
theorem numK_opt (ps : NumsW) (x : Str) : (valV (numK ps) (Sum.inr x : Key)).getD .non = optV (ps.lookup x) := by
  rw [numK_at]
  cases ps.lookup x <;> rfl
theorem seq_asg {te : TE} {g : TG} {B : TS} {D : Ends} {σ : Sto} {H : Hp} (h : te σ H fun x H1 => g x σ H1 (B D)) : tSeq (tAsg te g) B D σ H := h
theorem test_op {r : R2} {ta tb : TE} {σ : Sto} {H : Hp} {Q : Bool → Hp → Prop} (h : ta σ H fun x H1 => tb σ H1 fun y H2 => r x y H2 fun v H3 => ∃ b, v = .bl b ∧ Q b H3) : tTest (tOp r ta tb) σ H Q := h
theorem seq_if {c : TT} {t u B : TS} {D : Ends} {σ : Sto} {H : Hp} (h : c σ H fun b H1 => if b = true then t { D with nx := B D } σ H1 else u { D with nx := B D } σ H1) : tSeq (tIfS c t u) B D σ H := h
theorem strs_refs {A : List Str} {a : Addr} {r : List V} (h : A.map V.str = V.ref a :: r) : False := by
  cases A with
  | nil => cases h
  | cons x xs =>
    rw [List.map_cons] at h
    cases (List.cons.inj h).1
/-- lists that may be grown, none of them at p -/
structure Loose (H0 : Hp) (p : Addr) (xs : List V) (bs : List Addr) (n : Nat) (H' : Hp) : Prop where
  same : Same H0 H'
  at_ : H' p = some (.lst xs)
  ne : ∀ b ∈ bs, b ≠ p ∧ H0 b = none
  lst : ∀ b ∈ bs, ∃ ys, H' b = some (.lst ys) ∧ ys.length ≤ n
theorem Loose.add {H0 H' : Hp} {p b : Addr} {xs ys : List V} {bs : List Addr} {n : Nat} (h : Loose H0 p xs bs n H') (hb : b ∈ bs) (hl : ys.length ≤ n + 1) : Loose H0 p xs bs (n + 1) (upd H' b (.lst ys)) := by
  obtain ⟨n1, n2⟩ := h.ne b hb
  refine ⟨same_updX h.same n2, by rw [upd_ne (Ne.symm n1)]; exact h.at_, h.ne, fun c hc => ?_⟩
  by_cases e : c = b
  · rw [e]
    exact ⟨ys, upd_same, hl⟩
  · rw [upd_ne e]
    obtain ⟨zs, e1, e2⟩ := h.lst c hc
    exact ⟨zs, e1, Nat.le_succ_of_le e2⟩
theorem Three.loose {H0 H1 H2 : Hp} {p : Addr} {A B C : List Str} (h : Three H0 H1 p A B C) (s : Same H1 H2) (hA : A.length ≤ 50) (hB : B.length ≤ 50) (hC : C.length ≤ 50) : ∃ a b c, Loose H0 p [.ref a, .ref b, .ref c] [a, b, c] 50 H2 := by
  obtain ⟨a, b, c, s0, np, na, nb, nc, x0, x1, x2, x3⟩ := h
  have ne : ∀ {z : Addr} {Z : List Str}, H1 z = some (.lst (Z.map V.str)) → z ≠ p := fun {z Z} e q => by
    rw [q, x0] at e
    injection (Option.some.inj e) with e2
    exact strs_refs e2.symm
  refine ⟨a, b, c, s0.trans s, s _ _ x0, fun z hz => ?_, fun z hz => ?_⟩
  · simp only [List.mem_cons, List.not_mem_nil, or_false] at hz
    rcases hz with rfl | rfl | rfl
    · exact ⟨ne x1, na⟩
    · exact ⟨ne x2, nb⟩
    · exact ⟨ne x3, nc⟩
  · simp only [List.mem_cons, List.not_mem_nil, or_false] at hz
    rcases hz with rfl | rfl | rfl
    · exact ⟨_, s _ _ x1, by rw [List.length_map]; omega⟩
    · exact ⟨_, s _ _ x2, by rw [List.length_map]; omega⟩
    · exact ⟨_, s _ _ x3, by rw [List.length_map]; omega⟩
end Fh
namespace Fh
open PySem PySem.Spec PySem.W PyProof.Rows L2 He
/-! ### d.items() of a plain dict, as a view; sorted(d.items()) of numbers by names -/
section
variable {X : Cx}
def rItemsK : V → List V → Hp → VK → Prop := fun x xs H Q => ∃ (a : Addr) (kvs : List (Key × V)), x = .ref a ∧ xs = [] ∧ H a = some (.dK kvs) ∧ ∀ p, H p = none → Q (.ref p) (upd H p (L2.DX.itemsO p a))
theorem mt_itemsK : MtR X "dict.items" rItemsK := by
  intro pins s σ H x xs v us Q I rx rxs h
  obtain ⟨a, kvs, rfl, rfl, ha, q⟩ := h
  cases rx
  cases rxs
  obtain ⟨_, lo, vs, _, o, es, ep, ho, hx, hdat, _⟩ := I.hok a _ ha
  have hp := I.hok.fresh (Nat.le_refl s.heap.objs.size)
  have I2 := I.laid (o := L2.DX.itemsO s.heap.objs.size a) (t' := s.toks) (h' := s.heap.push { cls := .type "dict_items", data := .fields #[.ref a] }) (fun _ _ e => Heap.get?_push_of_some _ e) (Nat.le_refl _) (L2.DX.itemsO_ok (Heap.get?_push_size _ rfl))
  exact DT.callItems (es := es) (ep := ep) lo ⟨o, ho, hx, hdat⟩ ⟨.ref s.heap.objs.size, _, I2, rfl, q _ hp⟩
def pairD (q : Str × Nat) : PyData := .tuple [.str q.1, .int (q.2 : Nat)]
def sortP (ps : NumsW) : NumsW := ps.mergeSort (dataLe false pairD)
def NumAt (H : Hp) (v : V) (q : Str × Nat) : Prop := ∃ a, v = .ref a ∧ H a = some (.tup [.str q.1, .int (q.2 : Nat)])
theorem NumAt.up {H H' : Hp} {v : V} {q : Str × Nat} (s : Same H H') (h : NumAt H v q) : NumAt H' v q := let ⟨a, e, r⟩ := h; ⟨a, e, s _ _ r⟩
def rSortItK : List V → Hp → VK → Prop := fun vs H Q => ∃ (p a : Addr) (ps : NumsW), vs = [V.ref p] ∧ H p = some (L2.DX.itemsO p a) ∧ H a = some (.dK (numK ps)) ∧ ps.length ≤ 1000 ∧
  ∀ H' l us, Same H H' → H l = none → H' l = some (.lst us) → All2 (NumAt H') us (sortP ps) → Q (.ref l) H'
theorem pairD_alike (a b : Str × Nat) : alike (pairD a) (pairD b) = true := by
  unfold pairD
  simp only [alike, alikeAll, Bool.and_self, Bool.and_true]
theorem each_zip {α : Type} {R S : Value → Addr × α → Prop} : ∀ {as : List Addr} {ps : List α}, as.length = ps.length → (∀ (j : Nat) (a : Addr) (q : α), as[j]? = some a → ps[j]? = some q → R (.ref a) (a, q)) → EachIs R (as.map Value.ref) (as.zip ps)
  | [], [], _, _ => .nil
  | [], _ :: _, h, _ => by cases h
  | _ :: _, [], h, _ => by cases h
  | a :: as, q :: ps, h, hR => .cons (hR 0 a q rfl rfl) (each_zip (S := S) (Nat.succ.inj h) fun j b r h1 h2 => hR (j + 1) b r h1 h2)
theorem each_out {α : Type} : ∀ {out : List Value} {zs : List (Addr × α)}, EachIs (fun v (b : Addr × α) => v = .ref b.1) out zs → out = zs.map fun b => Value.ref b.1
  | _, [], h => by cases h; rfl
  | _, z :: zs, h => by
    cases h with
    | cons h1 h2 => rw [h1, each_out h2]; rfl
theorem vals_mref {α : Type} : ∀ zs : List (Addr × α), Vals (zs.map fun b => V.ref b.1) (zs.map fun b => Value.ref b.1)
  | [] => .nil
  | _ :: zs => .cons rfl (vals_mref zs)
open PySem.Calls PyProof.V in
theorem cr_sortedItK (hc : X.calm = true) (hu : X.A.units + 64 < cLine) : CallR X (.builtin "sorted") rSortItK := by
  intro pins s σ H xs us Q I r h
  obtain ⟨p, a, ps, rfl, hp, ha, hlen, q⟩ := h
  obtain rfl := Vals.ref1 r
  have view : s.heap.IsItemsView p a := (show ObjOk X.prog X.w H s.heap p (L2.DX.itemsO p a) from I.hok p _ hp).1
  obtain ⟨hz, lo, vs, kv, hdo⟩ := I.hok a _ ha
  obtain ⟨ep, hat⟩ := hdo.dictAt
  have lk : ps.length = vs.length := by
    have := Paired.length kv
    rwa [numK_len] at this
  have hh : X.A.handled = none := I.ok.hd hc
  have big : ps.length ≤ sizeLine := by rw [sizeLine_eq]; omega
  refine call_function_entry kind_sorted plain_sorted entry_sorted (args_sorted1 _) ?_
  unfold Builtin.«sorted»
  refine wpAny_bind (m := checkCount "sorted" 1 1 _) (wpAny_pure ?_)
  refine wpAny_bind (kdx_collect (A := X.A.in1) (knd := mixKind X.prog X.w) (kvs := vs) (ep := ep) hh view hat (by omega) fun h' tk as hk hal hG => ?_)
  have lak : as.length = ps.length := by omega
  have I' : Inv X pins σ H { s with heap := h', toks := tk } := I.kept hk
  have hn0 : H h'.objs.size = none := I'.hok.fresh (Nat.le_refl _)
  -- the pairs
  have pr : ∀ (j : Nat) (b : Addr) (e : Str × Nat), as[j]? = some b → ps[j]? = some e → ∃ t1 t2, h'.get? b = some { cls := .type "tuple", data := .seq #[Value.str e.1 t1, Value.int (e.2 : Nat) t2] } := by
    intro j b e hj he
    obtain ⟨key, k, x, f1, f2, f3⟩ := hG.pairs j b hj
    have hkv : (numK ps)[j]? = some ((Sum.inr e.1 : Key), V.int (e.2 : Nat)) := by
      unfold numK
      rw [List.getElem?_map, he]
      rfl
    obtain ⟨y, g1, g2, g3⟩ := LiI.paired_get kv hkv
    rw [f1] at g1
    cases g1
    obtain ⟨t2, rfl⟩ : ∃ t, x = Value.int (e.2 : Nat) t := g3
    have g2' : (Sum.inr e.1 : Key) = k := g2
    subst g2'
    obtain ⟨t1, rfl⟩ : ∃ t, key = Value.str e.1 t := relV_key (show keyIs (Sum.inr e.1) key = true from f2)
    exact ⟨t1, t2, f3⟩
  refine wpAny_bind (wpAny_newList ?_ (by rw [List.length_map, lak]; exact big))
  have hob : (h'.push { cls := .type "list", data := .seq (as.map Value.ref).toArray }).get? h'.objs.size = some (seqObj "list" (as.map Value.ref).toArray 0) := Heap.get?_push_size _ rfl
  have ka : ∀ b o, h'.get? b = some o → (h'.push { cls := .type "list", data := .seq (as.map Value.ref).toArray }).get? b = some o := fun b o e => Heap.get?_push_of_some _ e
  generalize h'.push { cls := .type "list", data := .seq (as.map Value.ref).toArray } = h2 at hob ka
  have er : EachIs (fun v (b : Addr × (Str × Nat)) => ∃ cs, Reads h2 v (pairD b.2) cs ∧ h'.objs.size ∉ cs) (as.map Value.ref) (as.zip ps) := each_zip (S := fun _ _ => True) lak fun j b e hj he => by
    obtain ⟨t1, t2, e1⟩ := pr j b e hj he
    refine ⟨[] ++ ([] ++ []), .tuple (ka _ _ e1) rfl rfl (.cons (.str _ _) (.cons (.int _ _) .nil)), by simp⟩
  have ee : EachIs (fun v (b : Addr × (Str × Nat)) => v = .ref b.1) (as.map Value.ref) (as.zip ps) := each_zip (S := fun _ _ => True) lak fun j b e hj he => rfl
  have zl : (as.zip ps).length = ps.length := by rw [List.length_zip]; omega
  refine wpAny_bind (wpAny_holding (wpAny_mono (list_sort_data (s := { s with heap := h2, toks := tk }) (A := X.A.in1) (n := 0) (R := fun v (b : Addr × (Str × Nat)) => v = .ref b.1) (enc := fun b => pairD b.2) (bs := as.zip ps) (Q := fun _ s' => EP X pins σ Q (.ref h'.objs.size) s') hob ee er
    (.of fun b c => pairD_alike b.2 c.2) (.tuples fun b => ⟨_, _, rfl⟩) (by omega) (fun b _ => ?_) fun out h1 h2' => ?_) (fun v s' x => wpAny_pure ⟨_, rfl, x⟩) fun _ _ e => e))
  · have : (pairD b.2).depth ≤ 1 := by
      unfold pairD
      simp [PyData.depth, PyData.depthAll]
    show X.A.units + 1 + 1 + _ < cLine
    omega
  · have hout := each_out h2'
    have hpm : ((as.zip ps).mergeSort (dataLe false fun b => pairD b.2)).Perm (as.zip ps) := List.mergeSort_perm _ _
    have hsp : ((as.zip ps).mergeSort (dataLe false fun b => pairD b.2)).map (·.2) = sortP ps := by
      unfold sortP
      rw [List.map_mergeSort (r := dataLe false fun b : Addr × (Str × Nat) => pairD b.2) (s := dataLe false pairD) (f := fun b => b.2) (l := as.zip ps) (fun a _ b _ => rfl), List.map_snd_zip (by omega)]
    generalize (as.zip ps).mergeSort (dataLe false fun b => pairD b.2) = zs at hout hpm hsp
    subst hout
    have zsl : zs.length = ps.length := by rw [hpm.length_eq]; exact zl
    have kF : ∀ b o, b ≠ h'.objs.size → h2.get? b = some o → (sortedHeap h2 h'.objs.size (as.map Value.ref) (zs.map fun b => Value.ref b.1).toArray).get? b = some o := fun b o hb e => (PyProof.Rows.sortedHeap_old hb (Heap.lt_size e)).trans e
    have kS : ∀ b o, h'.get? b = some o → (sortedHeap h2 h'.objs.size (as.map Value.ref) (zs.map fun b => Value.ref b.1).toArray).get? b = some o := fun b o e => kF b o (Nat.ne_of_lt (Heap.lt_size e)) (ka b o e)
    obtain ⟨eF, heF⟩ := PyProof.Rows.sortedHeap_at (vs := as.map Value.ref) (out := (zs.map fun b => Value.ref b.1).toArray) hob
    generalize sortedHeap h2 h'.objs.size (as.map Value.ref) (zs.map fun b => Value.ref b.1).toArray = h3 at kF kS heF
    have I1 : Inv X pins σ (upd H h'.objs.size (.lst (zs.map fun z => V.ref z.1))) { s with heap := h3, toks := tk } :=
      Inv.take (s := { s with heap := h3, toks := tk }) (h' := h3) (t' := tk) (I'.kept (t' := tk) (h' := h3) kS) (fun b ob _ e => e) (I'.fpOk (Nat.le_refl _) hn0) ⟨by rw [List.length_map]; omega, _, eF, vals_mref zs, by simpa using heF⟩
    have nd : as.Nodup := List.Pairwise.imp (fun {a b} (h : a < b) => Nat.ne_of_lt h) hG.rise
    obtain ⟨H2, I3, g, qt⟩ := L2.DX.takeT (P := fun b vs => ∃ (j : Nat) (e : Str × Nat), as[j]? = some b ∧ ps[j]? = some e ∧ vs = [.str e.1, .int (e.2 : Nat)]) I as _ I1 nd fun b hb => by
      have lb : b < h'.objs.size := hG.there hb
      have ab := Nat.le_of_lt (hG.above b hb)
      refine ⟨ab, by rw [upd_ne (Nat.ne_of_lt lb)]; exact I.hok.fresh ab, ?_⟩
      obtain ⟨j, hj⟩ := List.mem_iff_getElem?.mp hb
      have jl : j < ps.length := by rw [← lak]; exact (List.getElem?_eq_some_iff.mp hj).1
      obtain ⟨t1, t2, e1⟩ := pr j b ps[j] hj (List.getElem?_eq_getElem jl)
      refine ⟨_, ⟨j, ps[j], hj, List.getElem?_eq_getElem jl, rfl⟩, fun H2 => ?_⟩
      exact ⟨by show 2 ≤ sizeLine; decide, [Value.str ps[j].1 t1, Value.int (ps[j].2 : Nat) t2], .cons ⟨t1, rfl⟩ (.cons ⟨t2, rfl⟩ .nil), _, kS _ _ e1, rfl, 0, rfl⟩
    refine ⟨.ref h'.objs.size, H2, I3, rfl, q H2 h'.objs.size (zs.map fun z => V.ref z.1) (fun b o e => g b o ?_) hn0 (g _ _ upd_same) ?_⟩
    · rw [upd_ne (fun z => by rw [z, hn0] at e; cases e)]
      exact e
    · rw [← hsp]
      have key : ∀ ws : List (Addr × (Str × Nat)), (∀ z ∈ ws, z ∈ as.zip ps) → All2 (NumAt H2) (ws.map fun z => V.ref z.1) (ws.map (·.2)) := by
        intro ws
        induction ws with
        | nil => exact fun _ => rfl
        | cons z ws ih =>
          intro hz
          obtain ⟨j, hj⟩ := List.mem_iff_getElem?.mp (hz z List.mem_cons_self)
          obtain ⟨j1, j2⟩ := List.getElem?_zip_eq_some.mp hj
          obtain ⟨us, ⟨i, e, i1, i2, rfl⟩, hH⟩ := qt z.1 (List.mem_of_getElem? j1)
          have hij : i = j := by
            obtain ⟨hi, ei⟩ := List.getElem?_eq_some_iff.mp i1
            obtain ⟨hj', ej⟩ := List.getElem?_eq_some_iff.mp j1
            have rise := List.pairwise_iff_getElem.mp hG.rise
            rcases Nat.lt_trichotomy i j with l | l | l
            · have := rise i j hi hj' l
              rw [ei, ej] at this
              exact absurd this (Nat.lt_irrefl _)
            · exact l
            · have := rise j i hj' hi l
              rw [ei, ej] at this
              exact absurd this (Nat.lt_irrefl _)
          subst hij
          rw [j2] at i2
          cases i2
          exact ⟨_, _, rfl, ⟨z.1, rfl, hH⟩, ih fun y hy => hz y (List.mem_cons_of_mem _ hy)⟩
      exact key zs fun z hz => hpm.mem_iff.mp hz
end
end Fh
namespace Fh
open PySem PySem.Spec PySem.W PyProof.Rows L2 He
/-! ### lots and walks -/
abbrev Lot : Type := Str → Nat
def oneL (k : Str) : Lot := fun x => if x = k then 1 else 0
def subL (f : Lot) (k : Str) : Lot := fun x => if x = k then f x - 1 else f x
def addL (f : Lot) (os : List Str) : Lot := fun x => f x + os.count x
def movedL (f : Lot) (r : RuleD) : Lot := addL (subL f r.kind) r.out
/-- a walk by the names of rules, with lots and counts -/
inductive Goes (rs : List RuleD) : Lot → Int → List Str → Lot → Int → Prop
  | nil {f : Lot} {c : Int} : Goes rs f c [] f c
  | cons {f g : Lot} {c d : Int} {r : RuleD} {ns : List Str} : r ∈ rs → 0 < f r.kind → Goes rs (movedL f r) (c + r.change) ns g d → Goes rs f c (r.name :: ns) g d
theorem Goes.app {rs : List RuleD} {f g : Lot} {c d : Int} {ns ms : List Str} {k : Lot} {e : Int} (h : Goes rs f c ns g d) (h2 : Goes rs g d ms k e) : Goes rs f c (ns ++ ms) k e := by
  induction h with
  | nil => exact h2
  | cons hr hf _ ih => exact .cons hr hf (ih h2)
theorem Goes.snoc {rs : List RuleD} {f g : Lot} {c d : Int} {ns : List Str} (h : Goes rs f c ns g d) {r : RuleD} (hr : r ∈ rs) (hg : 0 < g r.kind) : Goes rs f c (ns ++ [r.name]) (movedL g r) (d + r.change) := h.app (.cons hr hg .nil)
theorem subL_pos {f : Lot} {k x : Str} (h : 0 < subL f k x) : 0 < f x := by
  unfold subL at h
  split at h <;> omega
theorem moved_pos {f : Lot} {r : RuleD} {x : Str} (h : 0 < movedL f r x) : 0 < f x ∨ x ∈ r.out := by
  unfold movedL addL at h
  by_cases hx : x ∈ r.out
  · exact .inr hx
  · rw [List.count_eq_zero_of_not_mem hx] at h
    exact .inl (subL_pos (k := r.kind) (by omega))
theorem moved_out {f : Lot} {r : RuleD} {x : Str} (h : x ∈ r.out) : 0 < movedL f r x := by
  have := List.count_pos_iff.mpr h
  unfold movedL addL
  omega
/-- a run to a kind: behind it the kind is there -/
theorem PathR.goes {rs : List RuleD} {s : Str} {run : List Str} {x : Str} (h : PathR rs s run x) (c : Int) : ∃ g d, Goes rs (oneL s) c run g d ∧ 0 < g x := by
  induction h with
  | nil => exact ⟨_, _, .nil, by unfold oneL; rw [if_pos rfl]; decide⟩
  | snoc _ hr hx ih =>
    obtain ⟨g, d, h1, h2⟩ := ih
    exact ⟨_, _, h1.snoc hr h2, moved_out hx⟩
theorem PathR.reach {rs : List RuleD} {s : Str} {run : List Str} {x : Str} (h : PathR rs s run x) : ReachIn rs s run.length x := by
  induction h with
  | nil => exact .zero
  | snoc _ hr hx ih =>
    rw [List.length_append]
    exact .succ ih hr hx
theorem RunsOk.len_eq {rs : List RuleD} {s : Str} {rr ts : List RunD} (h : RunsOk rs s rr) (h2 : RunsOk rs s ts) {x : Str} {a b : List Str} (ha : (x, a) ∈ rr) (hb : (x, b) ∈ ts) : a.length = b.length :=
  Nat.le_antisymm (h.least _ ha _ (h2.path _ hb).reach) (h2.least _ hb _ (h.path _ ha).reach)
/-- a walk from a kind to nothing -/
def EndsR (rs : List RuleD) (k : Str) (w : List Str) : Prop := ∀ f c, 0 < f k → ∃ d, Goes rs f c w (subL f k) d
def EndsAll (rs : List RuleD) : List Str → List (List Str) → Prop
  | [], ws => ws = []
  | o :: os, ws => ∃ w ws', ws = w :: ws' ∧ EndsR rs o w ∧ EndsAll rs os ws'
theorem EndsAll.snoc {rs : List RuleD} : ∀ {os : List Str} {ws : List (List Str)} {o : Str} {w : List Str}, EndsAll rs os ws → EndsR rs o w → EndsAll rs (os ++ [o]) (ws ++ [w])
  | [], ws, o, w, h, hw => by
    obtain rfl : ws = [] := h
    exact ⟨w, [], rfl, hw, rfl⟩
  | p :: os, ws, o, w, h, hw => by
    obtain ⟨v, ws', rfl, h1, h2⟩ := h
    exact ⟨v, _, rfl, h1, h2.snoc hw⟩
theorem ends_all {rs : List RuleD} : ∀ {os : List Str} {ws : List (List Str)}, EndsAll rs os ws → ∀ (g : Lot) (c : Int), ∃ d, Goes rs (addL g os) c ws.flatten g d
  | [], ws, h, g, c => by
    obtain rfl : ws = [] := h
    refine ⟨c, ?_⟩
    have : addL g [] = g := funext fun x => by unfold addL; rw [List.count_nil, Nat.add_zero]
    rw [this]
    exact .nil
  | o :: os, ws, h, g, c => by
    obtain ⟨w, ws', rfl, h1, h2⟩ := h
    have hp : 0 < addL g (o :: os) o := by
      unfold addL
      rw [List.count_cons_self]
      omega
    obtain ⟨d1, g1⟩ := h1 _ c hp
    have e : subL (addL g (o :: os)) o = addL g os := funext fun x => by
      unfold subL addL
      by_cases hx : x = o
      · subst hx
        rw [if_pos rfl, List.count_cons_self]
        omega
      · rw [if_neg hx, List.count_cons_of_ne (fun z => hx z.symm)]
    rw [e] at g1
    obtain ⟨d2, g2⟩ := ends_all h2 g d1
    exact ⟨d2, by rw [List.flatten_cons]; exact g1.app g2⟩
theorem ends_step {rs : List RuleD} {r : RuleD} (hr : r ∈ rs) {ws : List (List Str)} (h : EndsAll rs r.out ws) : EndsR rs r.kind (r.name :: ws.flatten) := fun f c hf => by
  obtain ⟨d, hd⟩ := ends_all h (subL f r.kind) (c + r.change)
  exact ⟨d, .cons hr hf hd⟩
theorem ends_none {k : Str} : subL (oneL k) k = fun _ => 0 := funext fun x => by
  unfold subL oneL
  split <;> rfl
/-! ### a lot as numbers by names -/
structure LotW (ks : List Str) (ps : NumsW) (f : Lot) : Prop where
  nodup : (ps.map (·.1)).Nodup
  in_ : ∀ x, x ∈ ps.map (·.1) ↔ 0 < f x
  at_ : ∀ x, atW ps x = f x
  sub : ∀ x, 0 < f x → x ∈ ks
theorem LotW.few {ks : List Str} {ps : NumsW} {f : Lot} (h : LotW ks ps f) : ps.length ≤ ks.length := by
  have := nodup_len (m := ks) h.nodup fun x hx => h.sub x ((h.in_ x).mp hx)
  rwa [List.length_map] at this
theorem LotW.one {ks : List Str} {k : Str} (hk : k ∈ ks) : LotW ks [(k, 1)] (oneL k) := by
  refine ⟨by simp, fun x => ?_, fun x => ?_, fun x hx => ?_⟩
  · unfold oneL
    by_cases e : x = k
    · subst e
      simp
    · simp [e]
  · unfold atW oneL
    rw [List.lookup_cons]
    by_cases e : x = k
    · subst e
      simp
    · rw [show (x == k) = false from beq_eq_false_iff_ne.mpr e]
      simp [e]
  · unfold oneL at hx
    split at hx
    · rename_i e
      rw [e]
      exact hk
    · omega
theorem LotW.none {ks : List Str} {ps : NumsW} {f : Lot} (h : LotW ks ps f) (hf : ∀ x, f x = 0) : ps = [] := by
  cases ps with
  | nil => rfl
  | cons p ps =>
    have := (h.in_ p.1).mp (by simp)
    rw [hf] at this
    omega
/-- the rule of a name -/
theorem rule_named_filter {rs : List RuleD} (hn : (rs.map (·.name)).Nodup) {r : RuleD} (hr : r ∈ rs) : (rs.filter fun q => decide (q.name = r.name)) = [r] := by
  induction rs with
  | nil => cases hr
  | cons q rs ih =>
    rw [List.map_cons, List.nodup_cons] at hn
    rcases List.mem_cons.mp hr with rfl | hr
    · rw [List.filter_cons_of_pos (by simp)]
      congr 1
      refine List.filter_eq_nil_iff.mpr fun y hy => ?_
      intro z
      exact hn.1 (by rw [← of_decide_eq_true z]; exact List.mem_map_of_mem hy)
    · rw [List.filter_cons_of_neg (fun z => hn.1 (by rw [of_decide_eq_true z]; exact List.mem_map_of_mem hr)), ih hn.2 hr]
end Fh
namespace Fh
open PySem PySem.Spec PySem.W PyProof.Rows L2 He
theorem valV_in {k : Key} : ∀ {kvs : List (Key × V)} {u : V}, valV kvs k = some u → u ∈ kvs.map (·.2)
  | [], u, h => by cases h
  | p :: kvs, u, h => by
    by_cases e : p.1 = k
    · rw [valV_pos (p := p) e] at h
      rw [← Option.some.inj h]
      exact List.mem_cons_self
    · rw [valV_neg (p := p) e] at h
      exact List.mem_cons_of_mem _ (valV_in h)
/-! ### shortest walks: what is told -/
def AboutV (H H' : Hp) (rr : List RunD) (x : Str) (v : V) : Prop := (v = .non ∧ x ∉ rr.map (·.1)) ∨ ∃ a run, v = .ref a ∧ H a = none ∧ H' a = some (.lst (run.map V.str)) ∧ (x, run) ∈ rr
def spSab (K : PySem.W.Frag) (C : Addr) : Sp := fun vs H Q E => ∃ p v d ks hs rs st c, vs = [.ref p, v] ∧ BookAt C H p ks hs rs st c ∧ BookOk ks hs rs st ∧ ks.length ≤ 40 ∧ Dq H d v ∧
  (∀ x u rr H', d = .str x → x ∈ ks → RunsOk rs st rr → RunsDet (sortR rs) st rr → Same H H' → AboutV H H' rr x u → Q u H') ∧
  (amongD ks d = false → ∀ dx H2, Same H H2 → H dx = none → H2 dx = some (exd dx [("value", v)]) → E (.ref (ga K "NoKind")) (some dx) H2)
end Fh
namespace Fh
open PySem PySem.Spec PySem.W PyProof.Rows L2 He
/-! ### a thing just told is locked, and stays so -/
def tLockV (t : TE) : TE := fun σ H Q => t σ H fun x H1 => ∃ d u, x = .ref d ∧ H1 d = some u ∧ Mut (some u) ∧ ∀ od, Q x (upd H1 d (.frz od u))
theorem pe_lockV {X : Cx} {e : Expr} {t : TE} (h : PE X e t) : PE X e (tLockV t) := by
  refine ⟨fun pins s σ H Q I hw => thn (h.run pins s σ H _ I hw) fun v s1 ⟨x, H1, I1, r, d, u, ex, hd, mu, q⟩ => ?_⟩
  obtain ⟨od, I2⟩ := I1.lock hd mu
  exact ⟨x, _, I2, r, q od⟩
/-! ### walks to nothing, as they stand -/
/-- the walks of steps, one by one -/
def walkOf (tab : List RunD) (s : StepD) : List Str := s.2.name :: (s.2.out.map fun x => (tab.lookup x).getD []).flatten
def walkTab (ss : List StepD) : List RunD := ss.foldl (fun tab s => tab ++ [(s.2.kind, walkOf tab s)]) []
theorem walkTab_snoc (ss : List StepD) (s : StepD) : walkTab (ss ++ [s]) = walkTab ss ++ [(s.2.kind, walkOf (walkTab ss) s)] := by
  unfold walkTab
  rw [List.foldl_append]
  rfl
def WalkIs (ss : List StepD) (x : Str) (w : List Str) : Prop := ∃ i s, ss[i]? = some s ∧ s.2.kind = x ∧ w = walkOf (walkTab (ss.take i)) s
theorem WalkIs.uniq {ss : List StepD} (hn : (ss.map fun s => s.2.kind).Nodup) {x : Str} {w u : List Str} (h : WalkIs ss x w) (h2 : WalkIs ss x u) : w = u := by
  obtain ⟨i, s, e, hk, rfl⟩ := h
  obtain ⟨j, t, e2, hk2, rfl⟩ := h2
  have hij : i = j := by
    obtain ⟨hi, ei⟩ := List.getElem?_eq_some_iff.mp e
    obtain ⟨hj, ej⟩ := List.getElem?_eq_some_iff.mp e2
    have rise := List.pairwise_iff_getElem.mp hn
    have g : ∀ (a b : Nat) (ha : a < ss.length) (hb : b < ss.length), (ss[a]).2.kind = (ss[b]).2.kind → ¬ a < b := fun a b ha hb he hl => by
      have := rise a b (by rw [List.length_map]; exact ha) (by rw [List.length_map]; exact hb) hl
      rw [List.getElem_map, List.getElem_map] at this
      exact this he
    have he : (ss[i]).2.kind = (ss[j]).2.kind := by rw [ei, ej, hk, hk2]
    have a := g i j hi hj he
    have b := g j i hj hi he.symm
    omega
  subst hij
  rw [e] at e2
  cases e2
  rfl
def WalkAt (tab : List RunD) (rs : List RuleD) (H : Hp) (v : V) (s : StepD) : Prop := ∃ a w, v = .ref a ∧ H a = some (.lst (w.map V.str)) ∧ EndsR rs s.2.kind w ∧ w.length = s.1 ∧ tab.lookup s.2.kind = some w
structure WalksAt (tab : List RunD) (rs : List RuleD) (H : Hp) (kvs : List (Key × V)) (ss : List StepD) : Prop where
  keys : kvs.map (·.1) = (ss.map fun s => s.2.kind).map Sum.inr
  vals : All2 (WalkAt tab rs H) (kvs.map (·.2)) ss
theorem WalksAt.imp {tab : List RunD} {rs : List RuleD} {H H' : Hp} {kvs : List (Key × V)} {ss : List StepD} (s : ∀ a xs, .ref a ∈ kvs.map (·.2) → H a = some (.lst xs) → H' a = some (.lst xs)) (h : WalksAt tab rs H kvs ss) : WalksAt tab rs H' kvs ss := by
  refine ⟨h.keys, ?_⟩
  have key : ∀ {us : List V} {qs : List StepD}, (∀ v ∈ us, v ∈ kvs.map (·.2)) → All2 (WalkAt tab rs H) us qs → All2 (WalkAt tab rs H') us qs := by
    intro us
    induction us with
    | nil => exact fun _ h => h
    | cons u us ih =>
      rintro qs hu ⟨q, t, e, ⟨a, w, rfl, h1, h2⟩, h3⟩
      exact ⟨q, t, e, ⟨a, w, rfl, s a _ (hu _ List.mem_cons_self) h1, h2⟩, ih (fun v hv => hu v (List.mem_cons_of_mem _ hv)) h3⟩
  exact key (fun _ h => h) h.vals
theorem WalksAt.at_ {tab : List RunD} {rs : List RuleD} {H : Hp} : ∀ {ss : List StepD} {kvs : List (Key × V)} {x : Str}, WalksAt tab rs H kvs ss → inW (nosOf ss) x = true → ∃ a w, valV kvs (Sum.inr x : Key) = some (.ref a) ∧ .ref a ∈ kvs.map (·.2) ∧ H a = some (.lst (w.map V.str)) ∧ EndsR rs x w ∧ w.length = atW (nosOf ss) x ∧ tab.lookup x = some w
  | [], kvs, x, _, hx => by cases hx
  | s :: ss, [], x, h, _ => by
    have := h.keys
    cases this
  | s :: ss, (k, v) :: kvs, x, h, hx => by
    have hk := h.keys
    rw [List.map_cons, List.map_cons, List.map_cons] at hk
    obtain ⟨hk1, hk2⟩ := List.cons.inj hk
    have hk1' : k = Sum.inr s.2.kind := hk1
    subst hk1'
    obtain ⟨s', t', e, ⟨a, w, rfl, h1, h2, h3, h5⟩, h4⟩ := h.vals
    obtain ⟨rfl, rfl⟩ := List.cons.inj e
    by_cases hs : s.2.kind = x
    · subst hs
      refine ⟨a, w, valV_pos (p := (Sum.inr s.2.kind, _)) rfl, List.mem_cons_self, h1, h2, ?_, h5⟩
      rw [h3]
      unfold atW nosOf
      rw [List.map_cons, List.lookup_cons, show (s.2.kind == s.2.kind) = true from beq_self_eq_true _]
      rfl
    · have hx2 : inW (nosOf ss) x = true := by
        unfold inW nosOf at hx ⊢
        rw [List.map_cons, List.map_cons, List.contains_cons] at hx
        rcases Bool.or_eq_true_iff.mp hx with z | z
        · exact absurd (eq_of_beq z).symm hs
        · exact z
      obtain ⟨a2, w2, e1, e2, e3, e4, e5, e6⟩ := WalksAt.at_ (ss := ss) (kvs := kvs) ⟨hk2, h4⟩ hx2
      refine ⟨a2, w2, ?_, List.mem_cons_of_mem _ e2, e3, e4, ?_, e6⟩
      · rw [valV_neg (p := (Sum.inr s.2.kind, _)) (fun z => hs (Sum.inr.inj z))]
        exact e1
      · rw [e5]
        unfold atW nosOf
        rw [List.map_cons, List.lookup_cons, show (x == s.2.kind) = false from beq_eq_false_iff_ne.mpr fun z => hs z.symm]
theorem WalksAt.more {tab : List RunD} {rs : List RuleD} {H : Hp} {kvs : List (Key × V)} {ss : List StepD} (h : WalksAt tab rs H kvs ss) (q : List RunD) : WalksAt (tab ++ q) rs H kvs ss :=
  ⟨h.keys, h.vals.imp fun _ _ ⟨a, w, e, h1, h2, h3, h4⟩ => ⟨a, w, e, h1, h2, h3, by rw [List.lookup_append, h4]; rfl⟩⟩
theorem walkFold_keys : ∀ (ss : List StepD) (tab : List RunD), (ss.foldl (fun tab s => tab ++ [(s.2.kind, walkOf tab s)]) tab).map (·.1) = tab.map (·.1) ++ ss.map fun s => s.2.kind
  | [], tab => by simp
  | s :: ss, tab => by
    rw [List.foldl_cons, walkFold_keys ss, List.map_append, List.append_assoc]
    rfl
theorem walkTab_keys (ss : List StepD) : (walkTab ss).map (·.1) = ss.map fun s => s.2.kind := walkFold_keys ss []
theorem lookup_new : ∀ {tab : List RunD} {k : Str} {w : List Str}, k ∉ tab.map (·.1) → (tab ++ [(k, w)]).lookup k = some w
  | [], k, w, _ => by
    show List.lookup k [(k, w)] = _
    rw [List.lookup_cons, beq_self_eq_true]
  | p :: tab, k, w, h => by
    rw [List.map_cons, List.mem_cons, not_or] at h
    rw [List.cons_append, List.lookup_cons, show (k == p.1) = false from beq_eq_false_iff_ne.mpr h.1]
    exact lookup_new h.2
theorem WalksAt.add {tab : List RunD} {rs : List RuleD} {H : Hp} {kvs : List (Key × V)} {ss : List StepD} (h : WalksAt tab rs H kvs ss) {v : V} {s : StepD} (hv : WalkAt tab rs H v s) (hn : s.2.kind ∉ ss.map fun s => s.2.kind) : WalksAt tab rs H (putK kvs (Sum.inr s.2.kind : Key) v) (ss ++ [s]) := by
  have hnone : valV kvs (Sum.inr s.2.kind : Key) = none := by
    have := key_some (x := s.2.kind) h.keys
    cases e : valV kvs (Sum.inr s.2.kind : Key) with
    | none => rfl
    | some _ =>
      rw [e] at this
      exact absurd (List.contains_iff_mem.mp this.symm) hn
  rw [putK_new _ hnone]
  refine ⟨?_, ?_⟩
  · rw [List.map_append, h.keys, List.map_append, List.map_append]
    rfl
  · rw [List.map_append]
    exact h.vals.app ⟨s, [], rfl, hv, rfl⟩
theorem WalksAt.len {tab : List RunD} {rs : List RuleD} {H : Hp} {kvs : List (Key × V)} {ss : List StepD} (h : WalksAt tab rs H kvs ss) : kvs.length = ss.length := by
  have := h.vals.len
  rwa [List.length_map] at this
theorem StepsAt.get {H : Hp} {kvs : List (Key × V)} {ss : List StepD} (h : StepsAt H kvs ss) {i : Nat} {k : Key} {v : V} (e : kvs[i]? = some (k, v)) : ∃ s, ss[i]? = some s ∧ k = Sum.inr s.2.kind ∧ StepAt H v s := by
  have e2 : (kvs.map (·.2))[i]? = some v := by rw [List.getElem?_map, e]; rfl
  obtain ⟨s, hs, hv⟩ := h.vals.get e2
  refine ⟨s, hs, ?_, hv⟩
  have e1 : (kvs.map (·.1))[i]? = some k := by rw [List.getElem?_map, e]; rfl
  rw [h.keys, List.getElem?_map, List.getElem?_map, hs] at e1
  exact (Option.some.inj e1).symm
/-- how long walks are -/
theorem FirstOk.small {rs : List RuleD} {ss : List StepD} (W : FirstOk rs ss) (h4 : ∀ r ∈ rs, r.out.length ≤ 4) (hl : ss.length ≤ 6) {i : Nat} {s : StepD} (h : ss[i]? = some s) : s.1 ≤ 15625 := by
  have h' : (nosOf ss)[i]? = some (s.2.kind, s.1) := by
    unfold nosOf
    rw [List.getElem?_map, h]
    rfl
  have hi := (List.getElem?_eq_some_iff.mp h).1
  have := chain_le W.ways h4 i _ _ h'
  have h2 : 5 ^ (i + 1) ≤ 5 ^ 6 := Nat.pow_le_pow_right (by decide) (by omega)
  have h3 : (5 : Nat) ^ 6 = 15625 := by decide
  omega
theorem lookup_of_mem : ∀ {ps : NumsW} {k : Str} {n : Nat}, (ps.map (·.1)).Nodup → (k, n) ∈ ps → ps.lookup k = some n
  | [], _, _, _, h => by cases h
  | (a, m) :: ps, k, n, hn, h => by
    rw [List.map_cons, List.nodup_cons] at hn
    rw [List.lookup_cons]
    rcases List.mem_cons.mp h with e | h
    · cases e
      rw [beq_self_eq_true]
    · rw [show (k == a) = false from beq_eq_false_iff_ne.mpr fun z => hn.1 (by rw [← z]; exact List.mem_map.mpr ⟨_, h, rfl⟩)]
      exact lookup_of_mem hn.2 h
theorem FirstOk.at_kind {rs : List RuleD} {ss : List StepD} (W : FirstOk rs ss) {i : Nat} {s : StepD} (h : ss[i]? = some s) : (nosOf ss).lookup s.2.kind = some s.1 := by
  have h' : (s.2.kind, s.1) ∈ nosOf ss := List.mem_map.mpr ⟨s, List.mem_of_getElem? h, rfl⟩
  exact lookup_of_mem W.ways.nodup h'
theorem FirstOk.new_kind {rs : List RuleD} {ss : List StepD} (W : FirstOk rs ss) {i : Nat} {s : StepD} (h : ss[i]? = some s) : s.2.kind ∉ (ss.take i).map fun s => s.2.kind := fun z => by
  obtain ⟨_, hc, _⟩ := W.chain.ok i s h
  unfold candW at hc
  obtain ⟨h1, _⟩ := Bool.and_eq_true_iff.mp hc
  have : inW (nosOf (ss.take i)) s.2.kind = true := by
    unfold inW
    rw [nosOf_keys]
    exact List.contains_iff_mem.mpr z
  rw [this] at h1
  cases h1
def EndV (rs : List RuleD) (H H' : Hp) (ss : List StepD) (x : Str) (v : V) : Prop := (v = .non ∧ (nosOf ss).lookup x = none) ∨ ∃ a w n, v = .ref a ∧ H a = none ∧ H' a = some (.lst (w.map V.str)) ∧ EndsR rs x w ∧ (nosOf ss).lookup x = some n ∧ w.length = n ∧ WalkIs ss x w
def spSen (K : PySem.W.Frag) (C : Addr) : Sp := fun vs H Q E => ∃ p v d ks hs rs st c, vs = [.ref p, v] ∧ BookAt C H p ks hs rs st c ∧ BookOk ks hs rs st ∧ ks.length ≤ 40 ∧ (∀ r ∈ rs, r.out.length ≤ 4) ∧ Dq H d v ∧ ks.length ≤ 6 ∧
  (∀ x u ss H', d = .str x → x ∈ ks → FirstOk rs ss → (∀ r ∈ rs, candW (nosOf ss) r = false) → StepsDet rs ss → Same H H' → EndV rs H H' ss x u → Q u H') ∧
  (amongD ks d = false → ∀ dx H2, Same H H2 → H dx = none → H2 dx = some (exd dx [("value", v)]) → E (.ref (ga K "NoKind")) (some dx) H2)
end Fh
namespace Fh
open PySem PySem.Spec PySem.W PyProof.Rows L2 He
/-! ### numbers by names, noughts among them -/
structure NumsW2 (ks : List Str) (ps : NumsW) (g : Lot) : Prop where
  nodup : (ps.map (·.1)).Nodup
  at_ : ∀ x, atW ps x = g x
  sub : ∀ x ∈ ps.map (·.1), x ∈ ks
theorem NumsW2.few {ks : List Str} {ps : NumsW} {g : Lot} (h : NumsW2 ks ps g) : ps.length ≤ ks.length := by
  have := nodup_len (m := ks) h.nodup h.sub
  rwa [List.length_map] at this
theorem LotW.nums {ks : List Str} {ps : NumsW} {f : Lot} (h : LotW ks ps f) : NumsW2 ks ps f := ⟨h.nodup, h.at_, fun x hx => h.sub x ((h.in_ x).mp hx)⟩
theorem NumsW2.put {ks : List Str} {ps : NumsW} {g : Lot} (h : NumsW2 ks ps g) {x : Str} (hx : x ∈ ks) (n : Nat) : NumsW2 ks (putW ps x n) (fun y => if y = x then n else g y) := by
  refine ⟨?_, fun y => ?_, fun y hy => ?_⟩
  · rw [put_keys]
    split
    · exact h.nodup
    · rename_i hn
      refine List.nodup_append.mpr ⟨h.nodup, by simp, fun a ha b hb e => ?_⟩
      rw [List.mem_singleton.mp hb] at e
      subst e
      exact hn (inW_mem.mpr ha)
  · have := h.at_ y
    unfold atW at this ⊢
    rw [lookup_put]
    split
    · rfl
    · exact this
  · rw [put_keys] at hy
    split at hy
    · exact h.sub y hy
    · rcases List.mem_append.mp hy with hy | hy
      · exact h.sub y hy
      · rw [List.mem_singleton.mp hy]
        exact hx
theorem NumsW2.fun_ {ks : List Str} {ps : NumsW} {g g' : Lot} (h : NumsW2 ks ps g) (e : ∀ x, g x = g' x) : NumsW2 ks ps g' := ⟨h.nodup, fun x => (h.at_ x).trans (e x), h.sub⟩
/-- those above nought -/
def posW (ps : NumsW) : NumsW := ps.filter fun q => decide (0 < q.2)
theorem posW_in {ps : NumsW} (hn : (ps.map (·.1)).Nodup) (x : Str) : x ∈ (posW ps).map (·.1) ↔ 0 < atW ps x := by
  constructor
  · intro hx
    obtain ⟨q, hq, rfl⟩ := List.mem_map.mp hx
    obtain ⟨hm, hp⟩ := List.mem_filter.mp hq
    rw [atW_of (lookup_of_mem hn (show (q.1, q.2) ∈ ps from hm))]
    exact of_decide_eq_true hp
  · intro hx
    cases e : ps.lookup x with
    | none =>
      unfold atW at hx
      rw [e] at hx
      exact absurd hx (by decide)
    | some n =>
      rw [atW_of e] at hx
      exact List.mem_map.mpr ⟨(x, n), List.mem_filter.mpr ⟨lookup_mem e, decide_eq_true hx⟩, rfl⟩
theorem NumsW2.pos {ks : List Str} {ps : NumsW} {g : Lot} (h : NumsW2 ks ps g) : LotW ks (posW ps) g := by
  have hs : ((posW ps).map (·.1)).Nodup := h.nodup.sublist (List.filter_sublist.map _)
  have hin : ∀ x, x ∈ (posW ps).map (·.1) ↔ 0 < g x := fun x => by rw [posW_in h.nodup, h.at_]
  refine ⟨hs, hin, fun x => ?_, fun x hx => ?_⟩
  · by_cases hx : 0 < g x
    · obtain ⟨q, hq, e⟩ := List.mem_map.mp ((hin x).mpr hx)
      subst e
      have hm := (List.mem_filter.mp hq).1
      rw [atW_of (lookup_of_mem hs (show (q.1, q.2) ∈ posW ps from hq)), ← h.at_, atW_of (lookup_of_mem h.nodup (show (q.1, q.2) ∈ ps from hm))]
    · have : (posW ps).lookup x = none := by
        cases e : (posW ps).lookup x with
        | none => rfl
        | some n => exact absurd ((hin x).mp (inW_mem.mp (inW_of e))) hx
      unfold atW
      rw [this]
      show 0 = g x
      omega
  · have := (hin x).mpr hx
    obtain ⟨q, hq, e⟩ := List.mem_map.mp this
    rw [← e]
    exact h.sub _ (List.mem_map_of_mem (List.mem_filter.mp hq).1)
theorem lot_at {ks : List Str} {ps : NumsW} {g : Lot} (h : LotW ks ps g) {x : Str} (hx : 0 < g x) : inW ps x = true := inW_mem.mpr ((h.in_ x).mpr hx)
theorem add_take {g : Lot} {os : List Str} {j : Nat} {o : Str} (e : os[j]? = some o) (x : Str) : addL g (os.take (j + 1)) x = if x = o then addL g (os.take j) o + 1 else addL g (os.take j) x := by
  unfold addL
  rw [List.take_add_one, e]
  show g x + (os.take j ++ [o]).count x = _
  rw [List.count_append]
  by_cases hx : x = o
  · subst hx
    rw [if_pos rfl, List.count_singleton_self]
    omega
  · rw [if_neg hx, List.count_singleton]
    rw [if_neg (by simpa using fun z : o = x => hx z.symm)]
    omega
theorem paired_imp {α β : Type} {F G : α → β → Prop} {xs : List α} {ys : List β} (h : Paired F xs ys) (k : ∀ x y, F x y → G x y) : Paired G xs ys := by
  induction h with
  | nil => exact .nil
  | cons r _ ih => exact .cons (k _ _ r) ih
theorem paired_app {α β : Type} {F : α → β → Prop} {xs us : List α} {ys ws : List β} (h : Paired F xs ys) (h2 : Paired F us ws) : Paired F (xs ++ us) (ys ++ ws) := by
  induction h with
  | nil => exact h2
  | cons r _ ih => exact .cons r ih
def spMoved : Sp := fun vs H Q _ => ∃ a v ks ps f r, vs = [.ref a, v] ∧ H a = some (.dK (numK ps)) ∧ LotW ks ps f ∧ ks.length ≤ 40 ∧ RuleAt H v r ∧ 0 < f r.kind ∧ r.kind ∈ ks ∧ (∀ x ∈ r.out, x ∈ ks) ∧ r.out.length ≤ 1000 ∧
  ∀ D qs H', Same H H' → H D = none → H' D = some (.dK (numK qs)) → LotW ks qs (movedL f r) → Q (.ref D) H'
def ruleOf (rs : List RuleD) (nm : Str) : List RuleD := rs.filter fun r => decide (r.name = nm)
def spRuleOf : Sp := fun vs H Q _ => ∃ p q ks hs rs nm, vs = [.ref p, .str nm] ∧ PlanAt H p q ks hs rs ∧ rs.length ≤ 1000 ∧ ∀ D us H', Same H H' → H D = none → H' D = some (.lst us) → Rules H' us (ruleOf rs nm) → Q (.ref D) H'
end Fh
namespace Fh
open PySem PySem.Spec PyProof.Rows L2 He
/-! ### tuples as they stand, with no names of their own; dict(a tuple of pairs) -/
def PlainT (H : Hp) (a : Addr) (xs : List V) : Prop := ∃ o : Obj, H a = some (.frz o (.tup xs)) ∧ o.dict = none
section
variable {X : Cx} {t : TA} {es : List Expr} {pos : Pos} {pins : List (Addr × Obj)} {σ : Sto} {H : Hp} {s : Shared}
def tTupF (t : TA) : TE := fun σ H Q => t σ H fun xs H1 => xs.length ≤ sizeLine ∧ ∀ p o, H1 p = none → (o : Obj).dict = none → Q (.ref p) (upd H1 p (.frz o (.tup xs)))
theorem laid_tup (I : Inv X pins σ H s) {h' : Heap} {tk : Nat} {xs : List V} {us : List Value} (k : ∀ b o, s.heap.get? b = some o → h'.get? b = some o) (r : Vals xs us) (z : xs.length ≤ sizeLine) :
    Inv X pins σ (upd H h'.objs.size (.frz { cls := .type "tuple", data := .seq us.toArray } (.tup xs))) { s with heap := h'.push { cls := .type "tuple", data := .seq us.toArray }, toks := tk } ∧ H h'.objs.size = none := by
  have I1 : Inv X pins σ H { s with heap := h', toks := tk } := I.kept k
  have top : (h'.push { cls := .type "tuple", data := .seq us.toArray }).get? h'.objs.size = some { cls := .type "tuple", data := .seq us.toArray } := Heap.get?_push_size _ rfl
  have I2 := I1.laid (o := .frz { cls := .type "tuple", data := .seq us.toArray } (.tup xs)) (t' := tk) (h' := h'.push { cls := .type "tuple", data := .seq us.toArray }) (fun _ _ e => Heap.get?_push_of_some _ e) (Nat.le_refl _) ⟨top, z, us, r, _, top, rfl, _, rfl⟩
  exact ⟨I2, I1.hok.fresh (Nat.le_refl _)⟩
theorem pe_tupF {x1} (h : PA X es t) : PE X (.Tuple es x1 pos) (tTupF t) := by
  refine ⟨fun pins s σ H Q I hq => wpAny_Tuple_spliced (thn (h.run pos pins s σ H _ I hq) fun us s1 ⟨xs, H1, I1, r, z, q⟩ => ⟨by rw [← r.length]; exact z, ?_⟩)⟩
  obtain ⟨I2, n⟩ := laid_tup (tk := s1.toks) I1 (h' := s1.heap) (fun _ _ e => e) r z
  exact ⟨.ref s1.heap.objs.size, _, I2, rfl, q _ _ n rfl⟩
def rTupF (K : PySem.W.Frag) : List V → Hp → VK → Prop := fun xs H Q => ∃ p ys, xs = [V.ref p] ∧ SqL K H p ys ∧ ∀ l o, H l = none → (o : Obj).dict = none → Q (.ref l) (upd H l (.frz o (.tup ys)))
theorem call_tupF : CallR X (.type "tuple") (rTupF X.K) := by
  intro pins s σ H xs us Q I r h
  obtain ⟨p, ys, rfl, hq, q⟩ := h
  rw [Vals.ref1 r]
  obtain ⟨its, rv, pl, hz⟩ := I.list hq
  have hlen := rv.length
  refine call_tuple_list pl.isList (fun h' kp => ?_) (by rw [List.size_toArray]; omega)
  obtain ⟨I2, n⟩ := laid_tup (tk := s.toks) I kp rv hz
  exact ⟨.ref h'.objs.size, _, I2, rfl, q _ _ n rfl⟩
theorem pairs_two (I : Inv X pins σ H s) : ∀ {ps : List Addr} {kvs : List (Key × V)}, Paired (fun p kv => SqT X.K H p [kV kv.1, kv.2]) ps kvs →
    ∃ (prs : List (Key × Value)) (vps : List (Value × Value)), KV kvs prs ∧ prs.length = ps.length ∧ vps.length = ps.length ∧ ∀ (j : Nat) (k v : Value), vps[j]? = some (k, v) → ∃ b key, ps[j]? = some b ∧ s.heap.IsTuple b #[k, v] ∧ prs[j]? = some (key, v) ∧ keyIs key k = true
  | _, _, .nil => ⟨[], [], .nil, rfl, rfl, fun j k v e => by simp at e⟩
  | _, _, .cons (a := p) (b := kv) h t => by
    obtain ⟨prs, vps, r, l1, l2, hp⟩ := pairs_two I t
    obtain ⟨its, rv, ht, _⟩ := I.tuple h
    obtain ⟨u, y, ei, ru, ry⟩ := vals2 rv
    subst ei
    refine ⟨(kv.1, y) :: prs, (u, y) :: vps, .cons ⟨rfl, ry⟩ r, by simp [l1], by simp [l2], fun j k v e => ?_⟩
    cases j with
    | zero =>
      cases e
      exact ⟨p, kv.1, rfl, ht, rfl, kV_is (P := X.prog) (w := X.w) ru⟩
    | succ j => exact hp j k v e
def rDictU (K : PySem.W.Frag) : List V → Hp → VK → Prop := fun xs H Q => ∃ (a : Addr) (ps : List Addr) (kvs : List (Key × V)), xs = [V.ref a] ∧ PlainT H a (ps.map V.ref) ∧ Paired (fun p kv => SqT K H p [kV kv.1, kv.2]) ps kvs ∧ ps.length ≤ 1000 ∧ ∀ p, H p = none → Q (.ref p) (upd H p (.dK (mergeK [] kvs)))
theorem call_dictU (hcalm : X.calm = true) : CallR X (.type "dict") (rDictU X.K) := by
  intro pins s σ H xs us Q I r h
  obtain ⟨a, ps, kvs, rfl, ⟨ob, ea, nd⟩, hp, hl, q⟩ := h
  rw [Vals.ref1 r]
  obtain ⟨hob, hz, its, rv, o2, ho2, hc, n, hd⟩ := I.hok a _ ea
  rw [hob] at ho2
  cases ho2
  have ei := refs_at rv
  subst ei
  obtain ⟨prs, vps, rel, l1, l2, hpr⟩ := pairs_two I hp
  refine PySem.call_dict_pairs (knd := mixKind X.prog X.w) (kvs := prs) (PairArg.tuple a (ps.map Value.ref).toArray (fun j => ps.getD j 0) vps) (I.ok.hd hcalm) ⟨⟨ob, n, hob, hc, nd, hd⟩, by simp [l2], fun j k v e => ?_⟩ ⟨by rw [l1, l2], fun i key v e => ?_⟩ (by rw [l2, sizeLine_eq]; omega) fun h' tk hd' k => ?_
  · obtain ⟨b, key, e1, e2, _⟩ := hpr j k v e
    have eg : ps.getD j 0 = b := by rw [List.getD_eq_getElem?_getD, e1]; rfl
    show _ = some (Value.ref (ps.getD j 0)) ∧ PySem.PairAt s.heap (ps.getD j 0) k v
    rw [eg]
    exact ⟨by simp [e1], .inl e2⟩
  · obtain ⟨b, k2, _, _, e3, e4⟩ := hpr i key v e
    exact ⟨k2, e3, e4⟩
  · have hm : (s.heap.objs.size == sysModules) = false := beq_eq_false_iff_ne.mpr (Nat.ne_of_gt I.big)
    have hlen : (mergeK [] kvs).length ≤ sizeLine := by
      have e1 := length_mergeK kvs []
      have e2 := rel.length
      rw [List.length_nil, Nat.zero_add] at e1
      rw [sizeLine_eq]
      omega
    have I2 := I.laid (o := .dK (mergeK [] kvs)) (t' := tk) (h' := h') (fun b o e => k b o (by simp) e) (Nat.le_refl _) ⟨hlen, hm, _, KV.merge rel .nil, hd'⟩
    exact ⟨.ref s.heap.objs.size, _, I2, rfl, q _ (I.hok.fresh (Nat.le_refl _))⟩
end
end Fh
namespace Fh
open PySem PySem.Spec PySem.W PyProof.Rows L2 He
theorem call_isiK {X : Cx} {K : PySem.W.Frag} (hK : X.K = K := by rfl) : CallR X (.builtin "isinstance") (rIsi K) := by
  subst hK
  exact call_isi
/-! ### stands, as a law tells them -/
/-- a count and what is left -/
def StandAt (ks : List Str) (H : Hp) (v : V) (c : Int) (g : Lot) : Prop := ∃ T U us qs, v = .ref T ∧ H T = some (.tup [.int c, .ref U]) ∧ PlainT H U us ∧ All2 (NumAt H) us (sortP qs) ∧ LotW ks qs g
/-- tuples stay, plain ones too -/
def Tups2 (H H' : Hp) : Prop := Tups H H' ∧ ∀ b (o : Obj) u, H b = some (.frz o u) → H' b = some (.frz o u)
theorem Tups2.same {H H' : Hp} (s : Same H H') : Tups2 H H' := ⟨.same s, fun b o u e => s b _ e⟩
theorem Tups2.lst {H : Hp} {l : Addr} {xs : List V} {o : HO} (h : H l = some (.lst xs)) : Tups2 H (upd H l o) := ⟨.lst h, fun b ob u e => by
  rw [upd_ne (fun z => by rw [z, h] at e; cases e)]
  exact e⟩
theorem StandAt.ups {ks : List Str} {H H' : Hp} {v : V} {c : Int} {g : Lot} (s : Tups2 H H') (h : StandAt ks H v c g) : StandAt ks H' v c g :=
  let ⟨T, U, us, qs, e, h1, ⟨o, h2, hd⟩, h3, h4⟩ := h
  ⟨T, U, us, qs, e, s.1 _ _ h1, ⟨o, s.2 _ _ _ h2, hd⟩, h3.imp fun _ _ ⟨a, e, r⟩ => ⟨a, e, s.1 _ _ r⟩, h4⟩
/-- of walks that can be done -/
def spStandsG : Sp := fun vs H Q _ => ∃ p q ks hs rs k wk c ns g d, vs = [.ref p, .str k, .ref wk, .int c] ∧ PlanAt H p q ks hs rs ∧ PlanB ks rs ∧ (rs.map (·.name)).Nodup ∧ k ∈ ks ∧ H wk = some (.lst (ns.map V.str)) ∧ ns.length ≤ 100000 ∧ Goes rs (oneL k) c ns g d ∧
  ∀ R F us v H', Same H H' → H R = none → H' R = some (.lst [.ref F, .non]) → H' F = some (.lst (us ++ [v])) → us.length ≤ 100000 → StandAt ks H' v d g → Q (.ref R) H'
def spLastG : Sp := fun vs H Q _ => ∃ p q ks hs rs k wk c ns g d, vs = [.ref p, .str k, .ref wk, .int c] ∧ PlanAt H p q ks hs rs ∧ PlanB ks rs ∧ (rs.map (·.name)).Nodup ∧ k ∈ ks ∧ H wk = some (.lst (ns.map V.str)) ∧ ns.length ≤ 100000 ∧ Goes rs (oneL k) c ns g d ∧
  ∀ R v H', Same H H' → H R = none → H' R = some (.lst [v]) → StandAt ks H' v d g → Q (.ref R) H'
theorem Goes.lift {rs : List RuleD} {ks : List Str} (hk : ∀ r ∈ rs, ∀ x ∈ r.out, x ∈ ks) {f g : Lot} {c d : Int} {ns : List Str} (h : Goes rs f c ns g d) (hf : ∀ x, 0 < f x → x ∈ ks) : ∀ x, 0 < g x → x ∈ ks := by
  induction h with
  | nil => exact hf
  | cons hr _ _ ih => exact ih fun x hx => (moved_pos hx).elim (hf x) (hk _ hr x)
theorem goes_inv {rs : List RuleD} {f g : Lot} {c d : Int} {n : Str} {ns : List Str} (h : Goes rs f c (n :: ns) g d) : ∃ r, r ∈ rs ∧ r.name = n ∧ 0 < f r.kind ∧ Goes rs (movedL f r) (c + r.change) ns g d := by
  cases h with
  | cons hr hf h2 => exact ⟨_, hr, rfl, hf, h2⟩
theorem goes_nil {rs : List RuleD} {f g : Lot} {c d : Int} (h : Goes rs f c [] g d) : g = f ∧ d = c := by
  cases h
  exact ⟨rfl, rfl⟩
theorem at_end (us : List V) (v : V) : atI (us ++ [v]) (-1) = some v := by
  unfold atI
  have hl : (us ++ [v]).length = us.length + 1 := by simp
  have e : ixN (us ++ [v]).length (-1) = some us.length := by
    rw [hl]
    unfold ixN
    rw [if_neg (by decide), if_pos (by omega)]
    congr 1
    omega
  rw [e]
  show (us ++ [v])[us.length]? = _
  rw [List.getElem?_append_right (Nat.le_refl _), Nat.sub_self]
  rfl
theorem sortP_one (k : Str) : sortP [(k, 1)] = [(k, 1)] := by
  unfold sortP
  rw [List.mergeSort_singleton]
theorem ruleOf_eq {rs : List RuleD} (hn : (rs.map (·.name)).Nodup) {r : RuleD} (hr : r ∈ rs) : ruleOf rs r.name = [r] := rule_named_filter hn hr
theorem ruleOf_snoc {rs : List RuleD} {nm : Str} {j : Nat} {r : RuleD} (e : rs[j]? = some r) : ruleOf (rs.take (j + 1)) nm = if r.name = nm then ruleOf (rs.take j) nm ++ [r] else ruleOf (rs.take j) nm := by
  unfold ruleOf
  rw [List.take_add_one, e]
  show List.filter _ (rs.take j ++ [r]) = _
  rw [List.filter_append]
  split
  · rename_i h
    rw [List.filter_cons_of_pos (by simpa using h)]
    rfl
  · rename_i h
    rw [List.filter_cons_of_neg (by simpa using h)]
    simp
end Fh
namespace Fh
open PySem PySem.Spec PySem.W PyProof.Rows L2 He
/-! ### what is asked of the class Book where == is used -/
def dataTags : List String := ["NoneType", "bool", "int", "str", "list", "tuple", "dict"]
def bookEqB (K : PySem.W.Frag) (C : Addr) : Bool := eqO (PySem.W.findIn K (.ref C) "__class__") (some (some (.builtin "object.__class__"))) && (eqO (PySem.W.specialIn K (.builtin "object.__class__") "__get__") (some (some (.builtin "getset_descriptor.__get__"))) &&
  (decide (PySem.W.takesIn K (.builtin "object.__class__") = some true) && (decide (PySem.W.mroIn K C (.type "object") = some true) && (dataTags.all (fun t => decide (PySem.W.kitOne K (.type t) (.ref C) = some false)) && decide (PySem.W.kitOne K (.ref C) (.ref C) = some true)))))
structure BookQ (K : PySem.W.Frag) (C : Addr) : Prop where
  ha : PySem.W.findIn K (.ref C) "__class__" = some (some (.builtin "object.__class__"))
  hn : PySem.W.specialIn K (.builtin "object.__class__") "__get__" = some (some (.builtin "getset_descriptor.__get__"))
  htk : PySem.W.takesIn K (.builtin "object.__class__") = some true
  hm : PySem.W.mroIn K C (.type "object") = some true
  no : ∀ t ∈ dataTags, PySem.W.kitOne K (.type t) (.ref C) = some false
  yes : PySem.W.kitOne K (.ref C) (.ref C) = some true
theorem bookEqB_ok {K : PySem.W.Frag} {C : Addr} (h : bookEqB K C = true) : BookQ K C := by
  unfold bookEqB at h
  obtain ⟨h1, h⟩ := ba h
  obtain ⟨h2, h⟩ := ba h
  obtain ⟨h3, h⟩ := ba h
  obtain ⟨h4, h⟩ := ba h
  obtain ⟨h5, h6⟩ := ba h
  exact ⟨eqO_ok h1, eqO_ok h2, of_decide_eq_true h3, of_decide_eq_true h4, fun t ht => of_decide_eq_true (List.all_eq_true.mp h5 t ht), of_decide_eq_true h6⟩
theorem notFirst_data {K : PySem.W.Frag} {C : Addr} : ∀ t ∈ dataTags, PySem.W.notFirst K C (.type t) = true := by
  intro t ht
  unfold PySem.W.notFirst
  rw [Bool.or_eq_true]
  right
  simp only [dataTags, List.mem_cons, List.mem_nil_iff, or_false] at ht
  rcases ht with rfl | rfl | rfl | rfl | rfl | rfl | rfl <;> rfl
theorem notFirst_self {K : PySem.W.Frag} {C : Addr} : PySem.W.notFirst K C (.ref C) = true := by
  unfold PySem.W.notFirst
  rw [Bool.or_eq_true]
  left
  exact beq_self_eq_true _
theorem dq_tag {K : PySem.W.Frag} {H : Hp} {d : PyData} {v : V} (h : Dq H d v) : TyX K H v (.type (tagD d)) ∧ tagD d ∈ dataTags := ⟨h.ty, tag_mem d⟩
theorem book_ty {K : PySem.W.Frag} {C p : Addr} {H : Hp} {ks hs : List Str} {rs : List RuleD} {st : Str} {c : Int} (cl : Cls K C) (q : BookQ K C) (h : BookAt C H p ks hs rs st c) : TyX K H (.ref p) (.ref C) := by
  obtain ⟨dx, fs, e⟩ := book_ins h
  exact .base (.ins e cl q.ha q.hn q.htk q.hm)
/-- == of books -/
def spBEq (C : Addr) : Sp := fun vs H Q _ => ∃ p ks hs rs st c v, vs = [.ref p, v] ∧ BookAt C H p ks hs rs st c ∧ BookOk ks hs rs st ∧
  ((∃ p2 ks2 hs2 rs2 st2 c2, v = .ref p2 ∧ BookAt C H p2 ks2 hs2 rs2 st2 c2 ∧ BookOk ks2 hs2 rs2 st2 ∧ Q (.bl (sameB ks hs rs st c ks2 hs2 rs2 st2 c2)) H) ∨ (∃ d, Dq H d v ∧ Q (.bl false) H))
theorem depth_rule20 (r : RuleD) : (ruleData r).depth ≤ 20 := by
  unfold ruleData
  simp [PyData.depth, PyData.depthAll, depth_strs r.out]
end Fh
namespace Fh
open PySem PySem.Spec PySem.W PyProof.Rows L2 He
/-! ### o.m(k = v, ..) -/
def tMethK (C : Addr) (m : Str) (sp : Sp) (gV : List V → List V → List V) (E : XK) (ta : TE) (tk : TA) : TE := fun σ H Q => ta σ H fun x H1 => ∃ a dx fs, x = .ref a ∧ H1 a = some (.ins C dx fs) ∧ fs.lookup m = none ∧ tk σ H1 fun zs H2 => sp (gV [x] zs) H2 Q E
section
variable {X : Cx} {CX : CXT} {k : Nat} {C f : Addr} {fd : FuncData} {ps ks : List Str} {sp : Sp} {E : XK} {m : Str} {o : Expr} {ta : TE} {apos pos : Pos} {kws : List Keyword} {tk : TA} {g : List Value → List Value → List Value} {gV : List V → List V → List V}
theorem pe_methK {pl : Sem Bool} (he : PE X o ta) (c : Cls X.K C) (hm : Meth X.K C m f) (F : FnOk X.prog X.w X.K X.mg X.base CX k f fd ps sp) (hr : Room k X.A) (hb : KBinds X.K fd ps ks g gV) (hx : Passes CX X E) (hkw : PK X kws tk)
    (hall : (backToKw pos (keywordEach kws X.env)).all (·.1.isSome) = true := by rfl) (hks : (backToKw pos (keywordEach kws X.env)).filterMap (·.1) = ks := by rfl)
    (hpl : ((backTo pos (starEach [] X.env)).any (·.1) || (backToKw pos (keywordEach kws X.env)).any (·.1.isNone)) = false := by rfl)
    (ht : eval (.Call (.Attribute o m apos) [] kws pos) X.env = (do
      let ov ← eval o X.env
      standAt apos.atName
      let (f, first) ← holding [ov] (getMethod ov m pl)
      callWith pos f first (backTo pos (starEach [] X.env)) (backToKw pos (keywordEach kws X.env))) := by rfl) :
    PE X (.Call (.Attribute o m apos) [] kws pos) (tMethK C m sp gV E ta tk) := by
  refine ⟨fun pins s σ H Q I h => ?_⟩
  refine PySem.W.methodCall_KW (pl := pl) (thn (he.run pins s σ H _ I h) fun u s1 ⟨x, H1, I1, rx, a, dx, fs, ex, ea, l, q⟩ => ?_) ht
  subst ex
  obtain rfl : u = Value.ref a := rx
  refine getmeth_ok I1 ea c hm l ?_
  refine PySem.W.callWith_KW0 (first := [.ref a]) (h₀ := X.base) I.ok.mod.kin hm.kp hall (thn (hkw.run pos pins s1 σ H1 _ I1 q) fun ws s2 ⟨zs, H2, I2, rz, q2⟩ => ?_) hpl
  rw [hks]
  exact ⟨I2.kIn, run_fnk (us := [.ref a]) (vs := [.ref a]) F hr hb hx I2 (.cons rfl .nil) rz q2⟩
end
/-- the object, and one keyword -/
def kwS1 {α : Type} : List α → List α → List α
  | [a], [b] => [a, b]
  | _, _ => []
/-- the new object, and five keywords, turned round -/
def kwS5 {α : Type} : List α → List α → List α
  | [x], [a, b, c, d, e] => [x, e, d, c, b, a]
  | _, _ => []
section
variable {K : PySem.W.Frag} {fd : FuncData}
theorem kbindsS1 {p q : Str} (h : ∀ a b : Value, bindArgs fd ⟨[a], [(q, b)]⟩ = pure [(p, a), (q, b)]) : KBinds K fd [p, q] [q] kwS1 kwS1 := by
  refine ⟨fun s us ws _ hl => ?_, fun {vs us zs ws} r rz => ?_⟩
  · match us, ws, hl with
    | [a], [b], _ => exact .of_eq (h a b)
    | [], _, hl => cases hl
    | [_], [], hl => cases hl
    | [_], _ :: _ :: _, hl => cases hl
    | _ :: _ :: _, _, hl => cases hl
  · cases r with
    | nil => exact .nil
    | cons r1 r2 =>
      cases r2 with
      | cons _ _ => exact .nil
      | nil =>
        cases rz with
        | nil => exact .nil
        | cons s1 s2 =>
          cases s2 with
          | nil => exact .cons r1 (.cons s1 .nil)
          | cons _ _ => exact .nil
theorem FunD.kbindsS1 {p q : Str} {x qual : Str} {params : Arguments} {body : List Stmt} {scope : Scope} {f : Addr} (F : FunD K x qual params body scope [] [] f fd)
    (h : ∀ (kV doc pm : Value) (an : Option Addr) (cdv ct : Value) (a b : Value), bindArgs (PySem.W.fnOf x qual params body scope .none kV doc pm an cdv ct) ⟨[a], [(q, b)]⟩ = pure [(p, a), (q, b)]) : KBinds K fd [p, q] [q] kwS1 kwS1 := by
  obtain ⟨oc, od, dV, kV, doc, pm, an, cdv, ct, osl, rfl, lk, hcd, hD, hK⟩ := F.ex
  rcases hD with ⟨_, rfl⟩ | ⟨e, _⟩
  · exact Fh.kbindsS1 (h kV doc pm an cdv ct)
  · exact absurd rfl e
theorem kbindsS5 {p0 p1 p2 p3 p4 p5 : Str} (h : ∀ x a b c d e : Value, bindArgs fd ⟨[x], [(p5, a), (p4, b), (p3, c), (p2, d), (p1, e)]⟩ = pure [(p0, x), (p1, e), (p2, d), (p3, c), (p4, b), (p5, a)]) : KBinds K fd [p0, p1, p2, p3, p4, p5] [p5, p4, p3, p2, p1] kwS5 kwS5 := by
  refine ⟨fun s us ws _ hl => ?_, fun {vs us zs ws} r rz => ?_⟩
  · match us, ws, hl with
    | [x], [a, b, c, d, e], _ => exact .of_eq (h x a b c d e)
    | [], _, hl => cases hl
    | [_], [], hl => cases hl
    | [_], [_], hl => cases hl
    | [_], [_, _], hl => cases hl
    | [_], [_, _, _], hl => cases hl
    | [_], [_, _, _, _], hl => cases hl
    | [_], _ :: _ :: _ :: _ :: _ :: _ :: _, hl => cases hl
    | _ :: _ :: _, _, hl => cases hl
  · cases r with
    | nil => exact .nil
    | cons r1 r2 =>
      cases r2 with
      | cons _ _ => exact .nil
      | nil =>
        cases rz with
        | nil => exact .nil
        | cons a1 t1 => cases t1 with
          | nil => exact .nil
          | cons a2 t2 => cases t2 with
            | nil => exact .nil
            | cons a3 t3 => cases t3 with
              | nil => exact .nil
              | cons a4 t4 => cases t4 with
                | nil => exact .nil
                | cons a5 t5 => cases t5 with
                  | nil => exact .cons r1 (.cons a5 (.cons a4 (.cons a3 (.cons a2 (.cons a1 .nil)))))
                  | cons _ _ => exact .nil
theorem FunD.kbindsS5 {p0 p1 p2 p3 p4 p5 : Str} {x qual : Str} {params : Arguments} {body : List Stmt} {scope : Scope} {f : Addr} (F : FunD K x qual params body scope [] [] f fd)
    (h : ∀ (kV doc pm : Value) (an : Option Addr) (cdv ct : Value) (x0 a b c d e : Value), bindArgs (PySem.W.fnOf x qual params body scope .none kV doc pm an cdv ct) ⟨[x0], [(p5, a), (p4, b), (p3, c), (p2, d), (p1, e)]⟩ = pure [(p0, x0), (p1, e), (p2, d), (p3, c), (p4, b), (p5, a)]) :
    KBinds K fd [p0, p1, p2, p3, p4, p5] [p5, p4, p3, p2, p1] kwS5 kwS5 := by
  obtain ⟨oc, od, dV, kV, doc, pm, an, cdv, ct, osl, rfl, lk, hcd, hD, hK⟩ := F.ex
  rcases hD with ⟨_, rfl⟩ | ⟨e, _⟩
  · exact Fh.kbindsS5 (h kV doc pm an cdv ct)
  · exact absurd rfl e
end
/-- what is asked of a plan that is told and asked again -/
structure PlanS (ks hs : List Str) (rs : List RuleD) (st : Str) (c : Int) : Prop where
  book : BookOk ks hs rs st
  shaped : SeqAt.shaped (planD ks hs rs st c) = true
  shown : DOkW (planD ks hs rs st c)
  few : ks.length ≤ 1000 ∧ hs.length ≤ 1000 ∧ rs.length ≤ 1000
def spToldR (C : Addr) : Sp := fun vs H Q _ => ∃ p pl q ks hs rs st c, vs = [.ref p, .ref pl] ∧ BookAt C H p ks hs rs st c ∧ PlanAt H pl q ks hs rs ∧ q.s = .str st ∧ q.c = .int c ∧ Sys H ∧ PlanS ks hs rs st c ∧ ∀ H', Same H H' → Q (.bl true) H'
end Fh
namespace Fh
open PySem PySem.Spec PySem.W PyProof.Rows L2 He
/-! ### a comprehension whose items are told by what they are -/
theorem Tups2.trans {H H' H'' : Hp} (a : Tups2 H H') (b : Tups2 H' H'') : Tups2 H H'' := ⟨a.1.trans b.1, fun x o u h => b.2 x o u (a.2 x o u h)⟩
theorem Tups2.updL {H H' : Hp} {D : Addr} {xs : List V} {o : HO} (s : Same H H') (h : H' D = some (.lst xs)) : Tups2 H (upd H' D o) := (Tups2.same s).trans (Tups2.lst h)
section
variable {K : PySem.W.Frag} {a : Addr} {xs : List V} {i : Nat} {te : TE} {σ : Sto} {H1 : Hp} {D : Addr} {Qd : Hp → Prop} {α : Type} {R : Hp → V → α → Prop}
theorem All2.up2 (up : ∀ (H H' : Hp) (v : V) (r : α), Tups2 H H' → R H v r → R H' v r) {H H' : Hp} {vs : List V} {rs : List α} (s : Tups2 H H') (h : All2 (R H) vs rs) : All2 (R H') vs rs := h.imp fun _ _ => up _ _ _ _ s
theorem lc_all2 (rs : List α) (up : ∀ (H H' : Hp) (v : V) (r : α), Tups2 H H' → R H v r → R H' v r) (hn : rs.length = xs.length) (hz : xs.length ≤ 100000) (hS : SqL K H1 a xs) (hD : H1 D = none)
    (hel : ∀ (j : Nat) x r H (Q : VK), xs[j]? = some x → rs[j]? = some r → Same H1 H → (∀ y H', Same H H' → R H' y r → Q y H') → te ((wipe σ [i]).set i (some x)) H Q)
    (hd : ∀ H ys, Same H1 H → H D = some (.lst ys) → All2 (R H) ys rs → Qd H) : LcGoal K a i te σ H1 D Qd := by
  refine lc_list (K := K) (a := a) (xs := xs) (fun j H => Same H1 H ∧ ∃ ys, H D = some (.lst ys) ∧ ys.length = j ∧ All2 (R H) ys (rs.take j)) ⟨same_upd hD, [], upd_same, rfl, by rw [List.take_zero]; rfl⟩ (fun _ H _ h => h.1.seq hS) ?_ ?_
  · rintro j x H hx ⟨s, ys, hDl, hyl, h2⟩
    have hj : j < xs.length := (List.getElem?_eq_some_iff.mp hx).1
    have hr : rs[j]? = some (rs[j]'(by omega)) := List.getElem?_eq_getElem (by omega)
    refine ⟨wipe_one σ i _, ?_⟩
    show te ((wipe σ [i]).set i (some x)) H _
    refine hel j x _ H _ hx hr s fun y H' s' hR => ?_
    have e' := s' _ _ hDl
    refine ⟨ys, e', ?_, same_updX (s.trans s') hD, ys ++ [y], upd_same, by rw [List.length_append, hyl]; rfl, ?_⟩
    · rw [hyl, sizeLine_eq]
      omega
    · rw [List.take_add_one, hr]
      exact All2.app (All2.up2 up (Tups2.updL s' e') h2) ⟨_, _, rfl, up _ _ _ _ (Tups2.lst e') hR, rfl⟩
  · rintro H ⟨s, ys, hDl, hyl, h2⟩
    refine hd H ys s hDl ?_
    rwa [← hn, List.take_length] at h2
end
/-! ### the list of what a book tells -/
theorem told_plan {C p : Addr} {σ : Sto} {i : Nat} {H : Hp} {ks hs : List Str} {rs : List RuleD} {st : Str} {c : Int} {Q : VK} (e : σ[i]? = some (some (.ref p))) (hB : BookAt C H p ks hs rs st c) (hY : Sys H)
    (q : ∀ a H', Same H H' → Dq H' (planD ks hs rs st c) (.ref a) → Q (.ref a) H') :
    tLst (tCons (tKinds C (tVar i)) (tCons (tHandles C (tVar i)) (tCons (tRules C (tVar i)) (tCons (tStart C (tVar i)) (tCons (tAmount C (tVar i)) tNil))))) σ H Q := by
  refine ⟨_, e, p, ks, hs, rs, st, c, rfl, hB, fun a1 h1 => ?_⟩
  have s1 := same_upd (o := .lst (ks.map V.str)) h1
  have x1 : upd H a1 (.lst (ks.map V.str)) a1 = some (.lst (ks.map V.str)) := upd_same
  have y1 := hY.new h1
  generalize upd H a1 (.lst (ks.map V.str)) = H1 at s1 x1
  refine ⟨_, e, p, ks, hs, rs, st, c, rfl, hB.up s1, fun a2 h2 => ?_⟩
  have s2 := same_upd (o := .lst (hs.map V.str)) h2
  have x2 : upd H1 a2 (.lst (hs.map V.str)) a2 = some (.lst (hs.map V.str)) := upd_same
  have y2 := (hY.up s1).new h2
  generalize upd H1 a2 (.lst (hs.map V.str)) = H2 at s2 x2
  have s12 := s1.trans s2
  refine ⟨_, e, p, ks, hs, rs, st, c, rfl, hB.up s12, fun a3 us3 hU3 h3 => ?_⟩
  have s3 := same_upd (o := .lst us3) h3
  have x3 : upd H2 a3 (.lst us3) a3 = some (.lst us3) := upd_same
  have y3 := (hY.up s12).new h3
  have U3 := hU3.up s3
  generalize upd H2 a3 (.lst us3) = H3 at s3 x3 U3
  have s13 := s12.trans s3
  refine ⟨_, e, p, ks, hs, rs, st, c, rfl, hB.up s13, _, e, p, ks, hs, rs, st, c, rfl, hB.up s13, (by show 5 ≤ sizeLine; decide), fun a4 h4 => ?_⟩
  have s4 := same_upd (o := .lst [.ref a1, .ref a2, .ref a3, .str st, .int c]) h4
  have x4 : upd H3 a4 (.lst [.ref a1, .ref a2, .ref a3, .str st, .int c]) a4 = some (.lst [.ref a1, .ref a2, .ref a3, .str st, .int c]) := upd_same
  have y4 := (hY.up s13).new h4
  generalize upd H3 a4 (.lst [.ref a1, .ref a2, .ref a3, .str st, .int c]) = H4 at s4 x4
  have s14 := s13.trans s4
  exact q a4 H4 s14 (dq_plan x4 y4 (s4 _ _ (s3 _ _ (s2 _ _ x1))) y1 (s4 _ _ (s3 _ _ x2)) y2 (s4 _ _ x3) y3 (U3.up s4))
/-- a plan as it stands, as data -/
theorem PlanAt.dq {H : Hp} {p : Addr} {q : PlanRef} {ks hs : List Str} {rs : List RuleD} {st : Str} {c : Int} (h : PlanAt H p q ks hs rs) (e1 : q.s = .str st) (e2 : q.c = .int c) (Y : Sys H) : Dq H (planD ks hs rs st c) (.ref p) := by
  obtain ⟨ka, ha, ra, qs, qc, us⟩ := q
  have e1 : qs = .str st := e1
  have e2 : qc = .int c := e2
  subst e1 e2
  exact dq_plan h.top (Y.lst h.top) h.kinds (Y.lst h.kinds) h.handles (Y.lst h.handles) h.rules (Y.lst h.rules) h.each
theorem cb1 {r : List V → Hp → VK → Prop} {te : TE} {σ : Sto} {H : Hp} {Q : VK} (h : te σ H fun x H1 => r [x] H1 Q) : tCB r (tCons te tNil) σ H Q := h
theorem rules_shaped {ks hs : List Str} {rs : List RuleD} {st : Str} (h : BookOk ks hs rs st) : SeqAt.shaped (.list (rs.map ruleData)) = true := by
  unfold SeqAt.shaped
  rw [Bool.and_eq_true]
  constructor
  · simp only [PyData.canLay0]
    exact rules_lay fun r hr => by
      obtain ⟨h1, h2, h3, _⟩ := h.rgood r hr
      exact ⟨nameB_ok h1, nameB_ok (h.names _ h2), fun x hx => nameB_ok (h.names _ (h3 x hx))⟩
  · refine decide_eq_true ?_
    have := depth_rules rs
    simp only [PyData.depth]
    omega
theorem eqq_same {d : PyData} (h : SeqAt.shaped d = true) : (if false = true then !PyData.eqv d d else PyData.eqv d d) = true := by
  rw [if_neg (by decide), shaped_refl h]
theorem kbn_of {K : PySem.W.Frag} {fd : FuncData} {ps ks : List Str} {n : Nat} {g : List Value → List Value → List Value} {gV : List V → List V → List V} (h : KBinds K fd ps ks g gV) (hl : ∀ us ws, us.length = n → ws.length = ks.length → (g us ws).length = ps.length) : KBn K fd ps n ks g gV :=
  ⟨fun s us ws X l1 l2 => h.to s us ws X (hl us ws l1 l2), fun r1 r2 => h.rel r1 r2⟩
theorem kwS5_len {α : Type} {us ws : List α} (h1 : us.length = 1) (h2 : ws.length = 5) : (kwS5 us ws).length = 6 := by
  match us, ws, h1, h2 with
  | [x], [a, b, c, d, e], _, _ => rfl
end Fh
namespace HT
open PySem PySem.W PyProof.Rows L2
section
variable {prog : Program} {w : World} {A : Around} {E : Value → Shared → Prop} {s : Shared}
theorem revAdjust (n : Nat) : Builtin.Slice.sliceAdjust none none (-1) (n : Int) = ((n : Int) - 1, -1) := by
  unfold Builtin.Slice.sliceAdjust
  simp
theorem revPlaces (n : Nat) : Builtin.Slice.slicePlaces ((n : Int) - 1) (-1) (-1) = n := by
  unfold Builtin.Slice.slicePlaces
  rw [if_neg (by decide)]
  split
  · show (((n : Int) - 1 - (-1) - 1) / (- (-1)) + 1).toNat = n
    rw [show (- (-1 : Int)) = 1 from rfl, Int.ediv_one]
    omega
  · omega
theorem sliceApplied_rev {sl : Addr} {vs : Value} {n : Nat} {Q : Int × Int × Nat → Shared → Prop} (hs : s.heap.IsSliceOf sl .none .none vs) (ps : IsPart vs (some (-1)))
    (h : Q ((n : Int) - 1, -1, n) s) : wpAny (model prog w) A (Builtin.Slice.sliceApplied (.ref sl) (pure (n : Int))) Q E s := by
  obtain ⟨os, hos, hcs, hds⟩ := id hs
  unfold Builtin.Slice.sliceApplied Builtin.Slice.sliceFields
  refine wpAny_bind (wpAny_bind (wpAny_field hos hds (x := .none) rfl (wpAny_bind (wpAny_field hos hds (x := .none) rfl (wpAny_bind (wpAny_field hos hds (x := vs) rfl (wpAny_pure ?_)))))))
  refine wpAny_bind (slicePart_ ps ?_)
  show wpAny _ _ (if ((-1 : Int) == 0) = true then _ else _) _ _ s
  rw [if_neg (by decide)]
  refine wpAny_bind (slicePart_none (wpAny_bind (slicePart_none (wpAny_bind (wpAny_pure ?_)))))
  show wpAny _ _ (match Builtin.Slice.sliceAdjust none none (-1) (n : Int) with | (lo, hi) => pure (lo, (-1 : Int), Builtin.Slice.slicePlaces lo hi (-1))) _ _ s
  rw [revAdjust n]
  show wpAny _ _ (pure ((n : Int) - 1, (-1 : Int), Builtin.Slice.slicePlaces ((n : Int) - 1) (-1) (-1))) _ _ s
  rw [revPlaces]
  exact wpAny_pure h
theorem pick_rev (xs : Array Value) : ((List.range xs.size).filterMap fun (m : Nat) => xs[(((xs.size : Nat) : Int) - 1 + (m : Int) * (-1)).toNat]?).toArray = xs.toList.reverse.toArray := by
  congr 1
  refine List.ext_getElem? fun i => ?_
  have key : ∀ (n : Nat), n ≤ xs.size → ((List.range n).filterMap fun (m : Nat) => xs[(((xs.size : Nat) : Int) - 1 + (m : Int) * (-1)).toNat]?) = xs.toList.reverse.take n := by
    intro n
    induction n with
    | zero => intro _; rfl
    | succ n ih =>
      intro hn
      rw [List.range_succ, List.filterMap_append, ih (by omega), List.take_add_one]
      congr 1
      have e : (((xs.size : Nat) : Int) - 1 + (n : Int) * (-1)).toNat = xs.size - 1 - n := by omega
      have hl : xs.toList.length = xs.size := Array.length_toList
      rw [List.getElem?_reverse (by omega), hl]
      simp only [List.filterMap_cons, List.filterMap_nil, e]
      have g : xs[xs.size - 1 - n]? = some (xs[xs.size - 1 - n]'(by omega)) := Array.getElem?_eq_getElem (by omega)
      rw [g, show xs.toList[xs.size - 1 - n]? = some (xs[xs.size - 1 - n]'(by omega)) from by rw [Array.getElem?_toList]; exact g]
      rfl
  rw [key xs.size (Nat.le_refl _)]
  rw [List.take_of_length_le (by rw [List.length_reverse, Array.length_toList]; exact Nat.le_refl _)]
theorem getItem_tuple_rev {t sl : Addr} {items : Array Value} {vs : Value} {Q : Value → Shared → Prop} (ht : IsTup s.heap t items) (hs : s.heap.IsSliceOf sl .none .none vs) (ps : IsPart vs (some (-1)))
    (h : Q (.ref s.heap.objs.size) { s with heap := s.heap.push { cls := .type "tuple", data := .seq items.toList.reverse.toArray } })
    (hsz : items.size ≤ sizeLine) : wpAny (model prog w) A (getItem (.ref t) (.ref sl)) Q E s := by
  have htake : sizeOk (.seq items.toList.reverse.toArray) := by
    show items.toList.reverse.toArray.size ≤ sizeLine
    rw [List.size_toArray, List.length_reverse, Array.length_toList]
    exact hsz
  obtain ⟨os, hos, hcs, hds⟩ := id hs
  have hTs : s.TypeIs (.ref sl) "slice" := ⟨os, hos, hcs⟩
  unfold getItem
  try with_reducible refine wpAny_holding ?_
  first | refine wpAny_bind (wpAny_pure ?_) | skip
  refine wpAny_bind (wpAny_sequenceKey ht.typeIs (by decide) ?_)
  refine wpAny_bind (wpAny_callSpecial?_slot (name := Str.ofString "__getitem__") ht.typeIs PyProof.Rows.slot_tuple_getitem
    (wpAny_call_entry PyProof.Rows.slot_tuple_getitem ht.typeIs entry_tuple_getitem ?_ (args_tuple_getitem _ _)))
  show wpAny _ _ (Builtin.Tuple.tupleItemsOf (.ref t) >>= _) _ _ s
  refine wpAny_bind (tupleItemsOf_ ht ?_)
  refine wpAny_bind (wpAny_typeOf hTs ?_)
  rw [if_pos (by decide)]
  refine wpAny_bind (sliceApplied_rev hs ps ?_)
  have hno : ¬ ((((items.size : Nat) : Int) - 1 == 0 && (-1 : Int) == 1 && items.size == items.size) = true) := by simp
  show wpAny _ _ (if (((items.size : Nat) : Int) - 1 == 0 && (-1 : Int) == 1 && items.size == items.size) = true then _ else _) _ _ s
  rw [if_neg hno, pick_rev]
  first
    | exact wpAny_bind (m := Builtin.Tuple.tupleExact _) (wpAny_newObj_type (wpAny_pure ⟨_, rfl, wpAny_pure h⟩) htake)
    | exact wpAny_bind (m := Builtin.Tuple.tupleExact _) (wpAny_newObj_type (wpAny_bind (wpAny_pure (wpAny_pure ⟨_, rfl, wpAny_pure h⟩))) htake)
    | exact wpAny_bind (wpAny_bind (m := Builtin.Tuple.tupleExact _) (wpAny_newObj_type (wpAny_pure (wpAny_pure ⟨_, rfl, wpAny_pure h⟩)) htake))
    | exact wpAny_bind (wpAny_bind (m := Builtin.Tuple.tupleExact _) (wpAny_newObj_type (wpAny_pure ⟨_, rfl, wpAny_pure h⟩) htake))
end
end HT
namespace Fh
open PySem PySem.Spec PySem.W PyProof.Rows L2 He
/-- t[::-1], t a tuple -/
def tRevT (K : PySem.W.Frag) (te : TE) : TE := fun σ H Q => te σ H fun x H1 => ∃ a xs, x = .ref a ∧ SqT K H1 a xs ∧ ∀ p, H1 p = none → Q (.ref p) (upd H1 p (.tup xs.reverse))
theorem pe_revT {X : Cx} {e : Expr} {te : TE} {k : Nat} {p1 p2 p3 pos : Pos} (he : PE X e te) : PE X (.Subscript e (.Slice none none (some (.UnaryOp .USub (.Constant (.int 1) k p1) p2)) p3) pos) (tRevT X.K te) := by
  refine ⟨fun pins s σ H Q I h => ?_⟩
  refine Subscript_ (thn (he.run pins s σ H _ I h) fun v s1 ⟨x, H1, I1, r1, q1⟩ => ?_)
  obtain ⟨a, xs, ex, hx, q⟩ := q1
  subst ex
  cases r1
  have hst : PO X (some (.UnaryOp .USub (.Constant (.int 1) k p1) p2)) (tPart (tUn (rU fun i => .int (-i)) (tC (.int 1)))) := po_some (pe_un un_neg pe_int)
  refine wpAny_Slice (thn (po_none.run pins s1 σ H1 (fun o H2 => o = none ∧ H2 = H1) I1 ⟨rfl, rfl⟩) fun vl s2 ⟨l, H2, I2, pl, el, e2⟩ => ?_)
  subst el e2
  refine thn (po_none.run pins s2 σ H2 (fun o H3 => o = none ∧ H3 = H2) I2 ⟨rfl, rfl⟩) fun vu s3 ⟨u, H3, I3, pu, eu, e3⟩ => ?_
  subst eu e3
  refine thn (hst.run pins s3 σ H3 (fun o H4 => o = some (-1) ∧ H4 = H3) I3 ⟨1, rfl, -1, rfl, rfl, rfl⟩) fun vs s4 ⟨o, H4, I4, ps, eo, e4⟩ => ?_
  subst eo e4
  cases pl
  cases pu
  have I5 : Inv X pins σ H4 { s4 with heap := s4.heap.push { cls := .type "slice", data := .fields #[.none, .none, vs] } } := I4.kept (t' := s4.toks) fun b ob q => Heap.get?_push_of_some _ q
  obtain ⟨its, r, ht, hz⟩ := I5.tuple hx
  show wpAny (model X.prog X.w) X.A (subscriptTail e (.Slice none none (some (.UnaryOp .USub (.Constant (.int 1) k p1) p2)) p3) (.ref a) (.ref s4.heap.objs.size)) (EP X pins σ Q) X.xe { s4 with heap := s4.heap.push { cls := .type "slice", data := .fields #[.none, .none, vs] } }
  refine tail_any (ops := [.ref a, .ref s4.heap.objs.size]) ht.typeIs (PyProof.Rows.slot_tuple_getitem.lookup) ?_ (by with_unfolding_all rfl)
  refine HT.getItem_tuple_rev ht (Heap.IsSliceOf.new _ .none .none vs) ps ?_ (by rw [List.size_toArray, ← r.length]; exact hz)
  refine ⟨.ref _, _, I5.laid (t' := s4.toks) (o := .tup xs.reverse) (fun b ob q => Heap.get?_push_of_some _ q) (Nat.le_refl _) ?_, rfl, q _ (I5.hok.fresh (Nat.le_refl _))⟩
  exact ⟨by rw [List.length_reverse]; exact hz, _, r.reverse, IsTup.new _ _⟩
/-! ### rules whose part of the heap is named -/
section
variable {X : Cx} {K : PySem.W.Frag}
def rListOf (K : PySem.W.Frag) : List V → Hp → VK → Prop := fun xs H Q => ∃ p ys, xs = [.ref p] ∧ (SqL K H p ys ∨ SqT K H p ys) ∧ ∀ l, H l = none → Q (.ref l) (upd H l (.lst ys))
theorem call_list_ofK (hK : X.K = K := by rfl) : CallR X (.type "list") (rListOf K) := by
  subst hK
  exact call_list_of
theorem op_catTK (hK : X.K = K := by rfl) : OpR X (binaryOp .Add) (rCatT K) := by
  subst hK
  exact op_catT
theorem sl_tupK (hK : X.K = K := by rfl) : SlR X (rSlT K) := by
  subst hK
  exact sl_tup
theorem sl_listK (hK : X.K = K := by rfl) : SlR X (rSlL K) := by
  subst hK
  exact sl_list
end
end Fh
namespace Fh
open PySem PySem.Spec PySem.W PyProof.Rows L2 He
section
variable {K : PySem.W.Frag} {a : Addr} {xs : List V} {i : Nat} {tt : TT} {te : TE} {σ : Sto} {H1 : Hp} {D : Addr} {Qd : Hp → Prop}
/-! ### more comprehensions -/
/-- those of a list that pass a test -/
theorem lc_filt (p : V → Bool) (hi : i < σ.length) (hz : xs.length ≤ 100000) (hS : SqL K H1 a xs) (hD : H1 D = none)
    (ht : ∀ x H (Q : Bool → Hp → Prop), x ∈ xs → Same H1 H → Q (p x) H → tt ((wipe σ [i]).set i (some x)) H Q)
    (hd : ∀ H, Same H1 H → H D = some (.lst (xs.filter p)) → Qd H) :
    ∃ W : Nat → Nat → Hp → Prop, (∃ m, W 0 m (upd H1 D (.lst []))) ∧ ∀ j m H, W j m H → ((Itl K a).stop j H ∧ Qd H) ∨ ((Itl K a).go j H ∧ ∃ Nx : Hp → Prop, (∀ H', Nx H' → ∃ m', m' < m ∧ W (j + 1) m' H') ∧ ∀ x H', (Itl K a).yld j H x H' →
      gName i x (wipe σ [i]) H' fun σ2 H2 => wipe σ2 [i] = wipe σ [i] ∧ tt σ2 H2 fun b H3 => if b = true then tVar i σ2 H3 fun y H4 => ∃ acc, H4 D = some (.lst acc) ∧ acc.length < sizeLine ∧ Nx (upd H4 D (.lst (acc ++ [y]))) else Nx H3) := by
  refine lc_list (K := K) (a := a) (xs := xs) (fun j H => Same H1 H ∧ H D = some (.lst ((xs.take j).filter p))) ⟨same_upd hD, upd_same⟩ (fun _ H _ h => h.1.seq hS) ?_ ?_
  · rintro j x H hx ⟨s, hDl⟩
    have hj : j < xs.length := (List.getElem?_eq_some_iff.mp hx).1
    refine ⟨wipe_one σ i _, ht x H _ (List.mem_of_getElem? hx) s ?_⟩
    have e : (xs.take (j + 1)).filter p = (xs.take j).filter p ++ [x].filter p := by rw [List.take_add_one, hx, List.filter_append]; rfl
    cases hp : p x with
    | true =>
      have lf := List.length_filter_le p (xs.take j)
      rw [List.length_take] at lf
      refine ⟨x, ?_, _, hDl, by rw [sizeLine_eq]; omega, same_updX s hD, ?_⟩
      · rw [List.getElem?_set_self]
        rw [show (wipe σ [i]).length = σ.length by
          show (σ.set i none).length = σ.length
          rw [List.length_set]]
        exact hi
      · rw [upd_same, e, List.filter_cons, hp]
        rfl
    | false =>
      refine ⟨s, ?_⟩
      rw [e, List.filter_cons, hp, hDl]
      simp
  · rintro H ⟨s, hDl⟩
    refine hd H s ?_
    rw [hDl, List.take_length]
/-- items told by what they are; they may be anything but the new list -/
theorem lc_butD {α : Type} {R : Hp → V → α → Prop} (rs : List α) (up : ∀ (H H' : Hp) (v : V) (r : α), But D H H' → R H v r → R H' v r) (hn : rs.length = xs.length) (hz : xs.length ≤ 100000) (hS : SqL K H1 a xs) (hD : H1 D = none)
    (hel : ∀ (j : Nat) x r H (Q : VK) ys, xs[j]? = some x → rs[j]? = some r → Same H1 H → H D = some (.lst ys) → (∀ y H', Same H H' → R H' y r → Q y H') → te ((wipe σ [i]).set i (some x)) H Q)
    (hd : ∀ H ys, Same H1 H → H D = some (.lst ys) → All2 (R H) ys rs → Qd H) : LcGoal K a i te σ H1 D Qd := by
  refine lc_list (K := K) (a := a) (xs := xs) (fun j H => Same H1 H ∧ ∃ ys, H D = some (.lst ys) ∧ ys.length = j ∧ All2 (R H) ys (rs.take j)) ⟨same_upd hD, [], upd_same, rfl, by rw [List.take_zero]; rfl⟩ (fun _ H _ h => h.1.seq hS) ?_ ?_
  · rintro j x H hx ⟨s, ys, hDl, hyl, h2⟩
    have hj : j < xs.length := (List.getElem?_eq_some_iff.mp hx).1
    have hr : rs[j]? = some (rs[j]'(by omega)) := List.getElem?_eq_getElem (by omega)
    refine ⟨wipe_one σ i _, ?_⟩
    show te ((wipe σ [i]).set i (some x)) H _
    refine hel j x _ H _ ys hx hr s hDl fun y H' s' hR => ?_
    have e' := s' _ _ hDl
    refine ⟨ys, e', ?_, same_updX (s.trans s') hD, ys ++ [y], upd_same, by rw [List.length_append, hyl]; rfl, ?_⟩
    · rw [hyl, sizeLine_eq]
      omega
    · rw [List.take_add_one, hr]
      refine All2.app (All2.imp (fun v r h => up _ _ v r (But.upd (But.same s')) h) h2) ⟨_, _, rfl, up _ _ _ _ (But.upd (But.same (Same.refl H'))) hR, rfl⟩
  · rintro H ⟨s, ys, hDl, hyl, h2⟩
    refine hd H ys s hDl ?_
    rwa [← hn, List.take_length] at h2
/-- over zip of two lists -/
theorem lc_zip {b : Addr} {ys : List V} {g : TG} {vs : List Nat} (Pv : Nat → Hp → Prop) (h0 : Pv 0 (upd H1 D (.lst []))) (hlen : xs.length = ys.length) (hl : ∀ i H, i ≤ xs.length → Pv i H → SqL K H a xs ∧ SqL K H b ys)
    (hs : ∀ (i : Nat) x y H T, xs[i]? = some x → ys[i]? = some y → Pv i H → H T = none → g (.ref T) (wipe σ vs) (upd H T (.tup [x, y])) fun σ2 H2 => wipe σ2 vs = wipe σ vs ∧ tt σ2 H2 fun b H3 =>
      if b = true then te σ2 H3 fun y H4 => ∃ acc, H4 D = some (.lst acc) ∧ acc.length < sizeLine ∧ Pv (i + 1) (upd H4 D (.lst (acc ++ [y]))) else Pv (i + 1) H3) (hd : ∀ H, Pv xs.length H → Qd H) :
    ∃ W : Nat → Nat → Hp → Prop, (∃ m, W 0 m (upd H1 D (.lst []))) ∧ ∀ i m H, W i m H →
      ((Itz K a b).stop i H ∧ Qd H) ∨ ((Itz K a b).go i H ∧ ∃ Nx : Hp → Prop, (∀ H', Nx H' → ∃ m', m' < m ∧ W (i + 1) m' H') ∧ ∀ x H', (Itz K a b).yld i H x H' → g x (wipe σ vs) H' fun σ2 H2 => wipe σ2 vs = wipe σ vs ∧ tt σ2 H2 fun b H3 =>
        if b = true then te σ2 H3 fun y H4 => ∃ acc, H4 D = some (.lst acc) ∧ acc.length < sizeLine ∧ Nx (upd H4 D (.lst (acc ++ [y]))) else Nx H3) := by
  refine ⟨fun i m H => m = xs.length - i ∧ i ≤ xs.length ∧ Pv i H, ⟨xs.length, by simp, Nat.zero_le _, h0⟩, ?_⟩
  rintro i m H ⟨rfl, hi, p⟩
  obtain ⟨q1, q2⟩ := hl i H hi p
  by_cases hlt : i < xs.length
  · refine .inr ⟨⟨xs, ys, xs[i], ys[i]'(by omega), q1, q2, by simp [hlt], List.getElem?_eq_getElem (by omega)⟩, Pv (i + 1), fun H' p' => ⟨xs.length - (i + 1), by omega, rfl, hlt, p'⟩, fun x H' y => ?_⟩
    obtain ⟨T, z, z2, rfl, hT, rfl, hz, hz2⟩ := y
    exact hs i z z2 _ T (hz xs q1) (hz2 ys q2) p hT
  · have e : i = xs.length := by omega
    subst e
    exact .inl ⟨⟨xs, ys, q1, q2, .inl (Nat.le_refl _)⟩, hd H p⟩
end
theorem All2.consR {α : Type} {R : V → α → Prop} {vs : List V} {r : α} {rs : List α} (h : All2 R vs (r :: rs)) : ∃ v us, vs = v :: us ∧ R v r ∧ All2 R us rs := by
  cases vs with
  | nil => exact absurd (show r :: rs = [] from h) (by simp)
  | cons v us =>
    obtain ⟨r2, t, e, h1, h2⟩ := h
    cases e
    exact ⟨v, us, rfl, h1, h2⟩
theorem All2.nilR {α : Type} {R : V → α → Prop} {vs : List V} (h : All2 R vs []) : vs = [] := by
  cases vs with
  | nil => rfl
  | cons v us =>
    obtain ⟨r2, t, e, _⟩ := h
    cases e
theorem ixN_nat {n j : Nat} (h : j < n) : ixN n (j : Int) = some j := by
  unfold ixN
  rw [if_pos (by omega), if_pos (by omega), Int.toNat_natCast]
/-! ### plans near a plan -/
structure NearIn (ks hs : List Str) (rs : List RuleD) (st : Str) : Prop where
  book : BookOk ks hs rs st
  pool : ∀ x ∈ ks, x ∈ Fh.pool
  letters : ∀ r ∈ rs, r.name ∈ letters16
  few : ks.length ≤ 100 ∧ hs.length ≤ 100 ∧ rs.length ≤ 100
  outs : ∀ r ∈ rs, r.out.length ≤ 100
theorem NearIn.kinds {ks hs ks2 : List Str} {rs : List RuleD} {st : Str} (n : NearIn ks hs rs st) (p : ks2.Perm ks) : BookOk ks2 hs rs st := by
  have b := n.book
  refine ⟨fun x hx => b.names x (p.mem_iff.mp hx), p.nodup_iff.mpr b.nodup, fun z => ?_, by rw [p.length_eq]; exact b.few, b.hnodup, fun x hx => p.mem_iff.mpr (b.hsub x hx), b.rnames, fun r hr => ?_, b.rfew, p.mem_iff.mpr b.start⟩
  · rw [z] at p
    exact b.ne (List.Perm.nil_eq p).symm
  · obtain ⟨h1, h2, h3, h4⟩ := b.rgood r hr
    exact ⟨h1, p.mem_iff.mpr h2, fun x hx => p.mem_iff.mpr (h3 x hx), h4⟩
theorem NearIn.hands {ks hs hs2 : List Str} {rs : List RuleD} {st : Str} (n : NearIn ks hs rs st) (h1 : hs2.Nodup) (h2 : ∀ x ∈ hs2, x ∈ ks) : BookOk ks hs2 rs st := by
  have b := n.book
  exact ⟨b.names, b.nodup, b.ne, b.few, h1, h2, b.rnames, b.rgood, b.rfew, b.start⟩
theorem NearIn.rules {ks hs : List Str} {rs rs2 : List RuleD} {st : Str} (n : NearIn ks hs rs st) (h1 : (rs2.map (·.name)).Nodup) (h2 : ∀ r ∈ rs2, nameB r.name = true ∧ r.kind ∈ ks ∧ (∀ x ∈ r.out, x ∈ ks) ∧ r.out.length ≤ 1000) (h3 : rs2.length ≤ 1000) : BookOk ks hs rs2 st := by
  have b := n.book
  exact ⟨b.names, b.nodup, b.ne, b.few, b.hnodup, b.hsub, h1, h2, h3, b.start⟩
theorem NearIn.rperm {ks hs : List Str} {rs rs2 : List RuleD} {st : Str} (n : NearIn ks hs rs st) (p : rs2.Perm rs) : BookOk ks hs rs2 st :=
  n.rules ((p.map (·.name)).nodup_iff.mpr n.book.rnames) (fun r hr => n.book.rgood r (p.mem_iff.mp hr)) (by rw [p.length_eq]; exact n.book.rfew)
theorem NearIn.start {ks hs : List Str} {rs : List RuleD} {st st2 : Str} (n : NearIn ks hs rs st) (h : st2 ∈ ks) : BookOk ks hs rs st2 := by
  have b := n.book
  exact ⟨b.names, b.nodup, b.ne, b.few, b.hnodup, b.hsub, b.rnames, b.rgood, b.rfew, h⟩
theorem NearIn.more {ks hs hs2 : List Str} {rs : List RuleD} {st x : Str} (n : NearIn ks hs rs st) (hx : nameB x = true) (hp : x ∉ Fh.pool) (h : hs2 = hs ∨ hs2 = hs ++ [x]) : BookOk (ks ++ [x]) hs2 rs st := by
  have b := n.book
  have hn : x ∉ ks := fun z => hp (n.pool x z)
  have nd : ∀ l : List Str, l.Nodup → x ∉ l → (l ++ [x]).Nodup := fun l hl hxl => List.nodup_append.mpr ⟨hl, List.nodup_cons.mpr ⟨List.not_mem_nil, List.nodup_nil⟩, fun a ha c hc e => hxl (by rw [List.mem_singleton.mp hc] at e; rw [← e]; exact ha)⟩
  refine ⟨fun y hy => ?_, nd _ b.nodup hn, by simp, by rw [List.length_append]; have := n.few.1; simp; omega, ?_, ?_, b.rnames, fun r hr => ?_, b.rfew, List.mem_append_left _ b.start⟩
  · rcases List.mem_append.mp hy with hy | hy
    · exact b.names y hy
    · rw [List.mem_singleton.mp hy]; exact hx
  · rcases h with rfl | rfl
    · exact b.hnodup
    · exact nd _ b.hnodup fun z => hn (b.hsub x z)
  · rcases h with rfl | rfl
    · exact fun y hy => List.mem_append_left _ (b.hsub y hy)
    · intro y hy
      rcases List.mem_append.mp hy with hy | hy
      · exact List.mem_append_left _ (b.hsub y hy)
      · exact List.mem_append_right _ hy
  · obtain ⟨h1, h2, h3, h4⟩ := b.rgood r hr
    exact ⟨h1, List.mem_append_left _ h2, fun y hy => List.mem_append_left _ (h3 y hy), h4⟩
/-- rules with other names -/
def exch (ns : List Str) (rs : List RuleD) : List RuleD := (ns.zip rs).map fun z => { z.2 with name := z.1 }
theorem exch_names : ∀ {ns : List Str} {rs : List RuleD}, ns.length = rs.length → (exch ns rs).map (·.name) = ns
  | [], [], _ => rfl
  | [], _ :: _, h => by cases h
  | _ :: _, [], h => by cases h
  | n :: ns, r :: rs, h => by
    show n :: (exch ns rs).map (·.name) = n :: ns
    rw [exch_names (Nat.succ.inj h)]
theorem exch_mem {ns : List Str} {rs : List RuleD} {r : RuleD} (h : r ∈ exch ns rs) : r.name ∈ ns ∧ ∃ q ∈ rs, q.kind = r.kind ∧ q.out = r.out ∧ q.change = r.change := by
  obtain ⟨z, hz, rfl⟩ := List.mem_map.mp h
  exact ⟨(List.of_mem_zip hz).1, z.2, (List.of_mem_zip hz).2, rfl, rfl, rfl⟩
theorem exch_len {ns : List Str} {rs : List RuleD} (h : ns.length = rs.length) : (exch ns rs).length = rs.length := by
  unfold exch
  rw [List.length_map, List.length_zip]
  omega
theorem NearIn.exch {ks hs : List Str} {rs : List RuleD} {st : Str} (n : NearIn ks hs rs st) {ns : List Str} (p : ns.Perm (rs.map (·.name))) : BookOk ks hs (Fh.exch ns rs) st := by
  have hl : ns.length = rs.length := by rw [p.length_eq, List.length_map]
  refine n.rules ?_ (fun r hr => ?_) (by rw [exch_len hl]; exact n.book.rfew)
  · rw [exch_names hl]
    exact p.nodup_iff.mpr n.book.rnames
  · obtain ⟨h1, q, hq, e1, e2, e3⟩ := exch_mem hr
    obtain ⟨g1, g2, g3, g4⟩ := n.book.rgood q hq
    obtain ⟨r', hr', e'⟩ := List.mem_map.mp (p.mem_iff.mp h1)
    exact ⟨e' ▸ (n.book.rgood r' hr').1, e1 ▸ g2, e2 ▸ g3, e2 ▸ g4⟩
theorem map_set_name {rs : List RuleD} {i : Nat} {r r' : RuleD} (h : rs[i]? = some r) (e : r'.name = r.name) : (rs.set i r').map (·.name) = rs.map (·.name) := by
  rw [List.map_set, e]
  exact set_same (by rw [List.getElem?_map, h]; rfl)
theorem NearIn.setR {ks hs : List Str} {rs : List RuleD} {st : Str} (n : NearIn ks hs rs st) {i : Nat} {r r' : RuleD} (h : rs[i]? = some r) (e : r'.name = r.name) (hk : r'.kind ∈ ks) (ho : ∀ x ∈ r'.out, x ∈ ks) (hl : r'.out.length ≤ 1000) : BookOk ks hs (rs.set i r') st := by
  refine n.rules (by rw [map_set_name h e]; exact n.book.rnames) (fun q hq => ?_) (by rw [List.length_set]; exact n.book.rfew)
  rcases List.mem_or_eq_of_mem_set hq with hq | rfl
  · exact n.book.rgood q hq
  · exact ⟨e ▸ (n.book.rgood r (List.mem_of_getElem? h)).1, hk, ho, hl⟩
theorem zz_new : ("zz" : Str) ∉ letters16 := by decide +kernel
theorem zz_name : nameB "zz" = true := by decide +kernel
theorem NearIn.setZ {ks hs : List Str} {rs : List RuleD} {st : Str} (n : NearIn ks hs rs st) {i : Nat} {r : RuleD} (h : rs[i]? = some r) : BookOk ks hs (rs.set i { r with name := "zz" }) st := by
  obtain ⟨g1, g2, g3, g4⟩ := n.book.rgood r (List.mem_of_getElem? h)
  have hn : ∀ q ∈ rs, q.name ≠ "zz" := fun q hq z => zz_new (by rw [← z]; exact n.letters q hq)
  refine n.rules ?_ (fun q hq => ?_) (by rw [List.length_set]; exact n.book.rfew)
  · rw [List.map_set]
    have hnd := n.book.rnames
    have hi : i < (rs.map (·.name)).length := by
      rw [List.length_map]
      exact (List.getElem?_eq_some_iff.mp h).1
    rw [List.set_eq_take_append_cons_drop, if_pos hi]
    have hsp : rs.map (·.name) = (rs.map (·.name)).take i ++ r.name :: (rs.map (·.name)).drop (i + 1) := by
      have hg : (rs.map (·.name))[i] = r.name := by
        have := List.getElem?_map (f := fun q : RuleD => q.name) (l := rs) (i := i)
        rw [h, List.getElem?_eq_getElem hi] at this
        exact Option.some.inj this
      rw [← hg, List.getElem_cons_drop hi, List.take_append_drop]
    have hnd2 := hnd
    rw [hsp, List.nodup_append, List.nodup_cons] at hnd2
    have nz : ∀ x : Str, x ∈ rs.map (·.name) → x ≠ ("zz" : Str) := fun x hx => by
      obtain ⟨q, hq, rfl⟩ := List.mem_map.mp hx
      exact hn q hq
    rw [List.nodup_append, List.nodup_cons]
    refine ⟨hnd2.1, ⟨fun z => nz _ (List.mem_of_mem_drop z) rfl, hnd2.2.1.2⟩, fun a ha b hb => ?_⟩
    rcases List.mem_cons.mp hb with rfl | hb
    · exact nz a (List.mem_of_mem_take ha)
    · exact hnd2.2.2 a ha b (List.mem_cons_of_mem _ hb)
  · rcases List.mem_or_eq_of_mem_set hq with hq | rfl
    · exact n.book.rgood q hq
    · exact ⟨zz_name, g2, g3, g4⟩
theorem NearIn.addZ {ks hs : List Str} {rs : List RuleD} {st k : Str} (n : NearIn ks hs rs st) (hk : k ∈ ks) : BookOk ks hs (rs ++ [⟨"zz", k, [], 0⟩]) st := by
  have hn : ∀ q ∈ rs, q.name ≠ "zz" := fun q hq z => zz_new (by rw [← z]; exact n.letters q hq)
  refine n.rules ?_ (fun q hq => ?_) (by rw [List.length_append]; have := n.few.2.2; simp; omega)
  · rw [List.map_append, List.nodup_append]
    refine ⟨n.book.rnames, by simp, fun a ha b hb => ?_⟩
    obtain ⟨q, hq, rfl⟩ := List.mem_map.mp ha
    simp at hb
    rw [hb]
    exact hn q hq
  · rcases List.mem_append.mp hq with hq | hq
    · exact n.book.rgood q hq
    · rw [List.mem_singleton.mp hq]
      exact ⟨zz_name, hk, (fun x hx => by cases hx), Nat.zero_le _⟩
theorem NearIn.drop1 {ks hs : List Str} {rs : List RuleD} {st : Str} (n : NearIn ks hs rs st) : BookOk ks hs (rs.drop 1) st := by
  refine n.rules ?_ (fun q hq => n.book.rgood q (List.mem_of_mem_drop hq)) (by rw [List.length_drop]; have := n.book.rfew; omega)
  rw [List.map_drop]
  exact n.book.rnames.sublist (List.drop_sublist _ _)
theorem All2.drop {α : Type} {R : V → α → Prop} : ∀ (n : Nat) {vs : List V} {rs : List α}, All2 R vs rs → All2 R (vs.drop n) (rs.drop n)
  | 0, _, _, h => h
  | n + 1, [], rs, h => by
    have e : rs = [] := h
    subst e
    rfl
  | n + 1, v :: vs, rs, h => by
    obtain ⟨r, t, rfl, _, h2⟩ := h
    exact All2.drop n h2
theorem cut_drop1 (xs : List V) : cutV xs (some 1) none = xs.drop 1 := by
  unfold cutV
  have e : HT.sIx xs.length 0 (some 1) = min 1 xs.length := HT.sIx_nat xs.length 0 1
  rw [e, HT.sIx_none]
  cases xs with
  | nil => rfl
  | cons x xs =>
    rw [List.length_cons, show min 1 (xs.length + 1) = 1 by omega]
    rw [List.take_of_length_le (by rw [List.length_drop, List.length_cons]; exact Nat.le_refl _)]
theorem ixN_last {n : Nat} (h : 0 < n) : ixN n (-1) = some (n - 1) := by
  unfold ixN
  rw [if_neg (by decide), if_pos (by omega)]
  congr 1
  omega
theorem atI_neg1 {α : Type} {xs : List α} {x : α} (h : xs[xs.length - 1]? = some x) : atI xs (-1) = some x := by
  have hl : 0 < xs.length := by
    cases xs with
    | nil => cases h
    | cons _ _ => simp
  unfold atI
  rw [ixN_last hl]
  exact h
def spNear2 : Sp := fun vs H Q _ => ∃ t pl q ks hs rs st c, vs = [.ref t, .ref pl] ∧ TapeAt H t ∧ Sys H ∧ PlanAt H pl q ks hs rs ∧ q.s = .str st ∧ q.c = .int c ∧ NearIn ks hs rs st ∧
  ∀ p q2 ks2 hs2 rs2 st2 c2 H', Go t H H' → PlanAt H' p q2 ks2 hs2 rs2 → q2.s = .str st2 → q2.c = .int c2 → BookOk ks2 hs2 rs2 st2 → Q (.ref p) H'
end Fh
namespace Fh
open PySem PySem.Spec PySem.W PyProof.Rows L2 He
/-! ### list(a text) -/
section
variable {prog : Program} {w : World} {A : Around} {E : Value → Shared → Prop} {s : Shared} {x : Str} {t : Tok}
theorem str_hint {Q : Bool → Shared → Prop} (h : Q false s) : wpAny (model prog w) A (Builtin.List.listLengthHint (.str x t)) Q E s := by
  unfold Builtin.List.listLengthHint
  refine wpAny_bind (wpAny_specialOf (typeIs_str s x t) PySem.F.slot_str_len.lookup ?_)
  generalize hid : ("str.__len__" : String) = id0
  wp_delta
  rw [show splitId id0 = some ("str", "__len__") from by subst hid; decide +kernel]
  subst hid
  refine wpAny_bind (wpAny_isInstance (T := "str") (b := true) (typeIs_str s x t) (by rw [isSubtype_type]; kernel_rfl) ?_)
  refine wpAny_ite_split (fun hab => absurd hab (by decide)) (fun _ => ?_)
  refine wpAny_ite_split (fun _ => ?_) (fun hab => absurd (by decide +kernel) hab)
  refine wpAny_bind (wpAny_typeOf (typeIs_str s x t) ?_)
  exact wpAny_pure h
theorem str_extend {R : Result → Shared → Prop} (hh : A.handled = none) (S : Addr) (res : Value) (c₀ : Nat) (hS : s.heap.get? S = some { cls := .type "list", data := .seq #[] c₀ })
    (hR : ∀ h' tk acc' c', (∀ b o, b ≠ S → s.heap.get? b = some o → h'.get? b = some o) → h'.get? S = some { cls := .type "list", dict := none, data := .seq acc' c', slots := #[] } → ItemsOf (SignAt x) acc' x.cps.size → R (.ok (.ret res)) { s with heap := h', toks := tk }) (hn : x.cps.size ≤ sizeLine) :
    wpAny (model prog w) A.in1 (Builtin.List.listExtendWith (.ref S) (.str x t) res)
      (fun fin s' => match fin with | .done f => R (.ok f) s' | .again c' => c'.quiet = true ∧ codeAny (model prog w) A c' R s') (fun e s' => R (.error e) s') s := by
  have hSI : S ≠ s.heap.objs.size := Nat.ne_of_lt (Heap.lt_size hS)
  have hSf : S ∉ [s.heap.objs.size] := by simp only [List.mem_cons, List.not_mem_nil, or_false]; exact hSI
  unfold Builtin.List.listExtendWith
  refine wpAny_bind (wpAny_typeOf (T := "str") (typeIs_str s x t) ?_)
  have h1 : Builtin.List.listSameRef (.ref S) (.str x t) = false := by simp [Builtin.List.listSameRef]
  have n1 : (Value.type "str" == Value.type "list") = false := by decide
  have n2 : (Value.type "str" == Value.type "tuple") = false := by decide
  simp only [h1, n1, n2, Bool.or_false, Bool.false_eq_true, if_false]
  refine wpAny_bind (wpAny_pyIter_str fun oI St W0 st => ?_)
  have W := W0 A.in1 hh
  have key : ∀ (h : Heap) (c₁ tk : Nat), St 0 h → (∀ b o, b ≠ S → s.heap.get? b = some o → h.get? b = some o) →
      h.get? S = some { cls := .type "list", data := .seq #[] c₁ } → codeAny (model prog w) A (.builtin "list.extend.loop" ⟨[.ref S, .ref s.heap.objs.size, res], []⟩) R { s with heap := h, toks := tk } := by
    intro h c₁ tk hst hk hS₁
    refine codeAny_extend_loopS W.toS hn S hSf res x.cps.size 0 _ #[] c₁ rfl (Nat.zero_le _) hst hS₁ (ItemsOf.nil _) fun s' acc' c' hm hS' hacc => ?_
    rw [Moved.eq_with hm]
    refine hR s'.heap s'.toks acc' c' (fun b o hb e => hm.heap b o (fun hmem => ?_) (hk b o hb e)) hS' hacc
    rcases List.mem_cons.mp hmem with e' | hmem
    · exact hb e'
    · exact absurd (Heap.lt_size e) (by rw [List.mem_singleton.mp hmem]; exact Nat.lt_irrefl _)
  have hS₁ := Heap.get?_push_of_some oI hS
  refine wpAny_bind (wpAny_holding (str_hint ?_))
  refine wpAny_ite_split (fun _ => ?_) (fun _ => wpAny_pure ⟨plainId_quiet PySem.F.plain_extend_loop _, key _ c₀ _ st (fun b o _ e => Heap.get?_push_of_some _ e) hS₁⟩)
  refine wpAny_bind (wpAny_rule ?_)
  refine wpAny_bind ?_
  show wpAny _ _ (updateSeq S (·.push .none) >>= fun _ => updateSeq S (·.pop)) _ _ _
  refine wpAny_bind (wpAny_updateSeq hS₁ rfl ?_)
  have hS₂ := Heap.get?_update_self (Obj.mapSeq (·.push Value.none)) hS₁ rfl
  refine wpAny_updateSeq (hz := by seq_fits) hS₂ rfl ?_
  have hS₃ := Heap.get?_update_self (Obj.mapSeq (·.pop)) hS₂ rfl
  refine wpAny_pure ⟨plainId_quiet PySem.F.plain_extend_loop _, key _ _ _ ?_ (fun b o hb e => ?_) hS₃⟩
  · refine W.frame 0 _ _ st fun b hb o e => ?_
    have hbS : b ≠ S := fun h => hSf (h ▸ hb)
    exact (Heap.get?_update_other _ _ (Ne.symm hbS)).trans ((Heap.get?_update_other _ _ (Ne.symm hbS)).trans e)
  · exact (Heap.get?_update_other _ _ (Ne.symm hb)).trans ((Heap.get?_update_other _ _ (Ne.symm hb)).trans (Heap.get?_push_of_some _ e))
theorem str_init {R : Result → Shared → Prop} (hh : A.handled = none) (S : Addr) (hS : s.heap.get? S = some { cls := .type "list", data := .seq #[] })
    (hR : ∀ h' tk acc' c', (∀ b o, b ≠ S → s.heap.get? b = some o → h'.get? b = some o) → h'.get? S = some { cls := .type "list", dict := none, data := .seq acc' c', slots := #[] } → ItemsOf (SignAt x) acc' x.cps.size → R (.ok (.ret .none)) { s with heap := h', toks := tk }) (hn : x.cps.size ≤ sizeLine) :
    wpAny (model prog w) A.in1 (Builtin.«list.__init__» ⟨[.ref S, .str x t], []⟩)
      (fun fin s' => match fin with | .done f => R (.ok f) s' | .again c' => c'.quiet = true ∧ codeAny (model prog w) A c' R s') (fun e s' => R (.error e) s') s := by
  show wpAny _ _ (do let old ← Builtin.List.listItems (.ref S); Builtin.List.listUpdate (.ref S) (fun _ => #[]); letGo old.toList.reverse; Builtin.List.listExtendWith (.ref S) (.str x t) .none) _ _ s
  refine wpAny_bind ?_
  unfold Builtin.List.listItems
  refine wpAny_bind (wpAny_seqItems hS rfl (wpAny_pure ?_))
  show wpAny _ _ (updateSeq S (fun _ => #[]) >>= fun _ => letGo (#[] : Array Value).toList.reverse >>= fun _ => Builtin.List.listExtendWith (.ref S) (.str x t) .none) _ _ s
  refine wpAny_bind (wpAny_updateSeq hS rfl ?_)
  have hS₂ := Heap.get?_update_self (Obj.mapSeq (fun _ => (#[] : Array Value))) hS rfl
  have oth : ∀ b o, b ≠ S → s.heap.get? b = some o → (s.heap.update S (Obj.mapSeq (fun _ => (#[] : Array Value)))).get? b = some o :=
    fun b o hb e => (Heap.get?_update_other _ _ (Ne.symm hb)).trans e
  refine wpAny_bind (wpAny_letGo ?_)
  refine str_extend hh S .none _ hS₂ (fun h' tk acc' c' hk hS' hacc => ?_) hn
  exact hR h' tk acc' c' (fun b o hb e => hk b o hb (oth b o hb e)) hS' hacc
theorem str_list {Q : Value → Shared → Prop} (hh : A.handled = none) (hn : x.cps.size ≤ sizeLine)
    (hQ : ∀ h' tk acc' c', (∀ b o, s.heap.get? b = some o → h'.get? b = some o) → h'.get? s.heap.objs.size = some { cls := .type "list", dict := none, data := .seq acc' c', slots := #[] } → ItemsOf (SignAt x) acc' x.cps.size → Q (.ref s.heap.objs.size) { s with heap := h', toks := tk }) :
    wpAny (model prog w) A (call (.type "list") [.str x t]) Q E s := by
  refine callType_codes (Q₁ := fun obj s₁ => obj = .ref s.heap.objs.size ∧ s₁ = { s with heap := s.heap.push { cls := .type "list", data := .seq #[] } }) PySem.F.called_list (PySem.F.typeCall_list_1 _) PySem.F.entry_list_init
    (code_list_new _ ⟨rfl, rfl⟩) fun obj s₁ h₁ => ?_
  obtain ⟨rfl, rfl⟩ := h₁
  have hS : (s.heap.push { cls := .type "list", data := .seq #[] }).get? s.heap.objs.size = some { cls := .type "list", data := .seq #[] } := Heap.get?_push_size _ rfl
  refine ⟨⟨_, hS, rfl⟩, PySem.F.args_list_init_2 _ _, str_init (A := A.in1) hh _ hS (fun h' tk acc' c' hk hS' hacc => ?_) hn⟩
  exact ⟨rfl, hQ h' tk acc' c' (fun b o e => hk b o (Nat.ne_of_lt (Heap.lt_size e)) (Heap.get?_push_of_some _ e)) hS' hacc⟩
end
/-- the signs of a text, one by one -/
def signs (x : Str) : List Str := x.cps.toList.map fun c => ⟨#[c]⟩
def rListStr : List V → Hp → VK → Prop := fun xs H Q => ∃ x, xs = [.str x] ∧ x.cps.size ≤ sizeLine ∧ ∀ l, H l = none → Q (.ref l) (upd H l (.lst ((signs x).map V.str)))
theorem call_list_str {X : Cx} (hc : X.calm = true) : CallR X (.type "list") rListStr := by
  intro pins s σ H xs us Q I r h
  obtain ⟨x, rfl, hz, q⟩ := h
  obtain ⟨u, rfl, rx⟩ := vals1 r
  obtain ⟨t, rfl⟩ := rx
  refine str_list (I.ok.hd hc) hz fun h' tk acc' c' hkeep hS hacc => ?_
  refine ⟨.ref s.heap.objs.size, upd H s.heap.objs.size (.lst ((signs x).map V.str)), I.laid hkeep (Nat.le_refl _) (show ObjOk X.prog X.w _ _ _ (.lst ((signs x).map V.str)) from ⟨?_, acc'.toList, c', ?_, ?_⟩), rfl, q _ (I.hok.fresh (Nat.le_refl _))⟩
  · rw [List.length_map]
    unfold signs
    rw [List.length_map, Array.length_toList]
    exact hz
  · have el : acc'.toList.length = acc'.size := by simp
    refine vals_of_at (by rw [List.length_map, el, hacc.1]; unfold signs; rw [List.length_map, Array.length_toList]) fun j y w h1 h2 => ?_
    obtain ⟨c, u, hc, hv⟩ := hacc.2 j w (by rw [← Array.getElem?_toList]; exact h2)
    rw [List.getElem?_map] at h1
    unfold signs at h1
    rw [List.getElem?_map, Array.getElem?_toList, hc] at h1
    cases h1
    exact ⟨u, hv⟩
  · rw [Array.toArray_toList]; exact hS
end Fh
namespace Fh
open PySem PySem.Spec PySem.W PyProof.Rows L2 He
/-- a sign of a text -/
def spOneS : Sp := fun vs H Q _ => ∃ t x, vs = [.ref t, .str x] ∧ TapeAt H t ∧ 0 < x.length ∧ x.length < 1000000 ∧ ∀ c d m, c ∈ x.cps.toList → 0 ≤ d → 0 ≤ m → m < 2147483600 → Q (.str ⟨#[c]⟩) (upd H t (tapeO d m))
def azB (x : Str) : Bool := !decide (x.cps.toList < [97]) && !decide ([122] < x.cps.toList)
def notAz : V → Bool
  | .str x => !azB x
  | _ => false
theorem az_one (c : Nat) : azB ⟨#[c]⟩ = decide (c ∈ letters.cps.toList) := by
  have e : letters.cps.toList = (List.range 26).map (· + 97) := by decide +kernel
  rw [e]
  unfold azB
  have h1 : ((⟨#[c]⟩ : Str).cps.toList < [97]) ↔ c < 97 := by
    show ([c] < [97]) ↔ _
    rw [List.cons_lt_cons_iff]
    simp
  have h2 : ([122] < (⟨#[c]⟩ : Str).cps.toList) ↔ 122 < c := by
    show ([122] < [c]) ↔ _
    rw [List.cons_lt_cons_iff]
    simp
  rw [Bool.eq_iff_iff]
  simp only [Bool.and_eq_true, Bool.not_eq_true', decide_eq_false_iff_not, decide_eq_true_eq, h1, h2, List.mem_map, List.mem_range]
  constructor
  · rintro ⟨a, b⟩
    exact ⟨c - 97, by omega, by omega⟩
  · rintro ⟨a, b, rfl⟩
    omega
theorem az_none (x : Str) : (((signs x).map V.str).filter notAz).isEmpty = x.cps.toList.all fun c => decide (c ∈ letters.cps.toList) := by
  unfold signs
  rw [List.map_map, List.filter_map]
  have key : ∀ l : List Nat, ((l.filter (notAz ∘ (V.str ∘ fun c => (⟨#[c]⟩ : Str)))).map (V.str ∘ fun c => (⟨#[c]⟩ : Str))).isEmpty = l.all fun c => decide (c ∈ letters.cps.toList) := by
    intro l
    induction l with
    | nil => rfl
    | cons c l ih =>
      rw [List.all_cons, List.filter_cons, ← ih]
      have hc : (notAz ∘ (V.str ∘ fun c => (⟨#[c]⟩ : Str))) c = !decide (c ∈ letters.cps.toList) := by
        show (!azB ⟨#[c]⟩) = _
        rw [az_one]
      rw [hc]
      cases decide (c ∈ letters.cps.toList) <;> simp
  exact key x.cps.toList
theorem name_due {x : Str} (h1 : 1 ≤ x.length) (h8 : x.length ≤ 8) : nameB x = (((signs x).map V.str).filter notAz).isEmpty := by
  rw [az_none]
  unfold nameB
  rw [if_neg (by omega)]
theorem name_short {x : Str} (h : ¬ (1 ≤ x.length ∧ x.length ≤ 8)) : nameB x = false := by
  unfold nameB
  rw [if_pos (by omega)]
theorem bools_ok (b : Bool) : DOkW (.list [.bool b, .bool b]) := by
  cases b
  · exact ⟨by decide +kernel, by decide +kernel, by decide +kernel⟩
  · exact ⟨by decide +kernel, by decide +kernel, by decide +kernel⟩
theorem join_letters {l : List Str} (h : ∀ x ∈ l, x.length = 1) : (PySem.Txt.join (PySem.Str.ofString "") l).length = l.length := PySem.W.KT.join_ones l h
theorem sum_ones {l : List Str} (h : ∀ x ∈ l, x.length = 1) : (l.map (·.length)).sum = l.length := by
  induction l with
  | nil => rfl
  | cons x l ih =>
    rw [List.map_cons, List.sum_cons, List.length_cons, ih fun y hy => h y (List.mem_cons_of_mem _ hy), h x List.mem_cons_self]
    omega
/-- what is asked whether it is a name -/
def ThingOk (d : PyData) : Prop := StrLe d ∧ ∀ x, d = .str x → x.length ≤ 1000
def spNamesR : Sp := fun vs H Q _ => ∃ t, vs = [.ref t] ∧ TapeAt H t ∧ Sys H ∧ ∀ H', Go t H H' → Q (.bl true) H'
end Fh
namespace L2
open PySem PySem.Spec PyProof.Rows
theorem tuple_mulE (l : Addr) (n : Nat) (dd : Option Addr) (x : Int) (u : Tok) (sl : Array (Option Value)) (c0 : (decide (x < -(2 ^ 63)) || decide (x ≥ 2 ^ 63)) = false) :
    Meets (Builtin.«tuple.__mul__» ⟨[.ref l, .int x u], []⟩) (fun _ R s => s.heap.get? l = some { cls := .type "tuple", dict := dd, data := .seq #[] n, slots := sl } ∧ R (.ok (.ret (Value.ref l))) s) :=
  .of_wp fun prog w A R s h => by
    obtain ⟨hp, g, d, tk, os⟩ := s
    obtain ⟨hl, h⟩ := h
    have f1 := AutoSeq1.idx_int
    wp_walk using wpAny_loadPart' hl
    repeat (first
      | (refine wpAny_ite_false (decide_eq_false (by rw [c0]; exact Bool.false_ne_true)) ?_; wp_walk using wpAny_loadPart' hl))
    exact ⟨_, rfl, h⟩
/-- a tuple so many times, an empty one too -/
def rRepTA (K : PySem.W.Frag) : R2 := fun x y H Q => ∃ l k xs, x = .ref l ∧ y = .int k ∧ SqT K H l xs ∧ 2 ≤ k ∧ k ≤ 1000 ∧ xs.length ≤ 1000 ∧ (xs = [] → Q (.ref l) H) ∧ (xs ≠ [] → ∀ p, H p = none → Q (.ref p) (upd H p (.tup (List.replicate k.toNat xs).flatten)))
theorem op_repTA {X : Cx} {K : PySem.W.Frag} (hK : X.K = K := by rfl) : OpR X (binaryOp .Mult) (rRepTA K) := by
  subst hK
  intro pins s σ H x y v u Q I rx ry h
  obtain ⟨l, k, xs, rfl, rfl, hT, h1, h2, hz, qe, qn⟩ := h
  by_cases hne : xs = []
  · subst hne
    have q := qe rfl
    cases rx
    obtain ⟨t, rfl⟩ := ry
    obtain ⟨its, r, ⟨⟨cls, dd, data, sl⟩, ho, hc, n, hd⟩, hs⟩ := I.tuple hT
    simp only at hc hd
    subst hc hd
    have hi : its = [] := List.eq_nil_of_length_eq_zero r.length.symm
    subst hi
    have c0 : (decide (k < -(2 ^ 63)) || decide (k ≥ 2 ^ 63)) = false := by
      rw [decide_eq_false (by omega), decide_eq_false (by omega)] <;> rfl
    refine wpAny_binaryOp_repeat_ref (T := "tuple") (U := "int") (by decide) ⟨_, ho, rfl⟩ (fun s' => typeIs_int s' k t) noFill_tuple_mul F.fills_int_mul F.slot_int_rmul repeat_tuple F.slot_int_index.lookup
      (call_meets F.slot_int_rmul (typeIs_int s k t) F.entry_int_rmul (F.args_int_rmul_2 _ _) (int_rmul_tuple k t l #[] n dd sl)
        ⟨ho, rfl, ⟨_, ho, rfl⟩, call_meets F.slot_tuple_mul ⟨_, ho, rfl⟩ F.entry_tuple_mul (F.args_tuple_mul_2 _ _) (tuple_mulE l n dd k t sl c0) ⟨ho, ?_⟩⟩)
    exact ⟨.ref l, H, I, rfl, q⟩
  · exact op_repT pins s σ H _ _ v u Q I rx ry ⟨l, k, xs, rfl, rfl, hT, hne, h1, h2, hz, qn hne⟩
end L2
namespace Fh
open PySem PySem.Spec PySem.W PyProof.Rows L2 He LamX
/-! ### o.m(e, ..) where what is raised is wished for at the caller's slots -/
def tMethW (C : Addr) (m : Str) (sp : Sp) (E : Sto → XK) (ta : TE) (t : TA) : TE := fun σ H Q => ta σ H fun x H1 => ∃ a dx fs, x = .ref a ∧ H1 a = some (.ins C dx fs) ∧ fs.lookup m = none ∧ t σ H1 fun vs H2 => sp (x :: vs) H2 Q (E σ)
theorem pe_methW {X : Cx} {CX : CXT} {k : Nat} {C f : Addr} {fd : FuncData} {ps : List Str} {sp : Sp} {E : Sto → XK} {m : Str} {o e : Expr} {es : List Expr} {ta : TE} {t : TA} {apos pos : Pos} {pl : Sem Bool} (he : PE X o ta) (c : Cls X.K C) (hm : Meth X.K C m f) (F : FnOk X.prog X.w X.K X.mg X.base CX k f fd ps sp) (hr : Room k X.A) (hb : Binds X.K fd ps []) (hx : ∀ σ, PassesAt CX X σ (E σ)) (ha : PA X (e :: es) t)
    (hst : starEach (e :: es) X.env = (false, eval e X.env) :: starEach es X.env := by rfl) (hpl : (backTo pos (starEach es X.env)).any (·.1) = false := by rfl)
    (ht : eval (.Call (.Attribute o m apos) (e :: es) [] pos) X.env = (do
      let ov ← eval o X.env
      standAt apos.atName
      let (f, first) ← holding [ov] (getMethod ov m pl)
      callWith pos f first (backTo pos (starEach (e :: es) X.env)) (backToKw pos (keywordEach [] X.env))) := by rfl) :
    PE X (.Call (.Attribute o m apos) (e :: es) [] pos) (tMethW C m sp E ta t) := by
  refine ⟨fun pins s σ H Q I h => ?_⟩
  refine PySem.W.methodCall_KW (pl := pl) (thn (he.run pins s σ H _ I h) fun u s1 ⟨x, H1, I1, rx, a, dx, fs, ex, ea, l, q⟩ => ?_) ht
  subst ex
  obtain rfl : u = Value.ref a := rx
  refine getmeth_ok I1 ea c hm l ?_
  refine PySem.W.callWith_K (first := [.ref a]) (h₀ := X.base) I.ok.mod.kin hm.kp (thn (ha.run pos pins s1 σ H1 _ I1 q) fun us s2 ⟨vs, H2, I2, r, q2⟩ => ⟨I2.kIn, ?_⟩) hst hpl
  exact run_fnSD (us := .ref a :: us) (vs := .ref a :: vs) (dvs := []) F hr hb .nil (hx σ) I2 (.cons rfl r) (by rw [List.append_nil]; exact q2)
/-- what a law finds of a call that may be refused: [], or the value alone -/
def RefE1 (K : PySem.W.Frag) (x f : Str) (Q : VK) : XK := fun cls d H => cls = .ref (ga K x) ∧ ∃ dx y, d = some dx ∧ H dx = some (exd dx [(f, y)]) ∧ ∀ l, H l = none → Q (.ref l) (upd H l (.lst [y]))
def TTR1 (K : PySem.W.Frag) (x f : Str) : (XK → Hp → VK → Prop) → Hp → VK → Prop := fun tl H Q =>
  ∀ (l : Addr) (E2 : XK) (Q2 : VK), H l = none → (∀ cls d G, RefE1 K x f Q cls d G → E2 cls d G) → (∀ v G, Q (.ref l) G → Q2 v G) → tl E2 (upd H l (.lst [])) Q2
end Fh
namespace Fh
open PySem PySem.Spec PyProof.Rows L2 He LamX
/-! ### what is told is new each time -/
def NoE : XK := fun _ _ _ => False
def ListV (H H1 : Hp) (v : V) : Prop := v = .non ∨ ∃ a xs, v = .ref a ∧ H a = none ∧ H1 a = some (.lst xs) ∧ xs.length ≤ 1000000
def TTN : (XK → Hp → VK → Prop) → Hp → VK → Prop := fun tl H Q => (∀ H2, Same H H2 → Q (.bl true) H2) ∧
  ∀ Q1 : VK, (∀ v1 H1 d, Same H H1 → Dq H1 d v1 → DOkW d → ListV H H1 v1 → (∀ G (Q2 : VK), Same H G → (∀ v2 H2, Same G H2 → Dq H2 d v2 → Q2 v2 H2) → tl NoE G Q2) → Q1 v1 H1) → tl NoE H Q1
end Fh
namespace Fh
open PySem PySem.Spec PyProof.Rows L2 He LamX
section
variable {X : Cx} {K : PySem.W.Frag}
def rNeU (K : PySem.W.Frag) : R2 := fun x y H Q => ∃ a b, x = .ref a ∧ y = .ref b ∧ SqT K H a [] ∧ SqT K H b [] ∧ Q (.bl false) H
theorem op_neU (hu : X.A.units + 64 < cLine) (hK : X.K = K := by rfl) : OpR X (compareOp .NotEq) (rNeU K) := by
  subst hK
  intro pins s σ H x y v u Q I rx ry h
  obtain ⟨a, b, rfl, rfl, ha, hb, q⟩ := h
  cases rx
  cases ry
  obtain ⟨its, r1, p1, _⟩ := I.tuple ha
  obtain ⟨jts, r2, p2, _⟩ := I.tuple hb
  have e := vals_nil r2
  subst e
  have e := vals_nil r1
  subst e
  have hu' : X.A.units < cLine := by omega
  exact SeqAt.RcNeAt.tuples (e := fun _ => true) p1 p2 hu' (fun j h1 h2 => absurd h1 (by simp)) _ _ _ _ ⟨.bl _, H, I, rfl, q⟩
end
end Fh
namespace Fh
open PySem PySem.Spec PyProof.Rows L2 He LamX
/-! ### a list of letters written out -/
theorem letter_small : ∀ x ∈ letters16, (PyData.leavesShort 8 (.str x)) = true ∧ x.cps.size = 1 := by decide +kernel
theorem letters_short : ∀ {ws : List Str}, (∀ x ∈ ws, x ∈ letters16) → PyData.leavesShortAll 8 (ws.map .str) = true ∧ PyData.weightAll (ws.map .str) = 2 * ws.length ∧ PyData.showableAll (ws.map .str) = true
  | [], _ => by simp [PyData.leavesShortAll, PyData.weightAll, PyData.showableAll]
  | x :: ws, h => by
    obtain ⟨h1, h2, h3⟩ := letters_short (ws := ws) fun y hy => h y (List.mem_cons_of_mem _ hy)
    obtain ⟨g1, g2⟩ := letter_small x (h x List.mem_cons_self)
    refine ⟨?_, ?_, ?_⟩
    · rw [List.map_cons, PyData.leavesShortAll, g1, h1]
      rfl
    · rw [List.map_cons, PyData.weightAll, h2, PyData.weight, g2, List.length_cons]
      omega
    · rw [List.map_cons, PyData.showableAll, h3, PyData.showable]
      rfl
theorem names_dok {ws : List Str} (h : ∀ x ∈ ws, x ∈ letters16) (hl : ws.length ≤ 20000) : DOkW (namesD ws) := by
  obtain ⟨h1, h2, h3⟩ := letters_short h
  refine ⟨?_, ?_, ?_⟩
  · unfold namesD
    rw [PyData.showable, h3]
  · have := depth_names ws
    omega
  · refine PyData.shown_fits (B := 8) (by decide) (by decide) ?_ ?_
    · unfold namesD
      rw [PyData.leavesShort, h1]
    · unfold namesD
      rw [PyData.weight, h2]
      have e : (2 : Nat) ^ 20 = 1048576 := by decide
      omega
theorem Goes.named {rs : List RuleD} {f g : Lot} {c d : Int} {ns : List Str} (h : Goes rs f c ns g d) : ∀ n ∈ ns, ∃ r ∈ rs, r.name = n := by
  induction h with
  | nil => exact fun n hn => by cases hn
  | cons hr _ _ ih => exact fun n hn => (List.mem_cons.mp hn).elim (fun e => ⟨_, hr, e.symm⟩) (ih n)
theorem pathR_inv {rs : List RuleD} {s : Str} {run : List Str} {x : Str} (h : PathR rs s run x) : (run = [] ∧ x = s) ∨ ∃ r ns, r ∈ rs ∧ x ∈ r.out ∧ run = ns ++ [r.name] ∧ PathR rs s ns r.kind := by
  cases h with
  | nil => exact .inl ⟨rfl, rfl⟩
  | snoc h1 h2 h3 => exact .inr ⟨_, _, h2, h3, rfl, h1⟩
theorem reachIn_reach {rs : List RuleD} {s x : Str} {n : Nat} (h : ReachIn rs s n x) : Reach rs s x := by
  induction h with
  | zero => exact .refl
  | succ _ hr hx ih => exact .step ih hr hx
/-- runs to kinds are no longer than there are kinds -/
theorem RunsOk.chain {rs : List RuleD} {st : Str} {rr : List RunD} (W : RunsOk rs st rr) : ∀ (n : Nat) (x : Str) (run : List Str), (x, run) ∈ rr → run.length = n → ∃ l : List Str, l.Nodup ∧ l.length = n + 1 ∧ ∀ y ∈ l, ∃ u, (y, u) ∈ rr ∧ u.length ≤ n := by
  intro n
  induction n with
  | zero => exact fun x run hm hl => ⟨[x], by simp, rfl, fun y hy => by rw [List.mem_singleton.mp hy]; exact ⟨run, hm, by omega⟩⟩
  | succ n ih =>
    intro x run hm hl
    rcases pathR_inv (W.path _ hm) with ⟨e, _⟩ | ⟨r, ns, hr, hx, e, hp⟩
    · have e' : run = [] := e
      rw [e'] at hl
      cases hl
    · have e' : run = ns ++ [r.name] := e
      rw [e', List.length_append] at hl
      have hnl : ns.length = n := by
        have : ns.length + 1 = n + 1 := hl
        omega
      have hin : r.kind ∈ rr.map (·.1) := (W.about.all _).mpr (reachIn_reach hp.reach)
      obtain ⟨⟨z, u⟩, hzu, ez⟩ := List.mem_map.mp hin
      have ez' : z = r.kind := ez
      subst ez'
      have h1 := W.least _ hzu _ hp.reach
      have h2 := W.least _ hm _ (.succ (W.path _ hzu).reach hr hx)
      have h1' : u.length ≤ ns.length := h1
      have h2' : run.length ≤ u.length + 1 := h2
      rw [e', List.length_append] at h2'
      have h3 : ns.length + 1 ≤ u.length + 1 := h2'
      obtain ⟨l, l1, l2, l3⟩ := ih _ u hzu (by omega)
      refine ⟨x :: l, List.nodup_cons.mpr ⟨fun hxl => ?_, l1⟩, by rw [List.length_cons, l2], fun y hy => ?_⟩
      · obtain ⟨v, hv, hvl⟩ := l3 x hxl
        have h4 := W.least _ hm _ (W.path _ hv).reach
        have h4' : run.length ≤ v.length := h4
        rw [e', List.length_append] at h4'
        have : ns.length + 1 ≤ v.length := h4'
        omega
      · rcases List.mem_cons.mp hy with rfl | hy
        · exact ⟨run, hm, by rw [e', List.length_append]; show ns.length + 1 ≤ _; omega⟩
        · obtain ⟨v, hv, hvl⟩ := l3 y hy
          exact ⟨v, hv, by omega⟩
theorem RunsOk.short {rs : List RuleD} {ks : List Str} {st : Str} {rr : List RunD} (W : RunsOk rs st rr) (hst : st ∈ ks) (ho : ∀ r ∈ rs, ∀ x ∈ r.out, x ∈ ks) {x : Str} {run : List Str} (hm : (x, run) ∈ rr) : run.length + 1 ≤ ks.length := by
  obtain ⟨l, l1, l2, l3⟩ := W.chain _ x run hm rfl
  rw [← l2]
  exact nodup_len l1 fun y hy => by
    obtain ⟨u, hu, _⟩ := l3 y hy
    exact ((W.about.all y).mp (List.mem_map.mpr ⟨_, hu, rfl⟩)).inside hst ho
/-! ### what stands from kind to kind -/
structure KB (K : PySem.W.Frag) (T : List (Addr × Str)) (a : Addr) (ns : List Int) (C t pl bk Dw Da : Addr) (q : PlanRef) (ks hs : List Str) (rs : List RuleD) (st : Str) (c : Int) (rr : List RunD) (H : Hp) : Prop where
  base : Base K T a ns H
  plan : PlanAt H pl q ks hs rs
  book : BookAt C H bk ks hs rs st c
  ways : H Dw = some (.dK (numK (wayFix rs (ks.length + 1) [])))
  some_ : H Da = some (.dK (numK (lensOf rr)))
  tape : TapeAt H t
section
variable {K : PySem.W.Frag} {T : List (Addr × Str)} {a : Addr} {ns : List Int} {C t pl bk Dw Da : Addr} {q : PlanRef} {ks hs : List Str} {rs : List RuleD} {st : Str} {c : Int} {rr : List RunD} {H H' : Hp}
theorem KB.same (h : KB K T a ns C t pl bk Dw Da q ks hs rs st c rr H) (s : Same H H') : KB K T a ns C t pl bk Dw Da q ks hs rs st c rr H' :=
  ⟨h.base.same s, h.plan.up s, h.book.up s, s _ _ h.ways, s _ _ h.some_, h.tape.up s⟩
theorem KB.ext (h : KB K T a ns C t pl bk Dw Da q ks hs rs st c rr H) (e : ExtN H H') (tabs : Tabs T H') : KB K T a ns C t pl bk Dw Da q ks hs rs st c rr H' :=
  ⟨⟨sqL_ext e h.base.script, h.base.sys.ext e, tabs⟩, h.plan.ext e, h.book.ext e, e _ _ h.ways (fun ps z => by cases z), e _ _ h.some_ (fun ps z => by cases z), h.tape.ext e⟩
end
/-! ### shortest walks are told anew each time -/
section
variable {K : PySem.W.Frag} {C bk : Addr} {ks hs : List Str} {rs : List RuleD} {st k : Str} {c : Int} {H : Hp} {σ : Sto} {i j : Nat} {Q : VK}
theorem none_dok : DOkW .none := ⟨by decide, by decide, by decide +kernel⟩
theorem new_sab (e1 : σ[i]? = some (some (.ref bk))) (e2 : σ[j]? = some (some (.str k))) (hB : BookAt C H bk ks hs rs st c) (hO : BookOk ks hs rs st) (h40 : ks.length ≤ 40) (hk : k ∈ ks) (hY : Sys H) (hl : ∀ r ∈ rs, r.name ∈ letters16) (hQ : ∀ H2, Same H H2 → Q (.bl true) H2) :
    TTN (fun E G Q2 => tCallS (spSab K C) (WE fun cls d _ H => E cls d H) (tCons (tVar i) (tCons (tVar j) tNil)) σ G Q2) H Q := by
  have nok : ∀ {Z : Prop}, amongD ks (.str k) = false → Z := fun z => absurd (List.contains_iff_mem.mpr hk) (by rw [show ks.contains k = amongD ks (.str k) from rfl, z]; decide)
  have ask : ∀ (G : Hp) (Q2 : VK), Same H G → (∀ u rr G', RunsOk rs st rr → RunsDet (sortR rs) st rr → Same G G' → AboutV G G' rr k u → Q2 u G') →
      tCallS (spSab K C) (WE fun cls d _ H => NoE cls d H) (tCons (tVar i) (tCons (tVar j) tNil)) σ G Q2 := fun G Q2 s h => by
    refine ⟨_, e1, _, e2, bk, .str k, .str k, ks, hs, rs, st, c, rfl, hB.up s, hO, h40, by simp only [Dq], fun x u rr G' ex hx W D s2 av => ?_, fun z => nok z⟩
    cases ex
    exact h u rr G' W D s2 av
  refine ⟨hQ, fun Q1 h1 => ask H Q1 (Same.refl _) fun u rr H1 W D s1 av => ?_⟩
  rcases av with ⟨rfl, hn⟩ | ⟨p, run, rfl, np, ep, hm⟩
  · refine h1 _ H1 .none s1 (by simp only [Dq]) none_dok (.inl rfl) fun G Q2 sG h2 => ask G Q2 sG fun u2 rr2 G' W2 D2 s2 av2 => ?_
    rw [← D.uniq D2] at av2
    rcases av2 with ⟨rfl, _⟩ | ⟨p2, run2, rfl, _, _, hm2⟩
    · exact h2 _ G' s2 (by simp only [Dq])
    · exact absurd (List.mem_map.mpr ⟨_, hm2, rfl⟩) hn
  · have hgo := (W.path _ hm).goes c
    obtain ⟨g, d, hg, _⟩ := hgo
    have hlet : ∀ x ∈ run, x ∈ letters16 := fun x hx => by
      obtain ⟨r, hr, rfl⟩ := hg.named x hx
      exact hl r hr
    have hrl := W.short hO.start (fun r hr => (hO.rgood r hr).2.2.1) hm
    have dq : ∀ {Hx : Hp} {p : Addr}, Sys Hx → Hx p = some (.lst (run.map V.str)) → Dq Hx (namesD run) (.ref p) := fun y e => dq_names e (y.lst e)
    refine h1 _ H1 (namesD run) s1 (dq (hY.up s1) ep) (names_dok hlet (by omega)) (.inr ⟨p, _, rfl, np, ep, by rw [List.length_map]; omega⟩) fun G Q2 sG h2 => ask G Q2 sG fun u2 rr2 G' W2 D2 s2 av2 => ?_
    rw [← D.uniq D2] at av2
    rcases av2 with ⟨rfl, hn⟩ | ⟨p2, run2, rfl, _, ep2, hm2⟩
    · exact absurd (List.mem_map.mpr ⟨_, hm, rfl⟩) hn
    · have er : run2 = run := Option.some.inj ((runs_lookup W.about.nodup hm2).symm.trans (runs_lookup W.about.nodup hm))
      rw [er] at ep2
      exact h2 _ G' s2 (dq ((hY.up sG).up s2) ep2)
theorem new_sen (e1 : σ[i]? = some (some (.ref bk))) (e2 : σ[j]? = some (some (.str k))) (hB : BookAt C H bk ks hs rs st c) (hO : BookOk ks hs rs st) (h40 : ks.length ≤ 40) (h6 : ks.length ≤ 6) (h4 : ∀ r ∈ rs, r.out.length ≤ 4) (hk : k ∈ ks) (hY : Sys H) (hl : ∀ r ∈ rs, r.name ∈ letters16) (hQ : ∀ H2, Same H H2 → Q (.bl true) H2) :
    TTN (fun E G Q2 => tCallS (spSen K C) (WE fun cls d _ H => E cls d H) (tCons (tVar i) (tCons (tVar j) tNil)) σ G Q2) H Q := by
  have nok : ∀ {Z : Prop}, amongD ks (.str k) = false → Z := fun z => absurd (List.contains_iff_mem.mpr hk) (by rw [show ks.contains k = amongD ks (.str k) from rfl, z]; decide)
  have ask : ∀ (G : Hp) (Q2 : VK), Same H G → (∀ u ss G', FirstOk rs ss → (∀ r ∈ rs, candW (nosOf ss) r = false) → StepsDet rs ss → Same G G' → EndV rs G G' ss k u → Q2 u G') →
      tCallS (spSen K C) (WE fun cls d _ H => NoE cls d H) (tCons (tVar i) (tCons (tVar j) tNil)) σ G Q2 := fun G Q2 s h => by
    refine ⟨_, e1, _, e2, bk, .str k, .str k, ks, hs, rs, st, c, rfl, hB.up s, hO, h40, h4, by simp only [Dq], h6, fun x u ss G' ex hx W N D s2 av => ?_, fun z => nok z⟩
    cases ex
    exact h u ss G' W N D s2 av
  refine ⟨hQ, fun Q1 h1 => ask H Q1 (Same.refl _) fun u ss H1 W N D s1 av => ?_⟩
  have same : ∀ {ts : List StepD}, FirstOk rs ts → (∀ r ∈ rs, candW (nosOf ts) r = false) → StepsDet rs ts → ts = ss := fun W2 N2 D2 => steps_uniq hO.rnames W2 D2 N2 W D N
  rcases av with ⟨rfl, hn⟩ | ⟨p, w, n, rfl, np, ep, hE, hlk, hwl, hI⟩
  · refine h1 _ H1 .none s1 (by simp only [Dq]) none_dok (.inl rfl) fun G Q2 sG h2 => ask G Q2 sG fun u2 ts G' W2 N2 D2 s2 av2 => ?_
    rw [same W2 N2 D2] at av2
    rcases av2 with ⟨rfl, _⟩ | ⟨p2, w2, n2, rfl, _, _, _, hlk2, _⟩
    · exact h2 _ G' s2 (by simp only [Dq])
    · rw [hn] at hlk2
      cases hlk2
  · obtain ⟨d, hg⟩ := hE (oneL k) c (by unfold oneL; rw [if_pos rfl]; decide)
    have hlet : ∀ x ∈ w, x ∈ letters16 := fun x hx => by
      obtain ⟨r, hr, rfl⟩ := hg.named x hx
      exact hl r hr
    have hsl : ss.length ≤ 6 := Nat.le_trans (W.few fun r hr => (hO.rgood r hr).2.1) h6
    have hsm : w.length ≤ 15625 := by
      obtain ⟨i0, s0, hs0, hk0, _⟩ := hI
      have := W.small h4 hsl hs0
      have e := W.at_kind hs0
      rw [hk0, hlk] at e
      rw [hwl, Option.some.inj e]
      exact this
    have dq : ∀ {Hx : Hp} {p : Addr}, Sys Hx → Hx p = some (.lst (w.map V.str)) → Dq Hx (namesD w) (.ref p) := fun y e => dq_names e (y.lst e)
    have hnd : (ss.map fun s => s.2.kind).Nodup := by
      have := W.ways.nodup
      rwa [nosOf_keys] at this
    refine h1 _ H1 (namesD w) s1 (dq (hY.up s1) ep) (names_dok hlet (by omega)) (.inr ⟨p, _, rfl, np, ep, by rw [List.length_map]; omega⟩) fun G Q2 sG h2 => ask G Q2 sG fun u2 ts G' W2 N2 D2 s2 av2 => ?_
    rw [same W2 N2 D2] at av2
    rcases av2 with ⟨rfl, hn⟩ | ⟨p2, w2, n2, rfl, _, ep2, _, _, _, hI2⟩
    · rw [hn] at hlk
      cases hlk
    · rw [hI2.uniq hnd hI] at ep2
      exact h2 _ G' s2 (dq ((hY.up sG).up s2) ep2)
end
end Fh
namespace Fh
open PySem PySem.Spec PySem.W PyProof.Rows L2 He
/-! ### what plans are worth when they are written out -/
def Short (B W : Nat) (d : PyData) : Prop := d.leavesShort B = true ∧ d.weight ≤ W ∧ d.showable = true
def ShortAll (B W : Nat) (ds : List PyData) : Prop := PyData.leavesShortAll B ds = true ∧ PyData.weightAll ds ≤ W ∧ PyData.showableAll ds = true
theorem shortAll_map {α : Type} {B W : Nat} {f : α → PyData} : ∀ {xs : List α}, (∀ x ∈ xs, Short B W (f x)) → ShortAll B (xs.length * (W + 1)) (xs.map f)
  | [], _ => ⟨by simp [PyData.leavesShortAll], by simp [PyData.weightAll], by simp [PyData.showableAll]⟩
  | x :: xs, h => by
    obtain ⟨a1, a2, a3⟩ := h x List.mem_cons_self
    obtain ⟨b1, b2, b3⟩ := shortAll_map (xs := xs) fun y hy => h y (List.mem_cons_of_mem _ hy)
    refine ⟨?_, ?_, ?_⟩
    · rw [List.map_cons, PyData.leavesShortAll, a1, b1]; rfl
    · rw [List.map_cons, PyData.weightAll, List.length_cons, Nat.add_mul]
      omega
    · rw [List.map_cons, PyData.showableAll, a3, b3]; rfl
theorem Short.le {B W W2 : Nat} {d : PyData} (h : Short B W d) (l : W ≤ W2) : Short B W2 d := ⟨h.1, Nat.le_trans h.2.1 l, h.2.2⟩
theorem ShortAll.le {B W W2 : Nat} {d : List PyData} (h : ShortAll B W d) (l : W ≤ W2) : ShortAll B W2 d := ⟨h.1, Nat.le_trans h.2.1 l, h.2.2⟩
theorem ShortAll.nil {B W : Nat} : ShortAll B W [] := ⟨by simp [PyData.leavesShortAll], by simp [PyData.weightAll], by simp [PyData.showableAll]⟩
theorem ShortAll.cons {B V W : Nat} {d : PyData} {ds : List PyData} (h : Short B V d) (g : ShortAll B W ds) : ShortAll B (V + 1 + W) (d :: ds) := by
  obtain ⟨a1, a2, a3⟩ := h
  obtain ⟨b1, b2, b3⟩ := g
  refine ⟨?_, ?_, ?_⟩
  · rw [PyData.leavesShortAll, a1, b1]; rfl
  · rw [PyData.weightAll]; omega
  · rw [PyData.showableAll, a3, b3]; rfl
theorem ShortAll.list {B W : Nat} {ds : List PyData} (h : ShortAll B W ds) : Short B W (.list ds) := by
  obtain ⟨b1, b2, b3⟩ := h
  exact ⟨by rw [PyData.leavesShort, b1], by rw [PyData.weight]; exact b2, by rw [PyData.showable, b3]⟩
theorem ShortAll.tuple {B W : Nat} {ds : List PyData} (h : ShortAll B W ds) : Short B W (.tuple ds) := by
  obtain ⟨b1, b2, b3⟩ := h
  exact ⟨by rw [PyData.leavesShort, b1], by rw [PyData.weight]; exact b2, by rw [PyData.showable, b3]⟩
theorem short_str {B n : Nat} {x : Str} (h1 : PyData.strOk x = true) (h2 : x.length ≤ n) : Short B n (.str x) := by
  refine ⟨?_, ?_, ?_⟩
  · rw [PyData.leavesShort]
    refine List.all_eq_true.mpr fun c hc => decide_eq_true ?_
    have h3 := h1
    unfold PyData.strOk at h3
    rw [← Array.all_toList] at h3
    have h4 := of_decide_eq_true (List.all_eq_true.mp h3 c hc)
    exact Nat.lt_trans h4 (by decide)
  · rw [PyData.weight]; exact h2
  · rw [PyData.showable]
theorem short_name {B : Nat} {x : Str} (h : nameB x = true) : Short B 8 (.str x) := short_str (nameB_ok h) (nameB_len h).2
theorem log2_lt {n : Nat} (h : n < 10 ^ 60) : n.log2 < 200 := by
  by_cases h0 : n = 0
  · subst h0
    decide
  · exact (Nat.log2_lt h0).mpr (Nat.lt_of_lt_of_le h (by decide +kernel))
theorem short_int {i : Int} (h : i.natAbs < 10 ^ 60) : Short 64 200 (.int i) := by
  have hl := log2_lt h
  refine ⟨?_, ?_, ?_⟩
  · rw [PyData.leavesShort]
    have e := int_text_length_le10 (k := 60) (by decide) h
    refine decide_eq_true ?_
    show (Str.ofString (toString i)).length ≤ 64
    rw [PySem.ofString_length]
    omega
  · rw [PyData.weight]
    split
    · exact Nat.zero_le _
    · omega
  · rw [PyData.showable]
    exact decide_eq_true (by omega)
theorem Short.dok {W : Nat} {d : PyData} (h : Short 64 W d) (hW : W ≤ 200000) (hd : d.depth ≤ 60) : DOkW d := by
  obtain ⟨h1, h2, h3⟩ := h
  refine ⟨h3, hd, ?_⟩
  have h4 := PyData.shown_le 64 (by decide) d h1
  rw [sizeLine_eq]
  have h5 : (64 + 2) * d.weight ≤ 66 * 200000 := Nat.mul_le_mul (by decide) (by omega)
  omega
theorem short_names {xs : List Str} (h : ∀ x ∈ xs, nameB x = true) {n : Nat} (hl : xs.length ≤ n) : ShortAll 64 (n * 9) (xs.map .str) :=
  (shortAll_map (W := 8) fun x hx => short_name (h x hx)).le (Nat.mul_le_mul_right _ hl)
structure PlanN (ks hs : List Str) (rs : List RuleD) (st : Str) (c : Int) : Prop where
  book : BookOk ks hs rs st
  few : ks.length ≤ 20 ∧ hs.length ≤ 20 ∧ rs.length ≤ 40
  outs : ∀ r ∈ rs, r.out.length ≤ 30
  change : ∀ r ∈ rs, r.change.natAbs < 10 ^ 60
  count : c.natAbs < 10 ^ 60
theorem short_rule {ks hs : List Str} {rs : List RuleD} {st : Str} {c : Int} (h : PlanN ks hs rs st c) {r : RuleD} (hr : r ∈ rs) : Short 64 600 (ruleData r) := by
  obtain ⟨g1, g2, g3, _⟩ := h.book.rgood r hr
  unfold ruleData
  refine (ShortAll.cons (short_name g1) (ShortAll.cons (short_name (h.book.names _ g2)) (ShortAll.cons (short_names (n := 30) (fun x hx => h.book.names _ (g3 x hx)) (h.outs r hr)).tuple (ShortAll.cons (short_int (h.change r hr)) (.nil (W := 0)))))).tuple.le (by decide)
theorem short_plan {ks hs : List Str} {rs : List RuleD} {st : Str} {c : Int} (h : PlanN ks hs rs st c) : Short 64 100000 (planD ks hs rs st c) := by
  unfold planD namesD
  refine (ShortAll.cons (short_names (n := 20) h.book.names h.few.1).list (ShortAll.cons (short_names (n := 20) (fun x hx => h.book.names _ (h.book.hsub x hx)) h.few.2.1).list (ShortAll.cons (ShortAll.le (W2 := 40 * 601) (shortAll_map (W := 600) fun r hr => short_rule h hr) (Nat.mul_le_mul_right _ h.few.2.2)).list (ShortAll.cons (short_name (h.book.names _ h.book.start)) (ShortAll.cons (short_int h.count) (.nil (W := 0))))))).list.le (by decide)
theorem depth_plan (ks hs : List Str) (rs : List RuleD) (st : Str) (c : Int) : (planD ks hs rs st c).depth ≤ 6 := by
  unfold planD
  have h1 := depth_names ks
  have h2 := depth_names hs
  have h3 := depth_rules rs
  simp only [PyData.depth, PyData.depthAll]
  omega
theorem shaped_plan {ks hs : List Str} {rs : List RuleD} {st : Str} {c : Int} (h : BookOk ks hs rs st) : SeqAt.shaped (planD ks hs rs st c) = true := by
  unfold SeqAt.shaped
  rw [Bool.and_eq_true]
  constructor
  · unfold planD
    simp only [PyData.canLay0, PyData.canLayAll0, names_lay fun x hx => nameB_ok (h.names x hx), names_lay fun x hx => nameB_ok (h.names _ (h.hsub x hx)), nameB_ok (h.names _ h.start), Bool.and_true, Bool.true_and]
    exact rules_lay fun r hr => by
      obtain ⟨h1, h2, h3, _⟩ := h.rgood r hr
      exact ⟨nameB_ok h1, nameB_ok (h.names _ h2), fun x hx => nameB_ok (h.names _ (h3 x hx))⟩
  · have := depth_plan ks hs rs st c
    exact decide_eq_true (by omega)
theorem PlanN.s {ks hs : List Str} {rs : List RuleD} {st : Str} {c : Int} (h : PlanN ks hs rs st c) : PlanS ks hs rs st c :=
  ⟨h.book, shaped_plan h.book, (short_plan h).dok (by decide) (Nat.le_trans (depth_plan _ _ _ _ _) (by decide)), by have := h.few; omega⟩
end Fh
namespace Fh
open PySem PySem.Spec PySem.W PyProof.Rows L2 He
/-! ### sorted strings -/
def sortS (xs : List Str) : List Str := xs.mergeSort (dataLe false .str)
theorem sortS_perm (xs : List Str) : (sortS xs).Perm xs := List.mergeSort_perm _ _
theorem sortS_pw (xs : List Str) : (sortS xs).Pairwise fun a b => dataLe false PyData.str a b = true := by
  refine List.pairwise_mergeSort (fun a b c h1 h2 => ?_) (fun a b => ?_) xs
  · rw [dataLe_eq] at h1 h2 ⊢
    have h1 : (!dataLt (.str b) (.str a)) = true := h1
    have h2 : (!dataLt (.str c) (.str b)) = true := h2
    show (!dataLt (.str c) (.str a)) = true
    rw [lt_neg_trans _ _ _ (by simpa using h2) (by simpa using h1)]
    rfl
  · rw [dataLe_eq]
    show ((!dataLt (.str b) (.str a)) || (!dataLt (.str a) (.str b))) = true
    rcases lt_total (.str a) (.str b) with h | h
    · rw [h]; simp
    · rw [h]; simp
theorem sortS_same {xs ys : List Str} : sortS xs = sortS ys ↔ xs.Perm ys := by
  constructor
  · intro e
    exact ((sortS_perm xs).symm.trans (by rw [e])).trans (sortS_perm ys)
  · intro p
    refine List.Perm.eq_of_pairwise (le := fun a b => dataLe false PyData.str a b = true) (fun a b ha hb h1 h2 => ?_) (sortS_pw xs) (sortS_pw ys) (((sortS_perm xs).trans p).trans (sortS_perm ys).symm)
    rw [dataLe_eq] at h1 h2
    have h1 : (!dataLt (.str b) (.str a)) = true := h1
    have h2 : (!dataLt (.str a) (.str b)) = true := h2
    exact str_anti (by simpa using h2) (by simpa using h1)
theorem parts_same2 {ks hs ks2 hs2 : List Str} {rs rs2 : List RuleD} {st st2 : Str} {c c2 : Int} (n1 : ks.Nodup) (n2 : hs.Nodup) (n3 : (rs.map (·.name)).Nodup) (m1 : ks2.Nodup) (m2 : hs2.Nodup) (m3 : (rs2.map (·.name)).Nodup) :
    PyData.eqv (planD (sortS ks) (sortS hs) (sortR rs) st c) (planD (sortS ks2) (sortS hs2) (sortR rs2) st2 c2) = sameB ks hs rs st c ks2 hs2 rs2 st2 c2 := by
  unfold planD namesD sameB
  simp only [PyData.eqv, PyData.eqvAll, eqvAll_strs, eqvAll_rules, Bool.and_true]
  rw [Bool.eq_iff_iff]
  simp only [Bool.and_eq_true, decide_eq_true_eq, beq_iff_eq, marks_eqv n1 m1, marks_eqv n2 m2, rules_eqv n3 m3, sortS_same, sortR_same n3, V.str.injEq, V.int.injEq]
def IsStr (v : V) (x : Str) : Prop := v = .str x
theorem isStr_all : ∀ xs : List Str, All2 IsStr (xs.map V.str) xs
  | [] => rfl
  | x :: xs => ⟨x, xs, rfl, rfl, isStr_all xs⟩
theorem isStr_eq : ∀ {vs : List V} {xs : List Str}, All2 IsStr vs xs → vs = xs.map V.str
  | [], xs, h => by
    have e : xs = [] := h
    rw [e]
    rfl
  | v :: vs, xs, h => by
    obtain ⟨x, t, rfl, h1, h2⟩ := h
    have h1 : v = .str x := h1
    rw [h1, isStr_eq h2]
    rfl
theorem strs_vd {H : Hp} {xs : List Str} (hl : xs.length ≤ 100000) : DatOk H (datVD .str (xs.map V.str) xs) ∧ PySem.W.Sortable ((datVD .str (xs.map V.str) xs).map (·.2)) := by
  have h := isStr_all xs
  refine ⟨datVD_ok h (fun v r q => by have q : v = .str r := q; rw [q]; simp only [Dq]) (fun r q => by simp [alike]) (fun r z => by cases z) (fun r => by simp [PyData.depth]) (by rw [List.length_map]; exact hl), ?_⟩
  refine .inr fun d hd => ?_
  obtain ⟨x, hx, rfl⟩ := List.mem_map.mp hd
  obtain ⟨r, _, e, _⟩ := datVD_mem h hx
  rw [e]
  exact ⟨(fun z => by cases z), (fun xs z => by cases z)⟩
theorem strs_sorted (xs : List Str) : ((datVD PyData.str (xs.map V.str) xs).mergeSort (dataLe false (·.2))).map (·.1) = (sortS xs).map V.str := by
  refine isStr_eq ?_
  have h := isStr_all xs
  have hl : (xs.map V.str).length = xs.length := List.length_map _
  have e1 : (((xs.map V.str).zip xs).mergeSort fun a b => dataLe false PyData.str a.2 b.2).map (fun z => (z.1, PyData.str z.2)) = (datVD PyData.str (xs.map V.str) xs).mergeSort (dataLe false (·.2)) := by
    rw [datVD_zip]
    exact List.map_mergeSort (r := fun a b : V × Str => dataLe false PyData.str a.2 b.2) (s := dataLe false fun b : VD => b.2) (f := fun z : V × Str => ((z.1, PyData.str z.2) : VD)) (l := (xs.map V.str).zip xs) fun a _ b _ => rfl
  have e2 : (((xs.map V.str).zip xs).mergeSort fun a b => dataLe false PyData.str a.2 b.2).map (·.2) = sortS xs := by
    unfold sortS
    rw [List.map_mergeSort (r := fun a b : V × Str => dataLe false PyData.str a.2 b.2) (s := dataLe false PyData.str) (f := fun z : V × Str => z.2) (l := (xs.map V.str).zip xs) (fun a _ b _ => rfl), List.map_snd_zip (by omega)]
  rw [← e1, ← e2, List.map_map]
  exact All2.zips fun z hz => h.zip_in z ((List.mergeSort_perm _ _).mem_iff.mp hz)
/-- [sorted(p[0]), sorted(p[1]), sorted(p[2]), p[3], p[4]] -/
theorem told_sorted {K : PySem.W.Frag} {pl : Addr} {σ : Sto} {i : Nat} {H : Hp} {q : PlanRef} {ks hs : List Str} {rs : List RuleD} {st : Str} {c : Int} {Q : VK} (e : σ[i]? = some (some (.ref pl))) (hP : PlanAt H pl q ks hs rs) (e1 : q.s = .str st) (e2 : q.c = .int c) (hY : Sys H) (hO : BookOk ks hs rs st)
    (k : ∀ a H', Same H H' → Dq H' (planD (sortS ks) (sortS hs) (sortR rs) st c) (.ref a) → Q (.ref a) H') :
    tLst (tCons (tCB (rSortedD K) (tCons (tOp (rIxL K) (tVar i) (tC (.int 0))) tNil)) (tCons (tCB (rSortedD K) (tCons (tOp (rIxL K) (tVar i) (tC (.int 1))) tNil)) (tCons (tCB (rSortedD K) (tCons (tOp (rIxL K) (tVar i) (tC (.int 2))) tNil)) (tCons (tOp (rIxL K) (tVar i) (tC (.int 3))) (tCons (tOp (rIxL K) (tVar i) (tC (.int 4))) tNil))))) σ H Q := by
  obtain ⟨ka, ha, ra, qs, qc, us⟩ := q
  have e1 : qs = .str st := e1
  have e2 : qc = .int c := e2
  subst e1 e2
  have hkl : ks.length ≤ 100000 := Nat.le_trans hO.few (by decide)
  have hhl : hs.length ≤ 100000 := Nat.le_trans (nodup_len hO.hnodup hO.hsub) hkl
  have hul := hP.each.len
  have hrf := hO.rfew
  have hul2 : us.length ≤ 1000 := by
    have hul : us.length = rs.length := hul
    omega
  refine ⟨_, e, pl, _, 0, .ref ka, rfl, rfl, SqL.of hP.top, rfl, ka, datVD .str (ks.map V.str) ks, rfl, SqL.of (by rw [datVD_fst (List.length_map _)]; exact hP.kinds), (strs_vd (H := H) hkl).1, (strs_vd (H := H) hkl).2, fun p1 h1 => ?_⟩
  rw [strs_sorted]
  have s1 := same_upd (o := .lst ((sortS ks).map V.str)) h1
  have x1 : upd H p1 (.lst ((sortS ks).map V.str)) p1 = some (.lst ((sortS ks).map V.str)) := upd_same
  have y1 := hY.new h1
  generalize upd H p1 (.lst ((sortS ks).map V.str)) = H1 at s1 x1
  have hP1 := hP.up s1
  refine ⟨_, e, pl, _, 1, .ref ha, rfl, rfl, SqL.of hP1.top, rfl, ha, datVD .str (hs.map V.str) hs, rfl, SqL.of (by rw [datVD_fst (List.length_map _)]; exact hP1.handles), (strs_vd (H := H1) hhl).1, (strs_vd (H := H1) hhl).2, fun p2 h2 => ?_⟩
  rw [strs_sorted]
  have s2 := same_upd (o := .lst ((sortS hs).map V.str)) h2
  have x2 : upd H1 p2 (.lst ((sortS hs).map V.str)) p2 = some (.lst ((sortS hs).map V.str)) := upd_same
  have y2 := (hY.up s1).new h2
  generalize upd H1 p2 (.lst ((sortS hs).map V.str)) = H2 at s2 x2
  have s12 := s1.trans s2
  have hP2 := hP.up s12
  obtain ⟨dok, dso⟩ := rules_vd hP2.each (by omega)
  refine ⟨_, e, pl, _, 2, .ref ra, rfl, rfl, SqL.of hP2.top, rfl, ra, datVD ruleData us rs, rfl, SqL.of (by rw [datVD_fst hul]; exact hP2.rules), dok, dso, fun p3 h3 => ?_⟩
  have s3 := same_upd (o := .lst (((datVD ruleData us rs).mergeSort (dataLe false (·.2))).map (·.1))) h3
  have x3 : upd H2 p3 (.lst (((datVD ruleData us rs).mergeSort (dataLe false (·.2))).map (·.1))) p3 = some (.lst (((datVD ruleData us rs).mergeSort (dataLe false (·.2))).map (·.1))) := upd_same
  have y3 := (hY.up s12).new h3
  have U3 := (rules_sorted hP2.each).up s3
  generalize upd H2 p3 (.lst (((datVD ruleData us rs).mergeSort (dataLe false (·.2))).map (·.1))) = H3 at s3 x3 U3
  have s13 := s12.trans s3
  have hP3 := hP.up s13
  refine ⟨_, e, pl, _, 3, .str st, rfl, rfl, SqL.of hP3.top, rfl, _, e, pl, _, 4, .int c, rfl, rfl, SqL.of hP3.top, rfl, (by show 5 ≤ sizeLine; decide), fun p4 h4 => ?_⟩
  have s4 := same_upd (o := .lst [.ref p1, .ref p2, .ref p3, .str st, .int c]) h4
  have x4 : upd H3 p4 (.lst [.ref p1, .ref p2, .ref p3, .str st, .int c]) p4 = some (.lst [.ref p1, .ref p2, .ref p3, .str st, .int c]) := upd_same
  have y4 := (hY.up s13).new h4
  generalize upd H3 p4 (.lst [.ref p1, .ref p2, .ref p3, .str st, .int c]) = H4 at s4 x4
  exact k p4 H4 (s13.trans s4) (dq_plan x4 y4 (s4 _ _ (s3 _ _ (s2 _ _ x1))) y1 (s4 _ _ (s3 _ _ x2)) y2 (s4 _ _ x3) y3 (U3.up s4))
theorem sorted_shaped {ks hs : List Str} {rs : List RuleD} {st : Str} {c : Int} (h : BookOk ks hs rs st) : SeqAt.shaped (planD (sortS ks) (sortS hs) (sortR rs) st c) = true := by
  unfold SeqAt.shaped
  rw [Bool.and_eq_true]
  constructor
  · unfold planD
    simp only [PyData.canLay0, PyData.canLayAll0, names_lay fun x hx => nameB_ok (h.names x ((sortS_perm ks).mem_iff.mp hx)), names_lay fun x hx => nameB_ok (h.names _ (h.hsub x ((sortS_perm hs).mem_iff.mp hx))), nameB_ok (h.names _ h.start), Bool.and_true, Bool.true_and]
    exact rules_lay fun r hr => by
      obtain ⟨h1, h2, h3, _⟩ := h.rgood r ((sortR_perm rs).mem_iff.mp hr)
      exact ⟨nameB_ok h1, nameB_ok (h.names _ h2), fun x hx => nameB_ok (h.names _ (h3 x hx))⟩
  · have := depth_plan (sortS ks) (sortS hs) (sortR rs) st c
    exact decide_eq_true (by omega)
/-! ### x == y by the own == of x, where the written part is named -/
theorem op_eqOwnK {X : Cx} {K : PySem.W.Frag} {CX : CXT} {n : Nat} {C f : Addr} {fd : FuncData} {ps : List Str} {sp : Sp} {E : XK} (F : FnOk X.prog X.w X.K X.mg X.base CX n f fd ps sp) (hr : Room n X.A)
    (hs : PySem.W.findIn X.K (.ref C) "__eq__" = some (some (.ref f))) (hf : PySem.W.isFn X.K (.ref f) = true) (hb : Binds X.K fd ps []) (hx : Passes CX X E) (hK : X.K = K := by rfl) : OpR X (compareOp .Eq) (rEqO K C sp E) := by
  subst hK
  exact op_eqOwn F hr hs hf hb hx
theorem sameB_refl {ks hs : List Str} {rs : List RuleD} {st : Str} {c : Int} (h : BookOk ks hs rs st) : sameB ks hs rs st c ks hs rs st c = true := by
  unfold sameB
  rw [(marks_eqv h.nodup h.nodup).mpr (List.Perm.refl _), (marks_eqv h.hnodup h.hnodup).mpr (List.Perm.refl _), (rules_eqv h.rnames h.rnames).mpr (List.Perm.refl _)]
  simp
theorem sameB_comm {ks hs ks2 hs2 : List Str} {rs rs2 : List RuleD} {st st2 : Str} {c c2 : Int} (h : BookOk ks hs rs st) (h2 : BookOk ks2 hs2 rs2 st2) : sameB ks hs rs st c ks2 hs2 rs2 st2 c2 = sameB ks2 hs2 rs2 st2 c2 ks hs rs st c := by
  rw [Bool.eq_iff_iff]
  unfold sameB
  simp only [Bool.and_eq_true, decide_eq_true_eq, marks_eqv h.nodup h2.nodup, marks_eqv h.hnodup h2.hnodup, rules_eqv h.rnames h2.rnames, marks_eqv h2.nodup h.nodup, marks_eqv h2.hnodup h.hnodup, rules_eqv h2.rnames h.rnames]
  constructor
  · rintro ⟨a, b, c, d, e⟩
    exact ⟨a.symm, b.symm, c.symm, d.symm, e.symm⟩
  · rintro ⟨a, b, c, d, e⟩
    exact ⟨a.symm, b.symm, c.symm, d.symm, e.symm⟩
/-- a plan whose rules are done thrice, with great changes -/
def big (r : RuleD) : RuleD := { r with out := (List.replicate 3 r.out).flatten, change := r.change * 10 ^ 30 }
theorem big_out {r : RuleD} {x : Str} (h : x ∈ (big r).out) : x ∈ r.out := by
  unfold big at h
  obtain ⟨l, hl, hx⟩ := List.mem_flatten.mp h
  rw [List.eq_of_mem_replicate hl] at hx
  exact hx
theorem PlanOk.n {ks hs : List Str} {rs : List RuleD} {st : Str} {c : Int} (h : PlanOk ks hs rs st c) : PlanN ks hs rs st c := by
  have b := h.book
  refine ⟨b, ⟨by have := h.few; omega, Nat.le_trans (nodup_len h.hnodup h.hsub) (by have := h.few; omega), by have := h.rules.few; omega⟩, fun r hr => ?_, fun r hr => ?_, ?_⟩
  · have := (h.rules.each r hr).2.2
    have e : (r.kind, r.out).2.length = r.out.length := rfl
    omega
  · have := h.small r hr
    exact Nat.lt_of_le_of_lt (show r.change.natAbs ≤ 1000 by omega) (by decide)
  · have := h.count
    exact Nat.lt_of_le_of_lt (show c.natAbs ≤ 1000 by omega) (by decide)
theorem PlanOk.big {ks hs : List Str} {rs : List RuleD} {st : Str} {c : Int} (h : PlanOk ks hs rs st c) : PlanN ks hs (rs.map Fh.big) st (c - 10 ^ 39) := by
  have n := h.n
  have b := n.book
  have ol : ∀ r : RuleD, (Fh.big r).out.length = 3 * r.out.length := fun r => by
    unfold Fh.big
    rw [List.length_flatten, List.map_replicate, List.sum_replicate_nat]
  refine ⟨⟨b.names, b.nodup, b.ne, b.few, b.hnodup, b.hsub, ?_, fun r hr => ?_, by rw [List.length_map]; exact b.rfew, b.start⟩, ⟨n.few.1, n.few.2.1, by rw [List.length_map]; exact n.few.2.2⟩, fun r hr => ?_, fun r hr => ?_, ?_⟩
  · rw [List.map_map]
    exact b.rnames
  · obtain ⟨q, hq, rfl⟩ := List.mem_map.mp hr
    obtain ⟨g1, g2, g3, g4⟩ := b.rgood q hq
    have := (h.rules.each q hq).2.2
    have e : (q.kind, q.out).2.length = q.out.length := rfl
    exact ⟨g1, g2, fun x hx => g3 x (big_out hx), by rw [ol]; omega⟩
  · obtain ⟨q, hq, rfl⟩ := List.mem_map.mp hr
    have := (h.rules.each q hq).2.2
    have e : (q.kind, q.out).2.length = q.out.length := rfl
    rw [ol]
    omega
  · obtain ⟨q, hq, rfl⟩ := List.mem_map.mp hr
    have := h.small q hq
    show (q.change * 10 ^ 30).natAbs < 10 ^ 60
    rw [Int.natAbs_mul]
    exact Nat.lt_of_le_of_lt (Nat.mul_le_mul (show q.change.natAbs ≤ 1000 by omega) (Nat.le_refl _)) (by decide +kernel)
  · have := h.count
    have e : (10 : Int) ^ 39 = 1000000000000000000000000000000000000000 := by decide +kernel
    have e2 : (10 : Nat) ^ 60 = 1000000000000000000000000000000000000000000000000000000000000 := by decide +kernel
    rw [e, e2]
    omega
theorem PlanOk.near {ks hs : List Str} {rs : List RuleD} {st : Str} {c : Int} (h : PlanOk ks hs rs st c) : NearIn ks hs rs st := by
  have n := h.n
  exact ⟨n.book, h.pool, h.rules.letters, by have := n.few; omega, fun r hr => Nat.le_trans (n.outs r hr) (by decide)⟩
theorem PlanOk.nearBig {ks hs : List Str} {rs : List RuleD} {st : Str} {c : Int} (h : PlanOk ks hs rs st c) : NearIn ks hs (rs.map Fh.big) st := by
  have n := h.big
  refine ⟨n.book, h.pool, fun r hr => ?_, by have := n.few; omega, fun r hr => Nat.le_trans (n.outs r hr) (by decide)⟩
  obtain ⟨q, hq, rfl⟩ := List.mem_map.mp hr
  exact h.rules.letters q hq
/-- a def that stands ready where no repr is under way -/
def RdyG (P : Program) (w : World) (K : PySem.W.Frag) (mg : Str → Option Value) (base : Heap) (CX : CXT) (k : Nat) (x : Str) (ps : List Str) (sp : Sp) : Prop := ∃ f fd, FnG P w K mg base CX k f fd ps sp ∧ mg x = some (.ref f) ∧ PySem.W.keepIn K (.ref f) = true ∧ Binds K fd ps []
theorem rep3 {K : PySem.W.Frag} {H : Hp} {l : Addr} {xs : List V} {Q : VK} (h : H l = some (.tup xs)) (hl : xs.length ≤ 1000) (q : ∀ p H', Same H H' → H' p = some (.tup (List.replicate 3 xs).flatten) → Q (.ref p) H') : rRepTA K (.ref l) (.int 3) H Q := by
  refine ⟨l, 3, xs, rfl, rfl, SqT.of h, by decide, by decide, hl, fun he => ?_, fun _ p hp => ?_⟩
  · refine q l H (Same.refl H) ?_
    rw [h, he]
    rfl
  · exact q p _ (same_upd hp) upd_same
theorem rep3v {K : PySem.W.Frag} {σ : Sto} {i : Nat} {H : Hp} {l : Addr} {xs : List V} {Q : VK} (e : σ[i]? = some (some (.ref l))) (h : H l = some (.tup xs)) (hl : xs.length ≤ 1000) (q : ∀ p H', Same H H' → H' p = some (.tup (List.replicate 3 xs).flatten) → Q (.ref p) H') : tOp (rRepTA K) (tVar i) (tC (.int 3)) σ H Q := ⟨_, e, rep3 h hl q⟩
theorem big_map (r : RuleD) : (List.replicate 3 (r.out.map V.str)).flatten = (big r).out.map V.str := by
  unfold big
  rw [List.map_flatten, List.map_replicate]
theorem BookAt.lst {C l : Addr} {H : Hp} {p : Addr} {ks hs : List Str} {rs : List RuleD} {st : Str} {c : Int} {xs : List V} {o : HO} (hl : H l = some (.lst xs)) (h : BookAt C H p ks hs rs st c) : BookAt C (upd H l o) p ks hs rs st c := by
  obtain ⟨dx, dk, dh, dr, kvs, us, hp, hk, hh, hr3, k1, k2, hU⟩ := h
  have ne : ∀ {b : Addr} {u : HO}, H b = some u → (∀ ys, u ≠ .lst ys) → upd H l o b = some u := fun {b u} e n => by
    rw [upd_ne (fun z => by rw [z, hl] at e; exact n _ (Option.some.inj e).symm)]
    exact e
  exact ⟨dx, dk, dh, dr, kvs, us, ne hp (fun _ z => by cases z), ne hk (fun _ z => by cases z), ne hh (fun _ z => by cases z), ne hr3 (fun _ z => by cases z), k1, k2, hU.ups (Tups.lst hl)⟩
def oddK : List PyData := [.str "q", .none, .int 0, .list [.str "a"], .tuple [.str "a"], .dict [], .str "", .str "zz"]
theorem oddK_ok : ∀ d ∈ oddK, DOkW (.list [d]) := by
  intro d hd
  simp only [oddK, List.mem_cons, List.mem_nil_iff, or_false] at hd
  rcases hd with rfl | rfl | rfl | rfl | rfl | rfl | rfl | rfl <;> exact ⟨by decide +kernel, by decide +kernel, by decide +kernel⟩
theorem oddK_not : ∀ d ∈ oddK, amongD letters16 d = false := by
  intro d hd
  simp only [oddK, List.mem_cons, List.mem_nil_iff, or_false] at hd
  rcases hd with rfl | rfl | rfl | rfl | rfl | rfl | rfl | rfl <;> decide +kernel
theorem dq_one {H : Hp} {p : Addr} {x : V} {d : PyData} (hY : Sys H) (h : H p = some (.lst [x])) (h1 : Dq H d x) : Dq H (.list [d]) (.ref p) := by
  simp only [Dq, DqAll]
  exact ⟨_, _, rfl, hY.lst h, h, _, _, rfl, h1, rfl⟩
end Fh
namespace Fh
open PySem PySem.Spec PySem.W PyProof.Rows L2 He
/-! ### data where some places are hidden -/
def hid (H : Hp) (ws : List Addr) : Hp := fun a => if a ∈ ws then none else H a
theorem hid_same {H : Hp} {ws : List Addr} : Same (hid H ws) H := fun a o e => by
  unfold hid at e
  split at e
  · cases e
  · exact e
theorem hid_up {H H' : Hp} {ws : List Addr} (s : Same H H') : Same (hid H ws) (hid H' ws) := fun a o e => by
  unfold hid at e ⊢
  split at e
  · cases e
  · rename_i h
    rw [if_neg h]
    exact s _ _ e
theorem hid_upd {H : Hp} {ws : List Addr} {p : Addr} {o : HO} (h : p ∈ ws) : hid (upd H p o) ws = hid H ws := by
  funext a
  unfold hid
  split
  · rfl
  · rename_i n
    exact upd_ne fun z => n (z ▸ h)
theorem hid_go {H H' : Hp} {ws : List Addr} {t : Addr} (g : Go t H H') (h : t ∈ ws) : Same (hid H ws) (hid H' ws) := fun a o e => by
  unfold hid at e ⊢
  split at e
  · cases e
  · rename_i n
    rw [if_neg n]
    exact g.keep _ _ (fun z => n (z ▸ h)) e
theorem hid_at {H : Hp} {ws : List Addr} {a : Addr} {o : HO} (n : a ∉ ws) (e : H a = some o) : hid H ws a = some o := by
  unfold hid
  rw [if_neg n]
  exact e
theorem hid_out {H : Hp} {ws : List Addr} {a : Addr} (e : ∀ w ∈ ws, H w ≠ none) (h : H a = none) : a ∉ ws := fun z => e a z h
/-- objects that data are made of -/
def IsDat : HO → Prop
  | .lst _ => True
  | .tup _ => True
  | .dK _ => True
  | .dT _ => True
  | _ => False
mutual
theorem Dq.mono {H H' : Hp} (e : ∀ a o, H a = some o → IsDat o → H' a = some o) : ∀ (d : PyData) (v : V), Dq H d v → Dq H' d v
  | .none, _, h => by simpa only [Dq] using h
  | .bool _, _, h => by simpa only [Dq] using h
  | .int _, _, h => by simpa only [Dq] using h
  | .str _, _, h => by simpa only [Dq] using h
  | .list ds, v, h => by
    simp only [Dq] at h ⊢
    obtain ⟨a, xs, rfl, n, q, r⟩ := h
    exact ⟨a, xs, rfl, n, e _ _ q trivial, DqAll.mono e ds xs r⟩
  | .tuple ds, v, h => by
    simp only [Dq] at h ⊢
    obtain ⟨a, xs, rfl, q, r⟩ := h
    exact ⟨a, xs, rfl, e _ _ q trivial, DqAll.mono e ds xs r⟩
  | .dict kvs, v, h => by
    simp only [Dq] at h ⊢
    obtain ⟨a, rfl, ⟨ps, q, r⟩ | ⟨ps, q, r⟩⟩ := h
    · exact ⟨a, rfl, .inl ⟨ps, e _ _ q trivial, DqK.mono e kvs ps r⟩⟩
    · exact ⟨a, rfl, .inr ⟨ps, e _ _ q trivial, DqT.mono e kvs ps r⟩⟩
theorem DqAll.mono {H H' : Hp} (e : ∀ a o, H a = some o → IsDat o → H' a = some o) : ∀ (ds : List PyData) (vs : List V), DqAll H ds vs → DqAll H' ds vs
  | [], _, h => by simpa only [DqAll] using h
  | d :: ds, _, h => by
    simp only [DqAll] at h ⊢
    obtain ⟨v, r, rfl, h1, h2⟩ := h
    exact ⟨v, r, rfl, Dq.mono e d v h1, DqAll.mono e ds r h2⟩
theorem DqK.mono {H H' : Hp} (e : ∀ a o, H a = some o → IsDat o → H' a = some o) : ∀ (ds : List (PyData × PyData)) (vs : List (Key × V)), DqK H ds vs → DqK H' ds vs
  | [], _, h => by simpa only [DqK] using h
  | (k, d) :: ds, _, h => by
    simp only [DqK] at h ⊢
    obtain ⟨key, v, q, rfl, h0, h1, h2⟩ := h
    exact ⟨key, v, q, rfl, h0, Dq.mono e d v h1, DqK.mono e ds q h2⟩
theorem DqT.mono {H H' : Hp} (e : ∀ a o, H a = some o → IsDat o → H' a = some o) : ∀ (ds : List (PyData × PyData)) (vs : List (List Key × V)), DqT H ds vs → DqT H' ds vs
  | [], _, h => by simpa only [DqT] using h
  | (k, d) :: ds, _, h => by
    simp only [DqT] at h ⊢
    obtain ⟨key, v, q, rfl, h0, h1, h2⟩ := h
    exact ⟨key, v, q, rfl, h0, Dq.mono e d v h1, DqT.mono e ds q h2⟩
end
theorem Dq.but {H H' : Hp} {p C dx : Addr} {fs : List (Str × V)} (hp : H p = some (.ins C dx fs)) (s : But p H H') {d : PyData} {v : V} (h : Dq H d v) : Dq H' d v :=
  Dq.mono (fun a o e i => s a o (fun z => by rw [z, hp] at e; cases e; exact i.elim) e) _ _ h
theorem DqAll.cons {H : Hp} {d : PyData} {ds : List PyData} {v : V} {xs : List V} (h : Dq H d v) (g : DqAll H ds xs) : DqAll H (d :: ds) (v :: xs) := by
  simp only [DqAll]
  exact ⟨v, xs, rfl, h, g⟩
theorem DqAll.nil {H : Hp} : DqAll H [] [] := by simp only [DqAll]
theorem DqAll.take {H : Hp} : ∀ {ds : List PyData} {xs : List V} (n : Nat), DqAll H ds xs → DqAll H (ds.take n) (xs.take n)
  | ds, xs, 0, h => by simp only [List.take_zero, DqAll]
  | [], xs, n + 1, h => by
    have e : xs = [] := by simpa only [DqAll] using h
    rw [e]
    simp only [List.take_nil, DqAll]
  | d :: ds, xs, n + 1, h => by
    simp only [DqAll] at h
    obtain ⟨v, r, rfl, h1, h2⟩ := h
    exact .cons h1 (DqAll.take n h2)
theorem DqAll.drop {H : Hp} : ∀ {ds : List PyData} {xs : List V} (n : Nat), DqAll H ds xs → DqAll H (ds.drop n) (xs.drop n)
  | ds, xs, 0, h => h
  | [], xs, n + 1, h => by
    have e : xs = [] := by simpa only [DqAll] using h
    rw [e]
    simp only [List.drop_nil, DqAll]
  | d :: ds, xs, n + 1, h => by
    simp only [DqAll] at h
    obtain ⟨v, r, rfl, h1, h2⟩ := h
    exact DqAll.drop n h2
theorem DqAll.at_ {H : Hp} : ∀ {ds : List PyData} {xs : List V} {i : Nat} {d : PyData}, DqAll H ds xs → ds[i]? = some d → ∃ v, xs[i]? = some v ∧ Dq H d v
  | [], xs, i, d, h, e => by cases e
  | d0 :: ds, xs, i, d, h, e => by
    simp only [DqAll] at h
    obtain ⟨u, r, rfl, h1, h2⟩ := h
    cases i with
    | zero =>
      cases e
      exact ⟨u, rfl, h1⟩
    | succ i => exact DqAll.at_ (i := i) h2 e
/-! ### filters of data -/
section
variable {K : PySem.W.Frag} {a : Addr} {xs : List V} {ds : List PyData} {i : Nat} {tt : TT} {σ : Sto} {H1 : Hp} {D : Addr} {Qd : Hp → Prop}
theorem lc_filtD (f : PyData → Bool) (hq : DqAll H1 ds xs) (hi : i < σ.length) (hz : xs.length ≤ 100000) (hS : SqL K H1 a xs) (hD : H1 D = none)
    (ht : ∀ x d H (Q : Bool → Hp → Prop), d ∈ ds → Dq H d x → Same H1 H → (∀ H', Same H H' → Q (f d) H') → tt ((wipe σ [i]).set i (some x)) H Q)
    (hd : ∀ H ys, Same H1 H → H D = some (.lst ys) → DqAll H (ds.filter f) ys → Qd H) :
    ∃ W : Nat → Nat → Hp → Prop, (∃ m, W 0 m (upd H1 D (.lst []))) ∧ ∀ j m H, W j m H → ((Itl K a).stop j H ∧ Qd H) ∨ ((Itl K a).go j H ∧ ∃ Nx : Hp → Prop, (∀ H', Nx H' → ∃ m', m' < m ∧ W (j + 1) m' H') ∧ ∀ x H', (Itl K a).yld j H x H' →
      gName i x (wipe σ [i]) H' fun σ2 H2 => wipe σ2 [i] = wipe σ [i] ∧ tt σ2 H2 fun b H3 => if b = true then tVar i σ2 H3 fun y H4 => ∃ acc, H4 D = some (.lst acc) ∧ acc.length < sizeLine ∧ Nx (upd H4 D (.lst (acc ++ [y]))) else Nx H3) := by
  refine lc_list (K := K) (a := a) (xs := xs) (fun j H => Same H1 H ∧ ∃ ys, H D = some (.lst ys) ∧ ys.length ≤ j ∧ DqAll H1 ((ds.take j).filter f) ys) ⟨same_upd hD, [], upd_same, Nat.le_refl _, .nil⟩ (fun _ H _ h => h.1.seq hS) ?_ ?_
  · rintro j x H hx ⟨s, ys, hDl, hyl, hys⟩
    have hj : j < xs.length := (List.getElem?_eq_some_iff.mp hx).1
    obtain ⟨d, e, q⟩ := hq.get hx
    refine ⟨wipe_one σ i _, ht x d H _ (List.mem_of_getElem? e) (Dq.up s _ _ q) s fun H' s' => ?_⟩
    have e2 : (ds.take (j + 1)).filter f = (ds.take j).filter f ++ [d].filter f := by rw [List.take_add_one, e, List.filter_append]; rfl
    cases hp : f d with
    | true =>
      refine ⟨x, ?_, ys, s' _ _ hDl, by rw [sizeLine_eq]; omega, same_updX (s.trans s') hD, _, upd_same, by rw [List.length_append]; exact Nat.add_le_add_right hyl 1, ?_⟩
      · rw [List.getElem?_set_self]
        rw [show (wipe σ [i]).length = σ.length by
          show (σ.set i none).length = σ.length
          rw [List.length_set]]
        exact hi
      · rw [e2, List.filter_cons, hp]
        exact hys.app (.cons q .nil)
    | false =>
      refine ⟨s.trans s', ys, s' _ _ hDl, Nat.le_succ_of_le hyl, ?_⟩
      rw [e2, List.filter_cons, hp]
      simpa using hys
  · rintro H ⟨s, ys, hDl, _, hys⟩
    refine hd H ys s hDl ?_
    rw [hq.len, List.take_length] at hys
    exact DqAll.up s _ _ hys
theorem lt_filtD (f : PyData → Bool) (hq : DqAll H1 ds xs) (hi : i < σ.length) (hz : xs.length ≤ 100000) (hS : SqT K H1 a xs) (hD : H1 D = none)
    (ht : ∀ x d H (Q : Bool → Hp → Prop), d ∈ ds → Dq H d x → Same H1 H → (∀ H', Same H H' → Q (f d) H') → tt ((wipe σ [i]).set i (some x)) H Q)
    (hd : ∀ H ys, Same H1 H → H D = some (.lst ys) → DqAll H (ds.filter f) ys → Qd H) : LtGoal K a i tt (tVar i) σ H1 D Qd := by
  refine lc_tup (K := K) (a := a) (xs := xs) (fun j H => Same H1 H ∧ ∃ ys, H D = some (.lst ys) ∧ ys.length ≤ j ∧ DqAll H1 ((ds.take j).filter f) ys) ⟨same_upd hD, [], upd_same, Nat.le_refl _, .nil⟩ (fun _ H _ h => sqT_up h.1 hS) ?_ ?_
  · rintro j x H hx ⟨s, ys, hDl, hyl, hys⟩
    have hj : j < xs.length := (List.getElem?_eq_some_iff.mp hx).1
    obtain ⟨d, e, q⟩ := hq.get hx
    refine ⟨wipe_one σ i _, ht x d H _ (List.mem_of_getElem? e) (Dq.up s _ _ q) s fun H' s' => ?_⟩
    have e2 : (ds.take (j + 1)).filter f = (ds.take j).filter f ++ [d].filter f := by rw [List.take_add_one, e, List.filter_append]; rfl
    cases hp : f d with
    | true =>
      refine ⟨x, ?_, ys, s' _ _ hDl, by rw [sizeLine_eq]; omega, same_updX (s.trans s') hD, _, upd_same, by rw [List.length_append]; exact Nat.add_le_add_right hyl 1, ?_⟩
      · rw [List.getElem?_set_self]
        rw [show (wipe σ [i]).length = σ.length by
          show (σ.set i none).length = σ.length
          rw [List.length_set]]
        exact hi
      · rw [e2, List.filter_cons, hp]
        exact hys.app (.cons q .nil)
    | false =>
      refine ⟨s.trans s', ys, s' _ _ hDl, Nat.le_succ_of_le hyl, ?_⟩
      rw [e2, List.filter_cons, hp]
      simpa using hys
  · rintro H ⟨s, ys, hDl, _, hys⟩
    refine hd H ys s hDl ?_
    rw [hq.len, List.take_length] at hys
    exact DqAll.up s _ _ hys
end
/-! ### what a book refuses -/
def badIx (ns : List Str) (n : Nat) : List PyData → Option Nat
  | [] => none
  | e :: r => if ruleD ns e = true then badIx ns (n + 1) r else some n
def dupD (seen : List Str) : List Str → Option Str
  | [] => none
  | x :: r => if seen.contains x = true then some x else dupD (seen ++ [x]) r
abbrev DueV := Option (Str × Str × PyData)
def dueRules (ns : List Str) (d : PyData) : DueV := match itemsD d with
  | none => some ("BadRules", "value", d)
  | some ds => match badIx ns 0 ds with
    | some i => some ("BadRule", "number", .int (i : Int))
    | none => match dupD [] (ds.map nameOf) with
      | some x => some ("NamedTwice", "name", .str x)
      | none => none
def kindsOf (d : PyData) : List Str := match itemsD d with
  | some ds => strsOf ds
  | none => []
def dueBook (dk dh dr ds dc : PyData) : DueV :=
  if kindsD dk = false then some ("BadKinds", "value", dk)
  else if handlesD (kindsOf dk) dh = false then some ("BadHandles", "value", dh)
  else match dueRules (kindsOf dk) dr with
    | some z => some z
    | none => if amongD (kindsOf dk) ds = false then some ("BadStart", "value", ds) else if integerD dc = false then some ("BadCount", "value", dc) else none
theorem badIx_step {ns : List Str} {n i : Nat} {ds : List PyData} {e : PyData} (he : ds[i]? = some e) : badIx ns n (ds.drop i) = if ruleD ns e = true then badIx ns (n + 1) (ds.drop (i + 1)) else some n := by
  obtain ⟨h, rfl⟩ := List.getElem?_eq_some_iff.mp he
  rw [List.drop_eq_getElem_cons h]
  rfl
theorem badIx_none {ns : List Str} : ∀ {n : Nat} {ds : List PyData}, badIx ns n ds = none → ∀ e ∈ ds, ruleD ns e = true
  | _, [], _, e, he => by cases he
  | n, d :: ds, h, e, he => by
    have h : (if ruleD ns d = true then badIx ns (n + 1) ds else some n) = none := h
    split at h
    · rename_i hd
      rcases List.mem_cons.mp he with rfl | he
      · exact hd
      · exact badIx_none h e he
    · cases h
theorem dupD_step {i : Nat} {xs : List Str} {x : Str} (he : xs[i]? = some x) : dupD (xs.take i) (xs.drop i) = if (xs.take i).contains x = true then some x else dupD (xs.take (i + 1)) (xs.drop (i + 1)) := by
  obtain ⟨h, rfl⟩ := List.getElem?_eq_some_iff.mp he
  rw [List.drop_eq_getElem_cons h, List.take_add_one, he]
  rfl
theorem dupD_none : ∀ {xs seen : List Str}, dupD seen xs = none → seen.Nodup → (seen ++ xs).Nodup
  | [], seen, _, hn => by rw [List.append_nil]; exact hn
  | x :: r, seen, h, hn => by
    have h : (if seen.contains x = true then some x else dupD (seen ++ [x]) r) = none := h
    split at h
    · cases h
    · rename_i hc
      have hc : x ∉ seen := fun z => hc (List.contains_iff_mem.mpr z)
      have := dupD_none h (List.nodup_append.mpr ⟨hn, by simp, fun a ha b hb e => by
        rw [List.mem_singleton] at hb
        exact hc (hb ▸ e ▸ ha)⟩)
      rwa [List.append_assoc] at this
theorem badIx_lt {ns : List Str} : ∀ {n : Nat} {ds : List PyData} {i : Nat}, badIx ns n ds = some i → i < n + ds.length
  | _, [], _, h => by cases h
  | n, d :: ds, i, h => by
    have h : (if ruleD ns d = true then badIx ns (n + 1) ds else some n) = some i := h
    rw [List.length_cons]
    split at h
    · have := badIx_lt h
      omega
    · cases h
      omega
section
variable {ns : List Str} {d : PyData} {ds : List PyData}
theorem due_no (h : itemsD d = none) : dueRules ns d = some (("BadRules" : Str), ("value" : Str), d) := by unfold dueRules; rw [h]
theorem due_bad {i : Nat} (h : itemsD d = some ds) (b : badIx ns 0 ds = some i) : dueRules ns d = some (("BadRule" : Str), ("number" : Str), PyData.int (i : Int)) := by unfold dueRules; rw [h]; dsimp only; rw [b]
theorem due_dup {x : Str} (h : itemsD d = some ds) (b : badIx ns 0 ds = none) (u : dupD [] (ds.map nameOf) = some x) : dueRules ns d = some (("NamedTwice" : Str), ("name" : Str), PyData.str x) := by unfold dueRules; rw [h]; dsimp only; rw [b]; dsimp only; rw [u]
theorem due_ok (h : itemsD d = some ds) (b : badIx ns 0 ds = none) (u : dupD [] (ds.map nameOf) = none) : dueRules ns d = none := by unfold dueRules; rw [h]; dsimp only; rw [b]; dsimp only; rw [u]
end
/-- raised: an own exception with one field -/
def RaisesD (K : PySem.W.Frag) (N : Hp → Prop) (H : Hp) (E : XK) (u : DueV) : Prop := ∀ cls f e, u = some (cls, f, e) → ∀ y dx H2, N H2 → H dx = none → H2 dx = some (exd dx [(f, y)]) → Dq H2 e y → E (.ref (ga K cls)) (some dx) H2
def RulesLe (d : PyData) : Prop := ∀ ds, itemsD d = some ds → ds.length ≤ 1000 ∧ ∀ e ∈ ds, RuleLe e
def spGoodR (K : PySem.W.Frag) : Sp := fun vs H Q E => ∃ v u d ns, vs = [v, u] ∧ Dq H d v ∧ NamesAt K H u ns ∧ RulesLe d ∧ RaisesD K (Same H) H E (dueRules ns d) ∧
  (dueRules ns d = none → ∀ p kvs H', Same H H' → H p = none → H' p = some (.dK kvs) → Q (.ref p) H')
def spBookR (K : PySem.W.Frag) (C : Addr) : Sp := fun vs H Q E => ∃ p dx vk vh vr vs' vc dk dh dr ds dc, vs = [.ref p, vk, vh, vr, vs', vc] ∧ H p = some (.ins C dx []) ∧ Dq H dk vk ∧ Dq H dh vh ∧ Dq H dr vr ∧ Dq H ds vs' ∧ Dq H dc vc ∧
  SeqLe dk ∧ SeqLe dh ∧ RulesLe dr ∧ RaisesD K (But p H) H E (dueBook dk dh dr ds dc) ∧ (dueBook dk dh dr ds dc = none → ∀ H', But p H H' → Q .non H')
end Fh
namespace Fh
open PySem PySem.Spec PySem.W PyProof.Rows L2 He
theorem metS_full : ∀ {xs ms : List Str}, (xs.foldl metStep ms).length = ms.length + xs.length → ms.Nodup → (ms ++ xs).Nodup
  | [], ms, _, hn => by rw [List.append_nil]; exact hn
  | x :: r, ms, h, hn => by
    rw [List.foldl_cons, List.length_cons] at h
    have h1 := metS_le r (metStep ms x)
    have h2 := metStep_len ms x
    cases hx : ms.any (· == x) with
    | true =>
      rw [hx] at h2
      simp only [if_true] at h2
      omega
    | false =>
      have e : metStep ms x = ms ++ [x] := by
        unfold metStep
        rw [hx]
        rfl
      rw [e] at h
      have hx2 : x ∉ ms := fun z => by
        have : ms.any (· == x) = true := List.any_eq_true.mpr ⟨x, z, by simp⟩
        rw [hx] at this
        cases this
      have := metS_full (ms := ms ++ [x]) (xs := r) (by rw [h, List.length_append, List.length_singleton]; omega) (List.nodup_append.mpr ⟨hn, by simp, fun a ha b hb e => by
        rw [List.mem_singleton] at hb
        exact hx2 (hb ▸ e ▸ ha)⟩)
      rwa [List.append_assoc] at this
theorem strs_len : ∀ {ds : List PyData}, allStr ds = true → (strsOf ds).length = ds.length
  | [], _ => rfl
  | d :: ds, hs => by
    unfold allStr at hs
    rw [List.all_cons, Bool.and_eq_true] at hs
    cases d with
    | str x =>
      show ((strsOf ds).length + 1) = ds.length + 1
      rw [strs_len (by unfold allStr; exact hs.2)]
    | _ => cases hs.1
theorem unlikeD_nodup {ds : List PyData} (hs : allStr ds = true) (h : unlikeD ds = true) : (strsOf ds).Nodup := by
  unfold unlikeD at h
  have h := of_decide_eq_true h
  have hl : (strsOf ds).length = ds.length := strs_len hs
  have := metS_full (xs := strsOf ds) (ms := []) (by
    show (metS (strsOf ds)).length = _
    simp only [List.length_nil]
    omega) List.nodup_nil
  simpa using this
theorem nodupD_unlike {ds : List PyData} (hs : allStr ds = true) (h : (strsOf ds).Nodup) : unlikeD ds = true := by
  unfold unlikeD
  have hl : (strsOf ds).length = ds.length := strs_len hs
  have e : metS (strsOf ds) = strsOf ds := by
    unfold metS
    rw [metS_nodup (by simpa using h)]
    rfl
  rw [e, hl]
  exact decide_eq_true rfl
theorem kinds_true {d : PyData} (h : kindsD d = true) : ∃ ds, itemsD d = some ds ∧ ds ≠ [] ∧ ds.all nameD = true ∧ allStr ds = true ∧ (strsOf ds).Nodup ∧ kindsOf d = strsOf ds := by
  unfold kindsD at h
  cases hi : itemsD d with
  | none => rw [hi] at h; cases h
  | some ds =>
    rw [hi] at h
    have h : (!ds.isEmpty && (ds.all nameD && unlikeD ds)) = true := h
    rw [Bool.and_eq_true, Bool.and_eq_true] at h
    refine ⟨ds, rfl, fun z => ?_, h.2.1, names_str h.2.1, unlikeD_nodup (names_str h.2.1) h.2.2, ?_⟩
    · rw [z] at h
      cases h.1
    · unfold kindsOf
      rw [hi]
theorem handles_true {ns : List Str} {d : PyData} (h : handlesD ns d = true) : ∃ ds, itemsD d = some ds ∧ ds.all (amongD ns) = true ∧ allStr ds = true ∧ (strsOf ds).Nodup := by
  unfold handlesD at h
  cases hi : itemsD d with
  | none => rw [hi] at h; cases h
  | some ds =>
    rw [hi] at h
    have h : (ds.all (amongD ns) && unlikeD ds) = true := h
    rw [Bool.and_eq_true] at h
    exact ⟨ds, rfl, h.1, among_str h.1, unlikeD_nodup (among_str h.1) h.2⟩
/-- a list or a tuple of unlike names, at its place -/
theorem strs_seq {K : PySem.W.Frag} {H : Hp} {d : PyData} {ds : List PyData} {v : V} (h : Dq H d v) (e : itemsD d = some ds) (hs : allStr ds = true) : ∃ a, v = .ref a ∧ (SqL K H a ((strsOf ds).map V.str) ∨ SqT K H a ((strsOf ds).map V.str)) ∧ (strsOf ds).length = ds.length := by
  obtain ⟨a, xs, rfl, hq, hS⟩ := seq_at (K := K) h e
  obtain ⟨ex, el⟩ := strs_all hq hs
  refine ⟨a, rfl, ?_, el⟩
  rw [← ex]
  exact hS.imp (·.1) (·.1)
theorem dueBook_kinds {dk dh dr ds dc : PyData} (h : kindsD dk = false) : dueBook dk dh dr ds dc = some (("BadKinds" : Str), ("value" : Str), dk) := by
  unfold dueBook
  rw [if_pos h]
theorem dueBook_handles {dk dh dr ds dc : PyData} (h : kindsD dk = true) (h2 : handlesD (kindsOf dk) dh = false) : dueBook dk dh dr ds dc = some (("BadHandles" : Str), ("value" : Str), dh) := by
  unfold dueBook
  rw [if_neg (by rw [h]; decide), if_pos h2]
theorem dueBook_rules {dk dh dr ds dc : PyData} {z : Str × Str × PyData} (h : kindsD dk = true) (h2 : handlesD (kindsOf dk) dh = true) (h3 : dueRules (kindsOf dk) dr = some z) : dueBook dk dh dr ds dc = some z := by
  unfold dueBook
  rw [if_neg (by rw [h]; decide), if_neg (by rw [h2]; decide), h3]
theorem dueBook_start {dk dh dr ds dc : PyData} (h : kindsD dk = true) (h2 : handlesD (kindsOf dk) dh = true) (h3 : dueRules (kindsOf dk) dr = none) (h4 : amongD (kindsOf dk) ds = false) : dueBook dk dh dr ds dc = some (("BadStart" : Str), ("value" : Str), ds) := by
  unfold dueBook
  rw [if_neg (by rw [h]; decide), if_neg (by rw [h2]; decide), h3]
  dsimp only
  rw [if_pos h4]
theorem dueBook_count {dk dh dr ds dc : PyData} (h : kindsD dk = true) (h2 : handlesD (kindsOf dk) dh = true) (h3 : dueRules (kindsOf dk) dr = none) (h4 : amongD (kindsOf dk) ds = true) (h5 : integerD dc = false) : dueBook dk dh dr ds dc = some (("BadCount" : Str), ("value" : Str), dc) := by
  unfold dueBook
  rw [if_neg (by rw [h]; decide), if_neg (by rw [h2]; decide), h3]
  dsimp only
  rw [if_neg (by rw [h4]; decide), if_pos h5]
theorem dueBook_none {dk dh dr ds dc : PyData} (h : kindsD dk = true) (h2 : handlesD (kindsOf dk) dh = true) (h3 : dueRules (kindsOf dk) dr = none) (h4 : amongD (kindsOf dk) ds = true) (h5 : integerD dc = true) : dueBook dk dh dr ds dc = none := by
  unfold dueBook
  rw [if_neg (by rw [h]; decide), if_neg (by rw [h2]; decide), h3]
  dsimp only
  rw [if_neg (by rw [h4]; decide), if_neg (by rw [h5]; decide)]
end Fh
namespace Fh
open PySem PySem.Spec PySem.W PyProof.Rows L2 He
/-- whether a datum is a list or a tuple of unlike names -/
def unlikesD (d : PyData) : Bool := match itemsD d with
  | some ds => ds.all nameD && unlikeD ds
  | none => false
def spUnlike (K : PySem.W.Frag) : Sp := fun vs H Q _ => ∃ a, ∃ xs : List Str, vs = [.ref a] ∧ SqL K H a (xs.map V.str) ∧ xs.length ≤ 1000 ∧ ∀ p H', Same H H' → H p = none → H' p = some (.lst ((metS xs).map V.str)) → Q (.ref p) H'
def spAreUnlike : Sp := fun vs H Q _ => ∃ v d, vs = [v] ∧ Dq H d v ∧ SeqLe d ∧ ∀ H', Same H H' → Q (.bl (unlikesD d)) H'
theorem metStep_eq (ms : List Str) (x : Str) : metStep ms x = if ms.contains x = true then ms else ms ++ [x] := by
  unfold metStep
  have e : ms.any (· == x) = ms.contains x := by
    rw [Bool.eq_iff_iff, List.any_eq_true, List.contains_iff_mem]
    exact ⟨fun ⟨y, hy, e⟩ => (beq_iff_eq.mp e) ▸ hy, fun h => ⟨x, h, beq_self_eq_true x⟩⟩
  rw [e]
theorem metS_take {xs : List Str} {i : Nat} {x : Str} (h : xs[i]? = some x) : metS (xs.take (i + 1)) = metStep (metS (xs.take i)) x := by
  rw [List.take_add_one, h]
  exact metS_snoc _ _
/-- names in a list -/
def spLRule (K : PySem.W.Frag) : Sp := fun vs H Q _ => ∃ a v d ns, vs = [.ref a, v] ∧ SqL K H a (ns.map V.str) ∧ Dq H d v ∧ RuleLe d ∧ ∀ H', Same H H' → Q (.bl (ruleD ns d)) H'
def isSeqD (d : PyData) : Bool := (itemsD d).isSome
theorem kindsD_eq (d : PyData) : kindsD d = (unlikesD d && match itemsD d with | some ds => !ds.isEmpty | none => false) := by
  unfold kindsD unlikesD
  cases itemsD d with
  | none => rfl
  | some ds =>
    show (!ds.isEmpty && (ds.all nameD && unlikeD ds)) = ((ds.all nameD && unlikeD ds) && !ds.isEmpty)
    rw [Bool.and_comm]
theorem among_name {ns : List Str} (hn : ∀ x ∈ ns, nameB x = true) {d : PyData} (h : amongD ns d = true) : nameD d = true := by
  cases d with
  | str x => exact hn x (List.contains_iff_mem.mp h)
  | _ => cases h
theorem handlesD_eq {ns : List Str} (hn : ∀ x ∈ ns, nameB x = true) (d : PyData) : handlesD ns d = (unlikesD d && match itemsD d with | some ds => ds.all (amongD ns) | none => false) := by
  unfold handlesD unlikesD
  cases itemsD d with
  | none => rfl
  | some ds =>
    show (ds.all (amongD ns) && unlikeD ds) = ((ds.all nameD && unlikeD ds) && ds.all (amongD ns))
    cases h : ds.all (amongD ns) with
    | false => simp
    | true =>
      have : ds.all nameD = true := by
        rw [List.all_eq_true] at h ⊢
        exact fun e he => among_name hn (h e he)
      rw [this]
      simp
theorem kindsOf_names {d : PyData} (h : kindsD d = true) : ∀ x ∈ kindsOf d, nameB x = true := by
  obtain ⟨ds, hi, _, ha, _, _, ek⟩ := kinds_true h
  rw [ek]
  intro x hx
  obtain ⟨e, he, q⟩ := List.mem_filterMap.mp hx
  have := List.all_eq_true.mp ha e he
  cases e with
  | str y =>
    cases q
    exact this
  | _ => cases q
theorem filter_none {ds : List PyData} {f : PyData → Bool} {xs : List V} {H : Hp} (h : DqAll H (ds.filter f) xs) : xs.isEmpty = ds.all fun d => !f d := by
  have hl := h.len
  rw [Bool.eq_iff_iff, List.isEmpty_iff_length_eq_zero, hl, ← List.isEmpty_iff_length_eq_zero, List.isEmpty_iff, List.filter_eq_nil_iff, List.all_eq_true]
  exact ⟨fun h e he => by simpa using h e he, fun h e he => by simpa using h e he⟩
theorem catT_any {K : PySem.W.Frag} {H : Hp} {a b : Addr} {xs ys : List V} {Q : VK} (ha : H a = some (.tup xs)) (hb : H b = some (.tup ys)) (hn : xs ≠ []) (hl : xs.length + ys.length ≤ sizeLine)
    (q : ∀ p H', Same H H' → H' p = some (.tup (xs ++ ys)) → Q (.ref p) H') : rCatT K (.ref a) (.ref b) H Q :=
  ⟨a, b, xs, ys, rfl, rfl, SqT.of ha, SqT.of hb, hn, hl, fun z => q a H (Same.refl H) (by rw [z, List.append_nil]; exact ha), fun _ p hp => q p _ (same_upd hp) upd_same⟩
end Fh
namespace Dw
open PySem PySem.Spec PyProof.Rows L2 He Fh
abbrev sLWord : Stmt := top 32
abbrev sLNum : Stmt := top 30
abbrev sLUnl : Stmt := top 26
abbrev sLAreU : Stmt := top 33
abbrev sLRule : Stmt := top 34
section
variable {P : Program} {w : World} {K : PySem.W.Frag} {mg : Str → Option Value} {base : Heap}
theorem scLWord : FnScope ["thing", "sign"] ["thing"] (defScope sLWord) := ⟨rfl, rfl, rfl, by decide +kernel, rfl, by decide +kernel, by decide +kernel⟩
theorem ok_lword {f : Addr} {fd : FuncData} (F : FnP K "_law_is_word" sLWord f fd) (g_isinstance : mg "isinstance" = none) (g_str : mg "str" = none) (g_len : mg "len" = none) (g_list : mg "list" = none) :
    FnOk P w K mg base CX0 1 f fd ["thing"] spIsName := by
  refine F.ok scLWord (fun vs H Q E h => ?_) (fun cdv A outer s H vs Q E hr h => ?_)
  · obtain ⟨v, d, rfl, _⟩ := h
    rfl
  · obtain ⟨v, d, rfl, hd, hle, hQ⟩ := h
    have hu64 := hr.units
    refine ⟨_, PSs.nox (pss_one (ps_ret (pe_and (pe_callB call_isi (by rfl) g_isinstance (by decide +kernel) (pa_cons (pv 0) (pa_cons (pe_bltn (v := .ty "str") (by rfl) g_str (by decide +kernel) rfl) pa_nil))) (pe_and (pe_chain op_le op_le pe_int (pe_callB call_len_str (by rfl) g_len (by decide +kernel) (pa_cons (pv 0) pa_nil)) pe_int) (pe_one (pe_cmpR (op_eqE hu64) (pe_lc (own := [("sign", 1)]) (g := (gName 1)) (by rfl) scLWord.nd (pi_list (pe_callTy (call_list_str rfl) (by rfl) g_list (by decide +kernel) (pa_cons (pv 0) pa_nil))) (blkOk_by (own := [("sign", 1)]) (N := ["thing", "sign"]) (sc := defScope sLWord) (by decide +kernel)) (fun _ _ _ _ _ => pg_name (i := 1) scLWord.nd rfl (by first | exact Or.inl rfl | exact Or.inr rfl)) (fun _ _ _ _ _ => pts_one (pt_not (pt_chain op_le_str op_le_str pe_str (pv 1) pe_str))) (fun _ _ _ _ _ => (pv 1))) (pe_lst pa_nil) (nomark _))))))), ?_⟩
    cases d with
    | str x =>
      simp only [Dq] at hd
      subst hd
      have hx := hle x rfl
      refine ⟨_, rfl, _, _, _, _, true, rfl, .ty "str", .base (.str x), kit_ty (by decide +kernel), _, rfl, ?_⟩
      refine ⟨_, rfl, x, rfl, (by rw [sizeLine_eq]; omega), _, _, rfl, rfl, _, rfl, ?_⟩
      refine ite2 (fun h1 => ?_) (fun h1 => ?_)
      · have h1 := of_decide_eq_true h1
        refine ⟨_, _, rfl, rfl, _, rfl, ?_⟩
        by_cases h8 : (x.length : Int) ≤ 8
        · rw [decide_eq_true h8]
          refine ⟨_, rfl, x, rfl, (by rw [sizeLine_eq]; show x.length ≤ _; omega), fun l hl => ?_⟩
          have s1 := same_upd (o := .lst ((Fh.signs x).map V.str)) hl
          have e1 : upd H l (.lst ((Fh.signs x).map V.str)) l = some (.lst ((Fh.signs x).map V.str)) := upd_same
          generalize upd H l (.lst ((Fh.signs x).map V.str)) = H1' at s1 e1
          refine ⟨l, rfl, ⟨_, SqL.of e1⟩, fun D2 hD2 => ?_⟩
          have sl : (Fh.signs x).length = x.length := by unfold Fh.signs; rw [List.length_map]; exact Array.length_toList
          refine lc_filt notAz (by show 1 < 2; decide) (by rw [List.length_map, sl]; omega) (SqL.of e1) hD2 (fun y H2 Q2 hy s2 hq => ?_) (fun H2 s2 e2 => ?_)
          · obtain ⟨z, _, rfl⟩ := List.mem_map.mp hy
            refine ⟨_, rfl, _, _, rfl, rfl, _, rfl, ?_⟩
            have eN : notAz (.str z) = !azB z := rfl
            rw [eN] at hq
            unfold azB at hq
            show if (!decide (z.cps.toList < [97])) = true then _ else _
            cases hA : decide (z.cps.toList < [97]) with
            | true =>
              rw [hA] at hq
              exact ⟨_, rfl, hq⟩
            | false =>
              rw [hA] at hq
              exact ⟨_, _, rfl, rfl, _, rfl, hq⟩
          · refine ⟨Nat.zero_le _, fun l3 hl3 => ?_⟩
            have s3 := same_upd (o := .lst []) hl3
            refine ⟨D2, l3, _, rfl, rfl, SqL.of (s3 _ _ e2), SqL.of upd_same, ?_⟩
            have e : nameD (.str x) = (((Fh.signs x).map V.str).filter notAz).isEmpty := name_due (by omega) (by omega)
            rw [← e]
            exact hQ _ (s1.trans (s2.trans s3))
        · rw [decide_eq_false h8]
          have e : nameD (.str x) = false := name_short (by omega)
          rw [e] at hQ
          exact hQ H (Same.refl H)
      · have h1 : ¬ (1 : Int) ≤ x.length := fun z => h1 (decide_eq_true z)
        have e : nameD (.str x) = false := name_short (by omega)
        rw [e] at hQ
        exact ⟨_, rfl, hQ H (Same.refl H)⟩
    | _ => exact ⟨_, rfl, _, _, _, _, false, rfl, .ty "str", hd.ty, kit_ty (by simp only [tagD]; decide +kernel), _, rfl, hQ H (Same.refl H)⟩
theorem scLNum : FnScope ["thing"] ["thing"] (defScope sLNum) := ⟨rfl, rfl, rfl, by decide +kernel, rfl, by decide +kernel, by decide +kernel⟩
theorem ok_lnum {f : Addr} {fd : FuncData} (F : FnP K "_law_is_number" sLNum f fd) (g_isinstance : mg "isinstance" = none) (g_int : mg "int" = none) (g_bool : mg "bool" = none) :
    FnOk P w K mg base CX0 1 f fd ["thing"] spIsInt := by
  refine F.ok scLNum (fun vs H Q E h => ?_) (fun cdv A outer s H vs Q E hr h => ?_)
  · obtain ⟨v, d, rfl, _⟩ := h
    rfl
  · obtain ⟨v, d, rfl, hd, hQ⟩ := h
    refine ⟨_, PSs.nox (pss_one (ps_ret (pe_and (pe_callB call_isi (by rfl) g_isinstance (by decide +kernel) (pa_cons (pv 0) (pa_cons (pe_bltn (v := .ty "int") (by rfl) g_int (by decide +kernel) rfl) pa_nil))) (pe_one (pe_not (pe_callB call_isi (by rfl) g_isinstance (by decide +kernel) (pa_cons (pv 0) (pa_cons (pe_bltn (v := .ty "bool") (by rfl) g_bool (by decide +kernel) rfl) pa_nil)))))))), ?_⟩
    cases d with
    | int i => exact ⟨_, rfl, _, _, _, _, true, rfl, .ty "int", hd.ty, kit_ty (by simp only [tagD]; decide +kernel), _, rfl, _, rfl, _, _, _, _, false, rfl, .ty "bool", hd.ty, kit_ty (by simp only [tagD]; decide +kernel), _, rfl, hQ⟩
    | bool b => exact ⟨_, rfl, _, _, _, _, true, rfl, .ty "int", hd.ty, kit_ty (by simp only [tagD]; decide +kernel), _, rfl, _, rfl, _, _, _, _, true, rfl, .ty "bool", hd.ty, kit_ty (by simp only [tagD]; decide +kernel), _, rfl, hQ⟩
    | _ => exact ⟨_, rfl, _, _, _, _, false, rfl, .ty "int", hd.ty, kit_ty (by simp only [tagD]; decide +kernel), _, rfl, hQ⟩
theorem scLUnl : FnScope ["things", "found", "thing"] ["things"] (defScope sLUnl) := ⟨rfl, rfl, rfl, by decide +kernel, rfl, by decide +kernel, by decide +kernel⟩
theorem ok_unlike {f : Addr} {fd : FuncData} (F : FnP K "_law_unlike" sLUnl f fd) : FnOk P w K mg base CX0 1 f fd ["things"] (spUnlike K) := by
  refine F.ok scLUnl (fun vs H Q E h => ?_) (fun cdv A outer s H vs Q E hr h => ?_)
  · obtain ⟨a, xs, rfl, _⟩ := h
    rfl
  · obtain ⟨a, xs, rfl, hS, hl, hQ⟩ := h
    refine ⟨_, PSs.nox (pss_cons (ps_set (i := 1) scLUnl.nd rfl (by first | exact Or.inl rfl | exact Or.inr rfl) (pe_lst pa_nil))
 (pss_cons (ps_for PassesOwn.never rfl (pi_list (pv 0)) (pg_name (i := 2) scLUnl.nd rfl (by first | exact Or.inl rfl | exact Or.inr rfl))
 (pss_one (ps_if (pt_cmpR op_notIn_seq (pv 2) (pv 1) (by rfl))
 (pss_one (ps_expr (pe_bm PySem.F.plainAttrs_list PySem.F.slot_list_append PySem.F.type_list_append mt_append (pv 1) (pa_cons (pv 2) pa_nil)))) pss_nil)))
 (pss_one (ps_ret (pv 1))))), ?_⟩
    refine ⟨Nat.zero_le _, fun p hp => ?_⟩
    have s1 := same_upd (o := .lst []) hp
    dsimp only [gName]
    refine ⟨_, rfl, a, rfl, ⟨_, s1.seq hS⟩, for_list (K := K) (a := a) (xs := xs.map V.str) (fun i σ H2 => Same H H2 ∧ H2 p = some (.lst ((metS (xs.take i)).map V.str)) ∧ ∃ o : Option V, σ = [some (.ref a), some (.ref p), o]) ⟨s1, upd_same, none, rfl⟩ (fun _ _ H2 _ h => h.1.seq hS) ?_ ?_⟩
    · rintro i x σ H2 hx ⟨s2, e2, o, rfl⟩
      rw [List.getElem?_map] at hx
      cases hxi : xs[i]? with
      | none => rw [hxi] at hx; cases hx
      | some y =>
      rw [hxi] at hx
      cases hx
      have em := metS_take hxi
      rw [metStep_eq] at em
      have hlm := metS_le (xs.take i) []
      have hli : (xs.take i).length ≤ 1000 := by rw [List.length_take]; omega
      have hlm : (metS (xs.take i)).length ≤ 1000 := by
        have : (metS (xs.take i)).length ≤ 0 + (xs.take i).length := hlm
        omega
      refine ⟨_, rfl, _, rfl, p, _, rfl, .inl (SqL.of e2), rfl, flatS _, ?_⟩
      rw [if_pos rfl, inV_strs]
      cases hc : (metS (xs.take i)).contains y with
      | true =>
        rw [hc, if_pos rfl] at em
        refine ⟨_, rfl, iteF ?_⟩
        exact ⟨s2, by rw [em]; exact e2, _, rfl⟩
      | false =>
        rw [hc, if_neg (by decide)] at em
        refine ⟨_, rfl, iteT ?_⟩
        refine ⟨_, rfl, .inl ⟨rfl, _, SqL.of e2⟩, _, rfl, p, _, _, rfl, rfl, e2, by rw [sizeLine_eq, List.length_map]; omega, same_updX s2 hp, ?_, _, rfl⟩
        rw [upd_same, em, List.map_append]
        rfl
    · rintro σ H2 ⟨s2, e2, o, rfl⟩
      rw [List.length_map, List.take_length] at e2
      exact ⟨_, rfl, hQ p H2 s2 hp e2⟩
theorem scLAreU : FnScope ["thing", "one"] ["thing"] (defScope sLAreU) := ⟨rfl, rfl, rfl, by decide +kernel, rfl, by decide +kernel, by decide +kernel⟩
theorem ok_areU {f fW fU : Addr} {fd fdW fdU : FuncData} (F : FnP K "_law_are_unlike" sLAreU f fd) (g_isinstance : mg "isinstance" = none) (g_list : mg "list" = none) (g_tuple : mg "tuple" = none) (g_len : mg "len" = none)
    (G_law_is_word : FnOk P w K mg base CX0 1 fW fdW ["thing"] spIsName) (m_law_is_word : mg "_law_is_word" = some (.ref fW)) (k_law_is_word : PySem.W.keepIn K (.ref fW) = true) (b_law_is_word : Binds K fdW ["thing"] [])
    (G_law_unlike : FnOk P w K mg base CX0 1 fU fdU ["things"] (spUnlike K)) (m_law_unlike : mg "_law_unlike" = some (.ref fU)) (k_law_unlike : PySem.W.keepIn K (.ref fU) = true) (b_law_unlike : Binds K fdU ["things"] []) :
    FnOk P w K mg base CX0 2 f fd ["thing"] spAreUnlike := by
  refine F.ok scLAreU (fun vs H Q E h => ?_) (fun cdv A outer s H vs Q E hr h => ?_)
  · obtain ⟨v, d, rfl, _⟩ := h
    rfl
  · obtain ⟨v, d, rfl, hd, hle, hQ⟩ := h
    have hu64 := hr.units
    have r_law_is_word := hr
    have r_law_unlike := hr
    refine ⟨_, PSs.nox (pss_cons (ps_if (PW.pt (pw_or (pt_not (pt_val (pe_callB call_isiT (by rfl) g_isinstance (by decide +kernel) (pa_cons (pv 0) (pa_cons (pe_tup (pa_cons (pe_bltn (v := .ty "list") (by rfl) g_list (by decide +kernel) rfl) (pa_cons (pe_bltn (v := .ty "tuple") (by rfl) g_tuple (by decide +kernel) rfl) pa_nil))) pa_nil))))) (pw_or1 (pt_cmpR (op_neE hu64) (pe_lc (own := [("one", 1)]) (g := (gName 1)) (by rfl) scLAreU.nd (pi_seq (K := K) (pv 0)) (blkOk_by (own := [("one", 1)]) (N := ["thing", "one"]) (sc := defScope sLAreU) (by decide +kernel)) (fun _ _ _ _ _ => pg_name (i := 1) scLAreU.nd rfl (by first | exact Or.inl rfl | exact Or.inr rfl)) (fun _ _ _ _ _ => pts_one (pt_not (pt_val (pe_call G_law_is_word r_law_is_word rfl m_law_is_word k_law_is_word b_law_is_word .nil pass0 (pa_cons (pv 1) pa_nil))))) (fun _ _ _ _ _ => (pv 1))) (pe_lst pa_nil) (nomark _)))))
 (pss_one (ps_ret pe_bl)) pss_nil)
 (pss_one (ps_ret (pe_cmpR op_eq (pe_callB call_len (by rfl) g_len (by decide +kernel) (pa_cons (pe_call G_law_unlike r_law_unlike rfl m_law_unlike k_law_unlike b_law_unlike .nil pass0 (pa_cons (pe_callTy call_list_of (by rfl) g_list (by decide +kernel) (pa_cons (pv 0) pa_nil)) pa_nil)) pa_nil)) (pe_callB call_len (by rfl) g_len (by decide +kernel) (pa_cons (pv 0) pa_nil)) (nomark _))))), ?_⟩
    have ht := tag_mem d
    refine ⟨_, rfl, (by show 2 ≤ sizeLine; decide), fun tp htp => ⟨v, tp, [.ty "list", .ty "tuple"], .type (tagD d), [.type "list", .type "tuple"], _, rfl, upd_same, .cons (.ty _) (.cons (.ty _) .nil), (Dq.up (same_upd htp) _ _ hd).ty, kit_seq ht, _, rfl, ?_⟩⟩
    have s1 := same_upd (o := .tup [.ty "list", .ty "tuple"]) htp
    generalize upd H tp (.tup [.ty "list", .ty "tuple"]) = H1 at s1
    rw [tag_items]
    cases h : itemsD d with
    | none =>
      have e0 : unlikesD d = false := by unfold unlikesD; rw [h]
      rw [e0] at hQ
      exact hQ H1 s1
    | some ds =>
      have e0 : unlikesD d = (ds.all nameD && unlikeD ds) := by unfold unlikesD; rw [h]
      rw [e0] at hQ
      obtain ⟨hd1, hd2⟩ := hle ds h
      obtain ⟨a, xs, rfl, hq, hS⟩ := seq_at (K := K) (Dq.up s1 _ _ hd) h
      have hxl := hq.len
      have call : ∀ x e H2 (Q2 : Bool → Hp → Prop), e ∈ ds → Dq H2 e x → (∀ H3, Same H2 H3 → Q2 (!nameD e) H3) → tNot (tB (tCall spIsName [] E0 (tCons (tVar 1) tNil))) [some (.ref a), some x] H2 Q2 := fun x e H2 Q2 hm he q2 => ⟨x, rfl, x, e, rfl, he, hd2 e hm, fun H3 s3 => ⟨_, rfl, q2 H3 s3⟩⟩
      refine ⟨_, rfl, a, rfl, ?_⟩
      rcases hS with ⟨hS, _⟩ | ⟨hS, _⟩
      · refine .inl ⟨⟨xs, hS⟩, fun D hD => lc_filtD (fun e => !nameD e) hq (by show 1 < 2; decide) (by omega) hS hD (fun x e H2 Q2 hm he s2 q2 => call x e H2 Q2 hm he q2) fun H2 ys s2 e2 hy => ?_⟩
        refine ⟨Nat.zero_le _, fun l3 hl3 => ?_⟩
        have s3 := same_upd (o := .lst []) hl3
        have e3 := s3 _ _ e2
        have e33 : upd H2 l3 (.lst []) l3 = some (.lst []) := upd_same
        generalize upd H2 l3 (.lst []) = H3 at s3 e3 e33
        refine ⟨D, l3, ys, rfl, rfl, SqL.of e3, SqL.of e33, ?_⟩
        rw [filter_none hy]
        have s23 := s2.trans s3
        have e4 : (ds.all fun e => !!nameD e) = ds.all nameD := by simp
        rw [e4]
        cases hall : ds.all nameD with
        | false =>
          rw [hall, Bool.false_and] at hQ
          exact ⟨_, rfl, iteT (hQ H3 (s1.trans s23))⟩
        | true =>
          rw [hall, Bool.true_and] at hQ
          refine ⟨_, rfl, iteF ?_⟩
          obtain ⟨ex, elen⟩ := strs_all hq (names_str hall)
          have hS3 := s23.seq hS
          refine ⟨_, rfl, a, xs, rfl, .inl hS3, fun l hl => ?_⟩
          have s4 := same_upd (o := .lst xs) hl
          have e5 : upd H3 l (.lst xs) l = some (.lst xs) := upd_same
          generalize upd H3 l (.lst xs) = H4 at s4 e5
          refine ⟨l, strsOf ds, rfl, SqL.of (ex ▸ e5), by omega, fun p H5 s5 n5 e6 => ?_⟩
          refine ⟨_, (metS (strsOf ds)).length, rfl, .inl ⟨(metS (strsOf ds)).map V.str, SqL.of e6, (List.length_map _).symm⟩, _, rfl, _, xs.length, rfl, .inl ⟨xs, (s4.trans s5).seq hS3, rfl⟩, rfl, ?_⟩
          rw [hxl, unlike_eq]
          exact hQ H5 (s1.trans (s23.trans (s4.trans s5)))
      · refine .inr ⟨⟨xs, hS⟩, fun D hD => lt_filtD (fun e => !nameD e) hq (by show 1 < 2; decide) (by omega) hS hD (fun x e H2 Q2 hm he s2 q2 => call x e H2 Q2 hm he q2) fun H2 ys s2 e2 hy => ?_⟩
        refine ⟨Nat.zero_le _, fun l3 hl3 => ?_⟩
        have s3 := same_upd (o := .lst []) hl3
        have e3 := s3 _ _ e2
        have e33 : upd H2 l3 (.lst []) l3 = some (.lst []) := upd_same
        generalize upd H2 l3 (.lst []) = H3 at s3 e3 e33
        refine ⟨D, l3, ys, rfl, rfl, SqL.of e3, SqL.of e33, ?_⟩
        rw [filter_none hy]
        have s23 := s2.trans s3
        have e4 : (ds.all fun e => !!nameD e) = ds.all nameD := by simp
        rw [e4]
        cases hall : ds.all nameD with
        | false =>
          rw [hall, Bool.false_and] at hQ
          exact ⟨_, rfl, iteT (hQ H3 (s1.trans s23))⟩
        | true =>
          rw [hall, Bool.true_and] at hQ
          refine ⟨_, rfl, iteF ?_⟩
          obtain ⟨ex, elen⟩ := strs_all hq (names_str hall)
          have hS3 := sqT_up s23 hS
          refine ⟨_, rfl, a, xs, rfl, .inr hS3, fun l hl => ?_⟩
          have s4 := same_upd (o := .lst xs) hl
          have e5 : upd H3 l (.lst xs) l = some (.lst xs) := upd_same
          generalize upd H3 l (.lst xs) = H4 at s4 e5
          refine ⟨l, strsOf ds, rfl, SqL.of (ex ▸ e5), by omega, fun p H5 s5 n5 e6 => ?_⟩
          refine ⟨_, (metS (strsOf ds)).length, rfl, .inl ⟨(metS (strsOf ds)).map V.str, SqL.of e6, (List.length_map _).symm⟩, _, rfl, _, xs.length, rfl, .inr ⟨xs, sqT_up (s4.trans s5) hS3, rfl⟩, rfl, ?_⟩
          rw [hxl, unlike_eq]
          exact hQ H5 (s1.trans (s23.trans (s4.trans s5)))
theorem scLRule : FnScope ["kinds", "thing", "one"] ["kinds", "thing"] (defScope sLRule) := ⟨rfl, rfl, rfl, by decide +kernel, rfl, by decide +kernel, by decide +kernel⟩
theorem ok_lrule {f fW fN : Addr} {fd fdW fdN : FuncData} (F : FnP K "_law_is_rule" sLRule f fd) (g_isinstance : mg "isinstance" = none) (g_tuple : mg "tuple" = none) (g_str : mg "str" = none) (g_len : mg "len" = none)
    (G_law_is_word : FnOk P w K mg base CX0 1 fW fdW ["thing"] spIsName) (m_law_is_word : mg "_law_is_word" = some (.ref fW)) (k_law_is_word : PySem.W.keepIn K (.ref fW) = true) (b_law_is_word : Binds K fdW ["thing"] [])
    (G_law_is_number : FnOk P w K mg base CX0 1 fN fdN ["thing"] spIsInt) (m_law_is_number : mg "_law_is_number" = some (.ref fN)) (k_law_is_number : PySem.W.keepIn K (.ref fN) = true) (b_law_is_number : Binds K fdN ["thing"] []) :
    FnOk P w K mg base CX0 2 f fd ["kinds", "thing"] (spLRule K) := by
  refine F.ok scLRule (fun vs H Q E h => ?_) (fun cdv A outer s H vs Q E hr h => ?_)
  · obtain ⟨a, v, d, ns, rfl, _⟩ := h
    rfl
  · obtain ⟨a, v, d, ns, rfl, hS, hd, hle, hQ⟩ := h
    have hu64 := hr.units
    have r_law_is_word := hr
    have r_law_is_number := hr
    refine ⟨_, PSs.nox (pss_cons (ps_if (PW.pt (pw_or (pt_not (pt_val (pe_callB call_isi (by rfl) g_isinstance (by decide +kernel) (pa_cons (pv 1) (pa_cons (pe_bltn (v := .ty "tuple") (by rfl) g_tuple (by decide +kernel) rfl) pa_nil))))) (pw_or (pt_cmpR op_ne (pe_callB call_len (by rfl) g_len (by decide +kernel) (pa_cons (pv 1) pa_nil)) pe_int (nomark _)) (pw_or (pt_not (pt_val (pe_call G_law_is_word r_law_is_word rfl m_law_is_word k_law_is_word b_law_is_word .nil pass0 (pa_cons (pe_ix ix_tup (pv 1) pe_int (fun _ _ => rfl)) pa_nil)))) (pw_or1 (pt_not (pt_val (pe_callB call_isi (by rfl) g_isinstance (by decide +kernel) (pa_cons (pe_ix ix_tup (pv 1) pe_int (fun _ _ => rfl)) (pa_cons (pe_bltn (v := .ty "tuple") (by rfl) g_tuple (by decide +kernel) rfl) pa_nil))))))))))
 (pss_one (ps_ret pe_bl)) pss_nil)
 (pss_one (ps_ret (pe_and (pe_cmpR (op_eqE hu64) (pe_lc (own := [("one", 2)]) (g := (gName 2)) (by rfl) scLRule.nd (pi_tup (pe_op op_catT (pe_tup (pa_cons (pe_ix ix_tup (pv 1) pe_int (fun _ _ => rfl)) pa_nil)) (pe_ix ix_tup (pv 1) pe_int (fun _ _ => rfl)))) (blkOk_by (own := [("one", 2)]) (N := ["kinds", "thing", "one"]) (sc := defScope sLRule) (by decide +kernel)) (fun _ _ _ _ _ => pg_name (i := 2) scLRule.nd rfl (by first | exact Or.inl rfl | exact Or.inr rfl)) (fun _ _ _ _ _ => pts_one (PW.pt (pw_or (pt_not (pt_val (pe_callB (call_isiK (K := K)) (by rfl) g_isinstance (by decide +kernel) (pa_cons (pv 2) (pa_cons (pe_bltn (v := .ty "str") (by rfl) g_str (by decide +kernel) rfl) pa_nil))))) (pw_or1 (pt_cmpR (op_notInK (K := K)) (pv 2) (pv 0) (by rfl)))))) (fun _ _ _ _ _ => (pv 2))) (pe_lst pa_nil) (nomark _)) (pe_one (pe_call G_law_is_number r_law_is_number rfl m_law_is_number k_law_is_number b_law_is_number .nil pass0 (pa_cons (pe_ix ix_tup (pv 1) pe_int (fun _ _ => rfl)) pa_nil))))))), ?_⟩
    cases d with
    | tuple ds =>
      obtain ⟨hl, hle2⟩ := hle ds rfl
      have hty := hd.ty (K := K)
      simp only [Dq] at hd
      obtain ⟨b, xs, rfl, ha, hq⟩ := hd
      have hxl := hq.len
      refine ⟨_, rfl, _, _, _, _, true, rfl, .ty "tuple", hty, kit_ty (by simp only [tagD]; decide +kernel), _, rfl, ?_⟩
      refine ⟨_, rfl, _, xs.length, rfl, .inr ⟨xs, SqT.of ha, rfl⟩, rfl, _, rfl, ?_⟩
      by_cases h4 : ds.length = 4
      · have e4 : (!decide (V.int (xs.length : Int) = V.int 4)) = false := by
          rw [hxl, h4]
          rfl
        rw [e4]
        obtain ⟨n, k, o, c, rfl⟩ := four h4
        simp only [DqAll] at hq
        obtain ⟨x1, _, rfl, q1, x2, _, rfl, q2, x3, _, rfl, q3, x4, _, rfl, q4, rfl⟩ := hq
        have e0 : ruleD ns (.tuple [n, k, o, c]) = if (!nameD n || (!amongD ns k || !integerD c)) = true then false else outD ns o := rfl
        rw [e0] at hQ
        refine ⟨_, rfl, b, _, 0, x1, rfl, rfl, SqT.of ha, atI_nat rfl, x1, n, rfl, q1, (hle2 n List.mem_cons_self).1, fun H1 s1 => ⟨_, rfl, ?_⟩⟩
        cases hn : nameD n with
        | false =>
          rw [hn] at hQ
          exact hQ H1 s1
        | true =>
          have q3' := Dq.up s1 _ _ q3
          refine ⟨_, rfl, b, _, 2, x3, rfl, rfl, SqT.of (s1 _ _ ha), atI_nat rfl, ?_⟩
          cases o with
          | tuple es =>
            have hty3 := q3'.ty (K := K)
            simp only [Dq] at q3'
            obtain ⟨c1, ys, rfl, hb, hqs⟩ := q3'
            have hyl := hqs.len
            have hes := (hle2 (.tuple es) (List.mem_cons_of_mem _ (List.mem_cons_of_mem _ List.mem_cons_self))).2 es rfl
            refine ⟨_, _, _, _, true, rfl, .ty "tuple", hty3, kit_ty (by simp only [tagD]; decide +kernel), _, rfl, ?_⟩
            refine iteF ?_
            dsimp only [tNext]
            refine ⟨_, rfl, b, _, 1, x2, rfl, rfl, SqT.of (s1 _ _ ha), atI_nat rfl, (by show 1 ≤ sizeLine; decide), fun tp htp => ?_⟩
            have s2 := same_upd (o := .tup [x2]) htp
            have e2 : upd H1 tp (.tup [x2]) tp = some (.tup [x2]) := upd_same
            generalize upd H1 tp (.tup [x2]) = H2 at s2 e2
            have s12 := s1.trans s2
            refine ⟨_, rfl, b, _, 2, .ref c1, rfl, rfl, SqT.of (s12 _ _ ha), atI_nat rfl, ?_⟩
            refine catT_any (xs := [x2]) e2 (s2 _ _ hb) (List.cons_ne_nil _ _) (by rw [sizeLine_eq]; show 1 + _ ≤ _; omega) fun T H3 s3 e3 => ?_
            have s13 := s12.trans s3
            have hq3 : DqAll H3 (k :: es) ([x2] ++ ys) := .cons (Dq.up s13 _ _ q2) (DqAll.up (s2.trans s3) _ _ hqs)
            have hl3 : ([x2] ++ ys).length ≤ 100000 := by show ys.length + 1 ≤ _; omega
            refine ⟨T, rfl, ⟨_, SqT.of e3⟩, fun D hD => lt_filtD (fun e => !amongD ns e) hq3 (by show 2 < 3; decide) hl3 (SqT.of e3) hD (fun x e H4 Q2 hm he s4 q2 => ?_) fun H4 ys2 s4 e4 hy => ?_⟩
            · cases e with
              | str y =>
                simp only [Dq] at he
                subst he
                refine ⟨_, rfl, _, _, _, _, true, rfl, .ty "str", .base (.str y), kit_ty (by decide +kernel), _, rfl, ?_⟩
                refine ⟨_, rfl, _, rfl, a, _, rfl, .inl ((s13.trans s4).seq hS), rfl, flatS _, ?_⟩
                rw [if_pos rfl, inV_strs]
                exact ⟨_, rfl, q2 H4 (Same.refl H4)⟩
              | _ => exact ⟨_, rfl, _, _, _, _, false, rfl, .ty "str", he.ty, kit_ty (by simp only [tagD]; decide +kernel), _, rfl, q2 H4 (Same.refl H4)⟩
            · refine ⟨Nat.zero_le _, fun l3 hl3 => ?_⟩
              have s5 := same_upd (o := .lst []) hl3
              have e5 := s5 _ _ e4
              have e55 : upd H4 l3 (.lst []) l3 = some (.lst []) := upd_same
              generalize upd H4 l3 (.lst []) = H5 at s5 e5 e55
              refine ⟨D, l3, ys2, rfl, rfl, SqL.of e5, SqL.of e55, ?_⟩
              have s15 := s13.trans (s4.trans s5)
              rw [filter_none hy]
              have e6 : ((k :: es).all fun e => !!amongD ns e) = (amongD ns k && es.all (amongD ns)) := by simp
              rw [e6]
              have hQ2 : ∀ H', Same H H' → Q (.bl (if (!nameD n || (!amongD ns k || !integerD c)) = true then false else es.all (amongD ns))) H' := hQ
              rw [hn] at hQ2
              cases hk : amongD ns k with
              | false =>
                rw [hk] at hQ2
                exact ⟨_, rfl, hQ2 H5 s15⟩
              | true =>
                rw [hk] at hQ2
                cases hes : es.all (amongD ns) with
                | false =>
                  rw [hes, ite_self] at hQ2
                  exact ⟨_, rfl, hQ2 H5 s15⟩
                | true =>
                  rw [hes] at hQ2
                  refine ⟨_, rfl, _, rfl, b, _, 3, x4, rfl, rfl, SqT.of (s15 _ _ ha), atI_nat rfl, x4, c, rfl, Dq.up s15 _ _ q4, ?_⟩
                  have e7 : (if (!true || (!true || !integerD c)) = true then false else true) = integerD c := by cases integerD c <;> rfl
                  rw [e7] at hQ2
                  exact hQ2 H5 s15
          | _ =>
            exact ⟨_, _, _, _, false, rfl, .ty "tuple", q3'.ty, kit_ty (by simp only [tagD]; decide +kernel), _, rfl, by
              refine iteT ?_
              have e9 : (if (!true || (!amongD ns k || !integerD c)) = true then false else false) = false := by split <;> rfl
              rw [hn] at hQ
              first | exact (e9 ▸ hQ) H1 s1 | (simp only [outD, ite_self] at hQ; exact hQ H1 s1)⟩
      · have e4 : (!decide (V.int (xs.length : Int) = V.int 4)) = true := by
          rw [hxl]
          simp
          omega
        rw [e4]
        rw [rule_no h4] at hQ
        exact hQ H (Same.refl H)
    | _ => exact ⟨_, rfl, _, _, _, _, false, rfl, .ty "tuple", hd.ty, kit_ty (by simp only [tagD]; decide +kernel), _, rfl, hQ H (Same.refl H)⟩
end
end Dw
namespace Fh
open PySem PySem.Spec PySem.W PyProof.Rows L2 He
theorem lt_enum {K : PySem.W.Frag} {a : Addr} {xs : List V} {g : TG} {tt : TT} {te : TE} {vs : List Nat} {σ : Sto} {H1 : Hp} {D : Addr} {Qd : Hp → Prop} (Pv : Nat → Hp → Prop) (h0 : Pv 0 (upd H1 D (.lst []))) (hl : ∀ i H, i ≤ xs.length → Pv i H → SqT K H a xs)
    (hs : ∀ (i : Nat) x H T, xs[i]? = some x → Pv i H → H T = none → g (.ref T) (wipe σ vs) (upd H T (.tup [.int (i : Int), x])) fun σ2 H2 => wipe σ2 vs = wipe σ vs ∧ tt σ2 H2 fun b H3 =>
      if b = true then te σ2 H3 fun y H4 => ∃ acc, H4 D = some (.lst acc) ∧ acc.length < sizeLine ∧ Pv (i + 1) (upd H4 D (.lst (acc ++ [y]))) else Pv (i + 1) H3) (hd : ∀ H, Pv xs.length H → Qd H) :
    ∃ W : Nat → Nat → Hp → Prop, (∃ m, W 0 m (upd H1 D (.lst []))) ∧ ∀ i m H, W i m H →
      ((Iteu K a).stop i H ∧ Qd H) ∨ ((Iteu K a).go i H ∧ ∃ Nx : Hp → Prop, (∀ H', Nx H' → ∃ m', m' < m ∧ W (i + 1) m' H') ∧ ∀ x H', (Iteu K a).yld i H x H' → g x (wipe σ vs) H' fun σ2 H2 => wipe σ2 vs = wipe σ vs ∧ tt σ2 H2 fun b H3 =>
        if b = true then te σ2 H3 fun y H4 => ∃ acc, H4 D = some (.lst acc) ∧ acc.length < sizeLine ∧ Nx (upd H4 D (.lst (acc ++ [y]))) else Nx H3) := by
  refine ⟨fun i m H => m = xs.length - i ∧ i ≤ xs.length ∧ Pv i H, ⟨xs.length, by simp, Nat.zero_le _, h0⟩, ?_⟩
  rintro i m H ⟨rfl, hi, p⟩
  have q := hl i H hi p
  by_cases hlt : i < xs.length
  · refine .inr ⟨⟨xs, xs[i], q, by simp [hlt]⟩, Pv (i + 1), fun H' p' => ⟨xs.length - (i + 1), by omega, rfl, hlt, p'⟩, fun x H' y => ?_⟩
    obtain ⟨T, z, rfl, hT, rfl, hz⟩ := y
    exact hs i z _ T (hz xs q) p hT
  · have e : i = xs.length := by omega
    subst e
    exact .inl ⟨⟨xs, q, Nat.le_refl _⟩, hd H p⟩
theorem badIx_snoc {ns : List Str} {e : PyData} : ∀ {n : Nat} {l : List PyData}, badIx ns n (l ++ [e]) = match badIx ns n l with
    | some j => some j
    | none => if ruleD ns e = true then none else some (n + l.length)
  | n, [] => by
    show (if ruleD ns e = true then badIx ns (n + 1) [] else some n) = (if ruleD ns e = true then none else some (n + 0))
    rfl
  | n, d :: l => by
    show (if ruleD ns d = true then badIx ns (n + 1) (l ++ [e]) else some n) = match (if ruleD ns d = true then badIx ns (n + 1) l else some n) with
      | some j => some j
      | none => if ruleD ns e = true then none else some (n + (l.length + 1))
    cases h : ruleD ns d with
    | false => rfl
    | true =>
      simp only [if_true]
      rw [badIx_snoc (n := n + 1) (l := l), show n + 1 + l.length = n + (l.length + 1) by omega]
theorem dupD_snoc {x : Str} : ∀ {seen l : List Str}, dupD seen (l ++ [x]) = match dupD seen l with
    | some z => some z
    | none => if (seen ++ l).contains x = true then some x else none
  | seen, [] => by
    rw [List.append_nil]
    rfl
  | seen, y :: l => by
    show (if seen.contains y = true then some y else dupD (seen ++ [y]) (l ++ [x])) = match (if seen.contains y = true then some y else dupD (seen ++ [y]) l) with
      | some z => some z
      | none => if (seen ++ y :: l).contains x = true then some x else none
    cases h : seen.contains y with
    | true => rfl
    | false =>
      simp only [Bool.false_eq_true, if_false]
      rw [dupD_snoc (seen := seen ++ [y]) (l := l), List.append_assoc]
      rfl
theorem head_snoc {α β : Type} {ys : List β} {o : Option α} {f : α → β} {y : β} (h : ys.head? = o.map f) : (ys ++ [y]).head? = some ((o.map f).getD y) := by
  cases o with
  | some a =>
    cases ys with
    | nil => cases h
    | cons z ys => exact h
  | none =>
    cases ys with
    | nil => rfl
    | cons z ys => cases h
def intV (j : Nat) : V := V.int (j : Int)
/-- what the law says of what is due -/
def tagOf (c : Str) : Str := if c = "BadKinds" then "kinds" else if c = "BadHandles" then "handles" else if c = "BadRules" then "rules" else if c = "BadRule" then "rule" else if c = "NamedTwice" then "twice" else if c = "BadStart" then "start" else "count"
def dueL : DueV → PyData
  | none => .list []
  | some (c, _, e) => .list [.str (tagOf c), e]
def spLDue (K : PySem.W.Frag) : Sp := fun vs H Q _ => ∃ pa vk vh vr vs' vc dk dh dr ds dc, vs = [.ref pa] ∧ H pa = some (.lst [vk, vh, vr, vs', vc]) ∧ Dq H dk vk ∧ Dq H dh vh ∧ Dq H dr vr ∧ Dq H ds vs' ∧ Dq H dc vc ∧
  SeqLe dk ∧ SeqLe dh ∧ RulesLe dr ∧ (∀ es, dk = .tuple es → es = []) ∧ Sys H ∧ ∀ p H', Same H H' → Dq H' (dueL (dueBook dk dh dr ds dc)) (.ref p) → Q (.ref p) H'
theorem dq_tag2 {H : Hp} {p : Addr} {x : Str} {v : V} {d : PyData} (n : p ≠ sysModules) (e : H p = some (.lst [.str x, v])) (h : Dq H d v) : Dq H (.list [.str x, d]) (.ref p) := by
  simp only [Dq, DqAll]
  exact ⟨p, _, rfl, n, e, _, _, rfl, rfl, _, _, rfl, h, rfl⟩
theorem dq_nil {H : Hp} {p : Addr} (n : p ≠ sysModules) (e : H p = some (.lst [])) : Dq H (.list []) (.ref p) := by
  simp only [Dq, DqAll]
  exact ⟨p, _, rfl, n, e, rfl⟩
theorem dueL_eq {c tg f : Str} {e : PyData} (h : tagOf c = tg) : dueL (some (c, f, e)) = .list [.str tg, e] := by
  show PyData.list [.str (tagOf c), e] = _
  rw [h]
theorem tag_kinds : tagOf "BadKinds" = "kinds" := by decide +kernel
theorem tag_handles : tagOf "BadHandles" = "handles" := by decide +kernel
theorem tag_rules : tagOf "BadRules" = "rules" := by decide +kernel
theorem tag_rule : tagOf "BadRule" = "rule" := by decide +kernel
theorem tag_twice : tagOf "NamedTwice" = "twice" := by decide +kernel
theorem tag_start : tagOf "BadStart" = "start" := by decide +kernel
theorem tag_count : tagOf "BadCount" = "count" := by decide +kernel
theorem unlikes_true {d : PyData} (h : unlikesD d = true) : ∃ ds, itemsD d = some ds ∧ ds.all nameD = true ∧ unlikeD ds = true ∧ allStr ds = true := by
  unfold unlikesD at h
  cases hi : itemsD d with
  | none => rw [hi] at h; cases h
  | some ds =>
    rw [hi] at h
    have h : (ds.all nameD && unlikeD ds) = true := h
    rw [Bool.and_eq_true] at h
    exact ⟨ds, rfl, h.1, h.2, names_str h.1⟩
theorem cut_drop {xs : List V} {k : Nat} : cutV xs (some (k : Int)) none = xs.drop k := by
  unfold cutV
  have e : HT.sIx xs.length 0 (some (k : Int)) = min k xs.length := HT.sIx_nat xs.length 0 k
  rw [e, HT.sIx_none]
  by_cases h : k ≤ xs.length
  · rw [Nat.min_eq_left h, List.take_of_length_le (by rw [List.length_drop]; exact Nat.le_refl _)]
  · have h : xs.length ≤ k := by omega
    rw [Nat.min_eq_right h, List.drop_of_length_le h, Nat.sub_self]
    rfl
end Fh
namespace Dw
open PySem PySem.Spec PyProof.Rows L2 He Fh
abbrev sLDue : Stmt := top 35
section
variable {P : Program} {w : World} {K : PySem.W.Frag} {mg : Str → Option Value} {base : Heap}
theorem scLDue : FnScope ["parts", "wrong", "names", "twice", "kinds", "handles", "rules", "begin", "count", "rule", "at", "name", "one"] ["parts"] (defScope sLDue) := ⟨rfl, rfl, rfl, by decide +kernel, rfl, by decide +kernel, by decide +kernel⟩
theorem ok_ldue {f fU fR fN : Addr} {fd fdU fdR fdN : FuncData} (F : FnP K "_law_due" sLDue f fd) (g_isinstance : mg "isinstance" = none) (g_list : mg "list" = none) (g_tuple : mg "tuple" = none) (g_str : mg "str" = none) (g_len : mg "len" = none) (g_enumerate : mg "enumerate" = none)
    (G_law_are_unlike : FnOk P w K mg base CX0 2 fU fdU ["thing"] spAreUnlike) (m_law_are_unlike : mg "_law_are_unlike" = some (.ref fU)) (k_law_are_unlike : PySem.W.keepIn K (.ref fU) = true) (b_law_are_unlike : Binds K fdU ["thing"] [])
    (G_law_is_rule : FnOk P w K mg base CX0 2 fR fdR ["kinds", "thing"] (spLRule K)) (m_law_is_rule : mg "_law_is_rule" = some (.ref fR)) (k_law_is_rule : PySem.W.keepIn K (.ref fR) = true) (b_law_is_rule : Binds K fdR ["kinds", "thing"] [])
    (G_law_is_number : FnOk P w K mg base CX0 1 fN fdN ["thing"] spIsInt) (m_law_is_number : mg "_law_is_number" = some (.ref fN)) (k_law_is_number : PySem.W.keepIn K (.ref fN) = true) (b_law_is_number : Binds K fdN ["thing"] []) :
    FnOk P w K mg base CX0 3 f fd ["parts"] (spLDue K) := by
  refine F.ok scLDue (fun vs H Q E h => ?_) (fun cdv A outer s H vs Q E hr h => ?_)
  · obtain ⟨pa, vk, vh, vr, vs', vc, dk, dh, dr, ds, dc, rfl, _⟩ := h
    rfl
  · obtain ⟨pa, vk, vh, vr, vs', vc, dk, dh, dr, ds, dc, rfl, hpa, qk, qh, qr, qs, qc, lk, lh, lr, htk, hY, hQ⟩ := h
    have hu64 := hr.units
    have r_law_are_unlike : Room 2 _ := hr
    have r_law_is_rule : Room 2 _ := hr
    have r_law_is_number : Room 1 _ := hr.mono (by decide)
    refine ⟨_, PSs.nox (pss_cons (ps_asg (pv 0) (pg_lst (by rfl) (pgs_cons (pg_name (i := 4) scLDue.nd rfl (by first | exact Or.inl rfl | exact Or.inr rfl)) (pgs_cons (pg_name (i := 5) scLDue.nd rfl (by first | exact Or.inl rfl | exact Or.inr rfl)) (pgs_cons (pg_name (i := 6) scLDue.nd rfl (by first | exact Or.inl rfl | exact Or.inr rfl)) (pgs_cons (pg_name (i := 7) scLDue.nd rfl (by first | exact Or.inl rfl | exact Or.inr rfl)) (pgs_cons (pg_name (i := 8) scLDue.nd rfl (by first | exact Or.inl rfl | exact Or.inr rfl)) pgs_nil)))))))
 (pss_cons (ps_if (PW.pt (pw_or (pt_not (pt_val (pe_call G_law_are_unlike r_law_are_unlike rfl m_law_are_unlike k_law_are_unlike b_law_are_unlike .nil pass0 (pa_cons (pv 4) pa_nil)))) (pw_or1 (pt_cmpR op_eq (pe_callB call_len (by rfl) g_len (by decide +kernel) (pa_cons (pv 4) pa_nil)) pe_int (nomark _)))))
 (pss_one (ps_ret (pe_lst (pa_cons pe_str (pa_cons (pv 4) pa_nil))))) pss_nil)
 (pss_cons (ps_if (PW.pt (pw_or (pt_not (pt_val (pe_call G_law_are_unlike r_law_are_unlike rfl m_law_are_unlike k_law_are_unlike b_law_are_unlike .nil pass0 (pa_cons (pv 5) pa_nil)))) (pw_or1 (pt_cmpR (op_neE hu64) (pe_lc (own := [("one", 12)]) (g := (gName 12)) (by rfl) scLDue.nd (pi_seq (K := K) (pv 5)) (blkOk_by (own := [("one", 12)]) (N := ["parts", "wrong", "names", "twice", "kinds", "handles", "rules", "begin", "count", "rule", "at", "name", "one"]) (sc := defScope sLDue) (by decide +kernel)) (fun _ _ _ _ _ => pg_name (i := 12) scLDue.nd rfl (by first | exact Or.inl rfl | exact Or.inr rfl)) (fun _ _ _ _ _ => pts_one (pt_cmpR (op_notInK (K := K)) (pv 12) (pv 4) (by rfl))) (fun _ _ _ _ _ => (pv 12))) (pe_lst pa_nil) (nomark _)))))
 (pss_one (ps_ret (pe_lst (pa_cons pe_str (pa_cons (pv 5) pa_nil))))) pss_nil)
 (pss_cons (ps_if (pt_not (pt_val (pe_callB call_isiT (by rfl) g_isinstance (by decide +kernel) (pa_cons (pv 6) (pa_cons (pe_tup (pa_cons (pe_bltn (v := .ty "list") (by rfl) g_list (by decide +kernel) rfl) (pa_cons (pe_bltn (v := .ty "tuple") (by rfl) g_tuple (by decide +kernel) rfl) pa_nil))) pa_nil)))))
 (pss_one (ps_ret (pe_lst (pa_cons pe_str (pa_cons (pv 6) pa_nil))))) pss_nil)
 (pss_cons (ps_setLc (i := 1) (own := [("at", 10), ("rule", 9)]) (g := (gTup K 2 (gCons (gName 10) (gCons (gName 9) gNil)))) (by rfl) scLDue.nd rfl rfl (sw_true rfl rfl rfl (by decide +kernel)) (pi_enumS (by rfl) g_enumerate (pa_cons (pv 6) pa_nil)) (blkOk_by (own := [("at", 10), ("rule", 9)]) (N := ["parts", "wrong", "names", "twice", "kinds", "handles", "rules", "begin", "count", "rule", "at", "name", "one"]) (sc := defScope sLDue) (by decide +kernel)) (fun _ _ _ _ _ => (pg_tupK (K := K) (n := 2) (by rfl) (pgs_cons (pg_name (i := 10) scLDue.nd rfl (by first | exact Or.inl rfl | exact Or.inr rfl)) (pgs_cons (pg_name (i := 9) scLDue.nd rfl (by first | exact Or.inl rfl | exact Or.inr rfl)) pgs_nil)))) (fun _ _ _ _ _ => pts_one (pt_not (pt_val (pe_call G_law_is_rule r_law_is_rule rfl m_law_is_rule k_law_is_rule b_law_is_rule .nil pass0 (pa_cons (pv 4) (pa_cons (pv 9) pa_nil)))))) (fun _ _ _ _ _ => (pv 10)))
 (pss_cons (ps_if (pt_cmpR (op_neE hu64) (pv 1) (pe_lst pa_nil) (nomark _))
 (pss_one (ps_ret (pe_lst (pa_cons pe_str (pa_cons (pe_ix ix_list (pv 1) pe_int (fun _ _ => rfl)) pa_nil))))) pss_nil)
 (pss_cons (ps_asg (pe_lc (own := [("rule", 9)]) (g := (gName 9)) (by rfl) scLDue.nd (pi_seq (K := K) (pv 6)) (blkOk_by (own := [("rule", 9)]) (N := ["parts", "wrong", "names", "twice", "kinds", "handles", "rules", "begin", "count", "rule", "at", "name", "one"]) (sc := defScope sLDue) (by decide +kernel)) (fun _ _ _ _ _ => pg_name (i := 9) scLDue.nd rfl (by first | exact Or.inl rfl | exact Or.inr rfl)) (fun _ _ _ _ _ => pts_nil) (fun _ _ _ _ _ => (pe_ix (ix_tupK (K := K)) (pv 9) pe_int (fun _ _ => rfl)))) (pg_name (i := 2) scLDue.nd rfl (by first | exact Or.inl rfl | exact Or.inr rfl)))
 (pss_cons (ps_setLc (i := 3) (own := [("at", 10), ("name", 11)]) (g := (gTup K 2 (gCons (gName 10) (gCons (gName 11) gNil)))) (by rfl) scLDue.nd rfl rfl (sw_true rfl rfl rfl (by decide +kernel)) (pi_enum (by rfl) g_enumerate (pa_cons (pv 2) pa_nil)) (blkOk_by (own := [("at", 10), ("name", 11)]) (N := ["parts", "wrong", "names", "twice", "kinds", "handles", "rules", "begin", "count", "rule", "at", "name", "one"]) (sc := defScope sLDue) (by decide +kernel)) (fun _ _ _ _ _ => (pg_tupK (K := K) (n := 2) (by rfl) (pgs_cons (pg_name (i := 10) scLDue.nd rfl (by first | exact Or.inl rfl | exact Or.inr rfl)) (pgs_cons (pg_name (i := 11) scLDue.nd rfl (by first | exact Or.inl rfl | exact Or.inr rfl)) pgs_nil)))) (fun _ _ _ _ _ => pts_one (pt_cmpR (op_inK (K := K)) (pv 11) (pe_slice (sl_listK (K := K)) (pv 2) po_none (po_some (pv 10))) (by rfl))) (fun _ _ _ _ _ => (pv 11)))
 (pss_cons (ps_if (pt_cmpR (op_neE hu64) (pv 3) (pe_lst pa_nil) (nomark _))
 (pss_one (ps_ret (pe_lst (pa_cons pe_str (pa_cons (pe_ix ix_list (pv 3) pe_int (fun _ _ => rfl)) pa_nil))))) pss_nil)
 (pss_cons (ps_if (PW.pt (pw_or (pt_not (pt_val (pe_callB call_isi (by rfl) g_isinstance (by decide +kernel) (pa_cons (pv 7) (pa_cons (pe_bltn (v := .ty "str") (by rfl) g_str (by decide +kernel) rfl) pa_nil))))) (pw_or1 (pt_cmpR op_notIn_seq (pv 7) (pv 4) (by rfl)))))
 (pss_one (ps_ret (pe_lst (pa_cons pe_str (pa_cons (pv 7) pa_nil))))) pss_nil)
 (pss_one (ps_ret (pe_ifExp (pt_val (pe_call G_law_is_number r_law_is_number rfl m_law_is_number k_law_is_number b_law_is_number .nil pass0 (pa_cons (pv 8) pa_nil))) (pe_lst pa_nil) (pe_lst (pa_cons pe_str (pa_cons (pv 8) pa_nil)))))))))))))))), ?_⟩
    have give : ∀ {H2 : Hp} {p : Addr} {tg : Str} {e : PyData} {v : V}, Same H H2 → H2 p = none → Dq H2 e v → dueL (dueBook dk dh dr ds dc) = .list [.str tg, e] → Q (.ref p) (upd H2 p (.lst [.str tg, v])) := fun {H2 p tg e v} s2 hp he eq =>
      hQ p _ (s2.trans (same_upd hp)) (by rw [eq]; exact dq_tag2 ((hY.up s2).new hp) upd_same (Dq.up (same_upd hp) _ _ he))
    refine ⟨_, rfl, pa, _, rfl, SqL.of hpa, rfl, _, _, rfl, _, _, rfl, _, _, rfl, _, _, rfl, _, _, rfl, rfl, ?_⟩
    refine ⟨vk, rfl, vk, dk, rfl, qk, lk, fun H1 s1 => ⟨_, rfl, ?_⟩⟩
    cases hu : unlikesD dk with
    | false =>
      have hk : kindsD dk = false := by rw [kindsD_eq, hu]; rfl
      exact ⟨_, rfl, (by show 2 ≤ sizeLine; decide), fun p hp => give s1 hp (Dq.up s1 _ _ qk) (by rw [dueBook_kinds hk]; exact dueL_eq tag_kinds)⟩
    | true =>
    obtain ⟨ks0, ik, ak, bk, ck⟩ := unlikes_true hu
    obtain ⟨hk1, _⟩ := lk ks0 ik
    obtain ⟨ka, rfl, hK, hkl⟩ := strs_seq (K := K) (Dq.up s1 _ _ qk) ik ck
    have hlen : LenV K (.ref ka) H1 ks0.length := hK.elim (fun z => .inl ⟨_, z, by rw [List.length_map, hkl]⟩) fun z => .inr ⟨_, z, by rw [List.length_map, hkl]⟩
    refine ⟨_, rfl, _, _, rfl, hlen, rfl, _, rfl, ?_⟩
    by_cases hne : ks0 = []
    · have hk : kindsD dk = false := by rw [kindsD_eq, ik, hne]; simp
      rw [hne]
      exact ⟨_, rfl, (by show 2 ≤ sizeLine; decide), fun p hp => give s1 hp (Dq.up s1 _ _ qk) (by rw [dueBook_kinds hk]; exact dueL_eq tag_kinds)⟩
    have hk : kindsD dk = true := by
      rw [kindsD_eq, ik, hu]
      cases ks0 with
      | nil => exact absurd rfl hne
      | cons _ _ => rfl
    have hz : decide (V.int (ks0.length : Int) = V.int 0) = false := by
      cases ks0 with
      | nil => exact absurd rfl hne
      | cons _ _ => exact decide_eq_false (fun z => by injection z with z; rw [List.length_cons] at z; omega)
    rw [hz]
    refine iteF ?_
    dsimp only [tNext]
    have hKL : H1 ka = some (.lst ((strsOf ks0).map V.str)) := by
      have q1 := Dq.up s1 _ _ qk
      cases dk with
      | list es =>
        cases ik
        simp only [Dq] at q1
        obtain ⟨b, xs, e, _, eb, qx⟩ := q1
        cases e
        rw [eb, (strs_all qx ck).1]
      | tuple es =>
        cases ik
        exact absurd (htk _ rfl) hne
      | _ => cases ik
    have ek : kindsOf dk = strsOf ks0 := by unfold kindsOf; rw [ik]
    have hnm := kindsOf_names hk
    rw [ek] at hnm
    generalize strsOf ks0 = ns at hKL hnm ek hkl
    clear hK hlen hz hne hu
    -- the handles
    refine seq_cut (fun σ H2 => σ = [some (.ref pa), none, none, none, some (.ref ka), some vh, some vr, some vs', some vc, none, none, none, none] ∧ Same H1 H2 ∧ handlesD ns dh = true) ?_ (fun fin => ?_)
    · rintro σ H2 ⟨rfl, s2, hh⟩
      have s02 := s1.trans s2
      have hk2 : H2 ka = some (.lst (ns.map V.str)) := s2 _ _ hKL
      have notR : itemsD dr = none → dueL (dueBook dk dh dr ds dc) = .list [.str "rules", dr] := fun hi => by rw [dueBook_rules hk (by rw [ek]; exact hh) (due_no hi)]; exact dueL_eq tag_rules
      refine ⟨_, rfl, (by show 2 ≤ sizeLine; decide), fun tp htp => ⟨vr, tp, [.ty "list", .ty "tuple"], .type (tagD dr), [.type "list", .type "tuple"], _, rfl, upd_same, .cons (.ty _) (.cons (.ty _) .nil), (Dq.up (s02.trans (same_upd htp)) _ _ qr).ty, kit_seq (tag_mem dr), _, rfl, ?_⟩⟩
      have s3 := s02.trans (same_upd (o := .tup [.ty "list", .ty "tuple"]) htp)
      have hk3 := same_upd (o := .tup [.ty "list", .ty "tuple"]) htp _ _ hk2
      generalize upd H2 tp (.tup [.ty "list", .ty "tuple"]) = H3 at s3 hk3
      rw [tag_items]
      cases hi : itemsD dr with
      | none => exact iteT ⟨_, rfl, (by show 2 ≤ sizeLine; decide), fun p hp => give s3 hp (Dq.up s3 _ _ qr) (notR hi)⟩
      | some es =>
      obtain ⟨hlen, hrl⟩ := lr es hi
      obtain ⟨ra, xs, rfl, hq, hS⟩ := seq_at (K := K) (Dq.up s3 _ _ qr) hi
      have hxl := hq.len
      refine iteF ?_
      dsimp only [tNext]
      clear hk2 s02 s2
      -- those that are no rules
      refine seq_cut (fun σ H4 => Same H3 H4 ∧ ∃ D ys, σ = [some (.ref pa), some (.ref D), none, none, some (.ref ka), some vh, some (.ref ra), some vs', some vc, none, none, none, none] ∧ H4 D = some (.lst ys) ∧ ys.head? = (badIx ns 0 es).map intV) ?_ (fun fin => ?_)
      · rintro σ H4 ⟨s34, D, ys, rfl, e4, hy⟩
        have s4 := s3.trans s34
        refine seq_cut (fun σ H5 => Same H4 H5 ∧ badIx ns 0 es = none ∧ σ = [some (.ref pa), some (.ref D), none, none, some (.ref ka), some vh, some (.ref ra), some vs', some vc, none, none, none, none]) ?_ (fun fin => ?_)
        · rintro σ H5 ⟨s45, hbad, rfl⟩
          have s5 := s4.trans s45
          have s35 := s34.trans s45
          have hall := badIx_none hbad
          have qx : ∀ {H' : Hp} {j : Nat} {x : V}, Same H3 H' → xs[j]? = some x → ∃ b zr, ∃ nm : Str, x = .ref b ∧ H' b = some (.tup (.str nm :: zr)) ∧ (es.map nameOf)[j]? = some nm := fun {H' j x} s hx => by
            obtain ⟨e, he, hxe⟩ := hq.get hx
            obtain ⟨nm, k, o, c, rfl⟩ := rule_shape (hall e (List.mem_of_getElem? he))
            have hx3 := Dq.up s _ _ hxe
            simp only [Dq] at hx3
            obtain ⟨b, zs, rfl, hb, hys⟩ := hx3
            simp only [DqAll] at hys
            obtain ⟨y1, yr, rfl, hy1, _⟩ := hys
            simp only [Dq] at hy1
            subst hy1
            exact ⟨b, yr, nm, rfl, hb, by rw [List.getElem?_map, he]; rfl⟩
          -- their names
          refine seq_cut (fun σ H6 => Same H5 H6 ∧ ∃ N, σ = [some (.ref pa), some (.ref D), some (.ref N), none, some (.ref ka), some vh, some (.ref ra), some vs', some vc, none, none, none, none] ∧ H6 N = some (.lst ((es.map nameOf).map V.str))) ?_ (fun fin => ?_)
          · rintro σ H6 ⟨s56, N, rfl, eN⟩
            have s6 := s5.trans s56
            have hnl : (es.map nameOf).length ≤ 1000 := by rw [List.length_map]; exact hlen
            generalize hnms : es.map nameOf = nms at eN hnl
            refine ⟨_, rfl, N, _, rfl, SqL.of eN, fun D2 hD2 => ?_⟩
            refine lc_enum (K := K) (a := N) (xs := nms.map V.str) (fun i H7 => Same H6 H7 ∧ ∃ ys, H7 D2 = some (.lst ys) ∧ ys.length ≤ i ∧ ys.head? = (dupD [] (nms.take i)).map V.str) ⟨same_upd hD2, [], upd_same, Nat.le_refl _, rfl⟩ (fun _ H7 _ h => SqL.of (h.1 _ _ eN)) ?_ ?_
            · rintro i x H7 T hx ⟨s67, ys, e7, hyl, hyh⟩ hT
              rw [List.getElem?_map] at hx
              cases hxi : nms[i]? with
              | none => rw [hxi] at hx; cases hx
              | some nm =>
              rw [hxi] at hx
              cases hx
              have hil : i < nms.length := (List.getElem?_eq_some_iff.mp hxi).1
              have s8 := s67.trans (same_upd (o := .tup [.int (i : Int), .str nm]) hT)
              have e8 := same_upd (o := .tup [.int (i : Int), .str nm]) hT _ _ e7
              have eT : upd H7 T (.tup [.int (i : Int), .str nm]) T = some (.tup [.int (i : Int), .str nm]) := upd_same
              generalize upd H7 T (.tup [.int (i : Int), .str nm]) = H8 at s8 e8 eT
              refine ⟨T, _, rfl, SqT.of eT, rfl, _, _, rfl, _, _, rfl, rfl, rfl, ?_⟩
              refine ⟨_, rfl, _, rfl, _, rfl, (i : Int), rfl, N, _, rfl, SqL.of (s8 _ _ eN), fun p hp => ?_⟩
              rw [cut_take, ← List.map_take]
              have s9 := s8.trans (same_upd (o := .lst ((nms.take i).map V.str)) hp)
              have e9 := same_upd (o := .lst ((nms.take i).map V.str)) hp _ _ e8
              have ep : upd H8 p (.lst ((nms.take i).map V.str)) p = some (.lst ((nms.take i).map V.str)) := upd_same
              generalize upd H8 p (.lst ((nms.take i).map V.str)) = H9 at s9 e9 ep
              refine ⟨p, _, rfl, .inl (SqL.of ep), rfl, flatS _, ?_⟩
              rw [if_neg (by decide), inV_strs]
              have et : nms.take (i + 1) = nms.take i ++ [nm] := by rw [List.take_add_one, hxi]; rfl
              have hb := dupD_snoc (x := nm) (seen := []) (l := nms.take i)
              rw [← et, List.nil_append] at hb
              cases hc : (nms.take i).contains nm with
              | false =>
                rw [hc] at hb
                refine ⟨_, rfl, iteF ⟨s9, ys, e9, by omega, ?_⟩⟩
                rw [hb, hyh]
                cases dupD [] (nms.take i) <;> rfl
              | true =>
                rw [hc] at hb
                refine ⟨_, rfl, iteT ⟨_, rfl, ys, e9, by rw [sizeLine_eq]; omega, same_updX s9 hD2, _, upd_same, by rw [List.length_append]; exact Nat.add_le_add_right hyl 1, ?_⟩⟩
                rw [head_snoc hyh, hb]
                cases dupD [] (nms.take i) <;> rfl
            · rintro H7 ⟨s67, ys, e7, _, hyh⟩
              rw [List.length_map, List.take_length] at hyh
              have s7 := s6.trans s67
              refine ⟨_, rfl, Nat.zero_le _, fun l3 hl3 => ?_⟩
              have s78 := same_upd (o := .lst []) hl3
              have e8 := s78 _ _ e7
              have e88 : upd H7 l3 (.lst []) l3 = some (.lst []) := upd_same
              generalize upd H7 l3 (.lst []) = H8 at s78 e8 e88
              have s8 := s7.trans s78
              refine ⟨D2, l3, ys, rfl, rfl, SqL.of e8, SqL.of e88, ?_⟩
              cases hd : dupD [] nms with
              | some nm =>
                rw [hd] at hyh
                cases ys with
                | nil => cases hyh
                | cons y yr =>
                cases hyh
                refine ⟨_, rfl, iteT ⟨_, rfl, D2, _, 0, .str nm, rfl, rfl, SqL.of e8, (show atI (V.str nm :: yr) ((0 : Nat) : Int) = some (V.str nm) from atI_nat rfl), (by show 2 ≤ sizeLine; decide), fun p hp => ?_⟩⟩
                exact give (e := .str nm) s8 hp (by simp only [Dq]) (by rw [dueBook_rules hk (by rw [ek]; exact hh) (due_dup hi (by rw [ek]; exact hbad) (by rw [hnms]; exact hd))]; exact dueL_eq tag_twice)
              | none =>
              rw [hd] at hyh
              have hy0 : ys = [] := by
                cases ys with
                | nil => rfl
                | cons _ _ => cases hyh
              rw [hy0]
              refine ⟨_, rfl, iteF ?_⟩
              dsimp only [tNext]
              have hok : dueRules (kindsOf dk) dr = none := due_ok hi (by rw [ek]; exact hbad) (by rw [hnms]; exact hd)
              have hh2 : handlesD (kindsOf dk) dh = true := by rw [ek]; exact hh
              -- the start
              have q8 := Dq.up s8 _ _ qs
              have noS : amongD ns ds = false → dueL (dueBook dk dh dr ds dc) = .list [.str "start", ds] := fun z => by rw [dueBook_start hk hh2 hok (by rw [ek]; exact z)]; exact dueL_eq tag_start
              have goS : amongD ns ds = true → tRet (tIf (tB (tCall spIsInt [] E0 (tCons (tVar 8) tNil))) (tLst tNil) (tLst (tCons (tC (V.str "count")) (tCons (tVar 8) tNil)))) { nx := fun x H' => Q V.non H', rt := Q } [some (.ref pa), some (.ref D), some (.ref N), some (.ref D2), some (.ref ka), some vh, some (.ref ra), some vs', some vc, none, none, none, none] H8 := fun z => by
                refine ⟨_, rfl, vc, dc, rfl, Dq.up s8 _ _ qc, _, rfl, ?_⟩
                cases hc : integerD dc with
                | true =>
                  refine iteT ⟨Nat.zero_le _, fun p hp => hQ p _ (s8.trans (same_upd hp)) ?_⟩
                  rw [dueBook_none hk hh2 hok (by rw [ek]; exact z) hc]
                  exact dq_nil ((hY.up s8).new hp) upd_same
                | false =>
                  refine iteF ⟨_, rfl, (by show 2 ≤ sizeLine; decide), fun p hp => ?_⟩
                  exact give s8 hp (Dq.up s8 _ _ qc) (by rw [dueBook_count hk hh2 hok (by rw [ek]; exact z) hc]; exact dueL_eq tag_count)
              cases ds with
              | str x =>
                simp only [Dq] at q8
                subst q8
                refine ⟨_, rfl, _, _, _, _, true, rfl, .ty "str", .base (.str x), kit_ty (by decide +kernel), _, rfl, ?_⟩
                refine ⟨_, rfl, _, rfl, ka, _, rfl, .inl (SqL.of ((s34.trans (s45.trans (s56.trans (s67.trans s78)))) _ _ hk3)), rfl, flatS _, ?_⟩
                rw [if_pos rfl, inV_strs]
                cases hc : ns.contains x with
                | true => exact ⟨_, rfl, iteF (goS hc)⟩
                | false => exact ⟨_, rfl, iteT ⟨_, rfl, (by show 2 ≤ sizeLine; decide), fun p hp => give s8 hp (by simp only [Dq]) (noS hc)⟩⟩
              | _ => exact ⟨_, rfl, _, _, _, _, false, rfl, .ty "str", q8.ty, kit_ty (by simp only [tagD]; decide +kernel), _, rfl, iteT ⟨_, rfl, (by show 2 ≤ sizeLine; decide), fun p hp => give s8 hp q8 (noS rfl)⟩⟩
          · refine ⟨_, rfl, ra, rfl, ?_⟩
            rcases hS with ⟨hS, _⟩ | ⟨hS, _⟩
            · refine .inl ⟨⟨xs, s35.seq hS⟩, fun D2 hD2 => lc_flat ((es.map nameOf).map V.str) (by rw [List.length_map, List.length_map, hxl]) (by omega) (s35.seq hS) hD2 (fun j x y H6 Q6 hx hy s56 q6 => ?_) fun H6 s56 e6 => ?_⟩
              · obtain ⟨b, zr, nm, rfl, hb, hn⟩ := qx (s35.trans s56) hx
                rw [List.getElem?_map, hn] at hy
                cases hy
                exact ⟨_, rfl, b, _, 0, .str nm, rfl, rfl, SqT.of hb, (show atI (V.str nm :: zr) ((0 : Nat) : Int) = some (V.str nm) from atI_nat rfl), q6 H6 (Same.refl H6)⟩
              · exact fin _ _ ⟨s56, D2, rfl, e6⟩
            · refine .inr ⟨⟨xs, sqT_up s35 hS⟩, fun D2 hD2 => lt_flat ((es.map nameOf).map V.str) (by rw [List.length_map, List.length_map, hxl]) (by omega) (sqT_up s35 hS) hD2 (fun j x y H6 Q6 hx hy s56 q6 => ?_) fun H6 s56 e6 => ?_⟩
              · obtain ⟨b, zr, nm, rfl, hb, hn⟩ := qx (s35.trans s56) hx
                rw [List.getElem?_map, hn] at hy
                cases hy
                exact ⟨_, rfl, b, _, 0, .str nm, rfl, rfl, SqT.of hb, (show atI (V.str nm :: zr) ((0 : Nat) : Int) = some (V.str nm) from atI_nat rfl), q6 H6 (Same.refl H6)⟩
              · exact fin _ _ ⟨s56, D2, rfl, e6⟩
        · refine ⟨_, rfl, Nat.zero_le _, fun l3 hl3 => ?_⟩
          have s45 := same_upd (o := .lst []) hl3
          have e5 := s45 _ _ e4
          have e55 : upd H4 l3 (.lst []) l3 = some (.lst []) := upd_same
          generalize upd H4 l3 (.lst []) = H5 at s45 e5 e55
          refine ⟨D, l3, ys, rfl, rfl, SqL.of e5, SqL.of e55, ?_⟩
          cases hb : badIx ns 0 es with
          | none =>
            rw [hb] at hy
            have hy0 : ys = [] := by
              cases ys with
              | nil => rfl
              | cons _ _ => cases hy
            rw [hy0]
            exact ⟨_, rfl, iteF (fin _ _ ⟨s45, hb, rfl⟩)⟩
          | some i =>
            rw [hb] at hy
            cases ys with
            | nil => cases hy
            | cons y yr =>
            cases hy
            refine ⟨_, rfl, iteT ⟨_, rfl, D, _, 0, .int (i : Int), rfl, rfl, SqL.of e5, (show atI (V.int (i : Int) :: yr) ((0 : Nat) : Int) = some (V.int (i : Int)) from atI_nat rfl), (by show 2 ≤ sizeLine; decide), fun p hp => ?_⟩⟩
            exact give (e := .int (i : Int)) (s4.trans s45) hp (by simp only [Dq]) (by rw [dueBook_rules hk (by rw [ek]; exact hh) (due_bad hi (by rw [ek]; exact hb))]; exact dueL_eq tag_rule)
      · refine ⟨_, rfl, ra, rfl, ?_⟩
        have turn : ∀ (i : Nat) (x : V) (H4 : Hp) (D T : Addr), H3 D = none → xs[i]? = some x → (Same H3 H4 ∧ ∃ ys, H4 D = some (.lst ys) ∧ ys.length ≤ i ∧ ys.head? = (badIx ns 0 (es.take i)).map intV) → H4 T = none →
            gTup K 2 (gCons (gName 10) (gCons (gName 9) gNil)) (.ref T) [some (.ref pa), none, none, none, some (.ref ka), some vh, some (.ref ra), some vs', some vc, none, none, none, none] (upd H4 T (.tup [.int (i : Int), x])) fun σ2 H5 => wipe σ2 [10, 9] = wipe [some (.ref pa), none, none, none, some (.ref ka), some vh, some (.ref ra), some vs', some vc, none, none, none, none] [10, 9] ∧
              tNot (tB (tCall (spLRule K) [] E0 (tCons (tVar 4) (tCons (tVar 9) tNil)))) σ2 H5 fun b H6 => if b = true then tVar 10 σ2 H6 fun y H7 => ∃ acc, H7 D = some (.lst acc) ∧ acc.length < sizeLine ∧ (Same H3 (upd H7 D (.lst (acc ++ [y]))) ∧ ∃ ys, (upd H7 D (.lst (acc ++ [y]))) D = some (.lst ys) ∧ ys.length ≤ i + 1 ∧ ys.head? = (badIx ns 0 (es.take (i + 1))).map intV) else (Same H3 H6 ∧ ∃ ys, H6 D = some (.lst ys) ∧ ys.length ≤ i + 1 ∧ ys.head? = (badIx ns 0 (es.take (i + 1))).map intV) := fun i x H4 D T hD hx h hT => by
          obtain ⟨s4, ys, e4, hyl, hyh⟩ := h
          obtain ⟨e, he, hxe⟩ := hq.get hx
          have hil : i < es.length := (List.getElem?_eq_some_iff.mp he).1
          have s5 := s4.trans (same_upd (o := .tup [.int (i : Int), x]) hT)
          have e5 := same_upd (o := .tup [.int (i : Int), x]) hT _ _ e4
          have eT : upd H4 T (.tup [.int (i : Int), x]) T = some (.tup [.int (i : Int), x]) := upd_same
          generalize upd H4 T (.tup [.int (i : Int), x]) = H5 at s5 e5 eT
          refine ⟨T, _, rfl, SqT.of eT, rfl, _, _, rfl, _, _, rfl, rfl, rfl, ?_⟩
          refine ⟨_, rfl, _, rfl, ka, x, e, ns, rfl, SqL.of (s5 _ _ hk3), Dq.up s5 _ _ hxe, hrl e (List.mem_of_getElem? he), fun H6 s6 => ⟨_, rfl, ?_⟩⟩
          have et : es.take (i + 1) = es.take i ++ [e] := by rw [List.take_add_one, he]; rfl
          have hb := badIx_snoc (ns := ns) (e := e) (n := 0) (l := es.take i)
          rw [← et, List.length_take, Nat.min_eq_left (by omega), Nat.zero_add] at hb
          have e6 := s6 _ _ e5
          cases hr : ruleD ns e with
          | true =>
            rw [hr] at hb
            refine iteF ⟨s5.trans s6, ys, e6, by omega, ?_⟩
            rw [hb, hyh]
            cases badIx ns 0 (es.take i) <;> rfl
          | false =>
            rw [hr] at hb
            refine iteT ⟨_, rfl, ys, e6, by rw [sizeLine_eq]; omega, same_updX (s5.trans s6) hD, _, upd_same, by rw [List.length_append]; exact Nat.add_le_add_right hyl 1, ?_⟩
            rw [head_snoc hyh, hb]
            cases badIx ns 0 (es.take i) <;> rfl
        have endW : ∀ (H4 : Hp) (D : Addr), (Same H3 H4 ∧ ∃ ys, H4 D = some (.lst ys) ∧ ys.length ≤ xs.length ∧ ys.head? = (badIx ns 0 (es.take xs.length)).map intV) → (Same H3 H4 ∧ ∃ D' ys, [some (.ref pa), some (.ref D), none, none, some (.ref ka), some vh, some (.ref ra), some vs', some vc, none, none, none, none] = [some (.ref pa), some (.ref D'), none, none, some (.ref ka), some vh, some (.ref ra), some vs', some vc, none, none, none, none] ∧ H4 D' = some (.lst ys) ∧ ys.head? = (badIx ns 0 es).map intV) := fun H4 D h => by
          obtain ⟨s4, ys, e4, _, hyh⟩ := h
          rw [hxl, List.take_length] at hyh
          exact ⟨s4, D, ys, rfl, e4, hyh⟩
        rcases hS with ⟨hS, _⟩ | ⟨hS, _⟩
        · refine .inl ⟨⟨xs, hS⟩, fun D hD => lc_enum (K := K) (a := ra) (xs := xs) (fun i H4 => Same H3 H4 ∧ ∃ ys, H4 D = some (.lst ys) ∧ ys.length ≤ i ∧ ys.head? = (badIx ns 0 (es.take i)).map intV) ⟨same_upd hD, [], upd_same, Nat.le_refl _, rfl⟩ (fun _ H4 _ h => h.1.seq hS) (fun i x H4 T hx h hT => turn i x H4 D T hD hx h hT) fun H4 h => fin _ _ (endW H4 D h)⟩
        · refine .inr ⟨⟨xs, hS⟩, fun D hD => lt_enum (K := K) (a := ra) (xs := xs) (fun i H4 => Same H3 H4 ∧ ∃ ys, H4 D = some (.lst ys) ∧ ys.length ≤ i ∧ ys.head? = (badIx ns 0 (es.take i)).map intV) ⟨same_upd hD, [], upd_same, Nat.le_refl _, rfl⟩ (fun _ H4 _ h => sqT_up h.1 hS) (fun i x H4 T hx h hT => turn i x H4 D T hD hx h hT) fun H4 h => fin _ _ (endW H4 D h)⟩
    · refine ⟨vh, rfl, vh, dh, rfl, Dq.up s1 _ _ qh, lh, fun H2 s2 => ⟨_, rfl, ?_⟩⟩
      have s02 := s1.trans s2
      have no : ∀ {H3 : Hp} {p : Addr}, Same H H3 → H3 p = none → handlesD ns dh = false → Q (.ref p) (upd H3 p (.lst [.str "handles", vh])) := fun {H3 p} s3 hp hf =>
        give s3 hp (Dq.up s3 _ _ qh) (by rw [dueBook_handles hk (by rw [ek]; exact hf)]; exact dueL_eq tag_handles)
      cases hu : unlikesD dh with
      | false => exact ⟨_, rfl, (by show 2 ≤ sizeLine; decide), fun p hp => no s02 hp (by rw [handlesD_eq hnm, hu]; rfl)⟩
      | true =>
      obtain ⟨hs0, ih, ah, bh, ch⟩ := unlikes_true hu
      obtain ⟨hh1, _⟩ := lh hs0 ih
      have hk2 : H2 ka = some (.lst (ns.map V.str)) := s2 _ _ hKL
      have eh : handlesD ns dh = hs0.all (amongD ns) := by rw [handlesD_eq hnm, hu, ih]; rfl
      obtain ⟨ha, xs, rfl, hq, hS⟩ := seq_at (K := K) (Dq.up s02 _ _ qh) ih
      have hxl := hq.len
      have test : ∀ x e H3 (Q2 : Bool → Hp → Prop), e ∈ hs0 → Dq H3 e x → Same H2 H3 → (∀ H4, Same H3 H4 → Q2 (!amongD ns e) H4) → tTest (tOp (rIn K true) (tVar 12) (tVar 4)) [some (.ref pa), none, none, none, some (.ref ka), some (.ref ha), some vr, some vs', some vc, none, none, none, some x] H3 Q2 := fun x e H3 Q2 hm he s3 q2 => by
        have := List.all_eq_true.mp ah e hm
        cases e with
        | str y =>
          simp only [Dq] at he
          subst he
          refine ⟨_, rfl, _, rfl, ka, _, rfl, .inl (SqL.of (s3 _ _ hk2)), rfl, flatS _, ?_⟩
          rw [if_pos rfl, inV_strs]
          exact ⟨_, rfl, q2 H3 (Same.refl H3)⟩
        | _ => cases this
      refine ⟨_, rfl, ha, rfl, ?_⟩
      rcases hS with ⟨hS, _⟩ | ⟨hS, _⟩
      · refine .inl ⟨⟨xs, hS⟩, fun D hD => lc_filtD (fun e => !amongD ns e) hq (by show 12 < 13; decide) (by omega) hS hD (fun x e H3 Q2 hm he s3 q2 => test x e H3 Q2 hm he s3 q2) fun H3 ys s3 e3 hy => ?_⟩
        refine ⟨Nat.zero_le _, fun l3 hl3 => ?_⟩
        have s4 := same_upd (o := .lst []) hl3
        have e4 := s4 _ _ e3
        have e44 : upd H3 l3 (.lst []) l3 = some (.lst []) := upd_same
        generalize upd H3 l3 (.lst []) = H4 at s4 e4 e44
        refine ⟨D, l3, ys, rfl, rfl, SqL.of e4, SqL.of e44, ?_⟩
        rw [filter_none hy, show (hs0.all fun e => !!amongD ns e) = hs0.all (amongD ns) by simp, ← eh]
        cases hf : handlesD ns dh with
        | false => exact ⟨_, rfl, iteT ⟨_, rfl, (by show 2 ≤ sizeLine; decide), fun p hp => no (s02.trans (s3.trans s4)) hp hf⟩⟩
        | true => exact ⟨_, rfl, iteF (fin _ _ ⟨rfl, s2.trans (s3.trans s4), hf⟩)⟩
      · refine .inr ⟨⟨xs, hS⟩, fun D hD => lt_filtD (fun e => !amongD ns e) hq (by show 12 < 13; decide) (by omega) hS hD (fun x e H3 Q2 hm he s3 q2 => test x e H3 Q2 hm he s3 q2) fun H3 ys s3 e3 hy => ?_⟩
        refine ⟨Nat.zero_le _, fun l3 hl3 => ?_⟩
        have s4 := same_upd (o := .lst []) hl3
        have e4 := s4 _ _ e3
        have e44 : upd H3 l3 (.lst []) l3 = some (.lst []) := upd_same
        generalize upd H3 l3 (.lst []) = H4 at s4 e4 e44
        refine ⟨D, l3, ys, rfl, rfl, SqL.of e4, SqL.of e44, ?_⟩
        rw [filter_none hy, show (hs0.all fun e => !!amongD ns e) = hs0.all (amongD ns) by simp, ← eh]
        cases hf : handlesD ns dh with
        | false => exact ⟨_, rfl, iteT ⟨_, rfl, (by show 2 ≤ sizeLine; decide), fun p hp => no (s02.trans (s3.trans s4)) hp hf⟩⟩
        | true => exact ⟨_, rfl, iteF (fin _ _ ⟨rfl, s2.trans (s3.trans s4), hf⟩)⟩
end
end Dw
namespace Dw
open PySem PySem.Spec PyProof.Rows L2 He Fh
abbrev sGood : Stmt := top 19
section
variable {P : Program} {w : World} {K : PySem.W.Frag} {mg : Str → Option Value} {base : Heap}
theorem scGood : FnScope ["value", "kinds", "table", "rule", "number", "name"] ["value", "kinds"] (defScope sGood) := ⟨rfl, rfl, rfl, by decide +kernel, rfl, by decide +kernel, by decide +kernel⟩
theorem ok_good {f fR : Addr} {fd fdR : FuncData} (F : FnP K "checked_rules" sGood f fd) (g_isinstance : mg "isinstance" = none) (g_tuple : mg "tuple" = none) (g_list : mg "list" = none) (g_enumerate : mg "enumerate" = none)
    (G_is_rule : FnOk P w K mg base CX0 2 fR fdR ["value", "kinds"] (spIsRule K)) (m_is_rule : mg "is_rule" = some (.ref fR)) (k_is_rule : PySem.W.keepIn K (.ref fR) = true) (b_is_rule : Binds K fdR ["value", "kinds"] []) :
    FnOk P w K mg base CX0 3 f fd ["value", "kinds"] (spGood K) := by
  refine F.ok scGood (fun vs H Q E h => ?_) (fun cdv A outer s H vs Q E hr h => ?_)
  · obtain ⟨a, xs, ds, u, ns, rfl, _⟩ := h
    rfl
  · obtain ⟨a, xs, ds, u, ns, rfl, hS, hq, hN, hl, hok, hnd, hQ⟩ := h
    have r_is_rule := hr
    have hu := hu_of hr
    refine ⟨_, PSs.nox (pss_cons (ps_if (pt_not (pt_val (pe_callB call_isiT (by rfl) g_isinstance (by decide +kernel) (pa_cons (pv 0) (pa_cons (pe_tup (pa_cons (pe_bltn (v := .ty "list") (by rfl) g_list (by decide +kernel) rfl) (pa_cons (pe_bltn (v := .ty "tuple") (by rfl) g_tuple (by decide +kernel) rfl) pa_nil))) pa_nil)))))
 (pss_one ps_never) pss_nil)
 (pss_cons (ps_for PassesOwn.never rfl (pi_enumS (by rfl) g_enumerate (pa_cons (pv 0) pa_nil)) (pg_tup (by rfl) (pgs_cons (pg_name (i := 4) scGood.nd rfl (by first | exact Or.inl rfl | exact Or.inr rfl)) (pgs_cons (pg_name (i := 3) scGood.nd rfl (by first | exact Or.inl rfl | exact Or.inr rfl)) pgs_nil)))
 (pss_one (ps_if (pt_not (pt_val (pe_call G_is_rule r_is_rule rfl m_is_rule k_is_rule b_is_rule .nil pass0 (pa_cons (pv 3) (pa_cons (pv 1) pa_nil)))))
 (pss_one ps_never) pss_nil)))
 (pss_cons (ps_set (i := 2) scGood.nd rfl (by first | exact Or.inl rfl | exact Or.inr rfl) pe_dnewK)
 (pss_cons (ps_for PassesOwn.never rfl (pi_seq (K := K) (pv 0)) (pg_name (i := 3) scGood.nd rfl (by first | exact Or.inl rfl | exact Or.inr rfl))
 (pss_cons (ps_set (i := 5) scGood.nd rfl (by first | exact Or.inl rfl | exact Or.inr rfl) (pe_ix ix_tup (pv 3) pe_int (fun _ _ => rfl)))
 (pss_cons (ps_if (pt_cmpR (op_inN (K := K) hu) (pv 5) (pv 2) (by rfl))
 (pss_one ps_never) pss_nil)
 (pss_one (ps_dput hu (pv 2) (pv 5) (pv 3) rfl)))))
 (pss_one (ps_ret (pv 2))))))), ?_⟩
    refine ⟨_, rfl, (by show 2 ≤ sizeLine; decide), fun tp htp => ?_⟩
    have s1 := same_upd (o := .tup [.ty "list", .ty "tuple"]) htp
    have e1 : upd H tp (.tup [.ty "list", .ty "tuple"]) tp = some (.tup [.ty "list", .ty "tuple"]) := upd_same
    generalize upd H tp (.tup [.ty "list", .ty "tuple"]) = H1 at s1 e1
    obtain ⟨ty, hty, hkit⟩ := seq_kit (hS H1 s1)
    refine ⟨.ref a, tp, [.ty "list", .ty "tuple"], ty, [.type "list", .type "tuple"], true, rfl, e1, .cons (.ty _) (.cons (.ty _) .nil), hty, hkit, _, rfl, ?_⟩
    have hxl := hq.len
    dsimp only [Bool.not_true]
    refine iteF ?_
    dsimp only [tNext]
    refine seq_cut (fun σ H2 => Same H1 H2 ∧ ∃ o2 o3 o4 o5 : Option V, σ = [some (.ref a), some u, o2, o3, o4, o5]) ?_ (fun fin => ?_)
    · rintro σ H2 ⟨s2, o2, o3, o4, o5, rfl⟩
      intro p hp
      have s3 := s2.trans (same_upd (o := .dK []) hp)
      have np1 : H1 p = none := s2.free hp
      have npH : H p = none := s1.free np1
      dsimp only [gName]
      refine seq_cut (fun σ H3 => Same H1 H3 ∧ (∃ kvs, H3 p = some (.dK kvs) ∧ kvs.map (·.1) = (ds.map nameOf).map Sum.inr ∧ kvs.map (·.2) = xs) ∧ ∃ o3 o4 o5 : Option V, σ = [some (.ref a), some u, some (.ref p), o3, o4, o5]) ?_ (fun fin => ?_)
      · rintro σ H3 ⟨s4, ⟨kvs, e4, h1, h2⟩, o3, o4, o5, rfl⟩
        exact ⟨_, rfl, hQ p kvs H3 (s1.trans s4) npH e4 h1 h2⟩
      · refine ⟨_, rfl, a, rfl, ?_⟩
        rcases hS H1 s1 with ⟨hs, _⟩ | ⟨hs, _⟩
        · refine .inl ⟨⟨xs, s3.seq hs⟩, for_list (K := K) (a := a) (xs := xs) (fun i σ H3 => Same H1 H3 ∧ (∃ kvs, H3 p = some (.dK kvs) ∧ kvs.map (·.1) = ((ds.take i).map nameOf).map Sum.inr ∧ kvs.map (·.2) = xs.take i) ∧ ∃ o3 o4 o5 : Option V, σ = [some (.ref a), some u, some (.ref p), o3, o4, o5])
            ⟨s3, ⟨[], upd_same, rfl, rfl⟩, _, _, _, rfl⟩ (fun _ _ H3 _ h => h.1.seq hs) ?_ ?_⟩
          · rintro i x σ H3 hx ⟨s4, ⟨kvs, e4, h1, h2⟩, o3, o4, o5, rfl⟩
            obtain ⟨e, he, hxe⟩ := hq.get hx
            obtain ⟨k1, k2⟩ := hok e (List.mem_of_getElem? he)
            have hnk := new_key hnd he
            have hil : i < ds.length := (List.getElem?_eq_some_iff.mp he).1
            have hkl := congrArg List.length h1
            rw [List.length_map, List.length_map, List.length_map, List.length_take] at hkl
            obtain ⟨nm, k, o, c, rfl⟩ := rule_shape k2
            have hx3 := Dq.up (s1.trans s4) _ _ hxe
            simp only [Dq] at hx3
            obtain ⟨b, ys, rfl, hb, hys⟩ := hx3
            simp only [DqAll] at hys
            obtain ⟨y1, yr, rfl, hy1, _⟩ := hys
            simp only [Dq] at hy1
            subst hy1
            have hno : (valV kvs (Sum.inr nm : Key)).isSome = false := by
              rw [key_some h1]
              exact hnk
            have hnone : valV kvs (Sum.inr nm : Key) = none := by
              cases q : valV kvs (Sum.inr nm : Key) with
              | none => rfl
              | some _ => rw [q] at hno; cases hno
            refine ⟨_, rfl, b, _, 0, .str nm, rfl, rfl, SqT.of hb, (show atI (V.str nm :: yr) ((0 : Nat) : Int) = some (V.str nm) from atI_nat rfl), ?_⟩
            refine ⟨_, rfl, _, rfl, .inl ⟨p, _, rfl, DGet.k (k := (Sum.inr nm : Key)) e4, _, rfl, ?_⟩⟩
            rw [hno]
            refine iteF ?_
            refine ⟨_, rfl, _, rfl, _, rfl, p, _, rfl, DPut.k (k := (Sum.inr nm : Key)) e4 (by rw [sizeLine_eq]; omega), ?_⟩
            refine ⟨same_updX s4 np1, ⟨_, upd_same, ?_, ?_⟩, _, _, _, rfl⟩
            · rw [putK_new _ hnone, List.map_append, h1, List.take_add_one, he, List.map_append, List.map_append]
              rfl
            · rw [putK_new _ hnone, List.map_append, h2, List.take_add_one, hx]
              rfl
          · rintro σ H3 ⟨s4, ⟨kvs, e4, h1, h2⟩, o⟩
            rw [hxl, List.take_length] at h1
            rw [List.take_length] at h2
            exact fin σ H3 ⟨s4, ⟨kvs, e4, h1, h2⟩, o⟩
        · refine .inr ⟨⟨xs, sqT_up s3 hs⟩, for_tup (K := K) (a := a) (xs := xs) (fun i σ H3 => Same H1 H3 ∧ (∃ kvs, H3 p = some (.dK kvs) ∧ kvs.map (·.1) = ((ds.take i).map nameOf).map Sum.inr ∧ kvs.map (·.2) = xs.take i) ∧ ∃ o3 o4 o5 : Option V, σ = [some (.ref a), some u, some (.ref p), o3, o4, o5])
            ⟨s3, ⟨[], upd_same, rfl, rfl⟩, _, _, _, rfl⟩ (fun _ _ H3 _ h => sqT_up h.1 hs) ?_ ?_⟩
          · rintro i x σ H3 hx ⟨s4, ⟨kvs, e4, h1, h2⟩, o3, o4, o5, rfl⟩
            obtain ⟨e, he, hxe⟩ := hq.get hx
            obtain ⟨k1, k2⟩ := hok e (List.mem_of_getElem? he)
            have hnk := new_key hnd he
            have hil : i < ds.length := (List.getElem?_eq_some_iff.mp he).1
            have hkl := congrArg List.length h1
            rw [List.length_map, List.length_map, List.length_map, List.length_take] at hkl
            obtain ⟨nm, k, o, c, rfl⟩ := rule_shape k2
            have hx3 := Dq.up (s1.trans s4) _ _ hxe
            simp only [Dq] at hx3
            obtain ⟨b, ys, rfl, hb, hys⟩ := hx3
            simp only [DqAll] at hys
            obtain ⟨y1, yr, rfl, hy1, _⟩ := hys
            simp only [Dq] at hy1
            subst hy1
            have hno : (valV kvs (Sum.inr nm : Key)).isSome = false := by
              rw [key_some h1]
              exact hnk
            have hnone : valV kvs (Sum.inr nm : Key) = none := by
              cases q : valV kvs (Sum.inr nm : Key) with
              | none => rfl
              | some _ => rw [q] at hno; cases hno
            refine ⟨_, rfl, b, _, 0, .str nm, rfl, rfl, SqT.of hb, (show atI (V.str nm :: yr) ((0 : Nat) : Int) = some (V.str nm) from atI_nat rfl), ?_⟩
            refine ⟨_, rfl, _, rfl, .inl ⟨p, _, rfl, DGet.k (k := (Sum.inr nm : Key)) e4, _, rfl, ?_⟩⟩
            rw [hno]
            refine iteF ?_
            refine ⟨_, rfl, _, rfl, _, rfl, p, _, rfl, DPut.k (k := (Sum.inr nm : Key)) e4 (by rw [sizeLine_eq]; omega), ?_⟩
            refine ⟨same_updX s4 np1, ⟨_, upd_same, ?_, ?_⟩, _, _, _, rfl⟩
            · rw [putK_new _ hnone, List.map_append, h1, List.take_add_one, he, List.map_append, List.map_append]
              rfl
            · rw [putK_new _ hnone, List.map_append, h2, List.take_add_one, hx]
              rfl
          · rintro σ H3 ⟨s4, ⟨kvs, e4, h1, h2⟩, o⟩
            rw [hxl, List.take_length] at h1
            rw [List.take_length] at h2
            exact fin σ H3 ⟨s4, ⟨kvs, e4, h1, h2⟩, o⟩
    · refine ⟨_, rfl, a, rfl, ?_⟩
      have isL := hS H1 s1
      rcases isL with ⟨hs, _⟩ | ⟨hs, _⟩
      · refine .inl ⟨⟨xs, hs⟩, for_enumL (K := K) (a := a) (xs := xs) (fun i σ H2 => Same H1 H2 ∧ ∃ o2 o3 o4 o5 : Option V, σ = [some (.ref a), some u, o2, o3, o4, o5]) ⟨Same.refl H1, none, none, none, none, rfl⟩ (fun _ _ H2 _ h => h.1.seq hs) ?_ (fun σ H2 h => fin σ H2 h)⟩
        rintro i x σ H2 T hx ⟨s2, o2, o3, o4, o5, rfl⟩ hT
        have s3 := s2.trans (same_upd (o := .tup [.int (i : Int), x]) hT)
        obtain ⟨e, he, hxe⟩ := hq.get hx
        obtain ⟨k1, k2⟩ := hok e (List.mem_of_getElem? he)
        refine ⟨T, _, rfl, SqT.of upd_same, rfl, _, _, rfl, _, _, rfl, rfl, ?_⟩
        refine ⟨_, rfl, _, rfl, x, u, e, ns, rfl, Dq.up (s1.trans s3) _ _ hxe, k1, hN.up (s1.trans s3), fun H3 s4 => ⟨_, rfl, ?_⟩⟩
        rw [k2]
        exact ⟨s3.trans s4, _, _, _, _, rfl⟩
      · refine .inr ⟨⟨xs, hs⟩, for_enumT (K := K) (a := a) (xs := xs) (fun i σ H2 => Same H1 H2 ∧ ∃ o2 o3 o4 o5 : Option V, σ = [some (.ref a), some u, o2, o3, o4, o5]) ⟨Same.refl H1, none, none, none, none, rfl⟩ (fun _ _ H2 _ h => sqT_up h.1 hs) ?_ (fun σ H2 h => fin σ H2 h)⟩
        rintro i x σ H2 T hx ⟨s2, o2, o3, o4, o5, rfl⟩ hT
        have s3 := s2.trans (same_upd (o := .tup [.int (i : Int), x]) hT)
        obtain ⟨e, he, hxe⟩ := hq.get hx
        obtain ⟨k1, k2⟩ := hok e (List.mem_of_getElem? he)
        refine ⟨T, _, rfl, SqT.of upd_same, rfl, _, _, rfl, _, _, rfl, rfl, ?_⟩
        refine ⟨_, rfl, _, rfl, x, u, e, ns, rfl, Dq.up (s1.trans s3) _ _ hxe, k1, hN.up (s1.trans s3), fun H3 s4 => ⟨_, rfl, ?_⟩⟩
        rw [k2]
        exact ⟨s3.trans s4, _, _, _, _, rfl⟩
end
end Dw
namespace Dw
open PySem PySem.Spec PyProof.Rows L2 He Fh
abbrev sBookI : Stmt := inClass (top 20) 0
section
variable {P : Program} {w : World} {K : PySem.W.Frag} {mg : Str → Option Value} {base : Heap}
theorem scBookI : FnScope ["self", "kinds", "handles", "rules", "start", "count", "kind"] ["self", "kinds", "handles", "rules", "start", "count"] (defScope sBookI) := ⟨rfl, rfl, rfl, by decide +kernel, rfl, by decide +kernel, by decide +kernel⟩
theorem ok_bookI {f fK fH fG fA fI C : Addr} {fd fdK fdH fdG fdA fdI : FuncData} (F : FunD K "__init__" "Book.__init__" (defArgs sBookI) (defBody sBookI) (defScope sBookI) [] [] f fd) (B : BookC K C)
    (G_are_kinds : FnOk P w K mg base CX0 2 fK fdK ["value"] spKinds) (m_are_kinds : mg "are_kinds" = some (.ref fK)) (k_are_kinds : PySem.W.keepIn K (.ref fK) = true) (b_are_kinds : Binds K fdK ["value"] [])
    (G_are_handles : FnOk P w K mg base CX0 2 fH fdH ["value", "kinds"] (spHandles K)) (m_are_handles : mg "are_handles" = some (.ref fH)) (k_are_handles : PySem.W.keepIn K (.ref fH) = true) (b_are_handles : Binds K fdH ["value", "kinds"] [])
    (G_checked_rules : FnOk P w K mg base CX0 3 fG fdG ["value", "kinds"] (spGood K)) (m_checked_rules : mg "checked_rules" = some (.ref fG)) (k_checked_rules : PySem.W.keepIn K (.ref fG) = true) (b_checked_rules : Binds K fdG ["value", "kinds"] [])
    (G_is_among : FnOk P w K mg base CX0 1 fA fdA ["value", "names"] (spAmong K)) (m_is_among : mg "is_among" = some (.ref fA)) (k_is_among : PySem.W.keepIn K (.ref fA) = true) (b_is_among : Binds K fdA ["value", "names"] [])
    (G_is_integer : FnOk P w K mg base CX0 1 fI fdI ["value"] spIsInt) (m_is_integer : mg "is_integer" = some (.ref fI)) (k_is_integer : PySem.W.keepIn K (.ref fI) = true) (b_is_integer : Binds K fdI ["value"] []) :
    FnOk P w K mg base CX0 4 f fd ["self", "kinds", "handles", "rules", "start", "count"] (spBook C) := by
  refine F.ok scBookI (fun vs H Q E h => ?_) (fun cdv A outer s H vs Q E hr h => ?_)
  · obtain ⟨p, dx, ka, ha, ra, ks, hs, us, rs, st, c, rfl, _⟩ := h
    rfl
  · obtain ⟨p, dx, ka, ha, ra, ks, hs, us, rs, st, c, rfl, hp, hK, hH, hR, hU, hB, hQ⟩ := h
    have r_checked_rules := hr
    have r_are_kinds : Room 2 _ := hr.mono (by decide)
    have r_are_handles : Room 2 _ := hr.mono (by decide)
    have r_is_among : Room 1 _ := hr.mono (by decide)
    have r_is_integer : Room 1 _ := hr.mono (by decide)
    refine ⟨_, PSs.nox (pss_cons (ps_if (pt_not (pt_val (pe_call G_are_kinds r_are_kinds rfl m_are_kinds k_are_kinds b_are_kinds .nil pass0 (pa_cons (pv 1) pa_nil))))
 (pss_one ps_never) pss_nil)
 (pss_cons (ps_fld (pv 0) (pe_dc (own := [("kind", 6)]) (g := (gName 6)) (by rfl) scBookI.nd (pi_seq (K := K) (pv 1)) (blkOk_by (own := [("kind", 6)]) (N := ["self", "kinds", "handles", "rules", "start", "count", "kind"]) (sc := defScope sBookI) (by decide +kernel)) (fun _ _ _ _ _ => pg_name (i := 6) scBookI.nd rfl (by first | exact Or.inl rfl | exact Or.inr rfl)) (fun _ _ _ _ _ => pts_nil) (fun _ _ _ _ _ => (pv 6)) (fun _ _ _ _ _ => pe_bl)) rfl)
 (pss_cons (ps_if (pt_not (pt_val (pe_call G_are_handles r_are_handles rfl m_are_handles k_are_handles b_are_handles .nil pass0 (pa_cons (pv 2) (pa_cons (pe_fld (pv 0) rfl) pa_nil)))))
 (pss_one ps_never) pss_nil)
 (pss_cons (ps_fld (pv 0) (pe_dc (own := [("kind", 6)]) (g := (gName 6)) (by rfl) scBookI.nd (pi_seq (K := K) (pv 2)) (blkOk_by (own := [("kind", 6)]) (N := ["self", "kinds", "handles", "rules", "start", "count", "kind"]) (sc := defScope sBookI) (by decide +kernel)) (fun _ _ _ _ _ => pg_name (i := 6) scBookI.nd rfl (by first | exact Or.inl rfl | exact Or.inr rfl)) (fun _ _ _ _ _ => pts_nil) (fun _ _ _ _ _ => (pv 6)) (fun _ _ _ _ _ => pe_bl)) rfl)
 (pss_cons (ps_fld (pv 0) (pe_call G_checked_rules r_checked_rules rfl m_checked_rules k_checked_rules b_checked_rules .nil pass0 (pa_cons (pv 3) (pa_cons (pe_fld (pv 0) rfl) pa_nil))) rfl)
 (pss_cons (ps_if (pt_not (pt_val (pe_call G_is_among r_is_among rfl m_is_among k_is_among b_is_among .nil pass0 (pa_cons (pv 4) (pa_cons (pe_fld (pv 0) rfl) pa_nil)))))
 (pss_one ps_never) pss_nil)
 (pss_cons (ps_fld (pv 0) (pv 4) rfl)
 (pss_cons (ps_if (pt_not (pt_val (pe_call G_is_integer r_is_integer rfl m_is_integer k_is_integer b_is_integer .nil pass0 (pa_cons (pv 5) pa_nil))))
 (pss_one ps_never) pss_nil)
 (pss_one (ps_fld (pv 0) (pv 5) rfl)))))))))), ?_⟩
    obtain ⟨kd, hkd, ikd⟩ := hK.dq (dq_strs (H := H) ks)
    obtain ⟨hk1, hk2⟩ := hB.kinds ikd
    refine ⟨_, rfl, .ref ka, kd, rfl, hkd, hk2, fun H1 s1 => ⟨_, rfl, ?_⟩⟩
    rw [hk1]
    dsimp only [Bool.not_true]
    refine iteF ?_
    dsimp only [tNext]
    have hp1 := s1 _ _ hp
    refine seq_cut (fun σ H2 => σ = [some (.ref p), some (.ref ka), some (.ref ha), some (.ref ra), some (.str st), some (.int c), none] ∧ But p H H2 ∧ ∃ dk, H2 p = some (.ins C dx [("_kinds", .ref dk)]) ∧ H2 dk = some (.dK (marks ks))) ?_ (fun fin => ?_)
    · rintro σ H2 ⟨rfl, b2, dk, hp2, hdk⟩
      have tk2 := b2.tups hp
      obtain ⟨hd, hhd, ihd⟩ := (hH.but hp b2).dq (dq_strs (H := H2) hs)
      obtain ⟨hh1, hh2⟩ := hB.handles ihd
      refine ⟨_, rfl, _, rfl, p, C, dx, _, .ref dk, rfl, hp2, B.cl, B.n1, look_self, .ref ha, .ref dk, hd, ks, rfl, hhd, hh2, ⟨dk, rfl, .inr ⟨_, hdk, marks_keys ks⟩⟩, fun H3 s3 => ⟨_, rfl, ?_⟩⟩
      rw [hh1]
      dsimp only [Bool.not_true]
      refine iteF ?_
      dsimp only [tNext]
      have b3 := b2.trans (.same s3)
      have hp3 := s3 _ _ hp2
      have hdk3 := s3 _ _ hdk
      refine seq_cut (fun σ H4 => σ = [some (.ref p), some (.ref ka), some (.ref ha), some (.ref ra), some (.str st), some (.int c), none] ∧ But p H H4 ∧ ∃ dh, H4 p = some (.ins C dx [("_kinds", .ref dk), ("_handles", .ref dh)]) ∧ H4 dk = some (.dK (marks ks)) ∧ H4 dh = some (.dK (marks hs))) ?_ (fun fin => ?_)
      · rintro σ H4 ⟨rfl, b4, dh, hp4, hdk4, hdh4⟩
        have tk4 := b4.tups hp
        have hR4 := hR.but hp b4
        have hU4 := Rules.ups tk4 hU
        refine ⟨_, rfl, _, rfl, p, C, dx, _, .ref dk, rfl, hp4, B.cl, B.n1, look_self, ra, us, rs.map ruleData, .ref dk, ks, rfl, fun H' s' => (hR4.up s').at_, hU4.dq, ⟨dk, rfl, .inr ⟨_, hdk4, marks_keys ks⟩⟩, by rw [List.length_map]; exact hB.rfew, hB.rule, by rw [name_data]; exact hB.rnames, fun dr kvs H5 s5 n5 e5 k1 k2 => ?_⟩
        rw [name_data] at k1
        have npr : dr ≠ p := fun z => by rw [z, hp4] at n5; cases n5
        have npk : dk ≠ p := fun z => by rw [z, hp4] at hdk4; cases hdk4
        have nph : dh ≠ p := fun z => by rw [z, hp4] at hdh4; cases hdh4
        refine ⟨_, rfl, p, C, dx, _, rfl, s5 _ _ hp4, B.cl, B.n3, (by show 2 < 1000; decide), ?_⟩
        rw [put3]
        have b6 : But p H (upd H5 p (.ins C dx [("_kinds", .ref dk), ("_handles", .ref dh), ("_rules", .ref dr)])) := (b4.trans (.same s5)).upd
        have hp6 : upd H5 p (.ins C dx [("_kinds", .ref dk), ("_handles", .ref dh), ("_rules", .ref dr)]) p = some (.ins C dx [("_kinds", .ref dk), ("_handles", .ref dh), ("_rules", .ref dr)]) := upd_same
        have hdk6 : upd H5 p (.ins C dx [("_kinds", .ref dk), ("_handles", .ref dh), ("_rules", .ref dr)]) dk = some (.dK (marks ks)) := by rw [upd_ne npk]; exact s5 _ _ hdk4
        have hdh6 : upd H5 p (.ins C dx [("_kinds", .ref dk), ("_handles", .ref dh), ("_rules", .ref dr)]) dh = some (.dK (marks hs)) := by rw [upd_ne nph]; exact s5 _ _ hdh4
        have hdr6 : upd H5 p (.ins C dx [("_kinds", .ref dk), ("_handles", .ref dh), ("_rules", .ref dr)]) dr = some (.dK kvs) := by rw [upd_ne npr]; exact e5
        generalize upd H5 p (.ins C dx [("_kinds", .ref dk), ("_handles", .ref dh), ("_rules", .ref dr)]) = H6 at b6 hp6 hdk6 hdh6 hdr6
        have hst : amongD ks (.str st) = true := List.contains_iff_mem.mpr hB.start
        refine ⟨_, rfl, _, rfl, p, C, dx, _, .ref dk, rfl, hp6, B.cl, B.n1, look_self, .str st, .ref dk, .str st, ks, rfl, by simp only [Dq], ⟨dk, rfl, .inr ⟨_, hdk6, marks_keys ks⟩⟩, _, rfl, ?_⟩
        rw [hst]
        dsimp only [Bool.not_true]
        refine iteF ?_
        dsimp only [tNext]
        refine ⟨_, rfl, _, rfl, p, C, dx, _, rfl, hp6, B.cl, B.n4, (by show 3 < 1000; decide), ?_⟩
        rw [put4]
        refine ⟨_, rfl, .int c, .int c, rfl, by simp only [Dq], _, rfl, ?_⟩
        have hci : integerD (.int c) = true := rfl
        rw [hci]
        dsimp only [Bool.not_true]
        refine iteF ?_
        dsimp only [tNext]
        refine ⟨_, rfl, _, rfl, p, C, dx, _, rfl, upd_same, B.cl, B.n5, (by show 4 < 1000; decide), ?_⟩
        rw [put5]
        have b8 : But p H (upd (upd H6 p (.ins C dx [("_kinds", .ref dk), ("_handles", .ref dh), ("_rules", .ref dr), ("_start", .str st)])) p (.ins C dx [("_kinds", .ref dk), ("_handles", .ref dh), ("_rules", .ref dr), ("_start", .str st), ("_amount", .int c)])) := b6.upd.upd
        refine hQ _ b8 ⟨dx, dk, dh, dr, kvs, us, upd_same, by rw [upd_ne npk, upd_ne npk]; exact hdk6, by rw [upd_ne nph, upd_ne nph]; exact hdh6, by rw [upd_ne npr, upd_ne npr]; exact hdr6, k1, k2, Rules.ups (b8.tups hp) hU⟩
      · refine ⟨_, rfl, ha, rfl, ?_⟩
        rcases hH.but hp b3 with ⟨_, e⟩ | e
        · refine .inl ⟨⟨_, SqL.of e⟩, fun D hD => dc_marksL (by show 6 < 7; decide) hB.hnodup (Nat.le_trans (nodup_len hB.hnodup hB.hsub) hB.few) (SqL.of e) hD fun H4 s4 e4 => ?_⟩
          have npD : D ≠ p := fun z => by rw [z, hp3] at hD; cases hD
          have npk : dk ≠ p := fun z => by rw [z, hp3] at hdk3; cases hdk3
          refine ⟨_, rfl, p, C, dx, _, rfl, s4 _ _ hp3, B.cl, B.n2, (by show 1 < 1000; decide), fin _ _ ⟨rfl, (b3.trans (.same s4)).upd, D, by rw [upd_same, put2], by rw [upd_ne npk]; exact s4 _ _ hdk3, by rw [upd_ne npD]; exact e4⟩⟩
        · refine .inr ⟨⟨_, SqT.of e⟩, fun D hD => dc_marksT (by show 6 < 7; decide) hB.hnodup (Nat.le_trans (nodup_len hB.hnodup hB.hsub) hB.few) (SqT.of e) hD fun H4 s4 e4 => ?_⟩
          have npD : D ≠ p := fun z => by rw [z, hp3] at hD; cases hD
          have npk : dk ≠ p := fun z => by rw [z, hp3] at hdk3; cases hdk3
          refine ⟨_, rfl, p, C, dx, _, rfl, s4 _ _ hp3, B.cl, B.n2, (by show 1 < 1000; decide), fin _ _ ⟨rfl, (b3.trans (.same s4)).upd, D, by rw [upd_same, put2], by rw [upd_ne npk]; exact s4 _ _ hdk3, by rw [upd_ne npD]; exact e4⟩⟩
    · refine ⟨_, rfl, ka, rfl, ?_⟩
      rcases hK.up s1 with ⟨_, e⟩ | e
      · refine .inl ⟨⟨_, SqL.of e⟩, fun D hD => dc_marksL (by show 6 < 7; decide) hB.nodup hB.few (SqL.of e) hD fun H2 s2 e2 => ?_⟩
        have npD : D ≠ p := fun z => by rw [z, hp1] at hD; cases hD
        refine ⟨_, rfl, p, C, dx, [], rfl, s2 _ _ hp1, B.cl, B.n1, (by show 0 < 1000; decide), fin _ _ ⟨rfl, (But.same (s1.trans s2)).upd, D, upd_same, by rw [upd_ne npD]; exact e2⟩⟩
      · refine .inr ⟨⟨_, SqT.of e⟩, fun D hD => dc_marksT (by show 6 < 7; decide) hB.nodup hB.few (SqT.of e) hD fun H2 s2 e2 => ?_⟩
        have npD : D ≠ p := fun z => by rw [z, hp1] at hD; cases hD
        refine ⟨_, rfl, p, C, dx, [], rfl, s2 _ _ hp1, B.cl, B.n1, (by show 0 < 1000; decide), fin _ _ ⟨rfl, (But.same (s1.trans s2)).upd, D, upd_same, by rw [upd_ne npD]; exact e2⟩⟩
end
end Dw
namespace Dw
open PySem PySem.Spec PyProof.Rows L2 He Fh
section
variable {P : Program} {w : World} {K : PySem.W.Frag} {mg : Str → Option Value} {base : Heap}
theorem ok_goodR {f fR : Addr} {fd fdR : FuncData} (F : FnP K "checked_rules" sGood f fd) (c_BadRules : Cl P w K mg base "BadRules" "value") (c_BadRule : Cl P w K mg base "BadRule" "number") (c_NamedTwice : Cl P w K mg base "NamedTwice" "name")
    (g_isinstance : mg "isinstance" = none) (g_tuple : mg "tuple" = none) (g_list : mg "list" = none) (g_enumerate : mg "enumerate" = none)
    (G_is_rule : FnOk P w K mg base CX0 2 fR fdR ["value", "kinds"] (spIsRule K)) (m_is_rule : mg "is_rule" = some (.ref fR)) (k_is_rule : PySem.W.keepIn K (.ref fR) = true) (b_is_rule : Binds K fdR ["value", "kinds"] []) :
    FnOk P w K mg base (CX P w) 3 f fd ["value", "kinds"] (spGoodR K) := by
  refine F.ok scGood (fun vs H Q E h => ?_) (fun cdv A outer s H vs Q E hr h => ?_)
  · obtain ⟨v, u, d, ns, rfl, _⟩ := h
    rfl
  · obtain ⟨v, u, d, ns, rfl, hd, hN, hle, hE, hQ⟩ := h
    have r_is_rule := hr
    have hr2 : Room 2 _ := hr
    have hu := hu_of hr
    refine ⟨_, (pss_cons (ps_if (pt_not (pt_val (pe_callB call_isiT (by rfl) g_isinstance (by decide +kernel) (pa_cons (pv 0) (pa_cons (pe_tup (pa_cons (pe_bltn (v := .ty "list") (by rfl) g_list (by decide +kernel) rfl) (pa_cons (pe_bltn (v := .ty "tuple") (by rfl) g_tuple (by decide +kernel) rfl) pa_nil))) pa_nil)))))
 (pss_one (ps_raiseN rfl (takes_of rfl rfl rfl rfl) rfl c_BadRules hr2 rfl (pv 0))) pss_nil)
 (pss_cons (ps_for (passes_of rfl) rfl (pi_enumS (by rfl) g_enumerate (pa_cons (pv 0) pa_nil)) (pg_tup (by rfl) (pgs_cons (pg_name (i := 4) scGood.nd rfl (by first | exact Or.inl rfl | exact Or.inr rfl)) (pgs_cons (pg_name (i := 3) scGood.nd rfl (by first | exact Or.inl rfl | exact Or.inr rfl)) pgs_nil)))
 (pss_one (ps_if (pt_not (pt_val (pe_call G_is_rule r_is_rule rfl m_is_rule k_is_rule b_is_rule .nil pass0 (pa_cons (pv 3) (pa_cons (pv 1) pa_nil)))))
 (pss_one (ps_raiseN rfl (takes_of rfl rfl rfl rfl) rfl c_BadRule hr2 rfl (pv 4))) pss_nil)))
 (pss_cons (ps_set (i := 2) scGood.nd rfl (by first | exact Or.inl rfl | exact Or.inr rfl) pe_dnewK)
 (pss_cons (ps_for (passes_of rfl) rfl (pi_seq (K := K) (pv 0)) (pg_name (i := 3) scGood.nd rfl (by first | exact Or.inl rfl | exact Or.inr rfl))
 (pss_cons (ps_set (i := 5) scGood.nd rfl (by first | exact Or.inl rfl | exact Or.inr rfl) (pe_ix ix_tup (pv 3) pe_int (fun _ _ => rfl)))
 (pss_cons (ps_if (pt_cmpR (op_inN (K := K) hu) (pv 5) (pv 2) (by rfl))
 (pss_one (ps_raiseN rfl (takes_of rfl rfl rfl rfl) rfl c_NamedTwice hr2 rfl (pv 5))) pss_nil)
 (pss_one (ps_dput hu (pv 2) (pv 5) (pv 3) rfl)))))
 (pss_one (ps_ret (pv 2))))))), ?_⟩
    refine ⟨_, rfl, (by show 2 ≤ sizeLine; decide), fun tp htp => ?_⟩
    have s1 := same_upd (o := .tup [.ty "list", .ty "tuple"]) htp
    have e1 : upd H tp (.tup [.ty "list", .ty "tuple"]) tp = some (.tup [.ty "list", .ty "tuple"]) := upd_same
    generalize upd H tp (.tup [.ty "list", .ty "tuple"]) = H1 at s1 e1
    refine ⟨v, tp, [.ty "list", .ty "tuple"], .type (tagD d), [.type "list", .type "tuple"], _, rfl, e1, .cons (.ty _) (.cons (.ty _) .nil), (Dq.up s1 _ _ hd).ty, kit_seq (tag_mem d), _, rfl, ?_⟩
    rw [tag_items]
    cases hi : itemsD d with
    | none =>
      refine iteT ?_
      exact ⟨v, rfl, raise_end (fun b hb => fr0_none (s1.free hb)) fun dx H2 s2 n2 e2 => hE _ _ _ (due_no hi) v dx H2 (s1.trans s2) (s1.free n2) e2 (Dq.up (s1.trans s2) _ _ hd)⟩
    | some ds =>
      obtain ⟨hlen, hrl⟩ := hle ds hi
      obtain ⟨a, xs, rfl, hq1, hS⟩ := seq_at (K := K) (Dq.up s1 _ _ hd) hi
      have hxl := hq1.len
      refine iteF ?_
      dsimp only [tNext]
      refine seq_cut (fun σ H2 => Same H1 H2 ∧ badIx ns 0 ds = none ∧ ∃ o2 o3 o4 o5 : Option V, σ = [some (.ref a), some u, o2, o3, o4, o5]) ?_ (fun fin => ?_)
      · rintro σ H2 ⟨s2, hok, o2, o3, o4, o5, rfl⟩
        have hall := badIx_none hok
        intro p hp
        have s3 := s2.trans (same_upd (o := .dK []) hp)
        have np1 : H1 p = none := s2.free hp
        have npH : H p = none := s1.free np1
        dsimp only [gName]
        refine seq_cut (fun σ H3 => Same H1 H3 ∧ dupD [] (ds.map nameOf) = none ∧ (∃ kvs : List (Key × V), H3 p = some (.dK kvs)) ∧ ∃ o3 o4 o5 : Option V, σ = [some (.ref a), some u, some (.ref p), o3, o4, o5]) ?_ (fun fin => ?_)
        · rintro σ H3 ⟨s4, hnd, ⟨kvs, e4⟩, o3, o4, o5, rfl⟩
          exact ⟨_, rfl, hQ (due_ok hi hok hnd) p kvs H3 (s1.trans s4) npH e4⟩
        · refine ⟨_, rfl, a, rfl, ?_⟩
          rcases hS with ⟨hs, _⟩ | ⟨hs, _⟩
          · refine .inl ⟨⟨xs, s3.seq hs⟩, for_list (K := K) (a := a) (xs := xs) (fun i σ H3 => Same H1 H3 ∧ dupD [] (ds.map nameOf) = dupD ((ds.map nameOf).take i) ((ds.map nameOf).drop i) ∧ (∃ kvs : List (Key × V), H3 p = some (.dK kvs) ∧ kvs.map (·.1) = ((ds.map nameOf).take i).map Sum.inr) ∧ ∃ o3 o4 o5 : Option V, σ = [some (.ref a), some u, some (.ref p), o3, o4, o5])
              ⟨s3, rfl, ⟨[], upd_same, rfl⟩, _, _, _, rfl⟩ (fun _ _ H3 _ h => h.1.seq hs) ?_ ?_⟩
            · rintro i x σ H3 hx ⟨s4, hgo, ⟨kvs, e4, h1⟩, o3, o4, o5, rfl⟩
              obtain ⟨e, he, hxe⟩ := hq1.get hx
              have k2 := hall e (List.mem_of_getElem? he)
              have hil : i < ds.length := (List.getElem?_eq_some_iff.mp he).1
              have hkl := congrArg List.length h1
              rw [List.length_map, List.length_map, List.length_take, List.length_map] at hkl
              obtain ⟨nm, k, o, c, rfl⟩ := rule_shape k2
              have hx3 := Dq.up s4 _ _ hxe
              simp only [Dq] at hx3
              obtain ⟨b, ys, rfl, hb, hys⟩ := hx3
              simp only [DqAll] at hys
              obtain ⟨y1, yr, rfl, hy1, _⟩ := hys
              simp only [Dq] at hy1
              subst hy1
              have hat : (ds.map nameOf)[i]? = some nm := by rw [List.getElem?_map, he]; rfl
              rw [dupD_step hat] at hgo
              refine ⟨_, rfl, b, _, 0, .str nm, rfl, rfl, SqT.of hb, (show atI (V.str nm :: yr) ((0 : Nat) : Int) = some (V.str nm) from atI_nat rfl), ?_⟩
              refine ⟨_, rfl, _, rfl, .inl ⟨p, _, rfl, DGet.k (k := (Sum.inr nm : Key)) e4, _, rfl, ?_⟩⟩
              rw [key_some h1]
              cases hc : ((ds.map nameOf).take i).contains nm with
              | true =>
                rw [hc] at hgo
                refine iteT ?_
                exact ⟨_, rfl, raise_end (fun b hb => fr0_none (s1.free (s4.free hb))) fun dx H5 s5 n5 e5 => hE _ _ _ (due_dup hi hok hgo) _ dx H5 (s1.trans (s4.trans s5)) (s1.free (s4.free n5)) e5 (by simp only [Dq])⟩
              | false =>
                rw [hc] at hgo
                have hno : (valV kvs (Sum.inr nm : Key)).isSome = false := by rw [key_some h1]; exact hc
                have hnone : valV kvs (Sum.inr nm : Key) = none := by
                  cases q : valV kvs (Sum.inr nm : Key) with
                  | none => rfl
                  | some _ => rw [q] at hno; cases hno
                refine iteF ?_
                refine ⟨_, rfl, _, rfl, _, rfl, p, _, rfl, DPut.k (k := (Sum.inr nm : Key)) e4 (by rw [sizeLine_eq]; omega), ?_⟩
                refine ⟨same_updX s4 np1, hgo, ⟨_, upd_same, ?_⟩, _, _, _, rfl⟩
                rw [putK_new _ hnone, List.map_append, h1, List.take_add_one, hat, List.map_append]
                rfl
            · rintro σ H3 ⟨s4, hgo, ⟨kvs, e4, h1⟩, o⟩
              rw [hxl, ← List.length_map (f := nameOf) (as := ds), List.drop_length] at hgo
              exact fin σ H3 ⟨s4, hgo, ⟨kvs, e4⟩, o⟩
          · refine .inr ⟨⟨xs, sqT_up s3 hs⟩, for_tup (K := K) (a := a) (xs := xs) (fun i σ H3 => Same H1 H3 ∧ dupD [] (ds.map nameOf) = dupD ((ds.map nameOf).take i) ((ds.map nameOf).drop i) ∧ (∃ kvs : List (Key × V), H3 p = some (.dK kvs) ∧ kvs.map (·.1) = ((ds.map nameOf).take i).map Sum.inr) ∧ ∃ o3 o4 o5 : Option V, σ = [some (.ref a), some u, some (.ref p), o3, o4, o5])
              ⟨s3, rfl, ⟨[], upd_same, rfl⟩, _, _, _, rfl⟩ (fun _ _ H3 _ h => sqT_up h.1 hs) ?_ ?_⟩
            · rintro i x σ H3 hx ⟨s4, hgo, ⟨kvs, e4, h1⟩, o3, o4, o5, rfl⟩
              obtain ⟨e, he, hxe⟩ := hq1.get hx
              have k2 := hall e (List.mem_of_getElem? he)
              have hil : i < ds.length := (List.getElem?_eq_some_iff.mp he).1
              have hkl := congrArg List.length h1
              rw [List.length_map, List.length_map, List.length_take, List.length_map] at hkl
              obtain ⟨nm, k, o, c, rfl⟩ := rule_shape k2
              have hx3 := Dq.up s4 _ _ hxe
              simp only [Dq] at hx3
              obtain ⟨b, ys, rfl, hb, hys⟩ := hx3
              simp only [DqAll] at hys
              obtain ⟨y1, yr, rfl, hy1, _⟩ := hys
              simp only [Dq] at hy1
              subst hy1
              have hat : (ds.map nameOf)[i]? = some nm := by rw [List.getElem?_map, he]; rfl
              rw [dupD_step hat] at hgo
              refine ⟨_, rfl, b, _, 0, .str nm, rfl, rfl, SqT.of hb, (show atI (V.str nm :: yr) ((0 : Nat) : Int) = some (V.str nm) from atI_nat rfl), ?_⟩
              refine ⟨_, rfl, _, rfl, .inl ⟨p, _, rfl, DGet.k (k := (Sum.inr nm : Key)) e4, _, rfl, ?_⟩⟩
              rw [key_some h1]
              cases hc : ((ds.map nameOf).take i).contains nm with
              | true =>
                rw [hc] at hgo
                refine iteT ?_
                exact ⟨_, rfl, raise_end (fun b hb => fr0_none (s1.free (s4.free hb))) fun dx H5 s5 n5 e5 => hE _ _ _ (due_dup hi hok hgo) _ dx H5 (s1.trans (s4.trans s5)) (s1.free (s4.free n5)) e5 (by simp only [Dq])⟩
              | false =>
                rw [hc] at hgo
                have hno : (valV kvs (Sum.inr nm : Key)).isSome = false := by rw [key_some h1]; exact hc
                have hnone : valV kvs (Sum.inr nm : Key) = none := by
                  cases q : valV kvs (Sum.inr nm : Key) with
                  | none => rfl
                  | some _ => rw [q] at hno; cases hno
                refine iteF ?_
                refine ⟨_, rfl, _, rfl, _, rfl, p, _, rfl, DPut.k (k := (Sum.inr nm : Key)) e4 (by rw [sizeLine_eq]; omega), ?_⟩
                refine ⟨same_updX s4 np1, hgo, ⟨_, upd_same, ?_⟩, _, _, _, rfl⟩
                rw [putK_new _ hnone, List.map_append, h1, List.take_add_one, hat, List.map_append]
                rfl
            · rintro σ H3 ⟨s4, hgo, ⟨kvs, e4, h1⟩, o⟩
              rw [hxl, ← List.length_map (f := nameOf) (as := ds), List.drop_length] at hgo
              exact fin σ H3 ⟨s4, hgo, ⟨kvs, e4⟩, o⟩
      · refine ⟨_, rfl, a, rfl, ?_⟩
        rcases hS with ⟨hs, _⟩ | ⟨hs, _⟩
        · refine .inl ⟨⟨xs, hs⟩, for_enumL (K := K) (a := a) (xs := xs) (fun i σ H2 => Same H1 H2 ∧ badIx ns 0 ds = badIx ns i (ds.drop i) ∧ ∃ o2 o3 o4 o5 : Option V, σ = [some (.ref a), some u, o2, o3, o4, o5]) ⟨Same.refl H1, rfl, none, none, none, none, rfl⟩ (fun _ _ H2 _ h => h.1.seq hs) ?_ ?_⟩
          · rintro i x σ H2 T hx ⟨s2, hgo, o2, o3, o4, o5, rfl⟩ hT
            have s3 := s2.trans (same_upd (o := .tup [.int (i : Int), x]) hT)
            have nT := s2.free hT
            obtain ⟨e, he, hxe⟩ := hq1.get hx
            have k1 := hrl e (List.mem_of_getElem? he)
            rw [badIx_step he] at hgo
            refine ⟨T, _, rfl, SqT.of upd_same, rfl, _, _, rfl, _, _, rfl, rfl, ?_⟩
            refine ⟨_, rfl, _, rfl, x, u, e, ns, rfl, Dq.up s3 _ _ hxe, k1, hN.up (s1.trans s3), fun H3 s4 => ⟨_, rfl, ?_⟩⟩
            have s5 := s3.trans s4
            cases hr : ruleD ns e with
            | true =>
              rw [hr] at hgo
              exact ⟨s5, hgo, _, _, _, _, rfl⟩
            | false =>
              rw [hr] at hgo
              exact ⟨_, rfl, raise_end (fun b hb => fr0_none (s1.free (s5.free hb))) fun dx H6 s6 n6 e6 => hE _ _ _ (due_bad hi hgo) _ dx H6 (s1.trans (s5.trans s6)) (s1.free (s5.free n6)) e6 (by simp only [Dq])⟩
          · rintro σ H2 ⟨s2, hgo, o⟩
            rw [hxl, List.drop_length] at hgo
            exact fin σ H2 ⟨s2, hgo, o⟩
        · refine .inr ⟨⟨xs, hs⟩, for_enumT (K := K) (a := a) (xs := xs) (fun i σ H2 => Same H1 H2 ∧ badIx ns 0 ds = badIx ns i (ds.drop i) ∧ ∃ o2 o3 o4 o5 : Option V, σ = [some (.ref a), some u, o2, o3, o4, o5]) ⟨Same.refl H1, rfl, none, none, none, none, rfl⟩ (fun _ _ H2 _ h => sqT_up h.1 hs) ?_ ?_⟩
          · rintro i x σ H2 T hx ⟨s2, hgo, o2, o3, o4, o5, rfl⟩ hT
            have s3 := s2.trans (same_upd (o := .tup [.int (i : Int), x]) hT)
            have nT := s2.free hT
            obtain ⟨e, he, hxe⟩ := hq1.get hx
            have k1 := hrl e (List.mem_of_getElem? he)
            rw [badIx_step he] at hgo
            refine ⟨T, _, rfl, SqT.of upd_same, rfl, _, _, rfl, _, _, rfl, rfl, ?_⟩
            refine ⟨_, rfl, _, rfl, x, u, e, ns, rfl, Dq.up s3 _ _ hxe, k1, hN.up (s1.trans s3), fun H3 s4 => ⟨_, rfl, ?_⟩⟩
            have s5 := s3.trans s4
            cases hr : ruleD ns e with
            | true =>
              rw [hr] at hgo
              exact ⟨s5, hgo, _, _, _, _, rfl⟩
            | false =>
              rw [hr] at hgo
              exact ⟨_, rfl, raise_end (fun b hb => fr0_none (s1.free (s5.free hb))) fun dx H6 s6 n6 e6 => hE _ _ _ (due_bad hi hgo) _ dx H6 (s1.trans (s5.trans s6)) (s1.free (s5.free n6)) e6 (by simp only [Dq])⟩
          · rintro σ H2 ⟨s2, hgo, o⟩
            rw [hxl, List.drop_length] at hgo
            exact fin σ H2 ⟨s2, hgo, o⟩
end
end Dw
namespace Dw
open PySem PySem.Spec PyProof.Rows L2 He Fh
section
variable {P : Program} {w : World} {K : PySem.W.Frag} {mg : Str → Option Value} {base : Heap}
theorem ok_bookR {f fK fH fG fA fI C : Addr} {fd fdK fdH fdG fdA fdI : FuncData} (F : FunD K "__init__" "Book.__init__" (defArgs sBookI) (defBody sBookI) (defScope sBookI) [] [] f fd) (B : BookC K C)
    (c_BadKinds : Cl P w K mg base "BadKinds" "value") (c_BadHandles : Cl P w K mg base "BadHandles" "value") (c_BadStart : Cl P w K mg base "BadStart" "value") (c_BadCount : Cl P w K mg base "BadCount" "value")
    (G_are_kinds : FnOk P w K mg base CX0 2 fK fdK ["value"] spKinds) (m_are_kinds : mg "are_kinds" = some (.ref fK)) (k_are_kinds : PySem.W.keepIn K (.ref fK) = true) (b_are_kinds : Binds K fdK ["value"] [])
    (G_are_handles : FnOk P w K mg base CX0 2 fH fdH ["value", "kinds"] (spHandles K)) (m_are_handles : mg "are_handles" = some (.ref fH)) (k_are_handles : PySem.W.keepIn K (.ref fH) = true) (b_are_handles : Binds K fdH ["value", "kinds"] [])
    (G_checked_rules : FnOk P w K mg base (CX P w) 3 fG fdG ["value", "kinds"] (spGoodR K)) (m_checked_rules : mg "checked_rules" = some (.ref fG)) (k_checked_rules : PySem.W.keepIn K (.ref fG) = true) (b_checked_rules : Binds K fdG ["value", "kinds"] [])
    (G_is_among : FnOk P w K mg base CX0 1 fA fdA ["value", "names"] (spAmong K)) (m_is_among : mg "is_among" = some (.ref fA)) (k_is_among : PySem.W.keepIn K (.ref fA) = true) (b_is_among : Binds K fdA ["value", "names"] [])
    (G_is_integer : FnOk P w K mg base CX0 1 fI fdI ["value"] spIsInt) (m_is_integer : mg "is_integer" = some (.ref fI)) (k_is_integer : PySem.W.keepIn K (.ref fI) = true) (b_is_integer : Binds K fdI ["value"] []) :
    FnOk P w K mg base (CX P w) 4 f fd ["self", "kinds", "handles", "rules", "start", "count"] (spBookR K C) := by
  refine F.ok scBookI (fun vs H Q E h => ?_) (fun cdv A outer s H vs Q E hr h => ?_)
  · obtain ⟨p, dx, vk, vh, vr, vs', vc, dk, dh, dr, ds, dc, rfl, _⟩ := h
    rfl
  · obtain ⟨p, dx, vk, vh, vr, vs', vc, dk, dh, dr, ds, dc, rfl, hp, qk, qh, qr, qs, qc, lk, lh, lr, hE, hQ⟩ := h
    have r_checked_rules := hr
    have hr2 : Room 2 _ := hr.mono (by decide)
    have r_are_kinds : Room 2 _ := hr.mono (by decide)
    have r_are_handles : Room 2 _ := hr.mono (by decide)
    have r_is_among : Room 1 _ := hr.mono (by decide)
    have r_is_integer : Room 1 _ := hr.mono (by decide)
    refine ⟨_, (pss_cons (ps_if (pt_not (pt_val (pe_call G_are_kinds r_are_kinds rfl m_are_kinds k_are_kinds b_are_kinds .nil pass0 (pa_cons (pv 1) pa_nil))))
 (pss_one (ps_raiseN rfl (takes_of rfl rfl rfl rfl) rfl c_BadKinds hr2 rfl (pv 1))) pss_nil)
 (pss_cons (ps_fld (pv 0) (pe_dc (own := [("kind", 6)]) (g := (gName 6)) (by rfl) scBookI.nd (pi_seq (K := K) (pv 1)) (blkOk_by (own := [("kind", 6)]) (N := ["self", "kinds", "handles", "rules", "start", "count", "kind"]) (sc := defScope sBookI) (by decide +kernel)) (fun _ _ _ _ _ => pg_name (i := 6) scBookI.nd rfl (by first | exact Or.inl rfl | exact Or.inr rfl)) (fun _ _ _ _ _ => pts_nil) (fun _ _ _ _ _ => (pv 6)) (fun _ _ _ _ _ => pe_bl)) rfl)
 (pss_cons (ps_if (pt_not (pt_val (pe_call G_are_handles r_are_handles rfl m_are_handles k_are_handles b_are_handles .nil pass0 (pa_cons (pv 2) (pa_cons (pe_fld (pv 0) rfl) pa_nil)))))
 (pss_one (ps_raiseN rfl (takes_of rfl rfl rfl rfl) rfl c_BadHandles hr2 rfl (pv 2))) pss_nil)
 (pss_cons (ps_fld (pv 0) (pe_dc (own := [("kind", 6)]) (g := (gName 6)) (by rfl) scBookI.nd (pi_seq (K := K) (pv 2)) (blkOk_by (own := [("kind", 6)]) (N := ["self", "kinds", "handles", "rules", "start", "count", "kind"]) (sc := defScope sBookI) (by decide +kernel)) (fun _ _ _ _ _ => pg_name (i := 6) scBookI.nd rfl (by first | exact Or.inl rfl | exact Or.inr rfl)) (fun _ _ _ _ _ => pts_nil) (fun _ _ _ _ _ => (pv 6)) (fun _ _ _ _ _ => pe_bl)) rfl)
 (pss_cons (ps_fld (pv 0) (pe_callS G_checked_rules r_checked_rules rfl m_checked_rules k_checked_rules b_checked_rules (fun σ => passAt (takes_of rfl rfl rfl rfl) σ) (pa_cons (pv 3) (pa_cons (pe_fld (pv 0) rfl) pa_nil))) rfl)
 (pss_cons (ps_if (pt_not (pt_val (pe_call G_is_among r_is_among rfl m_is_among k_is_among b_is_among .nil pass0 (pa_cons (pv 4) (pa_cons (pe_fld (pv 0) rfl) pa_nil)))))
 (pss_one (ps_raiseN rfl (takes_of rfl rfl rfl rfl) rfl c_BadStart hr2 rfl (pv 4))) pss_nil)
 (pss_cons (ps_fld (pv 0) (pv 4) rfl)
 (pss_cons (ps_if (pt_not (pt_val (pe_call G_is_integer r_is_integer rfl m_is_integer k_is_integer b_is_integer .nil pass0 (pa_cons (pv 5) pa_nil))))
 (pss_one (ps_raiseN rfl (takes_of rfl rfl rfl rfl) rfl c_BadCount hr2 rfl (pv 5))) pss_nil)
 (pss_one (ps_fld (pv 0) (pv 5) rfl)))))))))), ?_⟩
    refine ⟨_, rfl, vk, dk, rfl, qk, lk, fun H1 s1 => ⟨_, rfl, ?_⟩⟩
    cases hk : kindsD dk with
    | false =>
      refine iteT ?_
      exact ⟨_, rfl, raise_end (fun b hb => fr0_none (s1.free hb)) fun dx' H2 s2 n2 e2 => hE _ _ _ (dueBook_kinds hk) _ dx' H2 (.same (s1.trans s2)) (s1.free n2) e2 (Dq.up (s1.trans s2) _ _ qk)⟩
    | true =>
    obtain ⟨ks0, ik, _, _, as, knd, ek⟩ := kinds_true hk
    obtain ⟨hk1, _⟩ := lk ks0 ik
    obtain ⟨ka, rfl, hK, hkl⟩ := strs_seq (K := K) (Dq.up s1 _ _ qk) ik as
    rw [← ek] at knd hK hkl
    generalize hks : kindsOf dk = ks at knd hK hkl
    have hfew : ks.length ≤ 1000 := by omega
    refine iteF ?_
    dsimp only [tNext]
    have hp1 := s1 _ _ hp
    have qk1 := Dq.up s1 _ _ qk
    have free : ∀ {H2 : Hp} {b : Addr}, But p H H2 → H2 p ≠ none → H2 b = none → H b = none := fun {H2 b} b2 np n => by
      cases e : H b with
      | none => rfl
      | some o =>
        by_cases z : b = p
        · exact absurd (z ▸ n) np
        · rw [b2 b o z e] at n
          cases n
    refine seq_cut (fun σ H2 => σ = [some (.ref p), some (.ref ka), some vh, some vr, some vs', some vc, none] ∧ But p H H2 ∧ ∃ dk', H2 p = some (.ins C dx [("_kinds", .ref dk')]) ∧ H2 dk' = some (.dK (marks ks))) ?_ (fun fin => ?_)
    · rintro σ H2 ⟨rfl, b2, dk', hp2, hdk⟩
      have qh2 := qh.but hp b2
      have f2 : ∀ {b : Addr}, H2 b = none → H b = none := fun n => free b2 (fun z => by rw [z] at hp2; cases hp2) n
      refine ⟨_, rfl, _, rfl, p, C, dx, _, .ref dk', rfl, hp2, B.cl, B.n1, look_self, vh, .ref dk', dh, ks, rfl, qh2, lh, ⟨dk', rfl, .inr ⟨_, hdk, marks_keys ks⟩⟩, fun H3 s3 => ⟨_, rfl, ?_⟩⟩
      cases hh : handlesD ks dh with
      | false =>
        refine iteT ?_
        have b3 := b2.trans (.same s3)
        exact ⟨_, rfl, raise_end (fun b hb => fr0_none (f2 (s3.free hb))) fun dx' H4 s4 n4 e4 => hE _ _ _ (dueBook_handles hk (hks ▸ hh)) _ dx' H4 (b3.trans (.same s4)) (f2 (s3.free n4)) e4 (qh.but hp (b3.trans (.same s4)))⟩
      | true =>
      obtain ⟨hs0, ih, ah, bh, hnd⟩ := handles_true hh
      obtain ⟨hh1, _⟩ := lh hs0 ih
      obtain ⟨ha, rfl, hH, hhl⟩ := strs_seq (K := K) (Dq.up s3 _ _ qh2) ih bh
      generalize strsOf hs0 = hs at hnd hH hhl
      refine iteF ?_
      dsimp only [tNext]
      have b3 := b2.trans (.same s3)
      have hp3 := s3 _ _ hp2
      have hdk3 := s3 _ _ hdk
      refine seq_cut (fun σ H4 => σ = [some (.ref p), some (.ref ka), some (.ref ha), some vr, some vs', some vc, none] ∧ But p H H4 ∧ ∃ dh', H4 p = some (.ins C dx [("_kinds", .ref dk'), ("_handles", .ref dh')]) ∧ H4 dk' = some (.dK (marks ks))) ?_ (fun fin => ?_)
      · rintro σ H4 ⟨rfl, b4, dh', hp4, hdk4⟩
        have f4 : ∀ {b : Addr}, H4 b = none → H b = none := fun n => free b4 (fun z => by rw [z] at hp4; cases hp4) n
        refine ⟨_, rfl, _, rfl, p, C, dx, _, .ref dk', rfl, hp4, B.cl, B.n1, look_self, vr, .ref dk', dr, ks, rfl, qr.but hp b4, ⟨dk', rfl, .inr ⟨_, hdk4, marks_keys ks⟩⟩, lr, ?_, fun hnone dr' kvs H5 s5 n5 e5 => ?_⟩
        · rintro cls f e hd y dx' H5 s5 n5 e5 q5
          exact hE _ _ _ (dueBook_rules hk (hks ▸ hh) (hks ▸ hd)) y dx' H5 (b4.trans (.same s5)) (f4 n5) e5 q5
        have npr : dr' ≠ p := fun z => by rw [z, hp4] at n5; cases n5
        have npk : dk' ≠ p := fun z => by rw [z, hp4] at hdk4; cases hdk4
        refine ⟨_, rfl, p, C, dx, _, rfl, s5 _ _ hp4, B.cl, B.n3, (by show 2 < 1000; decide), ?_⟩
        rw [put3]
        have b6 : But p H (upd H5 p (.ins C dx [("_kinds", .ref dk'), ("_handles", .ref dh'), ("_rules", .ref dr')])) := (b4.trans (.same s5)).upd
        have hp6 : upd H5 p (.ins C dx [("_kinds", .ref dk'), ("_handles", .ref dh'), ("_rules", .ref dr')]) p = some (.ins C dx [("_kinds", .ref dk'), ("_handles", .ref dh'), ("_rules", .ref dr')]) := upd_same
        have hdk6 : upd H5 p (.ins C dx [("_kinds", .ref dk'), ("_handles", .ref dh'), ("_rules", .ref dr')]) dk' = some (.dK (marks ks)) := by rw [upd_ne npk]; exact s5 _ _ hdk4
        generalize upd H5 p (.ins C dx [("_kinds", .ref dk'), ("_handles", .ref dh'), ("_rules", .ref dr')]) = H6 at b6 hp6 hdk6
        have f6 : ∀ {b : Addr}, H6 b = none → H b = none := fun n => free b6 (fun z => by rw [z] at hp6; cases hp6) n
        refine ⟨_, rfl, _, rfl, p, C, dx, _, .ref dk', rfl, hp6, B.cl, B.n1, look_self, vs', .ref dk', ds, ks, rfl, qs.but hp b6, ⟨dk', rfl, .inr ⟨_, hdk6, marks_keys ks⟩⟩, _, rfl, ?_⟩
        cases hst : amongD ks ds with
        | false =>
          refine iteT ?_
          exact ⟨_, rfl, raise_end (fun b hb => fr0_none (f6 hb)) fun dx' H7 s7 n7 e7 => hE _ _ _ (dueBook_start hk (hks ▸ hh) (hks ▸ hnone) (hks ▸ hst)) _ dx' H7 (b6.trans (.same s7)) (f6 n7) e7 (qs.but hp (b6.trans (.same s7)))⟩
        | true =>
        refine iteF ?_
        dsimp only [tNext]
        refine ⟨_, rfl, _, rfl, p, C, dx, _, rfl, hp6, B.cl, B.n4, (by show 3 < 1000; decide), ?_⟩
        rw [put4]
        have b7 : But p H (upd H6 p (.ins C dx [("_kinds", .ref dk'), ("_handles", .ref dh'), ("_rules", .ref dr'), ("_start", vs')])) := b6.upd
        have hp7 : upd H6 p (.ins C dx [("_kinds", .ref dk'), ("_handles", .ref dh'), ("_rules", .ref dr'), ("_start", vs')]) p = some (.ins C dx [("_kinds", .ref dk'), ("_handles", .ref dh'), ("_rules", .ref dr'), ("_start", vs')]) := upd_same
        generalize upd H6 p (.ins C dx [("_kinds", .ref dk'), ("_handles", .ref dh'), ("_rules", .ref dr'), ("_start", vs')]) = H7 at b7 hp7
        have f7 : ∀ {b : Addr}, H7 b = none → H b = none := fun n => free b7 (fun z => by rw [z] at hp7; cases hp7) n
        refine ⟨_, rfl, vc, dc, rfl, qc.but hp b7, _, rfl, ?_⟩
        cases hci : integerD dc with
        | false =>
          refine iteT ?_
          exact ⟨_, rfl, raise_end (fun b hb => fr0_none (f7 hb)) fun dx' H8 s8 n8 e8 => hE _ _ _ (dueBook_count hk (hks ▸ hh) (hks ▸ hnone) (hks ▸ hst) hci) _ dx' H8 (b7.trans (.same s8)) (f7 n8) e8 (qc.but hp (b7.trans (.same s8)))⟩
        | true =>
        refine iteF ?_
        dsimp only [tNext]
        refine ⟨_, rfl, _, rfl, p, C, dx, _, rfl, hp7, B.cl, B.n5, (by show 4 < 1000; decide), ?_⟩
        exact hQ (dueBook_none hk (hks ▸ hh) (hks ▸ hnone) (hks ▸ hst) hci) _ b7.upd
      · refine ⟨_, rfl, ha, rfl, ?_⟩
        rcases hH with e | e
        · refine .inl ⟨⟨_, e⟩, fun D hD => dc_marksL (by show 6 < 7; decide) hnd (by omega) e hD fun H4 s4 e4 => ?_⟩
          have npD : D ≠ p := fun z => by rw [z, hp3] at hD; cases hD
          have npk : dk' ≠ p := fun z => by rw [z, hp3] at hdk3; cases hdk3
          refine ⟨_, rfl, p, C, dx, _, rfl, s4 _ _ hp3, B.cl, B.n2, (by show 1 < 1000; decide), fin _ _ ⟨rfl, (b3.trans (.same s4)).upd, D, by rw [upd_same, put2], by rw [upd_ne npk]; exact s4 _ _ hdk3⟩⟩
        · refine .inr ⟨⟨_, e⟩, fun D hD => dc_marksT (by show 6 < 7; decide) hnd (by omega) e hD fun H4 s4 e4 => ?_⟩
          have npD : D ≠ p := fun z => by rw [z, hp3] at hD; cases hD
          have npk : dk' ≠ p := fun z => by rw [z, hp3] at hdk3; cases hdk3
          refine ⟨_, rfl, p, C, dx, _, rfl, s4 _ _ hp3, B.cl, B.n2, (by show 1 < 1000; decide), fin _ _ ⟨rfl, (b3.trans (.same s4)).upd, D, by rw [upd_same, put2], by rw [upd_ne npk]; exact s4 _ _ hdk3⟩⟩
    · refine ⟨_, rfl, ka, rfl, ?_⟩
      rcases hK with e | e
      · refine .inl ⟨⟨_, e⟩, fun D hD => dc_marksL (by show 6 < 7; decide) knd hfew e hD fun H2 s2 e2 => ?_⟩
        have npD : D ≠ p := fun z => by rw [z, hp1] at hD; cases hD
        refine ⟨_, rfl, p, C, dx, [], rfl, s2 _ _ hp1, B.cl, B.n1, (by show 0 < 1000; decide), fin _ _ ⟨rfl, (But.same (s1.trans s2)).upd, D, upd_same, by rw [upd_ne npD]; exact e2⟩⟩
      · refine .inr ⟨⟨_, e⟩, fun D hD => dc_marksT (by show 6 < 7; decide) knd hfew e hD fun H2 s2 e2 => ?_⟩
        have npD : D ≠ p := fun z => by rw [z, hp1] at hD; cases hD
        refine ⟨_, rfl, p, C, dx, [], rfl, s2 _ _ hp1, B.cl, B.n1, (by show 0 < 1000; decide), fin _ _ ⟨rfl, (But.same (s1.trans s2)).upd, D, upd_same, by rw [upd_ne npD]; exact e2⟩⟩
end
end Dw
namespace Fh
open PySem PySem.Spec PySem.W PyProof.Rows L2 He
section
variable {X : Cx} {CX : CXT} {k : Nat} {f C : Addr} {fd : FuncData} {ps : List Str} {sp : Sp} {E : L2.St → XK} {x : Str} {p pos : Pos} {e : Expr} {es : List Expr} {t : TA}
/-- C(e, ..) where what is raised is told at the slots of its place -/
theorem run_makeS {pins : List (Addr × Obj)} {σ : L2.St} {H : Hp} {s : Shared} {Q : VK} {us : List Value} {vs : List V} (M : Mk X.K C f) (F : FnOk X.prog X.w X.K X.mg X.base CX k f fd ps sp) (hr : Room (k + 1) X.A) (hb : Binds X.K fd ps [])
    (hx : PassesAt CX X σ (E σ)) (I : Inv X pins σ H s) (r : Vals vs us)
    (h : ∀ x dx, H x = none → H dx = none → dx ≠ x → sp (.ref x :: vs) (upd (upd H dx (.own x)) x (.ins C dx [])) (fun v H2 => v = .non ∧ Q (.ref x) H2) (E σ)) :
    wpAny (model X.prog X.w) X.A (call (.ref C) us) (EP X pins σ Q) X.xe s := by
  have hq := h (s.heap.objs.size + 1) s.heap.objs.size (I.hok.fresh (Nat.le_succ _)) (I.hok.fresh (Nat.le_refl _)) (Nat.ne_of_lt (Nat.lt_succ_self _))
  have I2 := Inv.made (C := C) I
  have r2 : Vals (V.ref (s.heap.objs.size + 1) :: vs) (Value.ref (s.heap.objs.size + 1) :: us) := .cons rfl r
  have hl : (Value.ref (s.heap.objs.size + 1) :: us ++ []).length = ps.length := by
    have e := r2.length
    rw [F.len _ _ _ _ hq] at e
    rw [List.append_nil]
    exact e.symm
  have b := hb { s with heap := _ } (Value.ref (s.heap.objs.size + 1) :: us) I2.kIn hl
  rw [List.append_nil] at b
  refine wpAny_call (make_map (f := f) I.kIn M.makes M.init (beq_iff_eq.mp M.fn) (codeAny_mono (F.run _ X.stack _ _ ⟨Value.ref (s.heap.objs.size + 1) :: us, []⟩ (Value.ref (s.heap.objs.size + 1) :: us) _ _ (E σ) (hr.make C us [])
    (I2.env0.make C us []) b r2 hq) fun r s' hq' => ?_))
  cases r with
  | error e => exact hx pins _ _ e s' I2 hq'
  | ok fl =>
    cases fl with
    | ret u =>
      obtain ⟨v, H', I3, rv, ev, q3⟩ := I2.after hq'
      subst ev
      exact ⟨rv, ⟨V.ref (s.heap.objs.size + 1), H', I3, rfl, q3⟩⟩
    | next => exact False.elim hq'
    | brk => exact False.elim hq'
    | cont => exact False.elim hq'
def tMakeS (C : Addr) (sp : Sp) (E : L2.St → XK) (t : TA) : TE := fun σ H Q => t σ H fun vs H1 => ∀ x dx, H1 x = none → H1 dx = none → dx ≠ x → sp (.ref x :: vs) (upd (upd H1 dx (.own x)) x (.ins C dx [])) (fun v H2 => v = .non ∧ Q (.ref x) H2) (E σ)
theorem pe_makeS (M : Mk X.K C f) (F : FnOk X.prog X.w X.K X.mg X.base CX k f fd ps sp) (hr : Room (k + 1) X.A) (hg : Gl X x) (hm : X.mg x = some (.ref C)) (hb : Binds X.K fd ps []) (hx : ∀ σ, PassesAt CX X σ (E σ))
    (ha : PA X (e :: es) t) (hdb : (x == ("__debug__" : Str)) = false := by decide) (he : starEach (e :: es) X.env = (false, eval e X.env) :: starEach es X.env := by rfl) (hpl : (backTo pos (starEach es X.env)).any (·.1) = false := by rfl) :
    PE X (.Call (.Name x p) (e :: es) [] pos) (tMakeS C sp E t) := by
  refine ⟨fun pins s σ H Q I h => ?_⟩
  refine wpAny_Call_Name_kw (ld_glob I hg hm ?_ hdb)
  refine PySem.W.callWith_K (h₀ := X.base) I.ok.mod.kin M.kp (thn (ha.run pos pins s σ H _ I h) fun us s1 ⟨vs, H1, I1, r, q⟩ => ⟨I1.kIn, ?_⟩) he hpl
  exact run_makeS M F hr hb (hx σ) I1 r q
end
/-- why a book is refused, in a list, or [] -/
def spRefB (K : PySem.W.Frag) : Sp := fun vs H Q _ => ∃ pa vk vh vr vs' vc dk dh dr ds dc, vs = [.ref pa] ∧ H pa = some (.lst [vk, vh, vr, vs', vc]) ∧ Dq H dk vk ∧ Dq H dh vh ∧ Dq H dr vr ∧ Dq H ds vs' ∧ Dq H dc vc ∧
  SeqLe dk ∧ SeqLe dh ∧ RulesLe dr ∧ Sys H ∧ ∀ p H', Same H H' → Dq H' (dueL (dueBook dk dh dr ds dc)) (.ref p) → Q (.ref p) H'
theorem dueRules_cls {ns : List Str} {d : PyData} {c f : Str} {e : PyData} (h : dueRules ns d = some (c, f, e)) : (c = "BadRules" ∧ f = "value") ∨ (c = "BadRule" ∧ f = "number") ∨ (c = "NamedTwice" ∧ f = "name") := by
  cases hi : itemsD d with
  | none =>
    rw [due_no hi] at h
    cases h
    exact .inl ⟨rfl, rfl⟩
  | some ds =>
    cases hb : badIx ns 0 ds with
    | some i =>
      rw [due_bad hi hb] at h
      cases h
      exact .inr (.inl ⟨rfl, rfl⟩)
    | none =>
      cases hd : dupD [] (ds.map nameOf) with
      | some x =>
        rw [due_dup hi hb hd] at h
        cases h
        exact .inr (.inr ⟨rfl, rfl⟩)
      | none =>
        rw [due_ok hi hb hd] at h
        cases h
theorem dueBook_cls {dk dh dr ds dc : PyData} {c f : Str} {e : PyData} (h : dueBook dk dh dr ds dc = some (c, f, e)) :
    (c = "BadKinds" ∧ f = "value") ∨ (c = "BadHandles" ∧ f = "value") ∨ (c = "BadRules" ∧ f = "value") ∨ (c = "BadRule" ∧ f = "number") ∨ (c = "NamedTwice" ∧ f = "name") ∨ (c = "BadStart" ∧ f = "value") ∨ (c = "BadCount" ∧ f = "value") := by
  cases hk : kindsD dk with
  | false =>
    rw [dueBook_kinds hk] at h
    cases h
    exact .inl ⟨rfl, rfl⟩
  | true =>
  cases hh : handlesD (kindsOf dk) dh with
  | false =>
    rw [dueBook_handles hk hh] at h
    cases h
    exact .inr (.inl ⟨rfl, rfl⟩)
  | true =>
  cases hr : dueRules (kindsOf dk) dr with
  | some z =>
    rw [dueBook_rules hk hh hr] at h
    cases h
    rcases dueRules_cls hr with h | h | h
    · exact .inr (.inr (.inl h))
    · exact .inr (.inr (.inr (.inl h)))
    · exact .inr (.inr (.inr (.inr (.inl h))))
  | none =>
  cases hs : amongD (kindsOf dk) ds with
  | false =>
    rw [dueBook_start hk hh hr hs] at h
    cases h
    exact .inr (.inr (.inr (.inr (.inr (.inl ⟨rfl, rfl⟩)))))
  | true =>
  cases hc : integerD dc with
  | false =>
    rw [dueBook_count hk hh hr hs hc] at h
    cases h
    exact .inr (.inr (.inr (.inr (.inr (.inr ⟨rfl, rfl⟩)))))
  | true =>
    rw [dueBook_none hk hh hr hs hc] at h
    cases h
end Fh
namespace Dw
open PySem PySem.Spec PyProof.Rows L2 He Fh
abbrev sRefB : Stmt := top 31
section
variable {P : Program} {w : World} {K : PySem.W.Frag} {mg : Str → Option Value} {base : Heap}
theorem scRefB : FnScope ["parts", "found", "e"] ["parts"] (defScope sRefB) := ⟨rfl, rfl, rfl, by decide +kernel, rfl, by decide +kernel, by decide +kernel⟩
theorem ok_refB {f C fB : Addr} {fd fdB : FuncData} (F : FnP K "_law_refused" sRefB f fd) (M_Book : Mk K C fB) (m_Book : mg "Book" = some (.ref C)) (G_Book : FnOk P w K mg base (CX P w) 4 fB fdB ["self", "kinds", "handles", "rules", "start", "count"] (spBookR K C)) (b_Book : Binds K fdB ["self", "kinds", "handles", "rules", "start", "count"] [])
    (c_BadKinds : Cl P w K mg base "BadKinds" "value") (c_BadHandles : Cl P w K mg base "BadHandles" "value") (c_BadRules : Cl P w K mg base "BadRules" "value") (c_BadRule : Cl P w K mg base "BadRule" "number") (c_NamedTwice : Cl P w K mg base "NamedTwice" "name") (c_BadStart : Cl P w K mg base "BadStart" "value") (c_BadCount : Cl P w K mg base "BadCount" "value")
    (x_0_0 : PySem.W.exmOne K (.ref (ga K "BadKinds")) (.ref (ga K "BadKinds")) = some true) (x_1_0 : PySem.W.exmOne K (.ref (ga K "BadHandles")) (.ref (ga K "BadKinds")) = some false) (x_1_1 : PySem.W.exmOne K (.ref (ga K "BadHandles")) (.ref (ga K "BadHandles")) = some true) (x_2_0 : PySem.W.exmOne K (.ref (ga K "BadRules")) (.ref (ga K "BadKinds")) = some false) (x_2_1 : PySem.W.exmOne K (.ref (ga K "BadRules")) (.ref (ga K "BadHandles")) = some false) (x_2_2 : PySem.W.exmOne K (.ref (ga K "BadRules")) (.ref (ga K "BadRules")) = some true) (x_3_0 : PySem.W.exmOne K (.ref (ga K "BadRule")) (.ref (ga K "BadKinds")) = some false) (x_3_1 : PySem.W.exmOne K (.ref (ga K "BadRule")) (.ref (ga K "BadHandles")) = some false) (x_3_2 : PySem.W.exmOne K (.ref (ga K "BadRule")) (.ref (ga K "BadRules")) = some false) (x_3_3 : PySem.W.exmOne K (.ref (ga K "BadRule")) (.ref (ga K "BadRule")) = some true) (x_4_0 : PySem.W.exmOne K (.ref (ga K "NamedTwice")) (.ref (ga K "BadKinds")) = some false) (x_4_1 : PySem.W.exmOne K (.ref (ga K "NamedTwice")) (.ref (ga K "BadHandles")) = some false) (x_4_2 : PySem.W.exmOne K (.ref (ga K "NamedTwice")) (.ref (ga K "BadRules")) = some false) (x_4_3 : PySem.W.exmOne K (.ref (ga K "NamedTwice")) (.ref (ga K "BadRule")) = some false) (x_4_4 : PySem.W.exmOne K (.ref (ga K "NamedTwice")) (.ref (ga K "NamedTwice")) = some true) (x_5_0 : PySem.W.exmOne K (.ref (ga K "BadStart")) (.ref (ga K "BadKinds")) = some false) (x_5_1 : PySem.W.exmOne K (.ref (ga K "BadStart")) (.ref (ga K "BadHandles")) = some false) (x_5_2 : PySem.W.exmOne K (.ref (ga K "BadStart")) (.ref (ga K "BadRules")) = some false) (x_5_3 : PySem.W.exmOne K (.ref (ga K "BadStart")) (.ref (ga K "BadRule")) = some false) (x_5_4 : PySem.W.exmOne K (.ref (ga K "BadStart")) (.ref (ga K "NamedTwice")) = some false) (x_5_5 : PySem.W.exmOne K (.ref (ga K "BadStart")) (.ref (ga K "BadStart")) = some true) (x_6_0 : PySem.W.exmOne K (.ref (ga K "BadCount")) (.ref (ga K "BadKinds")) = some false) (x_6_1 : PySem.W.exmOne K (.ref (ga K "BadCount")) (.ref (ga K "BadHandles")) = some false) (x_6_2 : PySem.W.exmOne K (.ref (ga K "BadCount")) (.ref (ga K "BadRules")) = some false) (x_6_3 : PySem.W.exmOne K (.ref (ga K "BadCount")) (.ref (ga K "BadRule")) = some false) (x_6_4 : PySem.W.exmOne K (.ref (ga K "BadCount")) (.ref (ga K "NamedTwice")) = some false) (x_6_5 : PySem.W.exmOne K (.ref (ga K "BadCount")) (.ref (ga K "BadStart")) = some false) (x_6_6 : PySem.W.exmOne K (.ref (ga K "BadCount")) (.ref (ga K "BadCount")) = some true) :
    FnOk P w K mg base CX0 6 f fd ["parts"] (spRefB K) := by
  refine F.ok scRefB (fun vs H Q E h => ?_) (fun cdv A outer s H vs Q E hr h => ?_)
  · obtain ⟨pa, vk, vh, vr, vs', vc, dk, dh, dr, ds, dc, rfl, _⟩ := h
    rfl
  · obtain ⟨pa, vk, vh, vr, vs', vc, dk, dh, dr, ds, dc, rfl, hpa, qk, qh, qr, qs, qc, lk, lh, lr, hY, hQ⟩ := h
    have r_Book : Room 5 _ := hr
    refine ⟨_, PSs.nox (pss_cons (ps_set (i := 1) scRefB.nd rfl (by first | exact Or.inl rfl | exact Or.inr rfl) (pe_lst pa_nil))
    (pss_cons (ps_tryAs (i := 2) (n := "e") (tb := fun W => tDrop (tMakeS C (spBookR K C) (WE W) (tCons (tOp (rIxL K) (tVar 0) (tC (.int 0))) (tCons (tOp (rIxL K) (tVar 0) (tC (.int 1))) (tCons (tOp (rIxL K) (tVar 0) (tC (.int 2))) (tCons (tOp (rIxL K) (tVar 0) (tC (.int 3))) (tCons (tOp (rIxL K) (tVar 0) (tC (.int 4))) tNil))))))) rfl rfl scRefB.nd rfl rfl L2.takes0
      (fun W pn xe tk _ => pss_one (ps_expr (pe_makeS M_Book G_Book r_Book rfl m_Book b_Book (fun σ => passAt tk σ) (pa_cons (pe_ix ix_list (pv 0) pe_int (fun _ _ => rfl)) (pa_cons (pe_ix ix_list (pv 0) pe_int (fun _ _ => rfl)) (pa_cons (pe_ix ix_list (pv 0) pe_int (fun _ _ => rfl)) (pa_cons (pe_ix ix_list (pv 0) pe_int (fun _ _ => rfl)) (pa_cons (pe_ix ix_list (pv 0) pe_int (fun _ _ => rfl)) pa_nil))))))))
      (.cons (c := .ref (ga K "BadKinds")) ⟨rfl, rfl, .inl c_BadKinds.at_⟩ (fun a oe cls d pn hz hf => pss_one (ps_set (i := 1) scRefB.nd rfl (by first | exact Or.inl rfl | exact Or.inr rfl) (pe_lst (pa_cons pe_str (pa_cons (pe_exS c_BadKinds.ex.xf c_BadKinds.no hz hf (pv 2)) pa_nil)))))
      (.cons (c := .ref (ga K "BadHandles")) ⟨rfl, rfl, .inl c_BadHandles.at_⟩ (fun a oe cls d pn hz hf => pss_one (ps_set (i := 1) scRefB.nd rfl (by first | exact Or.inl rfl | exact Or.inr rfl) (pe_lst (pa_cons pe_str (pa_cons (pe_exS c_BadHandles.ex.xf c_BadHandles.no hz hf (pv 2)) pa_nil)))))
      (.cons (c := .ref (ga K "BadRules")) ⟨rfl, rfl, .inl c_BadRules.at_⟩ (fun a oe cls d pn hz hf => pss_one (ps_set (i := 1) scRefB.nd rfl (by first | exact Or.inl rfl | exact Or.inr rfl) (pe_lst (pa_cons pe_str (pa_cons (pe_exS c_BadRules.ex.xf c_BadRules.no hz hf (pv 2)) pa_nil)))))
      (.cons (c := .ref (ga K "BadRule")) ⟨rfl, rfl, .inl c_BadRule.at_⟩ (fun a oe cls d pn hz hf => pss_one (ps_set (i := 1) scRefB.nd rfl (by first | exact Or.inl rfl | exact Or.inr rfl) (pe_lst (pa_cons pe_str (pa_cons (pe_exS c_BadRule.ex.xf c_BadRule.no hz hf (pv 2)) pa_nil)))))
      (.cons (c := .ref (ga K "NamedTwice")) ⟨rfl, rfl, .inl c_NamedTwice.at_⟩ (fun a oe cls d pn hz hf => pss_one (ps_set (i := 1) scRefB.nd rfl (by first | exact Or.inl rfl | exact Or.inr rfl) (pe_lst (pa_cons pe_str (pa_cons (pe_exS c_NamedTwice.ex.xf c_NamedTwice.no hz hf (pv 2)) pa_nil)))))
      (.cons (c := .ref (ga K "BadStart")) ⟨rfl, rfl, .inl c_BadStart.at_⟩ (fun a oe cls d pn hz hf => pss_one (ps_set (i := 1) scRefB.nd rfl (by first | exact Or.inl rfl | exact Or.inr rfl) (pe_lst (pa_cons pe_str (pa_cons (pe_exS c_BadStart.ex.xf c_BadStart.no hz hf (pv 2)) pa_nil)))))
      (.cons (c := .ref (ga K "BadCount")) ⟨rfl, rfl, .inl c_BadCount.at_⟩ (fun a oe cls d pn hz hf => pss_one (ps_set (i := 1) scRefB.nd rfl (by first | exact Or.inl rfl | exact Or.inr rfl) (pe_lst (pa_cons pe_str (pa_cons (pe_exS c_BadCount.ex.xf c_BadCount.no hz hf (pv 2)) pa_nil)))))
      .nil))))))))
    (pss_one (ps_ret (pv 1))))), ?_⟩
    refine ⟨Nat.zero_le _, fun l hl => ?_⟩
    have s1 := same_upd (o := .lst []) hl
    have e1 : upd H l (.lst []) l = some (.lst []) := upd_same
    have yl := hY.new hl
    generalize upd H l (.lst []) = H1 at s1 e1
    have p1 := s1 _ _ hpa
    refine ⟨_, rfl, pa, _, 0, vk, rfl, rfl, SqL.of p1, rfl, _, rfl, pa, _, 1, vh, rfl, rfl, SqL.of p1, rfl, _, rfl, pa, _, 2, vr, rfl, rfl, SqL.of p1, rfl, _, rfl, pa, _, 3, vs', rfl, rfl, SqL.of p1, rfl, _, rfl, pa, _, 4, vc, rfl, rfl, SqL.of p1, rfl, fun x dx nx ndx nex => ?_⟩
    have sn := new_ins (C := C) nx ndx
    have s2 := s1.trans sn
    have found : ∀ {H2 : Hp} {p : Addr} {tg c f : Str} {e : PyData} {v : V}, Same H1 H2 → H2 p = none → Dq H2 e v → tagOf c = tg → dueBook dk dh dr ds dc = some (c, f, e) → Q (.ref p) (upd H2 p (.lst [.str tg, v])) := fun {H2 p tg c f e v} s3 hp he ht eq =>
      hQ p _ ((s1.trans s3).trans (same_upd hp)) (by rw [eq, dueL_eq ht]; exact dq_tag2 ((hY.up (s1.trans s3)).new hp) upd_same (Dq.up (same_upd hp) _ _ he))
    refine ⟨x, dx, vk, vh, vr, vs', vc, dk, dh, dr, ds, dc, rfl, upd_same, Dq.up s2 _ _ qk, Dq.up s2 _ _ qh, Dq.up s2 _ _ qr, Dq.up s2 _ _ qs, Dq.up s2 _ _ qc, lk, lh, lr, ?_, fun hn H2 b2 => ?_⟩
    · intro c f e hdue y dx' H2 b2 n2 e2 q2
      have s3 := But.old sn nx b2
      rcases dueBook_cls hdue with ⟨rfl, rfl⟩ | ⟨rfl, rfl⟩ | ⟨rfl, rfl⟩ | ⟨rfl, rfl⟩ | ⟨rfl, rfl⟩ | ⟨rfl, rfl⟩ | ⟨rfl, rfl⟩
      · exact ⟨true, x_0_0, fun _ a ha => ⟨_, rfl, rfl, rfl, dx', y, rfl, e2, (by show 2 ≤ sizeLine; decide), fun l2 hl2 => ⟨_, rfl, found s3 hl2 q2 tag_kinds hdue⟩⟩, fun z => by cases z⟩
      · exact ⟨false, x_1_0, (fun z => by cases z), fun _ => ⟨true, x_1_1, fun _ a ha => ⟨_, rfl, rfl, rfl, dx', y, rfl, e2, (by show 2 ≤ sizeLine; decide), fun l2 hl2 => ⟨_, rfl, found s3 hl2 q2 tag_handles hdue⟩⟩, fun z => by cases z⟩⟩
      · exact ⟨false, x_2_0, (fun z => by cases z), fun _ => ⟨false, x_2_1, (fun z => by cases z), fun _ => ⟨true, x_2_2, fun _ a ha => ⟨_, rfl, rfl, rfl, dx', y, rfl, e2, (by show 2 ≤ sizeLine; decide), fun l2 hl2 => ⟨_, rfl, found s3 hl2 q2 tag_rules hdue⟩⟩, fun z => by cases z⟩⟩⟩
      · exact ⟨false, x_3_0, (fun z => by cases z), fun _ => ⟨false, x_3_1, (fun z => by cases z), fun _ => ⟨false, x_3_2, (fun z => by cases z), fun _ => ⟨true, x_3_3, fun _ a ha => ⟨_, rfl, rfl, rfl, dx', y, rfl, e2, (by show 2 ≤ sizeLine; decide), fun l2 hl2 => ⟨_, rfl, found s3 hl2 q2 tag_rule hdue⟩⟩, fun z => by cases z⟩⟩⟩⟩
      · exact ⟨false, x_4_0, (fun z => by cases z), fun _ => ⟨false, x_4_1, (fun z => by cases z), fun _ => ⟨false, x_4_2, (fun z => by cases z), fun _ => ⟨false, x_4_3, (fun z => by cases z), fun _ => ⟨true, x_4_4, fun _ a ha => ⟨_, rfl, rfl, rfl, dx', y, rfl, e2, (by show 2 ≤ sizeLine; decide), fun l2 hl2 => ⟨_, rfl, found s3 hl2 q2 tag_twice hdue⟩⟩, fun z => by cases z⟩⟩⟩⟩⟩
      · exact ⟨false, x_5_0, (fun z => by cases z), fun _ => ⟨false, x_5_1, (fun z => by cases z), fun _ => ⟨false, x_5_2, (fun z => by cases z), fun _ => ⟨false, x_5_3, (fun z => by cases z), fun _ => ⟨false, x_5_4, (fun z => by cases z), fun _ => ⟨true, x_5_5, fun _ a ha => ⟨_, rfl, rfl, rfl, dx', y, rfl, e2, (by show 2 ≤ sizeLine; decide), fun l2 hl2 => ⟨_, rfl, found s3 hl2 q2 tag_start hdue⟩⟩, fun z => by cases z⟩⟩⟩⟩⟩⟩
      · exact ⟨false, x_6_0, (fun z => by cases z), fun _ => ⟨false, x_6_1, (fun z => by cases z), fun _ => ⟨false, x_6_2, (fun z => by cases z), fun _ => ⟨false, x_6_3, (fun z => by cases z), fun _ => ⟨false, x_6_4, (fun z => by cases z), fun _ => ⟨false, x_6_5, (fun z => by cases z), fun _ => ⟨true, x_6_6, fun _ a ha => ⟨_, rfl, rfl, rfl, dx', y, rfl, e2, (by show 2 ≤ sizeLine; decide), fun l2 hl2 => ⟨_, rfl, found s3 hl2 q2 tag_count hdue⟩⟩, fun z => by cases z⟩⟩⟩⟩⟩⟩⟩
    · refine ⟨rfl, ⟨_, rfl, hQ l H2 (s1.trans (But.old sn nx b2)) ?_⟩⟩
      rw [hn]
      exact dq_nil yl (But.old sn nx b2 _ _ e1)
end
end Dw
namespace Fh
open PySem PySem.Spec PySem.W PyProof.Rows L2 He
/-! ### odd rules: how great they may be -/
structure CF (W : Nat) (d : PyData) : Prop where
  s : Short 64 W d
  l : d.canLay0 = true
  dp : d.depth ≤ 3
  st : StrLe d
  tl : ∀ es, d = .tuple es → es.length ≤ 1000
structure RF (W : Nat) (d : PyData) : Prop where
  s : Short 64 W d
  l : d.canLay0 = true
  dp : d.depth ≤ 4
  le : RuleLe d
theorem CF.mono {W W2 : Nat} {d : PyData} (h : CF W d) (l : W ≤ W2) : CF W2 d := ⟨h.s.le l, h.l, h.dp, h.st, h.tl⟩
theorem RF.mono {W W2 : Nat} {d : PyData} (h : RF W d) (l : W ≤ W2) : RF W2 d := ⟨h.s.le l, h.l, h.dp, h.le⟩
theorem leaves_mem {B : Nat} : ∀ {ds : List PyData} {d : PyData}, PyData.leavesShortAll B ds = true → d ∈ ds → d.leavesShort B = true
  | [], _, _, h => by cases h
  | e :: ds, d, h, hd => by
    rw [PyData.leavesShortAll, Bool.and_eq_true] at h
    rcases List.mem_cons.mp hd with rfl | hd
    · exact h.1
    · exact leaves_mem h.2 hd
theorem weight_mem : ∀ {ds : List PyData} {d : PyData}, d ∈ ds → d.weight ≤ PyData.weightAll ds
  | [], _, h => by cases h
  | e :: ds, d, hd => by
    rw [PyData.weightAll]
    rcases List.mem_cons.mp hd with rfl | hd
    · omega
    · have := weight_mem hd
      omega
theorem show_mem : ∀ {ds : List PyData} {d : PyData}, PyData.showableAll ds = true → d ∈ ds → d.showable = true
  | [], _, _, h => by cases h
  | e :: ds, d, h, hd => by
    rw [PyData.showableAll, Bool.and_eq_true] at h
    rcases List.mem_cons.mp hd with rfl | hd
    · exact h.1
    · exact show_mem h.2 hd
theorem lay_mem : ∀ {ds : List PyData} {d : PyData}, PyData.canLayAll0 ds = true → d ∈ ds → d.canLay0 = true
  | [], _, _, h => by cases h
  | e :: ds, d, h, hd => by
    rw [PyData.canLayAll0, Bool.and_eq_true] at h
    rcases List.mem_cons.mp hd with rfl | hd
    · exact h.1
    · exact lay_mem h.2 hd
theorem depth_mem : ∀ {ds : List PyData} {d : PyData}, d ∈ ds → d.depth ≤ PyData.depthAll ds
  | [], _, h => by cases h
  | e :: ds, d, hd => by
    rw [PyData.depthAll]
    rcases List.mem_cons.mp hd with rfl | hd
    · omega
    · have := depth_mem hd
      omega
theorem shortAll_of {B W : Nat} : ∀ {ds : List PyData}, (∀ d ∈ ds, Short B W d) → ShortAll B (ds.length * (W + 1)) ds := fun {ds} h => by
  have := shortAll_map (f := id) (xs := ds) h
  rwa [List.map_id] at this
theorem layAll_of : ∀ {ds : List PyData}, (∀ d ∈ ds, d.canLay0 = true) → PyData.canLayAll0 ds = true
  | [], _ => by rw [PyData.canLayAll0]
  | d :: ds, h => by rw [PyData.canLayAll0, h d List.mem_cons_self, layAll_of fun e he => h e (List.mem_cons_of_mem _ he)]; rfl
theorem depthAll_of {n : Nat} : ∀ {ds : List PyData}, (∀ d ∈ ds, d.depth ≤ n) → PyData.depthAll ds ≤ n
  | [], _ => by rw [PyData.depthAll]; exact Nat.zero_le _
  | d :: ds, h => by
    rw [PyData.depthAll]
    exact Nat.max_le.mpr ⟨h d List.mem_cons_self, depthAll_of fun e he => h e (List.mem_cons_of_mem _ he)⟩
theorem RF.comp {W : Nat} {ds : List PyData} {c : PyData} (h : RF W (.tuple ds)) (hc : c ∈ ds) : CF W c := by
  obtain ⟨⟨h1, h2, h3⟩, h4, h5, h6⟩ := h
  rw [PyData.leavesShort] at h1
  rw [PyData.weight] at h2
  rw [PyData.showable] at h3
  rw [PyData.canLay0] at h4
  rw [PyData.depth] at h5
  have := depth_mem hc
  exact ⟨⟨leaves_mem h1 hc, Nat.le_trans (weight_mem hc) h2, show_mem h3 hc⟩, lay_mem h4 hc, by omega, ((h6 ds rfl).2 c hc).1, ((h6 ds rfl).2 c hc).2⟩
theorem RF.tup {W : Nat} {ds : List PyData} (h : ∀ c ∈ ds, CF W c) (hl : ds.length ≤ 5) : RF (5 * (W + 1)) (.tuple ds) := by
  have h1 := (shortAll_of fun d hd => (h d hd).s).tuple.le (Nat.mul_le_mul_right (W + 1) hl)
  refine ⟨h1, by rw [PyData.canLay0]; exact layAll_of fun d hd => (h d hd).l, ?_, fun es e => ?_⟩
  · rw [PyData.depth]
    have := depthAll_of fun d hd => (h d hd).dp
    omega
  · cases e
    exact ⟨by omega, fun c hc => ⟨(h c hc).st, (h c hc).tl⟩⟩
theorem RF.lst {W : Nat} {ds : List PyData} (h : ∀ c ∈ ds, CF W c) (hl : ds.length ≤ 5) : RF (5 * (W + 1)) (.list ds) := by
  have h1 := (shortAll_of fun d hd => (h d hd).s).list.le (Nat.mul_le_mul_right (W + 1) hl)
  refine ⟨h1, by rw [PyData.canLay0]; exact layAll_of fun d hd => (h d hd).l, ?_, fun es e => by cases e⟩
  rw [PyData.depth]
  have := depthAll_of fun d hd => (h d hd).dp
  omega
theorem short_non {B W : Nat} (h : 4 ≤ W) : Short B W .none := ⟨by rw [PyData.leavesShort], by rw [PyData.weight]; omega, by rw [PyData.showable]⟩
theorem CF.non {W : Nat} (h : 4 ≤ W) : CF W .none := ⟨short_non h, by rw [PyData.canLay0], by rw [PyData.depth]; omega, (fun x e => by cases e), fun es e => by cases e⟩
theorem RF.non {W : Nat} (h : 4 ≤ W) : RF W .none := ⟨short_non h, by rw [PyData.canLay0], by rw [PyData.depth]; omega, fun es e => by cases e⟩
theorem CF.str {W : Nat} {x : Str} (h1 : PyData.strOk x = true) (h2 : x.length ≤ W) (h3 : x.length ≤ 1000) : CF W (.str x) := ⟨short_str h1 h2, by rw [PyData.canLay0]; exact h1, by rw [PyData.depth]; omega, (fun y e => by cases e; omega), fun es e => by cases e⟩
theorem RF.str {W : Nat} {x : Str} (h1 : PyData.strOk x = true) (h2 : x.length ≤ W) : RF W (.str x) := ⟨short_str h1 h2, by rw [PyData.canLay0]; exact h1, by rw [PyData.depth]; omega, fun es e => by cases e⟩
theorem CF.name {W : Nat} {x : Str} (h : nameB x = true) (l : 8 ≤ W) : CF W (.str x) := .str (nameB_ok h) (Nat.le_trans (nameB_len h).2 l) (by have := (nameB_len h).2; omega)
theorem CF.tupS {W : Nat} {xs : List Str} (h : ∀ x ∈ xs, nameB x = true) (hl : xs.length ≤ 3) (hW : 30 ≤ W) : CF W (.tuple (xs.map .str)) := by
  refine ⟨(short_names (n := 3) h hl).tuple.le (by omega), by rw [PyData.canLay0]; exact names_lay fun x hx => nameB_ok (h x hx), ?_, (fun x e => by cases e), fun es e => by cases e; rw [List.length_map]; omega⟩
  rw [PyData.depth]
  have := depthAll_of (n := 0) (ds := xs.map .str) fun d hd => by
    obtain ⟨x, _, rfl⟩ := List.mem_map.mp hd
    rw [PyData.depth]
    exact Nat.le_refl _
  omega
theorem CF.lstS {W : Nat} {xs : List Str} (h : ∀ x ∈ xs, nameB x = true) (hl : xs.length ≤ 3) (hW : 30 ≤ W) : CF W (.list (xs.map .str)) := by
  refine ⟨(short_names (n := 3) h hl).list.le (by omega), by rw [PyData.canLay0]; exact names_lay fun x hx => nameB_ok (h x hx), ?_, (fun x e => by cases e), fun es e => by cases e⟩
  rw [PyData.depth]
  have := depthAll_of (n := 0) (ds := xs.map .str) fun d hd => by
    obtain ⟨x, _, rfl⟩ := List.mem_map.mp hd
    rw [PyData.depth]
    exact Nat.le_refl _
  omega
/-- ([x],) -/
theorem CF.tupL {W : Nat} {x : Str} (h : nameB x = true) (hW : 30 ≤ W) : CF W (.tuple [.list [.str x]]) := by
  have c : CF 10 (.list [.str x]) := by
    refine ⟨?_, ?_, ?_, (fun y e => by cases e), fun es e => by cases e⟩
    · have := (ShortAll.cons (B := 64) (short_name h) (.nil (W := 0))).list
      exact this.le (by omega)
    · simp only [PyData.canLay0, PyData.canLayAll0, nameB_ok h, Bool.and_true]
    · simp only [PyData.depth, PyData.depthAll]; omega
  refine ⟨?_, ?_, ?_, (fun y e => by cases e), fun es e => by cases e; exact Nat.le_trans (Nat.le_refl 1) (by decide)⟩
  · exact (ShortAll.cons c.s (.nil (W := 0))).tuple.le (by omega)
  · simp only [PyData.canLay0, PyData.canLayAll0, nameB_ok h, Bool.and_true]
  · simp only [PyData.depth, PyData.depthAll]; omega
def oddV : List PyData := [.none, .bool true, .str "1", .tuple [.int 1], .list []]
theorem CF.odd {W : Nat} {d : PyData} (h : d ∈ oddV) (hW : 300 ≤ W) : CF W d := by
  unfold oddV at h
  simp only [List.mem_cons, List.mem_nil_iff, or_false] at h
  have k : ∀ {d : PyData}, Short 64 300 d → CF 300 d → CF W d := fun _ c => c.mono hW
  rcases h with rfl | rfl | rfl | rfl | rfl
  · exact .non (by omega)
  · exact ⟨⟨by decide +kernel, Nat.le_trans (by decide +kernel : _ ≤ 300) hW, by decide +kernel⟩, by decide +kernel, by decide +kernel, (fun y e => by cases e), fun es e => by cases e⟩
  · exact ⟨⟨by decide +kernel, Nat.le_trans (by decide +kernel : _ ≤ 300) hW, by decide +kernel⟩, by decide +kernel, by decide +kernel, (fun y e => by cases e; decide +kernel), fun es e => by cases e⟩
  · exact ⟨⟨by decide +kernel, Nat.le_trans (by decide +kernel : _ ≤ 300) hW, by decide +kernel⟩, by decide +kernel, by decide +kernel, (fun y e => by cases e), fun es e => by cases e; decide⟩
  · exact ⟨⟨by decide +kernel, Nat.le_trans (by decide +kernel : _ ≤ 300) hW, by decide +kernel⟩, by decide +kernel, by decide +kernel, (fun y e => by cases e), fun es e => by cases e⟩
theorem CF.zero {W : Nat} (hW : 200 ≤ W) : CF W (.int 0) := ⟨(short_int (i := 0) (by decide)).le hW, by rw [PyData.canLay0], by rw [PyData.depth]; omega, (fun x e => by cases e), fun es e => by cases e⟩
theorem CF.nilT {W : Nat} : CF W (.tuple []) := ⟨⟨by decide +kernel, by show PyData.weight _ ≤ W; rw [PyData.weight, PyData.weightAll]; omega, by decide +kernel⟩, by decide +kernel, by decide +kernel, (fun x e => by cases e), fun es e => by cases e; decide⟩
theorem CF.nilL {W : Nat} : CF W (.list []) := ⟨⟨by decide +kernel, by show PyData.weight _ ≤ W; rw [PyData.weight, PyData.weightAll]; omega, by decide +kernel⟩, by decide +kernel, by decide +kernel, (fun x e => by cases e), fun es e => by cases e⟩
def rLenK (K : PySem.W.Frag) : List V → Hp → VK → Prop := fun xs H Q => ∃ x n, xs = [x] ∧ LenV K x H n ∧ Q (.int (n : Int)) H
theorem call_lenK {X : Cx} {K : PySem.W.Frag} (hK : X.K = K := by rfl) : CallR X (.builtin "len") (rLenK K) := by
  subst hK
  exact call_len
def spBent (K : PySem.W.Frag) : Sp := fun vs H Q _ => ∃ t a kd ws W ds xs, vs = [.ref t, .ref a, .str kd] ∧ TapeAt H t ∧ Sys H ∧ t ∈ ws ∧ (∀ w ∈ ws, H w ≠ none) ∧ hid H ws a = some (.lst xs) ∧ DqAll (hid H ws) ds xs ∧ nameB kd = true ∧ 300 ≤ W ∧ ds.length ≤ 100 ∧ (∀ e ∈ ds, RF W e) ∧
  ∀ p H' ds' xs' e n, Go t H H' → H p = none → H' p = some (.lst xs') → DqAll (hid H' ws) ds' xs' → n ≤ ds.length → ds' = ds.take n ++ ([e] ++ ds.drop n) → RF (5 * (W + 1)) e → Q (.ref p) H'
end Fh
namespace Fh
open PySem PySem.Spec PySem.W PyProof.Rows L2 He
/-! ### terms that make data of data: read at once -/
/-- what stands in a slot: data, or a list (in a hidden place) of data -/
inductive Ent where
  | d (x : PyData)
  | top (xs : List PyData)
def EntAt (H G : Hp) (o : Option (Option V)) : Ent → Prop
  | .d x => ∃ v, o = some (some v) ∧ Dq G x v
  | .top xs => ∃ a vs, o = some (some (.ref a)) ∧ H a = some (.lst vs) ∧ DqAll G xs vs
def DIn (H G : Hp) (σ : Sto) : List (Nat × Ent) → Prop
  | [] => True
  | (i, d) :: r => EntAt H G σ[i]? d ∧ DIn H G σ r
theorem EntAt.up {H H' G G' : Hp} {o : Option (Option V)} (s : Same H H') (g : Same G G') : ∀ {e : Ent}, EntAt H G o e → EntAt H' G' o e
  | .d _, ⟨v, e, h⟩ => ⟨v, e, Dq.up g _ _ h⟩
  | .top _, ⟨a, vs, e, h, r⟩ => ⟨a, vs, e, s _ _ h, DqAll.up g _ _ r⟩
theorem DIn.up {H H' G G' : Hp} {σ : Sto} (s : Same H H') (g : Same G G') : ∀ {Γ : List (Nat × Ent)}, DIn H G σ Γ → DIn H' G' σ Γ
  | [], _ => trivial
  | (_, _) :: _, ⟨h, r⟩ => ⟨h.up s g, r.up s g⟩
theorem DIn.at_ {H G : Hp} {σ : Sto} {i : Nat} {d : Ent} : ∀ {Γ : List (Nat × Ent)}, DIn H G σ Γ → Γ.lookup i = some d → EntAt H G σ[i]? d
  | [], _, e => by cases e
  | (j, b) :: Γ, ⟨h, r⟩, e => by
    rw [List.lookup_cons] at e
    split at e
    · rename_i q
      cases e
      rw [beq_iff_eq.mp q]
      exact h
    · exact r.at_ e
structure DC (ws : List Addr) (Γ : List (Nat × Ent)) (σ : Sto) (H : Hp) : Prop where
  live : ∀ w ∈ ws, H w ≠ none
  sys : Sys H
  at_ : DIn H (hid H ws) σ Γ
theorem live_up {H H' : Hp} {ws : List Addr} (s : Same H H') (h : ∀ w ∈ ws, H w ≠ none) : ∀ w ∈ ws, H' w ≠ none := fun w hw z => h w hw (s.free z)
theorem DC.up {ws : List Addr} {Γ : List (Nat × Ent)} {σ : Sto} {H H' : Hp} (s : Same H H') (h : DC ws Γ σ H) : DC ws Γ σ H' := ⟨live_up s h.live, h.sys.up s, h.at_.up s (hid_up s)⟩
theorem DC.new {ws : List Addr} {Γ : List (Nat × Ent)} {σ : Sto} {H : Hp} (h : DC ws Γ σ H) {p : Addr} {o : HO} (hp : H p = none) : hid (upd H p o) ws p = some o := hid_at (hid_out h.live hp) upd_same
def DT (K : PySem.W.Frag) (ws : List Addr) (Γ : List (Nat × Ent)) (σ : Sto) (te : TE) (d : PyData) : Prop := ∀ (H : Hp) (Q : VK), DC ws Γ σ H → (∀ v H', Same H H' → Dq (hid H' ws) d v → Q v H') → te σ H Q
def DTs (K : PySem.W.Frag) (ws : List Addr) (Γ : List (Nat × Ent)) (σ : Sto) (t : TA) (ds : List PyData) : Prop := ∀ (H : Hp) (Q : List V → Hp → Prop), DC ws Γ σ H → (∀ vs H', Same H H' → DqAll (hid H' ws) ds vs → Q vs H') → t σ H Q
section
variable {K : PySem.W.Frag} {ws : List Addr} {Γ : List (Nat × Ent)} {σ : Sto} {te tf : TE} {t : TA} {d e : PyData} {ds es : List PyData}
theorem DT.part {i n : Nat} (h : Γ.lookup i = some (.top ds)) (hd : ds[n]? = some d) : DT K ws Γ σ (tOp (rIxL K) (tVar i) (tC (.int (n : Int)))) d := fun H Q c q => by
  obtain ⟨a, vs, e, ea, hx⟩ := c.at_.at_ h
  obtain ⟨x, ex, hx⟩ := hx.at_ hd
  exact ⟨_, e, a, vs, _, x, rfl, rfl, SqL.of ea, atI_nat ex, q x H (Same.refl H) hx⟩
theorem DT.var {i : Nat} (h : Γ.lookup i = some (.d d)) : DT K ws Γ σ (tVar i) d := fun H Q c q => by
  obtain ⟨v, ev, hv⟩ := c.at_.at_ h
  exact ⟨v, ev, q v H (Same.refl H) hv⟩
theorem DT.int {n : Int} : DT K ws Γ σ (tC (.int n)) (.int n) := fun H Q c q => q _ H (Same.refl H) (by simp only [Dq])
theorem DT.str {x : Str} : DT K ws Γ σ (tC (.str x)) (.str x) := fun H Q c q => q _ H (Same.refl H) (by simp only [Dq])
theorem DT.non : DT K ws Γ σ (tC .non) .none := fun H Q c q => q _ H (Same.refl H) (by simp only [Dq])
theorem DT.bl {b : Bool} : DT K ws Γ σ (tC (.bl b)) (.bool b) := fun H Q c q => q _ H (Same.refl H) (by simp only [Dq])
theorem DTs.nil : DTs K ws Γ σ tNil [] := fun H Q c q => q [] H (Same.refl H) .nil
theorem DTs.cons (h : DT K ws Γ σ te d) (g : DTs K ws Γ σ t ds) : DTs K ws Γ σ (tCons te t) (d :: ds) := fun H Q c q =>
  h H _ c fun v H1 s1 hv => g H1 _ (c.up s1) fun vs H2 s2 hvs => q _ H2 (s1.trans s2) (.cons (Dq.up (hid_up s2) _ _ hv) hvs)
theorem DT.tup (h : DTs K ws Γ σ t ds) (hl : ds.length ≤ 1000 := by simp) : DT K ws Γ σ (tTup t) (.tuple ds) := fun H Q c q =>
  h H _ c fun vs H1 s1 hvs => ⟨by rw [hvs.len, sizeLine_eq]; omega, fun p hp => q _ _ (s1.trans (same_upd hp)) (by
    simp only [Dq]
    exact ⟨p, vs, rfl, (c.up s1).new hp, DqAll.up (hid_up (same_upd hp)) _ _ hvs⟩)⟩
theorem DT.lst (h : DTs K ws Γ σ t ds) (hl : ds.length ≤ 1000 := by simp) : DT K ws Γ σ (tLst t) (.list ds) := fun H Q c q =>
  h H _ c fun vs H1 s1 hvs => ⟨by rw [hvs.len, sizeLine_eq]; omega, fun p hp => q _ _ (s1.trans (same_upd hp)) (by
    simp only [Dq]
    exact ⟨p, vs, rfl, (c.up s1).sys.new hp, (c.up s1).new hp, DqAll.up (hid_up (same_upd hp)) _ _ hvs⟩)⟩
theorem DT.ix {n : Nat} (h : DT K ws Γ σ te (.tuple ds)) (hd : ds[n]? = some d) : DT K ws Γ σ (tOp (rIxT K) te (tC (.int (n : Int)))) d := fun H Q c q =>
  h H _ c fun v H1 s1 hv => by
    simp only [Dq] at hv
    obtain ⟨a, xs, rfl, ea, hx⟩ := hv
    obtain ⟨x, ex, hx⟩ := hx.at_ hd
    exact ⟨a, xs, _, x, rfl, rfl, SqT.of (hid_same _ _ ea), atI_nat ex, q x H1 s1 hx⟩
theorem DT.ixL {n : Nat} (h : DT K ws Γ σ te (.list ds)) (hd : ds[n]? = some d) : DT K ws Γ σ (tOp (rIxL K) te (tC (.int (n : Int)))) d := fun H Q c q =>
  h H _ c fun v H1 s1 hv => by
    simp only [Dq] at hv
    obtain ⟨a, xs, rfl, _, ea, hx⟩ := hv
    obtain ⟨x, ex, hx⟩ := hx.at_ hd
    exact ⟨a, xs, _, x, rfl, rfl, SqL.of (hid_same _ _ ea), atI_nat ex, q x H1 s1 hx⟩
theorem DT.slTo {n : Nat} (h : DT K ws Γ σ te (.tuple ds)) (hn : n < ds.length) : DT K ws Γ σ (tSl (rSlT K) te tNoPart (tPart (tC (.int (n : Int))))) (.tuple (ds.take n)) := fun H Q c q =>
  h H _ c fun v H1 s1 hv => by
    simp only [Dq] at hv
    obtain ⟨a, xs, rfl, ea, hx⟩ := hv
    have hl := hx.len
    refine ⟨_, rfl, a, xs, rfl, SqT.of (hid_same _ _ ea), ?_, fun p hp => ?_⟩
    · rintro ⟨_, z⟩
      have e : HT.sIx xs.length xs.length (some (n : Int)) = min n xs.length := HT.sIx_nat xs.length xs.length n
      rw [e] at z
      omega
    · rw [cut_take]
      refine q _ _ (s1.trans (same_upd hp)) ?_
      simp only [Dq]
      exact ⟨p, _, rfl, (c.up s1).new hp, DqAll.up (hid_up (same_upd hp)) _ _ (hx.take n)⟩
theorem DT.slFrom {n : Nat} (h : DT K ws Γ σ te (.tuple ds)) (hn : 0 < n) (h0 : 0 < ds.length) : DT K ws Γ σ (tSl (rSlT K) te (tPart (tC (.int (n : Int)))) tNoPart) (.tuple (ds.drop n)) := fun H Q c q =>
  h H _ c fun v H1 s1 hv => by
    simp only [Dq] at hv
    obtain ⟨a, xs, rfl, ea, hx⟩ := hv
    have hl := hx.len
    refine ⟨_, rfl, a, xs, rfl, SqT.of (hid_same _ _ ea), ?_, fun p hp => ?_⟩
    · rintro ⟨z, _⟩
      have e : HT.sIx xs.length 0 (some (n : Int)) = min n xs.length := HT.sIx_nat xs.length 0 n
      rw [e] at z
      omega
    · rw [cut_drop]
      refine q _ _ (s1.trans (same_upd hp)) ?_
      simp only [Dq]
      exact ⟨p, _, rfl, (c.up s1).new hp, DqAll.up (hid_up (same_upd hp)) _ _ (hx.drop n)⟩
theorem DT.catT (h : DT K ws Γ σ te (.tuple ds)) (g : DT K ws Γ σ tf (.tuple es)) (hn : ds ≠ []) (hl : ds.length + es.length ≤ 100000) : DT K ws Γ σ (tOp (rCatT K) te tf) (.tuple (ds ++ es)) := fun H Q c q =>
  h H _ c fun v H1 s1 hv => g H1 _ (c.up s1) fun w H2 s2 hw => by
    have hv := Dq.up (hid_up s2) _ _ hv
    simp only [Dq] at hv hw
    obtain ⟨a, xs, rfl, ea, hx⟩ := hv
    obtain ⟨b, ys, rfl, eb, hy⟩ := hw
    have s12 := s1.trans s2
    refine ⟨a, b, xs, ys, rfl, rfl, SqT.of (hid_same _ _ ea), SqT.of (hid_same _ _ eb), fun z => hn ?_, by rw [hx.len, hy.len, sizeLine_eq]; omega, fun z => q _ _ s12 ?_, fun _ p hp => q _ _ (s12.trans (same_upd hp)) ?_⟩
    · rw [z] at hx
      have := hx.len
      exact List.length_eq_zero_iff.mp this.symm
    · simp only [Dq]
      refine ⟨a, xs, rfl, ea, ?_⟩
      have := hx.app hy
      rwa [z, List.append_nil] at this
    · simp only [Dq]
      exact ⟨p, _, rfl, (c.up s12).new hp, DqAll.up (hid_up (same_upd hp)) _ _ (hx.app hy)⟩
theorem DT.cat (h : DT K ws Γ σ te (.list ds)) (g : DT K ws Γ σ tf (.list es)) (hl : ds.length + es.length ≤ 100000) : DT K ws Γ σ (tOp rCat te tf) (.list (ds ++ es)) := fun H Q c q =>
  h H _ c fun v H1 s1 hv => g H1 _ (c.up s1) fun w H2 s2 hw => by
    have hv := Dq.up (hid_up s2) _ _ hv
    simp only [Dq] at hv hw
    obtain ⟨a, xs, rfl, _, ea, hx⟩ := hv
    obtain ⟨b, ys, rfl, _, eb, hy⟩ := hw
    have s12 := s1.trans s2
    refine ⟨a, b, xs, ys, rfl, rfl, hid_same _ _ ea, hid_same _ _ eb, by rw [hx.len, hy.len, sizeLine_eq]; omega, fun p hp => q _ _ (s12.trans (same_upd hp)) ?_⟩
    simp only [Dq]
    exact ⟨p, _, rfl, (c.up s12).sys.new hp, (c.up s12).new hp, DqAll.up (hid_up (same_upd hp)) _ _ (hx.app hy)⟩
theorem DT.listOf (h : DT K ws Γ σ te (.tuple ds)) : DT K ws Γ σ (tCB (rListOf K) (tCons te tNil)) (.list ds) := fun H Q c q =>
  h H _ c fun v H1 s1 hv => by
    simp only [Dq] at hv
    obtain ⟨a, xs, rfl, ea, hx⟩ := hv
    refine ⟨a, xs, rfl, .inr (SqT.of (hid_same _ _ ea)), fun p hp => q _ _ (s1.trans (same_upd hp)) ?_⟩
    simp only [Dq]
    exact ⟨p, xs, rfl, (c.up s1).sys.new hp, (c.up s1).new hp, DqAll.up (hid_up (same_upd hp)) _ _ hx⟩
abbrev rTupOf (K : PySem.W.Frag) : List V → Hp → VK → Prop := fun xs H Q => ∃ p ys, xs = [.ref p] ∧ ((SqL K H p ys ∧ ∀ l, H l = none → Q (.ref l) (upd H l (.tup ys))) ∨ (SqT K H p ys ∧ Q (.ref p) H))
theorem DT.tupOf (h : DT K ws Γ σ te (.list ds)) : DT K ws Γ σ (tCB (rTupOf K) (tCons te tNil)) (.tuple ds) := fun H Q c q =>
  h H _ c fun v H1 s1 hv => by
    simp only [Dq] at hv
    obtain ⟨a, xs, rfl, _, ea, hx⟩ := hv
    refine ⟨a, xs, rfl, .inl ⟨SqL.of (hid_same _ _ ea), fun p hp => q _ _ (s1.trans (same_upd hp)) ?_⟩⟩
    simp only [Dq]
    exact ⟨p, xs, rfl, (c.up s1).new hp, DqAll.up (hid_up (same_upd hp)) _ _ hx⟩
theorem DT.disp1 {x : Str} {n : Int} (h : DT K ws Γ σ te (.str x)) : DT K ws Γ σ (tDisp [(te, tC (.int n))]) (.dict [(.str x, .int n)]) := fun H Q c q p hp =>
  h (upd H p (.dK [])) _ (c.up (same_upd hp)) fun v H1 s1 hv => by
    simp only [Dq] at hv
    subst hv
    refine ⟨s1 _ _ upd_same, [(Sum.inr x, .int n)], rfl, (by show 1 ≤ 15; decide), q _ _ (fun b o e => ?_) ?_⟩
    · rw [upd_ne (ne_of_none e hp)]
      exact s1 _ _ (by rw [upd_ne (ne_of_none e hp)]; exact e)
    · simp only [Dq, DqK]
      refine ⟨p, rfl, .inl ⟨[(Sum.inr x, .int n)], hid_at (hid_out c.live hp) upd_same, _, _, _, rfl, rfl, rfl, rfl⟩⟩
theorem dt_go {H : Hp} {Q : VK} (c : DC ws Γ σ H) (h : DT K ws Γ σ te d) (q : ∀ v H', Same H H' → Dq (hid H' ws) d v → Q v H') : te σ H Q := h H Q c q
theorem DT.dat : DT K ws Γ σ (tDat d) d := fun H Q c q v H1 s1 hv => q v H1 s1 (Dq.up (fun b o e => by
  unfold newH at e
  cases hb : H b with
  | some o2 => rw [hb] at e; cases e
  | none =>
    rw [hb] at e
    exact hid_at (hid_out c.live hb) e) _ _ hv)
end
theorem one_dat {K : PySem.W.Frag} {ws : List Addr} {H : Hp} {t : Addr} {v : V} {ds : List PyData} {Q : VK} {E : XK} (hT : TapeAt H t) (tw : t ∈ ws) (hd : Dq (hid H ws) (.list ds) v) (hne : ds ≠ []) (hl : ds.length ≤ 100000)
    (k : ∀ x d m e, e ∈ ds → 0 ≤ d → 0 ≤ m → m < 2147483600 → Dq (hid (upd H t (tapeO d m)) ws) e x → Q x (upd H t (tapeO d m))) : spOne K [.ref t, v] H Q E := by
  simp only [Dq] at hd
  obtain ⟨a, xs, rfl, _, ea, hx⟩ := hd
  have hxl := hx.len
  have ea2 := hid_same _ _ ea
  have h0 : 0 < ds.length := List.length_pos_iff.mpr hne
  refine ⟨t, a, xs, rfl, hT, SqL.of ea2, by omega, by omega, one_sq hT ea2, fun x d m hm d0 m0 m1 => ?_⟩
  obtain ⟨j, hj⟩ := List.mem_iff_getElem?.mp hm
  obtain ⟨e, he, hq⟩ := hx.get hj
  exact k x d m e (List.mem_of_getElem? he) d0 m0 m1 (by rw [hid_upd tw]; exact hq)
section
variable {K : PySem.W.Frag} {a : Addr} {xs : List V} {ds : List PyData} {i : Nat} {tt : TT} {σ : Sto} {G H1 : Hp} {D : Addr} {Qd : Hp → Prop}
/-- those of a list of data that pass a test; the data are told in a part of the heap -/
theorem lc_filtG (f : PyData → Bool) (sG : Same G H1) (hq : DqAll G ds xs) (hi : i < σ.length) (hz : xs.length ≤ 100000) (hS : SqL K H1 a xs) (hD : H1 D = none)
    (ht : ∀ x d H (Q : Bool → Hp → Prop), d ∈ ds → Dq H d x → Same H1 H → (∀ H', Same H H' → Q (f d) H') → tt ((wipe σ [i]).set i (some x)) H Q)
    (hd : ∀ H ys, Same H1 H → H D = some (.lst ys) → DqAll G (ds.filter f) ys → Qd H) :
    ∃ W : Nat → Nat → Hp → Prop, (∃ m, W 0 m (upd H1 D (.lst []))) ∧ ∀ j m H, W j m H → ((Itl K a).stop j H ∧ Qd H) ∨ ((Itl K a).go j H ∧ ∃ Nx : Hp → Prop, (∀ H', Nx H' → ∃ m', m' < m ∧ W (j + 1) m' H') ∧ ∀ x H', (Itl K a).yld j H x H' →
      gName i x (wipe σ [i]) H' fun σ2 H2 => wipe σ2 [i] = wipe σ [i] ∧ tt σ2 H2 fun b H3 => if b = true then tVar i σ2 H3 fun y H4 => ∃ acc, H4 D = some (.lst acc) ∧ acc.length < sizeLine ∧ Nx (upd H4 D (.lst (acc ++ [y]))) else Nx H3) := by
  refine lc_list (K := K) (a := a) (xs := xs) (fun j H => Same H1 H ∧ ∃ ys, H D = some (.lst ys) ∧ ys.length ≤ j ∧ DqAll G ((ds.take j).filter f) ys) ⟨same_upd hD, [], upd_same, Nat.le_refl _, .nil⟩ (fun _ H _ h => h.1.seq hS) ?_ ?_
  · rintro j x H hx ⟨s, ys, hDl, hyl, hys⟩
    have hj : j < xs.length := (List.getElem?_eq_some_iff.mp hx).1
    obtain ⟨d, e, q⟩ := hq.get hx
    refine ⟨wipe_one σ i _, ht x d H _ (List.mem_of_getElem? e) (Dq.up (sG.trans s) _ _ q) s fun H' s' => ?_⟩
    have e2 : (ds.take (j + 1)).filter f = (ds.take j).filter f ++ [d].filter f := by rw [List.take_add_one, e, List.filter_append]; rfl
    cases hp : f d with
    | true =>
      refine ⟨x, ?_, ys, s' _ _ hDl, by rw [sizeLine_eq]; omega, same_updX (s.trans s') hD, _, upd_same, by rw [List.length_append]; exact Nat.add_le_add_right hyl 1, ?_⟩
      · rw [List.getElem?_set_self]
        rw [show (wipe σ [i]).length = σ.length by
          show (σ.set i none).length = σ.length
          rw [List.length_set]]
        exact hi
      · rw [e2, List.filter_cons, hp]
        exact hys.app (.cons q .nil)
    | false =>
      refine ⟨s.trans s', ys, s' _ _ hDl, Nat.le_succ_of_le hyl, ?_⟩
      rw [e2, List.filter_cons, hp]
      simpa using hys
  · rintro H ⟨s, ys, hDl, _, hys⟩
    refine hd H ys s hDl ?_
    rw [hq.len, List.take_length] at hys
    exact hys
end
def isFour : PyData → Bool
  | .tuple ds => decide (ds.length = 4)
  | _ => false
theorem isFour_eq {d : PyData} (h : isFour d = true) : ∃ a b c e, d = .tuple [a, b, c, e] := by
  cases d with
  | tuple ds =>
    obtain ⟨n, k, o, c, rfl⟩ := four (of_decide_eq_true h)
    exact ⟨n, k, o, c, rfl⟩
  | _ => cases h
theorem RF.tup4 {W : Nat} {a b c e : PyData} (h1 : CF W a) (h2 : CF W b) (h3 : CF W c) (h4 : CF W e) : RF (5 * (W + 1)) (.tuple [a, b, c, e]) := .tup (fun x hx => by
  simp only [List.mem_cons, List.mem_nil_iff, or_false] at hx
  rcases hx with rfl | rfl | rfl | rfl
  · exact h1
  · exact h2
  · exact h3
  · exact h4) (by simp)
def bentD (kd : Str) (odd a b c e : PyData) : List PyData :=
  ([.none, .list [a, b, c, e], .tuple ([a, b, c, e].take 3), .tuple ([a, b, c, e] ++ [.int 0]), .tuple ([.str "A"] ++ [a, b, c, e].drop 1), .tuple ([.str "abcdefghi"] ++ [a, b, c, e].drop 1), .tuple [a, .str "q", c, .int 0], .tuple [a, .str kd, .tuple [.str "q"], .int 0], .tuple [a, .str kd, .list [.str kd], .int 0]] ++
  [.tuple [a, .str kd, .tuple [.str kd, .str "q"], .int 0], .tuple [a, .str kd, .tuple [.str "q", .str kd], .int 0], .tuple [a, .str kd, .tuple [.str kd], odd], .tuple [.list [], .str kd, .tuple [], .int 0], .tuple [a, .list [.str kd], .tuple [], .int 0]]) ++
  [.tuple [a, .str kd, .tuple [.list [.str kd]], .int 0], .tuple [a, b, c, e], .tuple [a, b, c, e], .str "z"]
theorem bentD_ne {kd : Str} {odd a b c e : PyData} : bentD kd odd a b c e ≠ [] := fun z => by
  have : (bentD kd odd a b c e).length = 0 := by rw [z]; rfl
  cases this
theorem bentD_len {kd : Str} {odd a b c e : PyData} : (bentD kd odd a b c e).length ≤ 100000 := by
  show 18 ≤ 100000
  decide
theorem bent_fine {W : Nat} {kd : Str} {odd a b c e x : PyData} (hk : nameB kd = true) (hW : 300 ≤ W) (ho : CF W odd) (ha : CF W a) (hb : CF W b) (hc : CF W c) (he : CF W e) (hx : x ∈ bentD kd odd a b c e) : RF (5 * (W + 1)) x := by
  have ck : CF W (.str kd) := .name hk (by omega)
  have hq : nameB "q" = true := by decide +kernel
  have cq : CF W (.str "q") := .name hq (by omega)
  have c0 : CF W (.int 0) := .zero (by omega)
  have two : ∀ {x y : Str}, nameB x = true → nameB y = true → CF W (.tuple [.str x, .str y]) := fun {x y} h1 h2 => CF.tupS (xs := [x, y]) (fun z hz => by
    simp only [List.mem_cons, List.mem_nil_iff, or_false] at hz
    rcases hz with rfl | rfl
    · exact h1
    · exact h2) (by simp) (by omega)
  have one : ∀ {x : Str}, nameB x = true → CF W (.tuple [.str x]) := fun {x} h1 => CF.tupS (xs := [x]) (fun z hz => by
    rw [List.mem_singleton.mp hz]
    exact h1) (by simp) (by omega)
  have oneL : CF W (.list [.str kd]) := CF.lstS (xs := [kd]) (fun z hz => by
    rw [List.mem_singleton.mp hz]
    exact hk) (by simp) (by omega)
  have four : ∀ z ∈ [a, b, c, e], CF W z := fun z hz => by
    simp only [List.mem_cons, List.mem_nil_iff, or_false] at hz
    rcases hz with rfl | rfl | rfl | rfl
    · exact ha
    · exact hb
    · exact hc
    · exact he
  have cA : CF W (.str "A") := .str (by decide +kernel) (by have : ("A" : Str).length = 1 := by decide +kernel
                                                            omega) (by decide +kernel)
  have cL : CF W (.str "abcdefghi") := .str (by decide +kernel) (by have : ("abcdefghi" : Str).length = 9 := by decide +kernel
                                                                    omega) (by decide +kernel)
  unfold bentD at hx
  rw [List.mem_append, List.mem_append] at hx
  simp only [List.mem_cons, List.mem_nil_iff, or_false] at hx
  rcases hx with (hx | hx) | hx
  · rcases hx with rfl | rfl | rfl | rfl | rfl | rfl | rfl | rfl | rfl
    · exact .non (by omega)
    · exact .lst four (by simp)
    · exact .tup (fun z hz => four z (List.mem_of_mem_take hz)) (by simp)
    · exact .tup (fun z hz => by
        rcases List.mem_append.mp hz with hz | hz
        · exact four z hz
        · rw [List.mem_singleton.mp hz]; exact c0) (by simp)
    · exact .tup4 cA hb hc he
    · exact .tup4 cL hb hc he
    · exact .tup4 ha cq hc c0
    · exact .tup4 ha ck (one hq) c0
    · exact .tup4 ha ck oneL c0
  · rcases hx with rfl | rfl | rfl | rfl | rfl
    · exact .tup4 ha ck (two hk hq) c0
    · exact .tup4 ha ck (two hq hk) c0
    · exact .tup4 ha ck (one hk) ho
    · exact .tup4 .nilL ck .nilT c0
    · exact .tup4 ha oneL .nilT c0
  · rcases hx with rfl | rfl | rfl | rfl
    · exact .tup4 ha ck (.tupL hk (by omega)) c0
    · exact .tup four (by simp)
    · exact .tup four (by simp)
    · exact .str (by decide +kernel) (by have : ("z" : Str).length = 1 := by decide +kernel
                                         omega)
theorem live_go {H H' : Hp} {ws : List Addr} {t : Addr} (g : Go t H H') (h : ∀ w ∈ ws, H w ≠ none) : ∀ w ∈ ws, H' w ≠ none := fun w hw z => h w hw (g.free z)
end Fh
namespace Dw
open PySem PySem.Spec PyProof.Rows L2 He Fh
abbrev sBent : Stmt := top 36
section
variable {P : Program} {w : World} {K : PySem.W.Frag} {mg : Str → Option Value} {base : Heap}
theorem scBent : FnScope ["tape", "rules", "kind", "good", "rule", "some", "at", "odd"] ["tape", "rules", "kind"] (defScope sBent) := ⟨rfl, rfl, rfl, by decide +kernel, rfl, by decide +kernel, by decide +kernel⟩
theorem ok_bent {f fP fO : Addr} {fd fdP fdO : FuncData} (F : FnP K "_law_bent_rules" sBent f fd) (g_isinstance : mg "isinstance" = none) (g_tuple : mg "tuple" = none) (g_list : mg "list" = none) (g_len : mg "len" = none)
    (G_law_pick : FnOk P w K mg base CX0 1 fP fdP ["tape", "many"] spPick) (m_law_pick : mg "_law_pick" = some (.ref fP)) (k_law_pick : PySem.W.keepIn K (.ref fP) = true) (b_law_pick : Binds K fdP ["tape", "many"] [])
    (G_law_one_of : FnOk P w K mg base CX0 2 fO fdO ["tape", "things"] (spOne K)) (m_law_one_of : mg "_law_one_of" = some (.ref fO)) (k_law_one_of : PySem.W.keepIn K (.ref fO) = true) (b_law_one_of : Binds K fdO ["tape", "things"] []) :
    FnOk P w K mg base CX0 3 f fd ["tape", "rules", "kind"] (spBent K) := by
  refine F.ok scBent (fun vs H Q E h => ?_) (fun cdv A outer s H vs Q E hr h => ?_)
  · obtain ⟨t, a, kd, ws, W, ds, xs, rfl, _⟩ := h
    rfl
  · obtain ⟨t, a, kd, ws, W, ds, xs, rfl, hT, hY, tw, hw, ha, hq, hkd, hW, hdl, hfine, hQ⟩ := h
    have hu64 := hr.units
    have r_law_pick : Room 1 _ := hr.mono (by decide)
    have r_law_one_of : Room 2 _ := hr
    refine ⟨_, PSs.nox (pss_cons (ps_par (i := 6) (j := 7) (by rfl) scBent.nd rfl rfl (by decide) rfl rfl (pa_cons (pe_call G_law_pick r_law_pick rfl m_law_pick k_law_pick b_law_pick .nil pass0 (pa_cons (pv 0) (pa_cons (pe_op op_add (pe_callB call_len (by rfl) g_len (by decide +kernel) (pa_cons (pv 1) pa_nil)) pe_int) pa_nil))) (pa_cons (pe_call G_law_one_of r_law_one_of rfl m_law_one_of k_law_one_of b_law_one_of .nil pass0 (pa_cons (pv 0) (pa_cons (dat_lst (dats_cons dat_non (dats_cons dat_bl (dats_cons dat_str (dats_cons (dat_tup (dats_cons dat_int dats_nil) (by decide)) (dats_cons (dat_lst dats_nil (by decide)) dats_nil))))) (by decide)) pa_nil))) pa_nil)) (by rfl))
 (pss_cons (ps_setLc (i := 3) (own := [("rule", 4)]) (g := (gName 4)) (by rfl) scBent.nd rfl rfl (sw_true rfl rfl rfl (by decide +kernel)) (pi_list (pv 1)) (blkOk_by (own := [("rule", 4)]) (N := ["tape", "rules", "kind", "good", "rule", "some", "at", "odd"]) (sc := defScope sBent) (by decide +kernel)) (fun _ _ _ _ _ => pg_name (i := 4) scBent.nd rfl (by first | exact Or.inl rfl | exact Or.inr rfl)) (fun _ _ _ _ _ => pts_one (PW.pt (pw_and (pt_val (pe_callB (call_isiK (K := K)) (by rfl) g_isinstance (by decide +kernel) (pa_cons (pv 4) (pa_cons (pe_bltn (v := .ty "tuple") (by rfl) g_tuple (by decide +kernel) rfl) pa_nil)))) (pw_and1 (pt_cmpR op_eq (pe_callB (call_lenK (K := K)) (by rfl) g_len (by decide +kernel) (pa_cons (pv 4) pa_nil)) pe_int (nomark _)))))) (fun _ _ _ _ _ => (pv 4)))
 (pss_cons (ps_set (i := 4) scBent.nd rfl (by first | exact Or.inl rfl | exact Or.inr rfl) (pe_call G_law_one_of r_law_one_of rfl m_law_one_of k_law_one_of b_law_one_of .nil pass0 (pa_cons (pv 0) (pa_cons (pe_op op_cat (pv 3) (pe_lst (pa_cons (pe_tup (pa_cons pe_str (pa_cons (pv 2) (pa_cons (pe_tup (pa_cons (pv 2) pa_nil)) (pa_cons pe_int pa_nil))))) pa_nil))) pa_nil))))
 (pss_cons (ps_set (i := 5) scBent.nd rfl (by first | exact Or.inl rfl | exact Or.inr rfl) (pe_lst (pa_cons pe_non (pa_cons (pe_callTy (call_list_ofK (K := K)) (by rfl) g_list (by decide +kernel) (pa_cons (pv 4) pa_nil)) (pa_cons (pe_slice (sl_tupK (K := K)) (pv 4) po_none (po_some pe_int)) (pa_cons (pe_op (op_catTK (K := K)) (pv 4) (pe_tup (pa_cons pe_int pa_nil))) (pa_cons (pe_op (op_catTK (K := K)) (pe_tup (pa_cons pe_str pa_nil)) (pe_slice (sl_tupK (K := K)) (pv 4) (po_some pe_int) po_none)) (pa_cons (pe_op (op_catTK (K := K)) (pe_tup (pa_cons pe_str pa_nil)) (pe_slice (sl_tupK (K := K)) (pv 4) (po_some pe_int) po_none)) (pa_cons (pe_tup (pa_cons (pe_ix (ix_tupK (K := K)) (pv 4) pe_int (fun _ _ => rfl)) (pa_cons pe_str (pa_cons (pe_ix (ix_tupK (K := K)) (pv 4) pe_int (fun _ _ => rfl)) (pa_cons pe_int pa_nil))))) (pa_cons (pe_tup (pa_cons (pe_ix (ix_tupK (K := K)) (pv 4) pe_int (fun _ _ => rfl)) (pa_cons (pv 2) (pa_cons (pe_tup (pa_cons pe_str pa_nil)) (pa_cons pe_int pa_nil))))) (pa_cons (pe_tup (pa_cons (pe_ix (ix_tupK (K := K)) (pv 4) pe_int (fun _ _ => rfl)) (pa_cons (pv 2) (pa_cons (pe_lst (pa_cons (pv 2) pa_nil)) (pa_cons pe_int pa_nil))))) pa_nil)))))))))))
 (pss_cons (ps_set (i := 5) scBent.nd rfl (by first | exact Or.inl rfl | exact Or.inr rfl) (pe_op op_cat (pv 5) (pe_lst (pa_cons (pe_tup (pa_cons (pe_ix (ix_tupK (K := K)) (pv 4) pe_int (fun _ _ => rfl)) (pa_cons (pv 2) (pa_cons (pe_tup (pa_cons (pv 2) (pa_cons pe_str pa_nil))) (pa_cons pe_int pa_nil))))) (pa_cons (pe_tup (pa_cons (pe_ix (ix_tupK (K := K)) (pv 4) pe_int (fun _ _ => rfl)) (pa_cons (pv 2) (pa_cons (pe_tup (pa_cons pe_str (pa_cons (pv 2) pa_nil))) (pa_cons pe_int pa_nil))))) (pa_cons (pe_tup (pa_cons (pe_ix (ix_tupK (K := K)) (pv 4) pe_int (fun _ _ => rfl)) (pa_cons (pv 2) (pa_cons (pe_tup (pa_cons (pv 2) pa_nil)) (pa_cons (pv 7) pa_nil))))) (pa_cons (pe_tup (pa_cons (pe_lst pa_nil) (pa_cons (pv 2) (pa_cons (pe_tup pa_nil) (pa_cons pe_int pa_nil))))) (pa_cons (pe_tup (pa_cons (pe_ix (ix_tupK (K := K)) (pv 4) pe_int (fun _ _ => rfl)) (pa_cons (pe_lst (pa_cons (pv 2) pa_nil)) (pa_cons (pe_tup pa_nil) (pa_cons pe_int pa_nil))))) pa_nil))))))))
 (pss_cons (ps_set (i := 5) scBent.nd rfl (by first | exact Or.inl rfl | exact Or.inr rfl) (pe_op op_cat (pv 5) (pe_lst (pa_cons (pe_tup (pa_cons (pe_ix (ix_tupK (K := K)) (pv 4) pe_int (fun _ _ => rfl)) (pa_cons (pv 2) (pa_cons (pe_tup (pa_cons (pe_lst (pa_cons (pv 2) pa_nil)) pa_nil)) (pa_cons pe_int pa_nil))))) (pa_cons (pv 4) (pa_cons (pv 4) (pa_cons pe_str pa_nil)))))))
 (pss_one (ps_ret (pe_op op_cat (pe_op op_cat (pe_slice sl_list (pv 1) po_none (po_some (pv 6))) (pe_lst (pa_cons (pe_call G_law_one_of r_law_one_of rfl m_law_one_of k_law_one_of b_law_one_of .nil pass0 (pa_cons (pv 0) (pa_cons (pv 5) pa_nil))) pa_nil))) (pe_slice sl_list (pv 1) (po_some (pv 6)) po_none)))))))))), ?_⟩
    have hxl := hq.len
    have ha0 := hid_same _ _ ha
    -- the place, the odd value
    refine ⟨_, rfl, _, rfl, _, xs.length, rfl, .inl ⟨xs, SqL.of ha0, rfl⟩, _, _, rfl, rfl, t, xs.length + 1, rfl, hT, by omega, by omega, fun n d m hn d0 m0 m1 => ?_⟩
    have g1 : Go t H (upd H t (tapeO d m)) := (Go.refl hT).tape d0 m0 m1
    have c1 : DC ws [] [] (upd H t (tapeO d m)) := ⟨live_go g1 hw, hY.go g1, trivial⟩
    have ha1 : hid (upd H t (tapeO d m)) ws a = some (.lst xs) := by rw [hid_upd tw]; exact ha
    have hq1 : DqAll (hid (upd H t (tapeO d m)) ws) ds xs := by rw [hid_upd tw]; exact hq
    generalize upd H t (tapeO d m) = H1 at g1 c1 ha1 hq1
    refine ⟨_, rfl, ?_⟩
    refine DT.dat (K := K) (Γ := []) (σ := []) H1 _ c1 fun vo H2 s2 ho => ?_
    have g2 := g1.same s2
    refine one_dat (E := E0) g2.t1 tw ho (by decide) (by decide) fun vodd d m dodd hodd d0 m0 m1 hdd => ?_
    have g3 := g2.tape d0 m0 m1
    have ha3 : hid (upd H2 t (tapeO d m)) ws a = some (.lst xs) := by rw [hid_upd tw]; exact hid_up s2 _ _ ha1
    have hq3 : DqAll (hid (upd H2 t (tapeO d m)) ws) ds xs := by rw [hid_upd tw]; exact DqAll.up (hid_up s2) _ _ hq1
    generalize upd H2 t (tapeO d m) = H3 at g3 ha3 hq3 hdd
    have w3 := live_go g3 hw
    have y3 := hY.go g3
    clear g1 c1 ha1 hq1 g2 ho s2 hq ha ha0
    refine ⟨_, _, rfl, ?_⟩
    -- the good ones
    refine ⟨_, rfl, a, rfl, ⟨xs, SqL.of (hid_same _ _ ha3)⟩, fun D hD => lc_filtG isFour hid_same hq3 (by show 4 < 8; decide) (by omega) (SqL.of (hid_same _ _ ha3)) hD (fun x e H4 Q2 hm he s4 q2 => ?_) fun H4 ys s4 e4 hy => ?_⟩
    · cases e with
      | tuple es =>
        have hty := he.ty (K := K)
        simp only [Dq] at he
        obtain ⟨b, zs, rfl, eb, hz⟩ := he
        refine ⟨_, rfl, _, _, _, _, true, rfl, .ty "tuple", hty, kit_ty (by simp only [tagD]; decide +kernel), _, rfl, ?_⟩
        refine ⟨_, rfl, _, zs.length, rfl, .inr ⟨zs, SqT.of eb, rfl⟩, rfl, _, rfl, ?_⟩
        have : decide (V.int (zs.length : Int) = V.int 4) = isFour (.tuple es) := by
          show _ = decide (es.length = 4)
          rw [hz.len]
          rw [Bool.eq_iff_iff, decide_eq_true_eq, decide_eq_true_eq]
          exact ⟨fun z => by injection z with z; omega, fun z => by rw [z]; rfl⟩
        rw [this]
        exact q2 H4 (Same.refl H4)
      | _ => exact ⟨_, rfl, _, _, _, _, false, rfl, .ty "tuple", he.ty, kit_ty (by simp only [tagD]; decide +kernel), _, rfl, q2 H4 (Same.refl H4)⟩
    have g4 := g3.same s4
    have yD := y3.new hD
    have eD : hid H4 ws D = some (.lst ys) := hid_at (hid_out w3 hD) e4
    have hy4 := DqAll.up (hid_up (ws := ws) s4) _ _ hy
    have ha4 := hid_up (ws := ws) s4 _ _ ha3
    have hq4 := DqAll.up (hid_up (ws := ws) s4) _ _ hq3
    have ho4 := Dq.up (hid_up (ws := ws) s4) _ _ hdd
    have w4 := live_up s4 w3
    have y4 := y3.up s4
    generalize hgs : ds.filter isFour = gs at hy4
    have hgood : Dq (hid H4 ws) (.list gs) (.ref D) := by
      simp only [Dq]
      exact ⟨D, ys, rfl, yD, eD, hy4⟩
    have hgl : gs.length ≤ 100 := by rw [← hgs]; exact Nat.le_trans (List.length_filter_le _ _) hdl
    clear hD s4 e4 hy w3 y3 g3 ha3 hq3 hdd eD hy4
    dsimp only [gName]
    -- the rule
    refine ⟨_, rfl, ?_⟩
    have c4 : DC ws [(2, .d (.str kd)), (3, .d (.list gs))] [some (.ref t), some (.ref a), some (.str kd), some (.ref D), none, none, some (.int (n : Int)), some vodd] H4 := ⟨w4, y4, ⟨_, rfl, by simp only [Dq]⟩, ⟨_, rfl, hgood⟩, trivial⟩
    refine DT.cat (K := K) (DT.var (i := 3) rfl) (DT.lst (DTs.cons (DT.tup (DTs.cons DT.str (DTs.cons (DT.var (i := 2) rfl) (DTs.cons (DT.tup (DTs.cons (DT.var (i := 2) rfl) DTs.nil)) (DTs.cons DT.int DTs.nil))))) DTs.nil)) (by show _ + 1 ≤ _; omega) H4 _ c4 fun v5 H5 s5 h5 => ?_
    have g5 := g4.same s5
    refine one_dat (E := E0) g5.t1 tw h5 (by simp) (by rw [List.length_append]; show _ + 1 ≤ _; omega) fun vr d m rule hrule d0 m0 m1 hvr => ?_
    have g6 := g5.tape d0 m0 m1
    have hz : ∀ x ∈ [PyData.str "z", .str kd, .tuple [.str kd], .int 0], CF W x := fun x hx => by
      simp only [List.mem_cons, List.mem_nil_iff, or_false] at hx
      rcases hx with rfl | rfl | rfl | rfl
      · exact .name (by decide +kernel) (by omega)
      · exact .name hkd (by omega)
      · exact CF.tupS (xs := [kd]) (fun z hz => by rw [List.mem_singleton.mp hz]; exact hkd) (by simp) (by omega)
      · exact .zero (by omega)
    obtain ⟨r1, r2, r3, r4, rfl, f1, f2, f3, f4⟩ : ∃ r1 r2 r3 r4, rule = .tuple [r1, r2, r3, r4] ∧ CF W r1 ∧ CF W r2 ∧ CF W r3 ∧ CF W r4 := by
      rcases List.mem_append.mp hrule with h | h
      · rw [← hgs] at h
        obtain ⟨h1, h2⟩ := List.mem_filter.mp h
        obtain ⟨r1, r2, r3, r4, rfl⟩ := isFour_eq h2
        have hf := hfine _ h1
        exact ⟨r1, r2, r3, r4, rfl, hf.comp (by simp), hf.comp (by simp), hf.comp (by simp), hf.comp (by simp)⟩
      · rw [List.mem_singleton.mp h]
        exact ⟨_, _, _, _, rfl, hz _ (by simp), hz _ (by simp), hz _ (by simp), hz _ (by simp)⟩
    have ha6 : hid (upd H5 t (tapeO d m)) ws a = some (.lst xs) := by rw [hid_upd tw]; exact hid_up s5 _ _ ha4
    have hq6 : DqAll (hid (upd H5 t (tapeO d m)) ws) ds xs := by rw [hid_upd tw]; exact DqAll.up (hid_up s5) _ _ hq4
    have ho6 : Dq (hid (upd H5 t (tapeO d m)) ws) dodd vodd := by rw [hid_upd tw]; exact Dq.up (hid_up s5) _ _ ho4
    generalize upd H5 t (tapeO d m) = H6 at g6 hvr ha6 hq6 ho6
    have w6 := live_go g6 hw
    have y6 := hY.go g6
    have fo : CF W dodd := CF.odd hodd hW
    clear hrule g5 c4 h5 s5 w4 y4 hgood ha4 hq4 ho4 g4 hz
    dsimp only [gName]
    have c6 : DC ws [(2, .d (.str kd)), (4, .d (.tuple [r1, r2, r3, r4])), (7, .d dodd)] [some (.ref t), some (.ref a), some (.str kd), some (.ref D), some vr, none, some (.int (n : Int)), some vodd] H6 := ⟨w6, y6, ⟨_, rfl, by simp only [Dq]⟩, ⟨_, rfl, hvr⟩, ⟨_, rfl, ho6⟩, trivial⟩
    dsimp only [tSeq, tAsg]
    refine dt_go (K := K) c6 (DT.lst (DTs.cons DT.non (DTs.cons (DT.listOf (DT.var (i := 4) rfl)) (DTs.cons (DT.slTo (n := 3) (DT.var (i := 4) rfl) (by simp)) (DTs.cons (DT.catT (DT.var (i := 4) rfl) (DT.tup (DTs.cons DT.int DTs.nil)) (by simp) (by simp)) (DTs.cons (DT.catT (DT.tup (DTs.cons DT.str DTs.nil)) (DT.slFrom (n := 1) (DT.var (i := 4) rfl) (by decide) (by simp)) (by simp) (by simp)) (DTs.cons (DT.catT (DT.tup (DTs.cons DT.str DTs.nil)) (DT.slFrom (n := 1) (DT.var (i := 4) rfl) (by decide) (by simp)) (by simp) (by simp)) (DTs.cons (DT.tup (DTs.cons (DT.ix (n := 0) (DT.var (i := 4) rfl) rfl) (DTs.cons DT.str (DTs.cons (DT.ix (n := 2) (DT.var (i := 4) rfl) rfl) (DTs.cons DT.int DTs.nil))))) (DTs.cons (DT.tup (DTs.cons (DT.ix (n := 0) (DT.var (i := 4) rfl) rfl) (DTs.cons (DT.var (i := 2) rfl) (DTs.cons (DT.tup (DTs.cons DT.str DTs.nil)) (DTs.cons DT.int DTs.nil))))) (DTs.cons (DT.tup (DTs.cons (DT.ix (n := 0) (DT.var (i := 4) rfl) rfl) (DTs.cons (DT.var (i := 2) rfl) (DTs.cons (DT.lst (DTs.cons (DT.var (i := 2) rfl) DTs.nil)) (DTs.cons DT.int DTs.nil))))) DTs.nil)))))))))) fun v7 H7 s7 h7 => ?_
    dsimp only [gName]
    have c7 := c6.up s7
    have c7 : DC ws [(2, .d (.str kd)), (4, .d (.tuple [r1, r2, r3, r4])), (5, .d _), (7, .d dodd)] [some (.ref t), some (.ref a), some (.str kd), some (.ref D), some vr, some v7, some (.int (n : Int)), some vodd] H7 := ⟨c7.live, c7.sys, ⟨_, rfl, by simp only [Dq]⟩, ⟨_, rfl, Dq.up (hid_up s7) _ _ hvr⟩, ⟨_, rfl, h7⟩, ⟨_, rfl, Dq.up (hid_up s7) _ _ ho6⟩, trivial⟩
    refine dt_go (K := K) c7 (DT.cat (DT.var (i := 5) rfl) (DT.lst (DTs.cons (DT.tup (DTs.cons (DT.ix (n := 0) (DT.var (i := 4) rfl) rfl) (DTs.cons (DT.var (i := 2) rfl) (DTs.cons (DT.tup (DTs.cons (DT.var (i := 2) rfl) (DTs.cons DT.str DTs.nil))) (DTs.cons DT.int DTs.nil))))) (DTs.cons (DT.tup (DTs.cons (DT.ix (n := 0) (DT.var (i := 4) rfl) rfl) (DTs.cons (DT.var (i := 2) rfl) (DTs.cons (DT.tup (DTs.cons DT.str (DTs.cons (DT.var (i := 2) rfl) DTs.nil))) (DTs.cons DT.int DTs.nil))))) (DTs.cons (DT.tup (DTs.cons (DT.ix (n := 0) (DT.var (i := 4) rfl) rfl) (DTs.cons (DT.var (i := 2) rfl) (DTs.cons (DT.tup (DTs.cons (DT.var (i := 2) rfl) DTs.nil)) (DTs.cons (DT.var (i := 7) rfl) DTs.nil))))) (DTs.cons (DT.tup (DTs.cons (DT.lst DTs.nil) (DTs.cons (DT.var (i := 2) rfl) (DTs.cons (DT.tup DTs.nil) (DTs.cons DT.int DTs.nil))))) (DTs.cons (DT.tup (DTs.cons (DT.ix (n := 0) (DT.var (i := 4) rfl) rfl) (DTs.cons (DT.lst (DTs.cons (DT.var (i := 2) rfl) DTs.nil)) (DTs.cons (DT.tup DTs.nil) (DTs.cons DT.int DTs.nil))))) DTs.nil)))))) (by simp)) fun v8 H8 s78 h8 => ?_
    dsimp only [gName]
    have s8 := s7.trans s78
    have c8 := c6.up s8
    have c8 : DC ws [(2, .d (.str kd)), (4, .d (.tuple [r1, r2, r3, r4])), (5, .d _), (7, .d dodd)] [some (.ref t), some (.ref a), some (.str kd), some (.ref D), some vr, some v8, some (.int (n : Int)), some vodd] H8 := ⟨c8.live, c8.sys, ⟨_, rfl, by simp only [Dq]⟩, ⟨_, rfl, Dq.up (hid_up s8) _ _ hvr⟩, ⟨_, rfl, h8⟩, ⟨_, rfl, Dq.up (hid_up s8) _ _ ho6⟩, trivial⟩
    refine dt_go (K := K) c8 (DT.cat (DT.var (i := 5) rfl) (DT.lst (DTs.cons (DT.tup (DTs.cons (DT.ix (n := 0) (DT.var (i := 4) rfl) rfl) (DTs.cons (DT.var (i := 2) rfl) (DTs.cons (DT.tup (DTs.cons (DT.lst (DTs.cons (DT.var (i := 2) rfl) DTs.nil)) DTs.nil)) (DTs.cons DT.int DTs.nil))))) (DTs.cons (DT.var (i := 4) rfl) (DTs.cons (DT.var (i := 4) rfl) (DTs.cons DT.str DTs.nil))))) (by simp)) fun v9 H9 s89 h9 => ?_
    dsimp only [gName]
    have s9 := s8.trans s89
    have h9 : Dq (hid H9 ws) (.list (bentD kd dodd r1 r2 r3 r4)) v9 := h9
    clear h7 h8 c7 c8 s7 s78 s8 s89
    have g9 := g6.same s9
    have ha9 := hid_up (ws := ws) s9 _ _ ha6
    have hq9 := DqAll.up (hid_up (ws := ws) s9) _ _ hq6
    have w9 := live_up s9 w6
    have y9 := y6.up s9
    clear ha6 hq6 ho6 w6 y6 c6 hvr s9 g6
    -- what is told
    refine ⟨_, rfl, _, rfl, (n : Int), rfl, a, xs, rfl, SqL.of (hid_same _ _ ha9), fun p1 h1 => ?_⟩
    rw [cut_take]
    have sa := same_upd (o := .lst (xs.take n)) h1
    have ea : hid (upd H9 p1 (.lst (xs.take n))) ws p1 = some (.lst (xs.take n)) := hid_at (hid_out w9 h1) upd_same
    generalize upd H9 p1 (.lst (xs.take n)) = Ha at sa ea
    have ga := g9.same sa
    refine ⟨_, rfl, _, rfl, one_dat (E := E0) ga.t1 tw (Dq.up (hid_up sa) _ _ h9) bentD_ne bentD_len fun x d m e hx d0 m0 m1 hex => ?_⟩
    have gb := ga.tape d0 m0 m1
    have eb : hid (upd Ha t (tapeO d m)) ws p1 = some (.lst (xs.take n)) := by rw [hid_upd tw]; exact ea
    have hab : hid (upd Ha t (tapeO d m)) ws a = some (.lst xs) := by rw [hid_upd tw]; exact hid_up sa _ _ ha9
    have hqb : DqAll (hid (upd Ha t (tapeO d m)) ws) ds xs := by rw [hid_upd tw]; exact DqAll.up (hid_up sa) _ _ hq9
    generalize upd Ha t (tapeO d m) = Hb at gb hex eb hab hqb
    have wb := live_go gb hw
    have yb := hY.go gb
    have hfx := bent_fine hkd hW fo f1 f2 f3 f4 hx
    clear hx f1 f2 f3 f4 fo ha9 hq9 w9 y9 h9 ea sa ga g9
    refine ⟨(by show 1 ≤ sizeLine; decide), fun p2 h2 => ?_⟩
    have sc := same_upd (o := .lst [x]) h2
    have ec : hid (upd Hb p2 (.lst [x])) ws p2 = some (.lst [x]) := hid_at (hid_out wb h2) upd_same
    generalize upd Hb p2 (.lst [x]) = Hc at sc ec
    have ec1 := hid_up (ws := ws) sc _ _ eb
    refine ⟨p1, p2, _, _, rfl, rfl, hid_same _ _ ec1, hid_same _ _ ec, (by rw [sizeLine_eq, List.length_take]; show _ + 1 ≤ _; omega), fun p3 h3 => ?_⟩
    have wc := live_up sc wb
    have sd := same_upd (o := .lst (xs.take n ++ [x])) h3
    have ed : hid (upd Hc p3 (.lst (xs.take n ++ [x]))) ws p3 = some (.lst (xs.take n ++ [x])) := hid_at (hid_out wc h3) upd_same
    generalize upd Hc p3 (.lst (xs.take n ++ [x])) = Hd at sd ed
    have sbd := sc.trans sd
    have wd := live_up sbd wb
    refine ⟨_, rfl, _, rfl, (n : Int), rfl, a, xs, rfl, SqL.of (hid_same _ _ (hid_up (ws := ws) sbd _ _ hab)), fun p4 h4 => ?_⟩
    rw [cut_drop]
    have se := same_upd (o := .lst (xs.drop n)) h4
    have ee : hid (upd Hd p4 (.lst (xs.drop n))) ws p4 = some (.lst (xs.drop n)) := hid_at (hid_out wd h4) upd_same
    generalize upd Hd p4 (.lst (xs.drop n)) = He at se ee
    have sbe := sbd.trans se
    have we := live_up sbe wb
    have ye := yb.up sbe
    refine ⟨p3, p4, _, _, rfl, rfl, hid_same _ _ (hid_up (ws := ws) se _ _ ed), hid_same _ _ ee, (by rw [sizeLine_eq, List.length_append, List.length_take, List.length_drop]; show _ + 1 + _ ≤ _; omega), fun p5 h5 => ?_⟩
    have sf := sbe.trans (same_upd (o := .lst (xs.take n ++ [x] ++ xs.drop n)) h5)
    have gf := gb.same sf
    have hqf := DqAll.up (hid_up (ws := ws) sf) _ _ hqb
    refine hQ p5 _ (ds.take n ++ ([e] ++ ds.drop n)) (xs.take n ++ [x] ++ xs.drop n) e n gf ?_ upd_same ?_ (by omega) rfl hfx
    · exact (gb.same sbe).free h5
    · have hh : DqAll (hid (upd He p5 (.lst (xs.take n ++ [x] ++ xs.drop n))) ws) (ds.take n ++ ([e] ++ ds.drop n)) (xs.take n ++ ([x] ++ xs.drop n)) := (hqf.take n).app (.cons (Dq.up (hid_up sf) _ _ hex) (hqf.drop n))
      rw [← List.append_assoc (xs.take n)] at hh
      exact hh
end
end Dw
namespace Fh
open PySem PySem.Spec PySem.W PyProof.Rows L2 He
theorem call_tuple_ofK {X : Cx} {K : PySem.W.Frag} (hK : X.K = K := by rfl) : CallR X (.type "tuple") (rTupOf K) := by
  subst hK
  exact call_tuple_of
theorem dts_go {K : PySem.W.Frag} {ws : List Addr} {Γ : List (Nat × Ent)} {σ : Sto} {t : TA} {ds : List PyData} {H : Hp} {Q : List V → Hp → Prop} (c : DC ws Γ σ H) (h : DTs K ws Γ σ t ds) (q : ∀ vs H', Same H H' → DqAll (hid H' ws) ds vs → Q vs H') : t σ H Q := h H Q c q
/-! ### odd parts of a book -/
structure PH (d : PyData) : Prop where
  le : SeqLe d
  s : Short 64 3010 d
  dp : d.depth ≤ 5
structure PK (d : PyData) : Prop where
  h : PH d
  t : ∀ es, d = .tuple es → es = []
structure PR (d : PyData) : Prop where
  le : RulesLe d
  s : Short 64 60000 d
  dp : d.depth ≤ 6
structure PV (d : PyData) : Prop where
  s : Short 64 3010 d
  dp : d.depth ≤ 5
theorem CF.v {W : Nat} {d : PyData} (h : CF W d) (hW : W ≤ 3010) : PV d := ⟨h.s.le hW, by have := h.dp; omega⟩
theorem CF.noSeq {W : Nat} {d : PyData} (h : CF W d) (hW : W ≤ 3010) (hi : itemsD d = none) : PK d :=
  ⟨⟨(fun ds e => by rw [hi] at e; cases e), h.s.le hW, by have := h.dp; omega⟩, fun es e => by rw [e] at hi; cases hi⟩
theorem pk_list {ds : List PyData} (h : ∀ c ∈ ds, CF 300 c) (hl : ds.length ≤ 10) : PK (.list ds) := by
  refine ⟨⟨fun es e => ?_, ?_, ?_⟩, fun es e => by cases e⟩
  · cases e
    exact ⟨by omega, fun c hc => (h c hc).st⟩
  · exact (shortAll_of fun d hd => (h d hd).s).list.le (Nat.le_trans (Nat.mul_le_mul_right 301 hl) (by decide))
  · rw [PyData.depth]
    have := depthAll_of fun d hd => (h d hd).dp
    omega
theorem ph_tup {ds : List PyData} (h : ∀ c ∈ ds, CF 300 c) (hl : ds.length ≤ 10) : PH (.tuple ds) := by
  refine ⟨fun es e => ?_, ?_, ?_⟩
  · cases e
    exact ⟨by omega, fun c hc => (h c hc).st⟩
  · exact (shortAll_of fun d hd => (h d hd).s).tuple.le (Nat.le_trans (Nat.mul_le_mul_right 301 hl) (by decide))
  · rw [PyData.depth]
    have := depthAll_of fun d hd => (h d hd).dp
    omega
theorem cf_names {ks : List Str} (h : ∀ x ∈ ks, nameB x = true) : ∀ c ∈ ks.map PyData.str, CF 300 c := fun c hc => by
  obtain ⟨x, hx, rfl⟩ := List.mem_map.mp hc
  exact .name (h x hx) (by decide)
theorem cf_all {ds : List PyData} {e : PyData} (h : ∀ c ∈ ds, CF 300 c) (he : CF 300 e) : ∀ c ∈ ds ++ [e], CF 300 c := fun c hc => by
  rcases List.mem_append.mp hc with hc | hc
  · exact h c hc
  · rw [List.mem_singleton.mp hc]; exact he
theorem cf_h : CF 300 (.list [.str "h"]) := CF.lstS (xs := ["h"]) (fun z hz => by rw [List.mem_singleton.mp hz]; decide +kernel) (by simp) (by decide)
theorem cf_A : CF 300 (.str "A") := .str (by decide +kernel) (by decide +kernel) (by decide +kernel)
theorem cf_L : CF 300 (.str "abcdefghi") := .str (by decide +kernel) (by decide +kernel) (by decide +kernel)
theorem cf_q : CF 300 (.str "q") := .str (by decide +kernel) (by decide +kernel) (by decide +kernel)
def kindsC (ks : List Str) (kd : Str) : List PyData :=
  [.list (ks.map .str), .list (ks.map .str), .list (ks.map .str), .list (ks.map .str), .list [], .tuple [], .list (ks.map .str ++ [.str kd]), .list (ks.map .str ++ [.str "A"]), .list (ks.map .str ++ [.str "abcdefghi"]),
   .list ([.none] ++ ks.map .str), .str kd, .none, .list (ks.map .str ++ [.list [.str "h"]]), .dict [(.str kd, .int 0)]]
theorem kindsC_ok {ks : List Str} {kd : Str} {d : PyData} (hn : ∀ x ∈ ks, nameB x = true) (hl : ks.length ≤ 6) (hk : nameB kd = true) (h : d ∈ kindsC ks kd) : PK d := by
  have hm := cf_names hn
  have hml : (ks.map PyData.str).length = ks.length := List.length_map _
  have ck : CF 300 (.str kd) := .name hk (by decide)
  have app : ∀ {e : PyData}, CF 300 e → PK (.list (ks.map .str ++ [e])) := fun {e} he => pk_list (cf_all hm he) (by rw [List.length_append, hml]; show _ + 1 ≤ _; omega)
  unfold kindsC at h
  simp only [List.mem_cons, List.mem_nil_iff, or_false] at h
  have kl : PK (.list (ks.map .str)) := pk_list hm (by omega)
  rcases h with rfl | rfl | rfl | rfl | rfl | rfl | rfl | rfl | rfl | rfl | rfl | rfl | rfl | rfl
  · exact kl
  · exact kl
  · exact kl
  · exact kl
  · exact pk_list (ds := []) (fun c hc => by cases hc) (by simp)
  · exact ⟨ph_tup (ds := []) (fun c hc => by cases hc) (by simp), fun es e => by cases e; rfl⟩
  · exact app ck
  · exact app cf_A
  · exact app cf_L
  · refine pk_list (fun c hc => ?_) (by rw [List.length_append, hml]; show 1 + _ ≤ _; omega)
    rcases List.mem_append.mp hc with hc | hc
    · rw [List.mem_singleton.mp hc]; exact .non (by decide)
    · exact hm c hc
  · exact ck.noSeq (by decide) rfl
  · exact (CF.non (W := 300) (by decide)).noSeq (by decide) rfl
  · exact app cf_h
  · refine ⟨⟨(fun ds e => by cases e), ?_, ?_⟩, fun es e => by cases e⟩
    · obtain ⟨h1, h2, h3⟩ := ck.s
      have i0 := short_int (i := 0) (by decide)
      refine ⟨?_, ?_, ?_⟩
      · simp only [PyData.leavesShort, PyData.leavesShortKv, Bool.and_true]
        rw [Bool.and_eq_true]
        exact ⟨by simpa only [PyData.leavesShort] using h1, by simpa only [PyData.leavesShort] using i0.1⟩
      · simp only [PyData.weight, PyData.weightKv]
        have : kd.length ≤ 8 := (nameB_len hk).2
        show kd.length + _ + 2 + 0 ≤ 3010
        simp
        omega
      · simp only [PyData.showable, PyData.showableKv]
        decide
    · simp only [PyData.depth, PyData.depthKv]
      omega
theorem dict0_ph : PH (.dict []) := ⟨(fun ds e => by cases e), ⟨by decide, by decide, by decide⟩, by decide⟩
def handlesC (hs : List Str) (kd : Str) : List PyData :=
  [.list (hs.map .str), .list (hs.map .str), .list (hs.map .str), .tuple (hs.map .str), .list [.str kd, .str kd], .list [.str "q"], .list [.str kd, .str "q"], .tuple [.str kd, .str kd], .tuple [.str kd, .str "q"], .list [.str kd, .none],
   .list [.str "abcdefghi"], .list [.none], .list [.list [.str "h"]], .str kd, .none, .dict []]
theorem handlesC_ok {hs : List Str} {kd : Str} {d : PyData} (hn : ∀ x ∈ hs, nameB x = true) (hl : hs.length ≤ 6) (hk : nameB kd = true) (h : d ∈ handlesC hs kd) : PH d := by
  have hm := cf_names hn
  have hml : (hs.map PyData.str).length = hs.length := List.length_map _
  have ck : CF 300 (.str kd) := .name hk (by decide)
  have c0 : CF 300 .none := .non (by decide)
  have one : ∀ {x : PyData}, CF 300 x → ∀ c ∈ [x], CF 300 c := fun {x} h c hc => by rw [List.mem_singleton.mp hc]; exact h
  have two : ∀ {x y : PyData}, CF 300 x → CF 300 y → ∀ c ∈ [x, y], CF 300 c := fun {x y} h1 h2 c hc => by
    simp only [List.mem_cons, List.mem_nil_iff, or_false] at hc
    rcases hc with rfl | rfl
    · exact h1
    · exact h2
  unfold handlesC at h
  simp only [List.mem_cons, List.mem_nil_iff, or_false] at h
  rcases h with rfl | rfl | rfl | rfl | rfl | rfl | rfl | rfl | rfl | rfl | rfl | rfl | rfl | rfl | rfl | rfl
  · exact (pk_list hm (by omega)).h
  · exact (pk_list hm (by omega)).h
  · exact (pk_list hm (by omega)).h
  · exact ph_tup hm (by omega)
  · exact (pk_list (two ck ck) (by simp)).h
  · exact (pk_list (one cf_q) (by simp)).h
  · exact (pk_list (two ck cf_q) (by simp)).h
  · exact ph_tup (two ck ck) (by simp)
  · exact ph_tup (two ck cf_q) (by simp)
  · exact (pk_list (two ck c0) (by simp)).h
  · exact (pk_list (one cf_L) (by simp)).h
  · exact (pk_list (one c0) (by simp)).h
  · exact (pk_list (one cf_h) (by simp)).h
  · exact (ck.noSeq (by decide) rfl).h
  · exact (c0.noSeq (by decide) rfl).h
  · exact dict0_ph
def startC (st kd : Str) : List PyData := [.str st, .str st, .str st, .str "q", .str "", .none, .list [.str kd], .int 0]
theorem startC_ok {st kd : Str} {d : PyData} (hs : nameB st = true) (hk : nameB kd = true) (h : d ∈ startC st kd) : PV d := by
  have cs : CF 300 (.str st) := .name hs (by decide)
  unfold startC at h
  simp only [List.mem_cons, List.mem_nil_iff, or_false] at h
  rcases h with rfl | rfl | rfl | rfl | rfl | rfl | rfl | rfl
  · exact cs.v (by decide)
  · exact cs.v (by decide)
  · exact cs.v (by decide)
  · exact cf_q.v (by decide)
  · exact (CF.str (W := 300) (by decide +kernel) (by decide +kernel) (by decide +kernel)).v (by decide)
  · exact (CF.non (W := 300) (by decide)).v (by decide)
  · exact (CF.lstS (W := 300) (xs := [kd]) (fun z hz => by rw [List.mem_singleton.mp hz]; exact hk) (by simp) (by decide)).v (by decide)
  · exact (CF.zero (W := 300) (by decide)).v (by decide)
def countC (c : Int) : List PyData := [.int c, .int c, .int c, .int (0 - 7), .int (10 ^ Int.toNat 39), .bool true, .bool false, .none, .str "1", .tuple [.int 1]]
theorem countC_ok {c : Int} {d : PyData} (hc : c.natAbs < 10 ^ 60) (h : d ∈ countC c) : PV d := by
  have ci : ∀ {i : Int}, i.natAbs < 10 ^ 60 → PV (.int i) := fun {i} h => ⟨(short_int h).le (by decide), by rw [PyData.depth]; omega⟩
  have co : ∀ {d : PyData}, d ∈ oddV → PV d := fun h => (CF.odd h (Nat.le_refl 300)).v (by decide)
  unfold countC at h
  simp only [List.mem_cons, List.mem_nil_iff, or_false] at h
  rcases h with rfl | rfl | rfl | rfl | rfl | rfl | rfl | rfl | rfl | rfl
  · exact ci hc
  · exact ci hc
  · exact ci hc
  · exact ci (by decide)
  · exact ci (by decide +kernel)
  · exact co (by simp [oddV])
  · exact ⟨⟨by decide, by decide, by decide⟩, by decide⟩
  · exact co (by simp [oddV])
  · exact co (by simp [oddV])
  · exact co (by simp [oddV])
/-- rules, each not too great -/
structure RL (W T : Nat) (ds : List PyData) : Prop where
  each : ∀ e ∈ ds, RF W e
  all : ShortAll 64 T ds
theorem shortAll_app {B V W : Nat} : ∀ {ds es : List PyData}, ShortAll B V ds → ShortAll B W es → ShortAll B (V + W) (ds ++ es)
  | [], es, _, g => g.le (by omega)
  | d :: ds, es, ⟨a1, a2, a3⟩, g => by
    rw [PyData.leavesShortAll, Bool.and_eq_true] at a1
    rw [PyData.weightAll] at a2
    rw [PyData.showableAll, Bool.and_eq_true] at a3
    have h := shortAll_app (V := V - (d.weight + 1)) ⟨a1.2, by omega, a3.2⟩ g
    exact (ShortAll.cons (V := d.weight) ⟨a1.1, Nat.le_refl _, a3.1⟩ h).le (by omega)
theorem RL.bent {W T n : Nat} {ds : List PyData} {e : PyData} (h : RL W T ds) (he : RF (5 * (W + 1)) e) : RL (5 * (W + 1)) (T + (5 * (W + 1) + 1)) (ds.take n ++ ([e] ++ ds.drop n)) := by
  refine ⟨fun x hx => ?_, ?_⟩
  · rcases List.mem_append.mp hx with hx | hx
    · exact (h.each x (List.mem_of_mem_take hx)).mono (by omega)
    · rcases List.mem_append.mp hx with hx | hx
      · rw [List.mem_singleton.mp hx]; exact he
      · exact (h.each x (List.mem_of_mem_drop hx)).mono (by omega)
  · obtain ⟨a1, a2, a3⟩ := h.all
    have e0 : ds.take n ++ ds.drop n = ds := List.take_append_drop n ds
    have w : ∀ l r : List PyData, PyData.weightAll (l ++ r) = PyData.weightAll l + PyData.weightAll r := fun l r => by
      induction l with
      | nil => rw [List.nil_append, PyData.weightAll]; omega
      | cons x l ih => rw [List.cons_append, PyData.weightAll, PyData.weightAll, ih]; omega
    have v : ∀ l r : List PyData, PyData.leavesShortAll 64 (l ++ r) = (PyData.leavesShortAll 64 l && PyData.leavesShortAll 64 r) := fun l r => by
      induction l with
      | nil => rw [List.nil_append, PyData.leavesShortAll]; rfl
      | cons x l ih => rw [List.cons_append, PyData.leavesShortAll, PyData.leavesShortAll, ih, Bool.and_assoc]
    have u : ∀ l r : List PyData, PyData.showableAll (l ++ r) = (PyData.showableAll l && PyData.showableAll r) := fun l r => by
      induction l with
      | nil => rw [List.nil_append, PyData.showableAll]; rfl
      | cons x l ih => rw [List.cons_append, PyData.showableAll, PyData.showableAll, ih, Bool.and_assoc]
    rw [← e0, v, Bool.and_eq_true] at a1
    rw [← e0, w] at a2
    rw [← e0, u, Bool.and_eq_true] at a3
    obtain ⟨b1, b2, b3⟩ := he.s
    have r : ShortAll 64 (5 * (W + 1) + 1 + PyData.weightAll (ds.drop n)) ([e] ++ ds.drop n) := ShortAll.cons ⟨b1, b2, b3⟩ ⟨a1.2, Nat.le_refl _, a3.2⟩
    exact (shortAll_app ⟨a1.1, Nat.le_refl _, a3.1⟩ r).le (by omega)
theorem RL.pr {W T : Nat} {ds : List PyData} (h : RL W T ds) (hT : T ≤ 60000) (hl : ds.length ≤ 1000) : PR (.list ds) ∧ PR (.tuple ds) := by
  have dp := depthAll_of fun d hd => (h.each d hd).dp
  refine ⟨⟨fun es e => ?_, h.all.list.le hT, ?_⟩, ⟨fun es e => ?_, h.all.tuple.le hT, ?_⟩⟩
  · cases e
    exact ⟨hl, fun x hx => (h.each x hx).le⟩
  · rw [PyData.depth]; omega
  · cases e
    exact ⟨hl, fun x hx => (h.each x hx).le⟩
  · rw [PyData.depth]; omega
theorem rl_rules {ks hs : List Str} {rs : List RuleD} {st : Str} {c : Int} (h : PlanN ks hs rs st c) : RL 600 (40 * 601) (rs.map ruleData) := by
  refine ⟨fun e he => ?_, ShortAll.le (shortAll_map (W := 600) fun r hr => short_rule h hr) (Nat.mul_le_mul_right _ h.few.2.2)⟩
  have hle := (h.book.rule e he).1
  have hlay : PyData.canLayAll0 (rs.map ruleData) = true := rules_lay fun r hr => by
    obtain ⟨h1, h2, h3, _⟩ := h.book.rgood r hr
    exact ⟨nameB_ok h1, nameB_ok (h.book.names _ h2), fun x hx => nameB_ok (h.book.names _ (h3 x hx))⟩
  have hdp := depth_rules rs
  have := depth_mem he
  obtain ⟨r, hr, rfl⟩ := List.mem_map.mp he
  exact ⟨short_rule h hr, lay_mem hlay he, by omega, hle⟩
theorem pr_other : PR .none ∧ PR (.dict []) ∧ PR (.str "a") := by
  refine ⟨⟨(fun ds e => by cases e), ⟨by decide, by decide, by decide⟩, by decide⟩, ⟨(fun ds e => by cases e), ⟨by decide, by decide, by decide⟩, by decide⟩, ⟨(fun ds e => by cases e), ⟨by decide +kernel, by decide +kernel, by decide +kernel⟩, by decide +kernel⟩⟩
end Fh
namespace Fh
open PySem PySem.Spec PySem.W PyProof.Rows L2 He
/-- a list of parts under change, a tape -/
structure PA (t pl : Addr) (H0 H : Hp) (vs : List V) (ds : List PyData) : Prop where
  top : H pl = some (.lst vs)
  all : DqAll (hid H [t, pl]) ds vs
  g : Go t H0 H
  f : H0 pl = none
theorem PA.up {t pl : Addr} {H0 H H' : Hp} {vs : List V} {ds : List PyData} (s : Same H H') (h : PA t pl H0 H vs ds) : PA t pl H0 H' vs ds := ⟨s _ _ h.top, DqAll.up (hid_up s) _ _ h.all, h.g.same s, h.f⟩
theorem PA.live {t pl : Addr} {H0 H : Hp} {vs : List V} {ds : List PyData} (h : PA t pl H0 H vs ds) : ∀ w ∈ [t, pl], H w ≠ none := fun w hw z => by
  simp only [List.mem_cons, List.mem_nil_iff, or_false] at hw
  rcases hw with rfl | rfl
  · exact h.g.t1.ne z
  · rw [h.top] at z; cases z
theorem DqAll.set {H : Hp} : ∀ {ds : List PyData} {xs : List V} {n : Nat} {d : PyData} {v : V}, DqAll H ds xs → Dq H d v → DqAll H (ds.set n d) (xs.set n v)
  | [], xs, n, d, v, h, g => by
    have e : xs = [] := by simpa only [DqAll] using h
    rw [e]
    simp only [List.set_nil, DqAll]
  | e :: ds, xs, n, d, v, h, g => by
    simp only [DqAll] at h
    obtain ⟨u, r, rfl, h1, h2⟩ := h
    cases n with
    | zero => exact .cons g h2
    | succ n => exact .cons h1 (DqAll.set h2 g)
theorem PA.tape {t pl : Addr} {H0 H : Hp} {vs : List V} {ds : List PyData} {d m : Int} (h : PA t pl H0 H vs ds) (d0 : 0 ≤ d) (m0 : 0 ≤ m) (m1 : m < 2147483600) : PA t pl H0 (upd H t (tapeO d m)) vs ds :=
  ⟨by rw [upd_ne (h.g.t1.lst h.top)]; exact h.top, by rw [hid_upd (by simp)]; exact h.all, h.g.tape d0 m0 m1, h.f⟩
theorem PA.go {t pl : Addr} {H0 H H' : Hp} {vs : List V} {ds : List PyData} (g : Go t H H') (h : PA t pl H0 H vs ds) : PA t pl H0 H' vs ds :=
  ⟨g.lst h.top, DqAll.up (hid_go g (by simp)) _ _ h.all, h.g.trans g, h.f⟩
theorem PA.set {t pl : Addr} {H0 H : Hp} {vs : List V} {ds : List PyData} {n : Nat} {v : V} {d : PyData} (h : PA t pl H0 H vs ds) (hd : Dq (hid H [t, pl]) d v) : PA t pl H0 (upd H pl (.lst (vs.set n v))) (vs.set n v) (ds.set n d) :=
  ⟨upd_same, by rw [hid_upd (by simp)]; exact h.all.set hd, h.g.up h.f, h.f⟩
/-- x[n] = one_of(tape, [..]) -/
theorem put_choice {K : PySem.W.Frag} {Γ : List (Nat × Ent)} {σ : Sto} {te : TE} {t pl : Addr} {H0 H : Hp} {vs : List V} {ds C : List PyData} {n : Nat} {D : Ends} (e2 : σ[2]? = some (some (.ref t))) (e4 : σ[4]? = some (some (.ref pl)))
    (pa : PA t pl H0 H vs ds) (c : DC [t, pl] Γ σ H) (h : DT K [t, pl] Γ σ te (.list C)) (hne : C ≠ []) (hl : C.length ≤ 100000) (hn : n < ds.length)
    (k : ∀ e x H', e ∈ C → PA t pl H0 H' (vs.set n x) (ds.set n e) → D.nx σ H') : tAsg (tCall (spOne K) [] E0 (tCons (tVar 2) (tCons te tNil))) (gSub (tVar 4) (tC (.int (n : Int))) rSetL) D σ H := by
  refine ⟨_, e2, ?_⟩
  refine dt_go c h fun v H1 s1 hv => ?_
  have p1 := pa.up s1
  dsimp only [tNil, List.append_nil]
  refine one_dat p1.g.t1 (by simp) hv hne hl fun x d m e he d0 m0 m1 hx => ?_
  have p2 := p1.tape d0 m0 m1
  have p3 := p2.set (n := n) hx
  exact ⟨_, e4, pl, vs, (n : Int), n, rfl, rfl, p2.top, ixN_nat (by rw [p2.all.len]; exact hn), k e x _ he p3⟩
theorem put_choiceS {K : PySem.W.Frag} {Γ : List (Nat × Ent)} {σ : Sto} {te : TE} {t pl : Addr} {H0 H : Hp} {vs : List V} {ds C : List PyData} {n : Nat} {rest : TS} {D : Ends} (e2 : σ[2]? = some (some (.ref t))) (e4 : σ[4]? = some (some (.ref pl)))
    (pa : PA t pl H0 H vs ds) (c : DC [t, pl] Γ σ H) (h : DT K [t, pl] Γ σ te (.list C)) (hne : C ≠ []) (hl : C.length ≤ 100000) (hn : n < ds.length)
    (k : ∀ e x H', e ∈ C → PA t pl H0 H' (vs.set n x) (ds.set n e) → rest D σ H') : tSeq (tAsg (tCall (spOne K) [] E0 (tCons (tVar 2) (tCons te tNil))) (gSub (tVar 4) (tC (.int (n : Int))) rSetL)) rest D σ H :=
  put_choice (D := { D with nx := rest D }) e2 e4 pa c h hne hl hn k
theorem dupD_mem : ∀ {xs seen : List Str} {x : Str}, dupD seen xs = some x → x ∈ xs
  | [], _, _, h => by cases h
  | y :: r, seen, x, h => by
    have h : (if seen.contains y = true then some y else dupD (seen ++ [y]) r) = some x := h
    split at h
    · cases h
      exact List.mem_cons_self
    · exact List.mem_cons_of_mem _ (dupD_mem h)
theorem rule_name {ns : List Str} {d : PyData} (h : ruleD ns d = true) : nameB (nameOf d) = true := by
  obtain ⟨x, k, o, c, rfl⟩ := rule_shape h
  have h : (if (!nameD (.str x) || (!amongD ns k || !integerD c)) = true then false else outD ns o) = true := h
  cases hn : nameB x with
  | true => exact hn
  | false =>
    have e : nameD (.str x) = false := hn
    rw [e] at h
    cases h
/-- what is due, written out, is short -/
theorem due_dok {dk dh dr ds dc : PyData} (hk : PK dk) (hh : PH dh) (hr : PR dr) (hs : PV ds) (hc : PV dc) : DOkW (dueL (dueBook dk dh dr ds dc)) := by
  have mk : ∀ {c f : Str} {e : PyData}, (tagOf c).length ≤ 10 → PyData.strOk (tagOf c) = true → Short 64 60000 e → e.depth ≤ 6 → DOkW (dueL (some (c, f, e))) := fun {c f e} h1 h2 h3 h4 => by
    refine Short.dok (W := 10 + 1 + (60000 + 1 + 0)) (ShortAll.cons (short_str h2 h1) (.cons h3 .nil)).list (by decide) ?_
    show (PyData.list [.str (tagOf c), e]).depth ≤ 60
    simp only [PyData.depth, PyData.depthAll]
    omega
  cases e1 : kindsD dk with
  | false => rw [dueBook_kinds e1]; exact mk (by rw [tag_kinds]; decide +kernel) (by rw [tag_kinds]; decide +kernel) (hk.h.s.le (by decide)) (by have := hk.h.dp; omega)
  | true =>
  cases e2 : handlesD (kindsOf dk) dh with
  | false => rw [dueBook_handles e1 e2]; exact mk (by rw [tag_handles]; decide +kernel) (by rw [tag_handles]; decide +kernel) (hh.s.le (by decide)) (by have := hh.dp; omega)
  | true =>
  cases e3 : dueRules (kindsOf dk) dr with
  | some z =>
    rw [dueBook_rules e1 e2 e3]
    cases hi : itemsD dr with
    | none =>
      rw [due_no hi] at e3
      cases e3
      exact mk (by rw [tag_rules]; decide +kernel) (by rw [tag_rules]; decide +kernel) hr.s hr.dp
    | some es =>
    cases hb : badIx (kindsOf dk) 0 es with
    | some i =>
      rw [due_bad hi hb] at e3
      cases e3
      have h1 := badIx_lt hb
      have h2 := (hr.le es hi).1
      exact mk (by rw [tag_rule]; decide +kernel) (by rw [tag_rule]; decide +kernel) ((short_int (i := (i : Int)) (by
        have : (10 : Nat) ^ 60 = 1000 * 10 ^ 57 := by decide +kernel
        have h57 : 0 < 10 ^ 57 := by decide +kernel
        have : 1000 * 1 ≤ 1000 * 10 ^ 57 := Nat.mul_le_mul_left 1000 h57
        omega)).le (by decide)) (by rw [PyData.depth]; omega)
    | none =>
    cases hd : dupD [] (es.map nameOf) with
    | none => rw [due_ok hi hb hd] at e3; cases e3
    | some x =>
      rw [due_dup hi hb hd] at e3
      cases e3
      obtain ⟨d, hd1, rfl⟩ := List.mem_map.mp (dupD_mem hd)
      exact mk (by rw [tag_twice]; decide +kernel) (by rw [tag_twice]; decide +kernel) ((short_name (rule_name (badIx_none hb d hd1))).le (by decide)) (by rw [PyData.depth]; omega)
  | none =>
  cases e4 : amongD (kindsOf dk) ds with
  | false => rw [dueBook_start e1 e2 e3 e4]; exact mk (by rw [tag_start]; decide +kernel) (by rw [tag_start]; decide +kernel) (hs.s.le (by decide)) (by have := hs.dp; omega)
  | true =>
  cases e5 : integerD dc with
  | false => rw [dueBook_count e1 e2 e3 e4 e5]; exact mk (by rw [tag_count]; decide +kernel) (by rw [tag_count]; decide +kernel) (hc.s.le (by decide)) (by have := hc.dp; omega)
  | true =>
    rw [dueBook_none e1 e2 e3 e4 e5]
    exact ⟨by decide +kernel, by decide +kernel, by decide +kernel⟩
theorem due_last : dueBook (.list [.str "h"]) (.list []) (.list []) (.str "h") (.int 0) = none := dueBook_none (by decide +kernel) (by decide +kernel) (by decide +kernel) (by decide +kernel) (by decide +kernel)
theorem plan_hid {t pl : Addr} {H : Hp} {q : PlanRef} {ks hs : List Str} {rs : List RuleD} {st : Str} {c : Int} (hT : TapeAt H t) (hY : Sys H) (hP : PlanAt H pl q ks hs rs) (e1 : q.s = .str st) (e2 : q.c = .int c) :
    DqAll (hid H [t, pl]) [.list (ks.map .str), .list (hs.map .str), .list (rs.map ruleData), .str st, .int c] [.ref q.ka, .ref q.ha, .ref q.ra, q.s, q.c] := by
  have out : ∀ {a : Addr} {xs : List V}, H a = some (.lst xs) → a ≠ pl → a ∉ [t, pl] := fun {a xs} e n z => by
    simp only [List.mem_cons, List.mem_nil_iff, or_false] at z
    rcases z with z | z
    · exact hT.lst e z
    · exact n z
  have strN : ∀ {a : Addr} {xs : List Str}, H a = some (.lst (xs.map V.str)) → a ≠ pl := fun {a xs} e z => by
    rw [z, hP.top] at e
    cases xs with
    | nil => cases e
    | cons x xs => cases e
  have nr : q.ra ≠ pl := fun z => by
    have e := hP.rules
    rw [z, hP.top] at e
    have e : [V.ref q.ka, .ref q.ha, .ref q.ra, q.s, q.c] = q.vs := by injection e with e; injection e
    have d := hP.each.dq
    rw [← e, e1] at d
    obtain ⟨x, hx, h3⟩ := d.get (i := 3) (v := .str st) rfl
    obtain ⟨r, _, rfl⟩ := List.mem_map.mp (List.mem_of_getElem? hx)
    unfold ruleData at h3
    simp only [Dq] at h3
    obtain ⟨a, xs, z, _⟩ := h3
    cases z
  have tk : Tups H (hid H [t, pl]) := fun b xs e => hid_at (fun z => by
    simp only [List.mem_cons, List.mem_nil_iff, or_false] at z
    rcases z with rfl | rfl
    · obtain ⟨d, m, et, _⟩ := hT
      rw [et] at e
      cases e
    · rw [hP.top] at e
      cases e) e
  have names : ∀ {a : Addr} {xs : List Str}, H a = some (.lst (xs.map V.str)) → Dq (hid H [t, pl]) (.list (xs.map .str)) (.ref a) := fun {a xs} e => by
    simp only [Dq]
    exact ⟨a, _, rfl, hY.lst e, hid_at (out e (strN e)) e, dq_strs _⟩
  refine .cons (names hP.kinds) (.cons (names hP.handles) (.cons ?_ (.cons (by rw [e1]; simp only [Dq]) (.cons (by rw [e2]; simp only [Dq]) .nil))))
  simp only [Dq]
  exact ⟨q.ra, q.vs, rfl, hY.lst hP.rules, hid_at (out hP.rules nr) hP.rules, (hP.each.ups tk).dq⟩
end Fh
namespace Dw
open PySem PySem.Spec PyProof.Rows L2 He Fh
abbrev sLaw : Stmt := top 37
section
variable {P : Program} {w : World} {K : PySem.W.Frag} {mg : Str → Option Value} {base : Heap}
theorem scLaw : FnScope ["script", "start", "tape", "turn", "parts", "kind", "seen", "due"] ["script"] (defScope sLaw) := ⟨rfl, rfl, rfl, by decide +kernel, rfl, by decide +kernel, by decide +kernel⟩
theorem ok_law {fd : FuncData} (F : FunD K "law" "law" (defArgs sLaw) (defBody sLaw) (defScope sLaw) [] [] (fAd K ("law", none)) fd)
    (R1 : Rdy P w K mg base CX0 1 "_law_tape" ["script", "first"] (spTape K)) (R2 : Rdy P w K mg base CX0 4 "_law_drawn_plan" ["tape", "most"] spPlan)
    (R3 : Rdy P w K mg base CX0 2 "_law_one_of" ["tape", "things"] (spOne K)) (R4 : Rdy P w K mg base CX0 3 "_law_bent_rules" ["tape", "rules", "kind"] (spBent K))
    (R5 : Rdy P w K mg base CX0 3 "_law_due" ["parts"] (spLDue K)) (R6 : Rdy P w K mg base CX0 6 "_law_refused" ["parts"] (spRefB K))
    (g_range : mg "range" = none) (g_max : mg "max" = none) (g_min : mg "min" = none) (g_len : mg "len" = none) (g_repr : mg "repr" = none) (g_tuple : mg "tuple" = none) :
    FnG P w K mg base CX0 7 (fAd K ("law", none)) fd ["script"] (spLawS K) := by
  refine funG F scLaw (fun vs H Q E h => ?_) (fun cdv A outer s H vs Q E hg hr h => ?_)
  · obtain ⟨a, ns, rfl, _⟩ := h
    rfl
  · obtain ⟨a, ns, rfl, hY, hS, hQ⟩ := h
    obtain ⟨f1, d1, G_law_tape, m_law_tape, k_law_tape, b_law_tape⟩ := R1
    obtain ⟨f2, d2, G_law_drawn_plan, m_law_drawn_plan, k_law_drawn_plan, b_law_drawn_plan⟩ := R2
    obtain ⟨f3, d3, G_law_one_of, m_law_one_of, k_law_one_of, b_law_one_of⟩ := R3
    obtain ⟨f4, d4, G_law_bent_rules, m_law_bent_rules, k_law_bent_rules, b_law_bent_rules⟩ := R4
    obtain ⟨f5, d5, G_law_due, m_law_due, k_law_due, b_law_due⟩ := R5
    obtain ⟨f6, d6, G_law_refused, m_law_refused, k_law_refused, b_law_refused⟩ := R6
    have hgd : (A.deeper (envOfC "law" (defScope sLaw) s.heap.objs.size (fAd K ("law", none)) cdv)).guards = some [] := hg
    have hu64 := hr.units
    have hu := hu_of hr
    have r_law_tape : Room 1 _ := hr.mono (by decide)
    have r_law_drawn_plan : Room 4 _ := hr.mono (by decide)
    have r_law_one_of : Room 2 _ := hr.mono (by decide)
    have r_law_bent_rules : Room 3 _ := hr.mono (by decide)
    have r_law_due : Room 3 _ := hr.mono (by decide)
    have r_law_refused : Room 6 _ := hr
    refine ⟨_, PSs.nox (pss_cons (ps_for PassesOwn.never rfl (pi_range1 (by rfl) g_range (pa_cons (pe_callB (call_max2 rfl) (by rfl) g_max (by decide +kernel) (pa_cons pe_int (pa_cons (pe_callB (call_min2 rfl) (by rfl) g_min (by decide +kernel) (pa_cons pe_int (pa_cons (pe_callB call_len (by rfl) g_len (by decide +kernel) (pa_cons (pv 0) pa_nil)) pa_nil))) pa_nil))) pa_nil)) (pg_name (i := 1) scLaw.nd rfl (by first | exact Or.inl rfl | exact Or.inr rfl))
 (pss_cons (ps_set (i := 2) scLaw.nd rfl (by first | exact Or.inl rfl | exact Or.inr rfl) (pe_call G_law_tape r_law_tape rfl m_law_tape k_law_tape b_law_tape .nil pass0 (pa_cons (pv 0) (pa_cons (pv 1) pa_nil))))
 (pss_one (ps_for PassesOwn.never rfl (pi_range1 (by rfl) g_range (pa_cons pe_int pa_nil)) (pg_name (i := 3) scLaw.nd rfl (by first | exact Or.inl rfl | exact Or.inr rfl))
 (pss_cons (ps_set (i := 4) scLaw.nd rfl (by first | exact Or.inl rfl | exact Or.inr rfl) (pe_call G_law_drawn_plan r_law_drawn_plan rfl m_law_drawn_plan k_law_drawn_plan b_law_drawn_plan .nil pass0 (pa_cons (pv 2) (pa_cons pe_int pa_nil))))
 (pss_cons (ps_set (i := 5) scLaw.nd rfl (by first | exact Or.inl rfl | exact Or.inr rfl) (pe_ix ix_list (pe_ix (ix_listK (K := K)) (pv 4) pe_int (fun _ _ => rfl)) pe_int (fun _ _ => rfl)))
 (pss_cons (ps_asg (pe_call G_law_one_of r_law_one_of rfl m_law_one_of k_law_one_of b_law_one_of .nil pass0 (pa_cons (pv 2) (pa_cons (pe_lst (pa_cons (pe_ix (ix_listK (K := K)) (pv 4) pe_int (fun _ _ => rfl)) (pa_cons (pe_ix (ix_listK (K := K)) (pv 4) pe_int (fun _ _ => rfl)) (pa_cons (pe_ix (ix_listK (K := K)) (pv 4) pe_int (fun _ _ => rfl)) (pa_cons (pe_ix (ix_listK (K := K)) (pv 4) pe_int (fun _ _ => rfl)) (pa_cons (pe_lst pa_nil) (pa_cons (pe_tup pa_nil) (pa_cons (pe_op op_cat (pe_ix (ix_listK (K := K)) (pv 4) pe_int (fun _ _ => rfl)) (pe_lst (pa_cons (pv 5) pa_nil))) (pa_cons (pe_op op_cat (pe_ix (ix_listK (K := K)) (pv 4) pe_int (fun _ _ => rfl)) (pe_lst (pa_cons pe_str pa_nil))) (pa_cons (pe_op op_cat (pe_ix (ix_listK (K := K)) (pv 4) pe_int (fun _ _ => rfl)) (pe_lst (pa_cons pe_str pa_nil))) (pa_cons (pe_op op_cat (pe_lst (pa_cons pe_non pa_nil)) (pe_ix (ix_listK (K := K)) (pv 4) pe_int (fun _ _ => rfl))) (pa_cons (pv 5) (pa_cons pe_non (pa_cons (pe_op op_cat (pe_ix (ix_listK (K := K)) (pv 4) pe_int (fun _ _ => rfl)) (pe_lst (pa_cons (pe_lst (pa_cons pe_str pa_nil)) pa_nil))) (pa_cons (pe_disp (pps_cons (pv 5) pe_int pps_nil) (by rfl) (by rfl) (fun z => by cases z) (by decide)) pa_nil))))))))))))))) pa_nil))) (pg_sub (pv 4) pe_int set_list))
 (pss_cons (ps_asg (pe_call G_law_one_of r_law_one_of rfl m_law_one_of k_law_one_of b_law_one_of .nil pass0 (pa_cons (pv 2) (pa_cons (pe_lst (pa_cons (pe_ix (ix_listK (K := K)) (pv 4) pe_int (fun _ _ => rfl)) (pa_cons (pe_ix (ix_listK (K := K)) (pv 4) pe_int (fun _ _ => rfl)) (pa_cons (pe_ix (ix_listK (K := K)) (pv 4) pe_int (fun _ _ => rfl)) (pa_cons (pe_callTy (call_tuple_ofK (K := K)) (by rfl) g_tuple (by decide +kernel) (pa_cons (pe_ix (ix_listK (K := K)) (pv 4) pe_int (fun _ _ => rfl)) pa_nil)) (pa_cons (pe_lst (pa_cons (pv 5) (pa_cons (pv 5) pa_nil))) (pa_cons (pe_lst (pa_cons pe_str pa_nil)) (pa_cons (pe_lst (pa_cons (pv 5) (pa_cons pe_str pa_nil))) (pa_cons (pe_tup (pa_cons (pv 5) (pa_cons (pv 5) pa_nil))) (pa_cons (pe_tup (pa_cons (pv 5) (pa_cons pe_str pa_nil))) (pa_cons (pe_lst (pa_cons (pv 5) (pa_cons pe_non pa_nil))) (pa_cons (pe_lst (pa_cons pe_str pa_nil)) (pa_cons (pe_lst (pa_cons pe_non pa_nil)) (pa_cons (pe_lst (pa_cons (pe_lst (pa_cons pe_str pa_nil)) pa_nil)) (pa_cons (pv 5) (pa_cons pe_non (pa_cons dat_dict0 pa_nil))))))))))))))))) pa_nil))) (pg_sub (pv 4) pe_int set_list))
 (pss_cons (ps_asg (pe_call G_law_one_of r_law_one_of rfl m_law_one_of k_law_one_of b_law_one_of .nil pass0 (pa_cons (pv 2) (pa_cons (pe_lst (pa_cons (pe_ix (ix_listK (K := K)) (pv 4) pe_int (fun _ _ => rfl)) (pa_cons (pe_callTy (call_tuple_ofK (K := K)) (by rfl) g_tuple (by decide +kernel) (pa_cons (pe_ix (ix_listK (K := K)) (pv 4) pe_int (fun _ _ => rfl)) pa_nil)) (pa_cons (pe_call G_law_bent_rules r_law_bent_rules rfl m_law_bent_rules k_law_bent_rules b_law_bent_rules .nil pass0 (pa_cons (pv 2) (pa_cons (pe_ix (ix_listK (K := K)) (pv 4) pe_int (fun _ _ => rfl)) (pa_cons (pv 5) pa_nil)))) (pa_cons (pe_call G_law_bent_rules r_law_bent_rules rfl m_law_bent_rules k_law_bent_rules b_law_bent_rules .nil pass0 (pa_cons (pv 2) (pa_cons (pe_call G_law_bent_rules r_law_bent_rules rfl m_law_bent_rules k_law_bent_rules b_law_bent_rules .nil pass0 (pa_cons (pv 2) (pa_cons (pe_ix (ix_listK (K := K)) (pv 4) pe_int (fun _ _ => rfl)) (pa_cons (pv 5) pa_nil)))) (pa_cons (pv 5) pa_nil)))) (pa_cons pe_non (pa_cons dat_dict0 (pa_cons pe_str pa_nil)))))))) pa_nil))) (pg_sub (pv 4) pe_int set_list))
 (pss_cons (ps_asg (pe_call G_law_one_of r_law_one_of rfl m_law_one_of k_law_one_of b_law_one_of .nil pass0 (pa_cons (pv 2) (pa_cons (pe_lst (pa_cons (pe_ix (ix_listK (K := K)) (pv 4) pe_int (fun _ _ => rfl)) (pa_cons (pe_ix (ix_listK (K := K)) (pv 4) pe_int (fun _ _ => rfl)) (pa_cons (pe_ix (ix_listK (K := K)) (pv 4) pe_int (fun _ _ => rfl)) (pa_cons pe_str (pa_cons pe_str (pa_cons pe_non (pa_cons (pe_lst (pa_cons (pv 5) pa_nil)) (pa_cons pe_int pa_nil))))))))) pa_nil))) (pg_sub (pv 4) pe_int set_list))
 (pss_cons (ps_asg (pe_call G_law_one_of r_law_one_of rfl m_law_one_of k_law_one_of b_law_one_of .nil pass0 (pa_cons (pv 2) (pa_cons (pe_lst (pa_cons (pe_ix (ix_listK (K := K)) (pv 4) pe_int (fun _ _ => rfl)) (pa_cons (pe_ix (ix_listK (K := K)) (pv 4) pe_int (fun _ _ => rfl)) (pa_cons (pe_ix (ix_listK (K := K)) (pv 4) pe_int (fun _ _ => rfl)) (pa_cons dat_sub (pa_cons (dat_pow (by decide) (by decide) (by decide)) (pa_cons pe_bl (pa_cons pe_bl (pa_cons pe_non (pa_cons pe_str (pa_cons (pe_tup (pa_cons pe_int pa_nil)) pa_nil))))))))))) pa_nil))) (pg_sub (pv 4) pe_int set_list))
 (pss_cons (ps_par (i := 6) (j := 7) (by rfl) scLaw.nd rfl rfl (by decide) rfl rfl (pa_cons (pe_callB (call_reprW hgd hu64) (by rfl) g_repr (by decide +kernel) (pa_cons (pv 4) pa_nil)) (pa_cons (pe_call G_law_due r_law_due rfl m_law_due k_law_due b_law_due .nil pass0 (pa_cons (pv 4) pa_nil)) pa_nil)) (by rfl))
 (pss_one (ps_if (PW.pt (pw_or (pt_cmpR op_ne (pe_callB (call_reprW hgd hu64) (by rfl) g_repr (by decide +kernel) (pa_cons (pe_call G_law_refused r_law_refused rfl m_law_refused k_law_refused b_law_refused .nil pass0 (pa_cons (pv 4) pa_nil)) pa_nil)) (pe_callB (call_reprW hgd hu64) (by rfl) g_repr (by decide +kernel) (pa_cons (pv 7) pa_nil)) (nomark _)) (pw_or1 (pt_cmpR op_ne (pe_callB (call_reprW hgd hu64) (by rfl) g_repr (by decide +kernel) (pa_cons (pv 4) pa_nil)) (pv 6) (nomark _)))))
 (pss_one (ps_ret pe_bl)) pss_nil))))))))))))))
 (pss_one (ps_ret (pe_cmpR (op_eqE hu64) (pe_call G_law_refused r_law_refused rfl m_law_refused k_law_refused b_law_refused .nil pass0 (pa_cons (pe_lst (pa_cons (pe_lst (pa_cons pe_str pa_nil)) (pa_cons (pe_lst pa_nil) (pa_cons (pe_lst pa_nil) (pa_cons pe_str (pa_cons pe_int pa_nil)))))) pa_nil)) (pe_lst pa_nil) (nomark _))))), ?_⟩
    have hfew := hS.few
    have hlen : (ns.map V.int).length = ns.length := List.length_map _
    refine ⟨_, rfl, _, (ns.map V.int).length, rfl, .inl ⟨_, hS.at_, rfl⟩, _, _, rfl, _, _, rfl, ?_⟩
    refine ⟨_, rfl, by split <;> (try split) <;> omega, by split <;> (try split) <;> omega, ?_⟩
    refine for_range (lo := 0) (fun _ σ H1 => (Sys H1 ∧ Script K H1 a ns) ∧ ∃ o1 o2 o3 o4 o5 o6 o7 : Option V, σ = [some (.ref a), o1, o2, o3, o4, o5, o6, o7]) ⟨⟨hY, hS⟩, none, none, none, none, none, none, none, rfl⟩ ?_ ?_
    · rintro i σ H1 hi ⟨⟨hY1, hS1⟩, o1, o2, o3, o4, o5, o6, o7, rfl⟩
      have hi3 : i ≤ 62 := by
        revert hi
        split <;> (try split) <;> omega
      refine ⟨_, rfl, _, rfl, a, ns, i, by rw [Int.zero_add]; rfl, hS1, hi3, fun t H2 n2 s2 hT => ?_⟩
      have hY2 := hY1.up s2
      have hS2 : Script K H2 a ns := ⟨s2.seq hS1.at_, hS1.few, hS1.bits⟩
      refine ⟨_, rfl, by decide, by decide, ?_⟩
      refine for_range (lo := 0) (fun _ σ H3 => (Sys H3 ∧ Script K H3 a ns ∧ TapeAt H3 t) ∧ ∃ o1 o3 o4 o5 o6 o7 : Option V, σ = [some (.ref a), o1, some (.ref t), o3, o4, o5, o6, o7]) ⟨⟨hY2, hS2, hT⟩, _, _, _, _, _, _, rfl⟩ ?_ ?_
      · rintro j σ H3 hj ⟨⟨hY3, hS3, hT3⟩, o1, o3, o4, o5, o6, o7, rfl⟩
        refine ⟨_, rfl, t, 4, rfl, hT3, by decide, by decide, fun pl q ks hs rs st c H4 hok hkl e1 e2 g4 npl nka nha nra d1 d2 d3 hP => ?_⟩
        have hn := hok.n
        have hO := hn.book
        have hY4 := hY3.go g4
        have pa0 : PA t pl H3 H4 _ _ := ⟨hP.top, plan_hid g4.t1 hY4 hP e1 e2, g4, npl⟩
        have hk4 : ks.length ≤ 6 := by omega
        have hh4 : hs.length ≤ 6 := Nat.le_trans (nodup_len hO.hnodup hO.hsub) hk4
        have hkl1 : (ks.map PyData.str).length = ks.length := List.length_map _
        have ka0 := hP.kinds
        generalize hvs : [V.ref q.ka, .ref q.ha, .ref q.ra, q.s, q.c] = vs at pa0
        clear hP e1 e2 nka nha nra d1 d2 d3 hT3 g4 hY4
        dsimp only [gName]
        -- the kind
        cases ks with
        | nil => exact absurd hO.start (by simp)
        | cons kd kr =>
        have hkd : nameB kd = true := hO.names kd List.mem_cons_self
        have hst : nameB st = true := hO.names st hO.start
        have hhn : ∀ x ∈ hs, nameB x = true := fun x hx => hO.names x (hO.hsub x hx)
        refine ⟨_, rfl, pl, _, 0, .ref q.ka, rfl, rfl, SqL.of (hvs ▸ pa0.top), rfl, q.ka, _, 0, .str kd, rfl, rfl, SqL.of ka0, (show atI (V.str kd :: kr.map V.str) ((0 : Nat) : Int) = some (V.str kd) from atI_nat rfl), ?_⟩
        dsimp only [gName]
        clear ka0 hvs npl
        have c0 : DC [t, pl] [(4, .top _), (5, .d (.str kd))] [some (.ref a), o1, some (.ref t), some (.int (0 + (j : Int))), some (.ref pl), some (.str kd), o6, o7] H4 := ⟨pa0.live, hY3.go pa0.g, ⟨_, _, rfl, pa0.top, pa0.all⟩, ⟨_, rfl, by simp only [Dq]⟩, trivial⟩
        have hc1 : ∀ x : PyData, ((kd :: kr).map PyData.str).length + [x].length ≤ 100000 := fun x => by
          rw [List.length_map]
          show (kd :: kr).length + 1 ≤ _
          omega
        have hc2 : ∀ x : PyData, [x].length + ((kd :: kr).map PyData.str).length ≤ 100000 := fun x => by
          rw [List.length_map]
          show 1 + (kd :: kr).length ≤ _
          omega
        refine put_choiceS (n := 0) rfl rfl pa0 c0 (DT.lst (DTs.cons (DT.part (i := 4) (n := 0) rfl rfl) (DTs.cons (DT.part (i := 4) (n := 0) rfl rfl) (DTs.cons (DT.part (i := 4) (n := 0) rfl rfl) (DTs.cons (DT.part (i := 4) (n := 0) rfl rfl) (DTs.cons (DT.lst DTs.nil) (DTs.cons (DT.tup DTs.nil) (DTs.cons (DT.cat (DT.part (i := 4) (n := 0) rfl rfl) (DT.lst (DTs.cons (DT.var (i := 5) rfl) DTs.nil)) (hc1 _)) (DTs.cons (DT.cat (DT.part (i := 4) (n := 0) rfl rfl) (DT.lst (DTs.cons DT.str DTs.nil)) (hc1 _)) (DTs.cons (DT.cat (DT.part (i := 4) (n := 0) rfl rfl) (DT.lst (DTs.cons DT.str DTs.nil)) (hc1 _)) (DTs.cons (DT.cat (DT.lst (DTs.cons DT.non DTs.nil)) (DT.part (i := 4) (n := 0) rfl rfl) (hc2 _)) (DTs.cons (DT.var (i := 5) rfl) (DTs.cons DT.non (DTs.cons (DT.cat (DT.part (i := 4) (n := 0) rfl rfl) (DT.lst (DTs.cons (DT.lst (DTs.cons DT.str DTs.nil)) DTs.nil)) (hc1 _)) (DTs.cons (DT.disp1 (DT.var (i := 5) rfl)) DTs.nil))))))))))))))) (by simp) (by simp) (by simp) fun dk vk H5 hdk pa1 => ?_
        clear c0 pa0
        have hdk : PK dk := kindsC_ok hO.names hk4 hkd hdk
        have pa1 : PA t pl H3 H5 _ [dk, .list (hs.map .str), .list (rs.map ruleData), .str st, .int c] := pa1
        generalize vs.set 0 vk = vs at pa1
        have c1 : DC [t, pl] [(4, .top _), (5, .d (.str kd))] [some (.ref a), o1, some (.ref t), some (.int (0 + (j : Int))), some (.ref pl), some (.str kd), o6, o7] H5 := ⟨pa1.live, hY3.go pa1.g, ⟨_, _, rfl, pa1.top, pa1.all⟩, ⟨_, rfl, by simp only [Dq]⟩, trivial⟩
        refine put_choiceS (n := 1) rfl rfl pa1 c1 (DT.lst (DTs.cons (DT.part (i := 4) (n := 1) rfl rfl) (DTs.cons (DT.part (i := 4) (n := 1) rfl rfl) (DTs.cons (DT.part (i := 4) (n := 1) rfl rfl) (DTs.cons (DT.tupOf (DT.part (i := 4) (n := 1) rfl rfl)) (DTs.cons (DT.lst (DTs.cons (DT.var (i := 5) rfl) (DTs.cons (DT.var (i := 5) rfl) DTs.nil))) (DTs.cons (DT.lst (DTs.cons DT.str DTs.nil)) (DTs.cons (DT.lst (DTs.cons (DT.var (i := 5) rfl) (DTs.cons DT.str DTs.nil))) (DTs.cons (DT.tup (DTs.cons (DT.var (i := 5) rfl) (DTs.cons (DT.var (i := 5) rfl) DTs.nil))) (DTs.cons (DT.tup (DTs.cons (DT.var (i := 5) rfl) (DTs.cons DT.str DTs.nil))) (DTs.cons (DT.lst (DTs.cons (DT.var (i := 5) rfl) (DTs.cons DT.non DTs.nil))) (DTs.cons (DT.lst (DTs.cons DT.str DTs.nil)) (DTs.cons (DT.lst (DTs.cons DT.non DTs.nil)) (DTs.cons (DT.lst (DTs.cons (DT.lst (DTs.cons DT.str DTs.nil)) DTs.nil)) (DTs.cons (DT.var (i := 5) rfl) (DTs.cons DT.non (DTs.cons DT.dat DTs.nil))))))))))))))))) (by simp) (by simp) (by simp) fun dh vh H6 hdh pa2 => ?_
        clear c1 pa1
        have hdh : PH dh := handlesC_ok hhn hh4 hkd hdh
        have pa2 : PA t pl H3 H6 _ [dk, dh, .list (rs.map ruleData), .str st, .int c] := pa2
        generalize vs.set 1 vh = vs at pa2
        -- the rules
        have hrl := rl_rules hn
        have hrsl : (rs.map ruleData).length ≤ 40 := by rw [List.length_map]; exact hn.few.2.2
        generalize rs.map ruleData = rd at pa2 hrl hrsl
        obtain ⟨v2, ev2, hv2⟩ := pa2.all.at_ (i := 2) rfl
        simp only [Dq] at hv2
        obtain ⟨ra, xs, rfl, nra, era, hxs⟩ := hv2
        have hxl := hxs.len
        refine seq_cut (fun σ H7 => (∃ dr vs, PR dr ∧ PA t pl H3 H7 vs [dk, dh, dr, .str st, .int c]) ∧ σ = [some (.ref a), o1, some (.ref t), some (.int (0 + (j : Int))), some (.ref pl), some (.str kd), o6, o7]) ?_ (fun fin => ?_)
        · rintro σ H7 ⟨⟨dr, vs, hdr, pa3⟩, rfl⟩
          have c3 : DC [t, pl] [(4, .top _), (5, .d (.str kd))] [some (.ref a), o1, some (.ref t), some (.int (0 + (j : Int))), some (.ref pl), some (.str kd), o6, o7] H7 := ⟨pa3.live, hY3.go pa3.g, ⟨_, _, rfl, pa3.top, pa3.all⟩, ⟨_, rfl, by simp only [Dq]⟩, trivial⟩
          refine put_choiceS (n := 3) rfl rfl pa3 c3 (DT.lst (DTs.cons (DT.part (i := 4) (n := 3) rfl rfl) (DTs.cons (DT.part (i := 4) (n := 3) rfl rfl) (DTs.cons (DT.part (i := 4) (n := 3) rfl rfl) (DTs.cons DT.str (DTs.cons DT.str (DTs.cons DT.non (DTs.cons (DT.lst (DTs.cons (DT.var (i := 5) rfl) DTs.nil)) (DTs.cons DT.int DTs.nil))))))))) (by simp) (by simp) (by simp) fun ds vs' H8 hds pa4 => ?_
          clear c3 pa3
          have hds : PV ds := startC_ok hst hkd hds
          have pa4 : PA t pl H3 H8 _ [dk, dh, dr, ds, .int c] := pa4
          have c4 : DC [t, pl] [(4, .top _), (5, .d (.str kd))] [some (.ref a), o1, some (.ref t), some (.int (0 + (j : Int))), some (.ref pl), some (.str kd), o6, o7] H8 := ⟨pa4.live, hY3.go pa4.g, ⟨_, _, rfl, pa4.top, pa4.all⟩, ⟨_, rfl, by simp only [Dq]⟩, trivial⟩
          refine put_choiceS (n := 4) rfl rfl pa4 c4 (DT.lst (DTs.cons (DT.part (i := 4) (n := 4) rfl rfl) (DTs.cons (DT.part (i := 4) (n := 4) rfl rfl) (DTs.cons (DT.part (i := 4) (n := 4) rfl rfl) (DTs.cons DT.dat (DTs.cons DT.dat (DTs.cons DT.bl (DTs.cons DT.bl (DTs.cons DT.non (DTs.cons DT.str (DTs.cons (DT.tup (DTs.cons DT.int DTs.nil)) DTs.nil))))))))))) (by simp) (by simp) (by simp) fun dc vc H9 hdc pa5 => ?_
          clear c4 pa4
          have hdc : PV dc := countC_ok hn.count hdc
          have pa5 : PA t pl H3 H9 _ [dk, dh, dr, ds, dc] := pa5
          generalize (vs.set 3 vs').set 4 vc = vs at pa5
          have hY9 := hY3.go pa5.g
          have all := pa5.all
          simp only [DqAll] at all
          obtain ⟨x1, _, rfl, q1, x2, _, rfl, q2, x3, _, rfl, q3, x4, _, rfl, q4, x5, _, rfl, q5, rfl⟩ := all
          have top := pa5.top
          have hdq : ∀ {Hx : Hp}, Same H9 Hx → Dq Hx (.list [dk, dh, dr, ds, dc]) (.ref pl) := fun {Hx} sx => by
            simp only [Dq]
            exact ⟨pl, _, rfl, hY9.lst top, sx _ _ top, DqAll.up (hid_same.trans sx) _ _ pa5.all⟩
          have hall : ShortAll 64 (3010 + 1 + (3010 + 1 + (60000 + 1 + (3010 + 1 + (3010 + 1 + 0))))) [dk, dh, dr, ds, dc] := .cons hdk.h.s (.cons hdh.s (.cons hdr.s (.cons hds.s (.cons hdc.s .nil))))
          have hdep : (PyData.list [dk, dh, dr, ds, dc]).depth ≤ 60 := by
            have := hdk.h.dp
            have := hdh.dp
            have := hdr.dp
            have := hds.dp
            have := hdc.dp
            simp only [PyData.depth, PyData.depthAll]
            omega
          have hok : DOkW (.list [dk, dh, dr, ds, dc]) := hall.list.dok (by decide) hdep
          refine ⟨_, rfl, _, _, rfl, hdq (Same.refl _), hok, ?_⟩
          refine ⟨_, rfl, pl, x1, x2, x3, x4, x5, dk, dh, dr, ds, dc, rfl, top, Dq.up hid_same _ _ q1, Dq.up hid_same _ _ q2, Dq.up hid_same _ _ q3, Dq.up hid_same _ _ q4, Dq.up hid_same _ _ q5, hdk.h.le, hdh.le, hdr.le, hdk.t, hY9, fun p Ha s9a hp => ?_⟩
          refine ⟨_, _, rfl, ?_⟩
          dsimp only [tNext]
          have hYa := hY9.up s9a
          refine ⟨_, rfl, pl, x1, x2, x3, x4, x5, dk, dh, dr, ds, dc, rfl, s9a _ _ top, Dq.up (hid_same.trans s9a) _ _ q1, Dq.up (hid_same.trans s9a) _ _ q2, Dq.up (hid_same.trans s9a) _ _ q3, Dq.up (hid_same.trans s9a) _ _ q4, Dq.up (hid_same.trans s9a) _ _ q5, hdk.h.le, hdh.le, hdr.le, hYa, fun r Hb sab hr => ?_⟩
          have hdueok : DOkW (dueL (dueBook dk dh dr ds dc)) := due_dok hdk hdh hdr hds hdc
          refine ⟨_, _, rfl, hr, hdueok, ?_⟩
          refine ⟨_, rfl, _, _, rfl, Dq.up sab _ _ hp, hdueok, rfl, _, rfl, ?_⟩
          refine iteNS rfl ?_
          have s9b := s9a.trans sab
          refine ⟨_, rfl, _, _, rfl, hdq s9b, hok, _, rfl, rfl, _, rfl, ?_⟩
          refine iteNS rfl ?_
          have gb := pa5.g.same s9b
          exact ⟨⟨hY3.go gb, ⟨gb.seq hS3.at_, hS3.few, hS3.bits⟩, gb.t1⟩, _, _, _, _, _, _, rfl⟩
        · have w0 := pa2.live
          have y0 := hY3.go pa2.g
          have tw : t ∈ [t, pl] := by simp
          refine ⟨_, rfl, ?_⟩
          have at2 : atI vs (2 : Int) = some (.ref ra) := (show atI vs ((2 : Nat) : Int) = some (.ref ra) from atI_nat ev2)
          refine ⟨_, rfl, pl, vs, 2, .ref ra, rfl, rfl, SqL.of pa2.top, at2, ?_⟩
          refine ⟨_, rfl, pl, vs, 2, .ref ra, rfl, rfl, SqL.of pa2.top, at2, ?_⟩
          refine ⟨ra, xs, rfl, .inl ⟨SqL.of (hid_same _ _ era), fun p1 h1 => ?_⟩⟩
          have s1 := same_upd (o := .tup xs) h1
          have x1 : hid (upd H6 p1 (.tup xs)) [t, pl] p1 = some (.tup xs) := hid_at (hid_out w0 h1) upd_same
          generalize upd H6 p1 (.tup xs) = Ha at s1 x1
          have pa3 := pa2.up s1
          have wa := pa3.live
          have ya := y0.up s1
          have era1 := hid_up (ws := [t, pl]) s1 _ _ era
          have hxs1 := DqAll.up (hid_up (ws := [t, pl]) s1) _ _ hxs
          refine ⟨_, rfl, _, rfl, pl, vs, 2, .ref ra, rfl, rfl, SqL.of pa3.top, at2, ?_⟩
          refine ⟨_, rfl, t, ra, kd, [t, pl], 600, rd, xs, rfl, pa3.g.t1, ya, tw, wa, era1, hxs1, hkd, by decide, by omega, hrl.each, fun p2 Hb ds1 ys1 e1 n1 g1 np1 eb1 hq1 hn1 heq1 hf1 => ?_⟩
          have rl1 := heq1 ▸ hrl.bent (n := n1) hf1
          have len1 : ds1.length ≤ 41 := by
            rw [heq1]
            simp only [List.length_append, List.length_take, List.length_drop, List.length_cons, List.length_nil]
            omega
          have pb := pa3.go g1
          have wb := pb.live
          have yb := hY3.go pb.g
          have x1b := hid_go (ws := [t, pl]) g1 tw _ _ x1
          have erab := hid_go (ws := [t, pl]) g1 tw _ _ era1
          have hxsb := DqAll.up (hid_go (ws := [t, pl]) g1 tw) _ _ hxs1
          have eb1h : hid Hb [t, pl] p2 = some (.lst ys1) := hid_at (hid_out wa np1) eb1
          have n2 := ya.new np1
          refine ⟨_, rfl, _, rfl, _, rfl, pl, vs, 2, .ref ra, rfl, rfl, SqL.of pb.top, at2, ?_⟩
          refine ⟨_, rfl, t, ra, kd, [t, pl], 600, rd, xs, rfl, pb.g.t1, yb, tw, wb, erab, hxsb, hkd, by decide, by omega, hrl.each, fun p3 Hc ds2 ys2 e2 n2' g2 np2 ec1 hq2 hn2 heq2 hf2 => ?_⟩
          have rl2 := heq2 ▸ hrl.bent (n := n2') hf2
          have len2 : ds2.length ≤ 41 := by
            rw [heq2]
            simp only [List.length_append, List.length_take, List.length_drop, List.length_cons, List.length_nil]
            omega
          have pc := pb.go g2
          have wc := pc.live
          have yc := hY3.go pc.g
          have ec1h : hid Hc [t, pl] p3 = some (.lst ys2) := hid_at (hid_out wb np2) ec1
          refine ⟨_, rfl, t, p3, kd, [t, pl], 3005, ds2, ys2, rfl, pc.g.t1, yc, tw, wc, ec1h, hq2, hkd, by decide, by omega, rl2.each, fun p4 Hd ds3 ys3 e3 n3 g3 np3 ed1 hq3 hn3 heq3 hf3 => ?_⟩
          have rl3 := heq3 ▸ rl2.bent (n := n3) hf3
          have len3 : ds3.length ≤ 42 := by
            rw [heq3]
            simp only [List.length_append, List.length_take, List.length_drop, List.length_cons, List.length_nil]
            omega
          have pd := pc.go g3
          have wd := pd.live
          have yd := hY3.go pd.g
          have g23 := g2.trans g3
          have x1d := hid_go (ws := [t, pl]) g23 tw _ _ x1b
          have erad := hid_go (ws := [t, pl]) g23 tw _ _ erab
          have hxsd := DqAll.up (hid_go (ws := [t, pl]) g23 tw) _ _ hxsb
          have eb1d := hid_go (ws := [t, pl]) g23 tw _ _ eb1h
          have hq1d := DqAll.up (hid_go (ws := [t, pl]) g23 tw) _ _ hq1
          have ed1h : hid Hd [t, pl] p4 = some (.lst ys3) := hid_at (hid_out wc np3) ed1
          have n4 := yc.new np3
          intro vd He sde hvd
          have hvd : Dq (hid He [t, pl]) (.dict []) vd := Dq.up (fun b o e => by
            unfold newH at e
            cases hb : Hd b with
            | some o2 => rw [hb] at e; cases e
            | none =>
              rw [hb] at e
              exact hid_at (hid_out wd hb) e) _ _ hvd
          have pe := pd.up sde
          have we := pe.live
          have ye := hY3.go pe.g
          refine ⟨(by show 7 ≤ sizeLine; decide), fun L hL => ?_⟩
          have sL := same_upd (o := .lst [.ref ra, .ref p1, .ref p2, .ref p4, .non, vd, .str "a"]) hL
          have xL : hid (upd He L (.lst [.ref ra, .ref p1, .ref p2, .ref p4, .non, vd, .str "a"])) [t, pl] L = some (.lst [.ref ra, .ref p1, .ref p2, .ref p4, .non, vd, .str "a"]) := hid_at (hid_out we hL) upd_same
          have yL := ye.new hL
          generalize upd He L (.lst [.ref ra, .ref p1, .ref p2, .ref p4, .non, vd, .str "a"]) = Hf at sL xL
          have sdf := sde.trans sL
          have pf := pd.up sdf
          have up := hid_up (ws := [t, pl]) sdf
          have n3 := yc.new np3
          have hL2 : Dq (hid Hf [t, pl]) (.list [.list rd, .tuple rd, .list ds1, .list ds3, .none, .dict [], .str "a"]) (.ref L) := by
            have h0 : DqAll (hid Hf [t, pl]) [.list rd, .tuple rd, .list ds1, .list ds3, .none, .dict [], .str "a"] [.ref ra, .ref p1, .ref p2, .ref p4, .non, vd, .str "a"] := by
              refine .cons ?_ (.cons ?_ (.cons ?_ (.cons ?_ (.cons (by simp only [Dq]) (.cons (Dq.up (hid_up sL) _ _ hvd) (.cons (by simp only [Dq]) .nil))))))
              · simp only [Dq]
                exact ⟨ra, xs, rfl, nra, up _ _ erad, DqAll.up up _ _ hxsd⟩
              · simp only [Dq]
                exact ⟨p1, xs, rfl, up _ _ x1d, DqAll.up up _ _ hxsd⟩
              · simp only [Dq]
                exact ⟨p2, ys1, rfl, n2, up _ _ eb1d, DqAll.up up _ _ hq1d⟩
              · simp only [Dq]
                exact ⟨p4, ys3, rfl, n3, up _ _ ed1h, DqAll.up up _ _ hq3⟩
            simp only [Dq]
            exact ⟨L, _, rfl, yL, xL, h0⟩
          dsimp only [tNil, List.append_nil]
          refine one_dat (E := E0) pf.g.t1 tw hL2 (by simp) (by simp) fun x d m e he d0 m0 m1 hx => ?_
          have pg := (pf.tape d0 m0 m1).set (n := 2) hx
          have hPR : PR e := by
            simp only [List.mem_cons, List.mem_nil_iff, or_false] at he
            rcases he with rfl | rfl | rfl | rfl | rfl | rfl | rfl
            · exact (hrl.pr (by decide) (by omega)).1
            · exact (hrl.pr (by decide) (by omega)).2
            · exact (rl1.pr (by decide) (by omega)).1
            · exact (rl3.pr (by decide) (by omega)).1
            · exact pr_other.1
            · exact pr_other.2.1
            · exact pr_other.2.2
          refine ⟨_, rfl, pl, vs, 2, 2, rfl, rfl, (pf.tape d0 m0 m1).top, (show ixN vs.length ((2 : Nat) : Int) = some 2 from ixN_nat (by rw [(pf.tape d0 m0 m1).all.len]; simp)), ?_⟩
          exact fin _ _ ⟨⟨e, _, hPR, pg⟩, rfl⟩
      · rintro σ H3 ⟨⟨hY3, hS3, hT3⟩, o1, o3, o4, o5, o6, o7, rfl⟩
        exact ⟨⟨hY3, hS3⟩, _, _, _, _, _, _, _, rfl⟩
    · rintro σ H1 ⟨⟨hY1, hS1⟩, o1, o2, o3, o4, o5, o6, o7, rfl⟩
      dsimp only
      dsimp only [tRet, tOp, tCall]
      refine dts_go (K := K) (ws := []) (Γ := []) ⟨(fun w hw => by cases hw), hY1, trivial⟩ (DTs.cons (DT.lst (DTs.cons (DT.lst (DTs.cons DT.str DTs.nil)) (DTs.cons (DT.lst DTs.nil) (DTs.cons (DT.lst DTs.nil) (DTs.cons DT.str (DTs.cons DT.int DTs.nil)))))) DTs.nil) fun v H2 s2 hv => ?_
      simp only [DqAll, Dq] at hv
      obtain ⟨p, _, rfl, ⟨pa, xs, rfl, npa, epa, v1, _, rfl, ⟨q1, y1, rfl, nq1, eq1, w1, _, rfl, rfl, rfl⟩, v2, _, rfl, ⟨q2, y2, rfl, nq2, eq2, rfl⟩, v3, _, rfl, ⟨q3, y3, rfl, nq3, eq3, rfl⟩, v4, _, rfl, rfl, v5, _, rfl, rfl, rfl⟩, rfl⟩ := hv
      have l0 : SeqLe (.list []) := (pk_list (ds := []) (fun c hc => by cases hc) (by simp)).h.le
      have l1 : SeqLe (.list [.str "h"]) := (pk_list (ds := [.str "h"]) (fun c hc => by rw [List.mem_singleton.mp hc]; exact CF.name (by decide +kernel) (by decide)) (by simp)).h.le
      refine ⟨pa, .ref q1, .ref q2, .ref q3, .str "h", .int 0, .list [.str "h"], .list [], .list [], .str "h", .int 0, rfl, hid_same _ _ epa, ?_, ?_, ?_, by simp only [Dq], by simp only [Dq], l1, l0, (fun ds e => by cases e; exact ⟨by decide, fun c hc => by cases hc⟩), hY1.up s2, fun r H3 s3 hr => ?_⟩
      · simp only [Dq, DqAll]
        exact ⟨q1, _, rfl, nq1, hid_same _ _ eq1, _, _, rfl, rfl, rfl⟩
      · simp only [Dq, DqAll]
        exact ⟨q2, _, rfl, nq2, hid_same _ _ eq2, rfl⟩
      · simp only [Dq, DqAll]
        exact ⟨q3, _, rfl, nq3, hid_same _ _ eq3, rfl⟩
      rw [due_last] at hr
      have hr : Dq H3 (.list []) (.ref r) := hr
      simp only [Dq, DqAll] at hr
      obtain ⟨b, _, e, nb, eb, rfl⟩ := hr
      cases e
      exact ⟨Nat.zero_le _, fun l hl => ⟨r, l, [], rfl, rfl, SqL.of (same_upd hl _ _ eb), SqL.of upd_same, hQ _⟩⟩
end
end Dw
namespace Ek
open PySem PySem.Spec PyProof.Rows L2 He Fh LamX
section
variable {P : Program} {w : World} {K : PySem.W.Frag} {mg : Str → Option Value} {h base : Heap}
structure Says (h : Heap) (K : PySem.W.Frag) : Prop where
  s : SaysS Hd.fa Hd.fn (fun K => Hd.ex K && Hd.fz.all fun d => d.ok K) h K
  z : (Hd.fz.map fun d => d.seen K) = Hd.fz.map DefA.val
theorem ex_all (c : Says h K) : Hd.ex K = true := (ba c.s.e).1
theorem sd (c : Says h K) : SaysD Hd.fa Hd.fn K := c.s.d
theorem sz (c : Says h K) : (Hd.fz.map fun d => d.seen K) = Hd.fz.map DefA.val := c.z
theorem szok (c : Says h K) : (Hd.fz.all fun d => d.ok K) = true := (ba c.s.e).2
theorem exq0 (c : Says h K) : (Hd.props.all fun m => propB K m.1 m.2) = true := (ba (ex_all c)).1
theorem exq1 (c : Says h K) : (Hd.excs.all fun x => exB K (ga K x)) = true := (ba (ex_all c)).2
theorem ex_prop (c : Says h K) {q : Str × Str} (hm : q ∈ Hd.props) : propB K q.1 q.2 = true := List.all_eq_true.mp (exq0 c) q hm
theorem ex_exc (c : Says h K) {x : Str} (hx : x ∈ Hd.excs) : exB K (ga K x) = true := List.all_eq_true.mp (exq1 c) x hx
theorem cl_BadKinds (X : K.In h) (G : h.Ns mainGlobals mg) (c : Says h K) : Cl P w K mg base "BadKinds" "value" := by
  obtain ⟨fd, F⟩ := (sd c).def_ 27 (d := Hd.dfM "BadKinds" "__init__" "BadKinds.__init__" (inClass (Hd.top 3) 0)) rfl
  have F1 : FunD K "__init__" "BadKinds.__init__" (defArgs (inClass (Hd.top 3) 0)) (defBody (inClass (Hd.top 3) 0)) (defScope (inClass (Hd.top 3) 0)) [] [] (ma K (ga K "BadKinds") "__init__") fd := F
  exact cl_mk F1 ⟨rfl, rfl, rfl, by decide +kernel, rfl, by decide +kernel, by decide +kernel⟩ rfl (by decide +kernel) (by decide +kernel) (ex_exc c (x := "BadKinds") (by decide +kernel)) ((sd c).fact 60 (f := .noat "BadKinds" "value") rfl) (He.glo_ok X G ((sd c).fact 24 (f := .glo "BadKinds") rfl)) (fun _ _ _ _ _ _ _ _ => rfl) (fun _ _ _ _ _ _ _ _ => rfl)
theorem cl_BadHandles (X : K.In h) (G : h.Ns mainGlobals mg) (c : Says h K) : Cl P w K mg base "BadHandles" "value" := by
  obtain ⟨fd, F⟩ := (sd c).def_ 28 (d := Hd.dfM "BadHandles" "__init__" "BadHandles.__init__" (inClass (Hd.top 4) 0)) rfl
  have F1 : FunD K "__init__" "BadHandles.__init__" (defArgs (inClass (Hd.top 4) 0)) (defBody (inClass (Hd.top 4) 0)) (defScope (inClass (Hd.top 4) 0)) [] [] (ma K (ga K "BadHandles") "__init__") fd := F
  exact cl_mk F1 ⟨rfl, rfl, rfl, by decide +kernel, rfl, by decide +kernel, by decide +kernel⟩ rfl (by decide +kernel) (by decide +kernel) (ex_exc c (x := "BadHandles") (by decide +kernel)) ((sd c).fact 61 (f := .noat "BadHandles" "value") rfl) (He.glo_ok X G ((sd c).fact 25 (f := .glo "BadHandles") rfl)) (fun _ _ _ _ _ _ _ _ => rfl) (fun _ _ _ _ _ _ _ _ => rfl)
theorem cl_BadRules (X : K.In h) (G : h.Ns mainGlobals mg) (c : Says h K) : Cl P w K mg base "BadRules" "value" := by
  obtain ⟨fd, F⟩ := (sd c).def_ 29 (d := Hd.dfM "BadRules" "__init__" "BadRules.__init__" (inClass (Hd.top 5) 0)) rfl
  have F1 : FunD K "__init__" "BadRules.__init__" (defArgs (inClass (Hd.top 5) 0)) (defBody (inClass (Hd.top 5) 0)) (defScope (inClass (Hd.top 5) 0)) [] [] (ma K (ga K "BadRules") "__init__") fd := F
  exact cl_mk F1 ⟨rfl, rfl, rfl, by decide +kernel, rfl, by decide +kernel, by decide +kernel⟩ rfl (by decide +kernel) (by decide +kernel) (ex_exc c (x := "BadRules") (by decide +kernel)) ((sd c).fact 62 (f := .noat "BadRules" "value") rfl) (He.glo_ok X G ((sd c).fact 26 (f := .glo "BadRules") rfl)) (fun _ _ _ _ _ _ _ _ => rfl) (fun _ _ _ _ _ _ _ _ => rfl)
theorem cl_BadRule (X : K.In h) (G : h.Ns mainGlobals mg) (c : Says h K) : Cl P w K mg base "BadRule" "number" := by
  obtain ⟨fd, F⟩ := (sd c).def_ 30 (d := Hd.dfM "BadRule" "__init__" "BadRule.__init__" (inClass (Hd.top 6) 0)) rfl
  have F1 : FunD K "__init__" "BadRule.__init__" (defArgs (inClass (Hd.top 6) 0)) (defBody (inClass (Hd.top 6) 0)) (defScope (inClass (Hd.top 6) 0)) [] [] (ma K (ga K "BadRule") "__init__") fd := F
  exact cl_mk F1 ⟨rfl, rfl, rfl, by decide +kernel, rfl, by decide +kernel, by decide +kernel⟩ rfl (by decide +kernel) (by decide +kernel) (ex_exc c (x := "BadRule") (by decide +kernel)) ((sd c).fact 63 (f := .noat "BadRule" "number") rfl) (He.glo_ok X G ((sd c).fact 27 (f := .glo "BadRule") rfl)) (fun _ _ _ _ _ _ _ _ => rfl) (fun _ _ _ _ _ _ _ _ => rfl)
theorem cl_NamedTwice (X : K.In h) (G : h.Ns mainGlobals mg) (c : Says h K) : Cl P w K mg base "NamedTwice" "name" := by
  obtain ⟨fd, F⟩ := (sd c).def_ 31 (d := Hd.dfM "NamedTwice" "__init__" "NamedTwice.__init__" (inClass (Hd.top 7) 0)) rfl
  have F1 : FunD K "__init__" "NamedTwice.__init__" (defArgs (inClass (Hd.top 7) 0)) (defBody (inClass (Hd.top 7) 0)) (defScope (inClass (Hd.top 7) 0)) [] [] (ma K (ga K "NamedTwice") "__init__") fd := F
  exact cl_mk F1 ⟨rfl, rfl, rfl, by decide +kernel, rfl, by decide +kernel, by decide +kernel⟩ rfl (by decide +kernel) (by decide +kernel) (ex_exc c (x := "NamedTwice") (by decide +kernel)) ((sd c).fact 64 (f := .noat "NamedTwice" "name") rfl) (He.glo_ok X G ((sd c).fact 28 (f := .glo "NamedTwice") rfl)) (fun _ _ _ _ _ _ _ _ => rfl) (fun _ _ _ _ _ _ _ _ => rfl)
theorem cl_BadStart (X : K.In h) (G : h.Ns mainGlobals mg) (c : Says h K) : Cl P w K mg base "BadStart" "value" := by
  obtain ⟨fd, F⟩ := (sd c).def_ 32 (d := Hd.dfM "BadStart" "__init__" "BadStart.__init__" (inClass (Hd.top 8) 0)) rfl
  have F1 : FunD K "__init__" "BadStart.__init__" (defArgs (inClass (Hd.top 8) 0)) (defBody (inClass (Hd.top 8) 0)) (defScope (inClass (Hd.top 8) 0)) [] [] (ma K (ga K "BadStart") "__init__") fd := F
  exact cl_mk F1 ⟨rfl, rfl, rfl, by decide +kernel, rfl, by decide +kernel, by decide +kernel⟩ rfl (by decide +kernel) (by decide +kernel) (ex_exc c (x := "BadStart") (by decide +kernel)) ((sd c).fact 65 (f := .noat "BadStart" "value") rfl) (He.glo_ok X G ((sd c).fact 29 (f := .glo "BadStart") rfl)) (fun _ _ _ _ _ _ _ _ => rfl) (fun _ _ _ _ _ _ _ _ => rfl)
theorem cl_BadCount (X : K.In h) (G : h.Ns mainGlobals mg) (c : Says h K) : Cl P w K mg base "BadCount" "value" := by
  obtain ⟨fd, F⟩ := (sd c).def_ 33 (d := Hd.dfM "BadCount" "__init__" "BadCount.__init__" (inClass (Hd.top 9) 0)) rfl
  have F1 : FunD K "__init__" "BadCount.__init__" (defArgs (inClass (Hd.top 9) 0)) (defBody (inClass (Hd.top 9) 0)) (defScope (inClass (Hd.top 9) 0)) [] [] (ma K (ga K "BadCount") "__init__") fd := F
  exact cl_mk F1 ⟨rfl, rfl, rfl, by decide +kernel, rfl, by decide +kernel, by decide +kernel⟩ rfl (by decide +kernel) (by decide +kernel) (ex_exc c (x := "BadCount") (by decide +kernel)) ((sd c).fact 66 (f := .noat "BadCount" "value") rfl) (He.glo_ok X G ((sd c).fact 30 (f := .glo "BadCount") rfl)) (fun _ _ _ _ _ _ _ _ => rfl) (fun _ _ _ _ _ _ _ _ => rfl)
theorem bookC (c : Says h K) : BookC K (ga K "Book") := ⟨He.cls_ok ((sd c).fact 53 (f := .cls "Book") rfl), eqO_ok ((sd c).fact 55 (f := .noat "Book" "_kinds") rfl), eqO_ok ((sd c).fact 56 (f := .noat "Book" "_handles") rfl), eqO_ok ((sd c).fact 57 (f := .noat "Book" "_rules") rfl), eqO_ok ((sd c).fact 58 (f := .noat "Book" "_start") rfl), eqO_ok ((sd c).fact 59 (f := .noat "Book" "_amount") rfl)⟩
theorem mkBook (c : Says h K) : Mk K (ga K "Book") (ma K (ga K "Book") "__init__") := He.mkr_ok ((sd c).fact 54 (f := .mkr "Book") rfl)
theorem facts (X : K.In h) (G : h.Ns mainGlobals mg) {f : Addr} (hfa : mg ("law" : Str) = some (.ref f)) (c : Says h K) :
    ∃ fd : FuncData, (∀ (s : Shared) (u : Value), BindsTo s fd ⟨[u], []⟩ [("script", u)]) ∧ ∀ base : Heap, K.In base → base.Ns mainGlobals mg → FnG P w K mg base CX0 7 f fd ["script"] (spLawS K) := by
  obtain ⟨d_is_name, F0_is_name⟩ := (sd c).def_ 1 (d := Hd.dfD "is_name" (Hd.top 13)) rfl
  have F_is_name : Dw.FnP K "is_name" Dw.sName (fAd K ("is_name", none)) d_is_name := F0_is_name
  have m_is_name : mg "is_name" = some (.ref (fAd K ("is_name", none))) := He.glo_ok X G ((sd c).fact 1 (f := .glo "is_name") rfl)
  have b_is_name : Binds K d_is_name ["value"] [] := FunD.bindsN F_is_name fun _ _ _ _ _ _ us hl => match us, hl with | [_], _ => rfl
  obtain ⟨d_is_integer, F0_is_integer⟩ := (sd c).def_ 2 (d := Hd.dfD "is_integer" (Hd.top 14)) rfl
  have F_is_integer : Dw.FnP K "is_integer" Dw.sInt (fAd K ("is_integer", none)) d_is_integer := F0_is_integer
  have m_is_integer : mg "is_integer" = some (.ref (fAd K ("is_integer", none))) := He.glo_ok X G ((sd c).fact 2 (f := .glo "is_integer") rfl)
  have b_is_integer : Binds K d_is_integer ["value"] [] := FunD.bindsN F_is_integer fun _ _ _ _ _ _ us hl => match us, hl with | [_], _ => rfl
  obtain ⟨d_is_among, F0_is_among⟩ := (sd c).def_ 3 (d := Hd.dfD "is_among" (Hd.top 15)) rfl
  have F_is_among : Dw.FnP K "is_among" Dw.sAmong (fAd K ("is_among", none)) d_is_among := F0_is_among
  have m_is_among : mg "is_among" = some (.ref (fAd K ("is_among", none))) := He.glo_ok X G ((sd c).fact 3 (f := .glo "is_among") rfl)
  have b_is_among : Binds K d_is_among ["value", "names"] [] := FunD.bindsN F_is_among fun _ _ _ _ _ _ us hl => match us, hl with | [_, _], _ => rfl
  obtain ⟨d_are_kinds, F0_are_kinds⟩ := (sd c).def_ 4 (d := Hd.dfD "are_kinds" (Hd.top 16)) rfl
  have F_are_kinds : Dw.FnP K "are_kinds" Dw.sKinds (fAd K ("are_kinds", none)) d_are_kinds := F0_are_kinds
  have m_are_kinds : mg "are_kinds" = some (.ref (fAd K ("are_kinds", none))) := He.glo_ok X G ((sd c).fact 4 (f := .glo "are_kinds") rfl)
  have b_are_kinds : Binds K d_are_kinds ["value"] [] := FunD.bindsN F_are_kinds fun _ _ _ _ _ _ us hl => match us, hl with | [_], _ => rfl
  obtain ⟨d_are_handles, F0_are_handles⟩ := (sd c).def_ 5 (d := Hd.dfD "are_handles" (Hd.top 17)) rfl
  have F_are_handles : Dw.FnP K "are_handles" Dw.sHandles (fAd K ("are_handles", none)) d_are_handles := F0_are_handles
  have m_are_handles : mg "are_handles" = some (.ref (fAd K ("are_handles", none))) := He.glo_ok X G ((sd c).fact 5 (f := .glo "are_handles") rfl)
  have b_are_handles : Binds K d_are_handles ["value", "kinds"] [] := FunD.bindsN F_are_handles fun _ _ _ _ _ _ us hl => match us, hl with | [_, _], _ => rfl
  obtain ⟨d_is_rule, F0_is_rule⟩ := (sd c).def_ 6 (d := Hd.dfD "is_rule" (Hd.top 18)) rfl
  have F_is_rule : Dw.FnP K "is_rule" Dw.sRule (fAd K ("is_rule", none)) d_is_rule := F0_is_rule
  have m_is_rule : mg "is_rule" = some (.ref (fAd K ("is_rule", none))) := He.glo_ok X G ((sd c).fact 6 (f := .glo "is_rule") rfl)
  have b_is_rule : Binds K d_is_rule ["value", "kinds"] [] := FunD.bindsN F_is_rule fun _ _ _ _ _ _ us hl => match us, hl with | [_, _], _ => rfl
  obtain ⟨d_checked_rules, F0_checked_rules⟩ := (sd c).def_ 7 (d := Hd.dfD "checked_rules" (Hd.top 19)) rfl
  have F_checked_rules : Dw.FnP K "checked_rules" Dw.sGood (fAd K ("checked_rules", none)) d_checked_rules := F0_checked_rules
  have m_checked_rules : mg "checked_rules" = some (.ref (fAd K ("checked_rules", none))) := He.glo_ok X G ((sd c).fact 7 (f := .glo "checked_rules") rfl)
  have b_checked_rules : Binds K d_checked_rules ["value", "kinds"] [] := FunD.bindsN F_checked_rules fun _ _ _ _ _ _ us hl => match us, hl with | [_, _], _ => rfl
  obtain ⟨d_l_tape, F0_l_tape⟩ := (sd c).def_ 8 (d := Hd.dfD "_law_tape" (Hd.top 22)) rfl
  have F_l_tape : Dw.FnP K "_law_tape" Dw.sTape (fAd K ("_law_tape", none)) d_l_tape := F0_l_tape
  have m_l_tape : mg "_law_tape" = some (.ref (fAd K ("_law_tape", none))) := He.glo_ok X G ((sd c).fact 8 (f := .glo "_law_tape") rfl)
  have b_l_tape : Binds K d_l_tape ["script", "first"] [] := FunD.bindsN F_l_tape fun _ _ _ _ _ _ us hl => match us, hl with | [_, _], _ => rfl
  obtain ⟨d_l_pick, F0_l_pick⟩ := (sd c).def_ 9 (d := Hd.dfD "_law_pick" (Hd.top 23)) rfl
  have F_l_pick : Dw.FnP K "_law_pick" Dw.sPick (fAd K ("_law_pick", none)) d_l_pick := F0_l_pick
  have m_l_pick : mg "_law_pick" = some (.ref (fAd K ("_law_pick", none))) := He.glo_ok X G ((sd c).fact 9 (f := .glo "_law_pick") rfl)
  have b_l_pick : Binds K d_l_pick ["tape", "many"] [] := FunD.bindsN F_l_pick fun _ _ _ _ _ _ us hl => match us, hl with | [_, _], _ => rfl
  obtain ⟨d_l_one_of, F0_l_one_of⟩ := (sd c).def_ 10 (d := Hd.dfD "_law_one_of" (Hd.top 24)) rfl
  have F_l_one_of : Dw.FnP K "_law_one_of" Dw.sOne (fAd K ("_law_one_of", none)) d_l_one_of := F0_l_one_of
  have m_l_one_of : mg "_law_one_of" = some (.ref (fAd K ("_law_one_of", none))) := He.glo_ok X G ((sd c).fact 10 (f := .glo "_law_one_of") rfl)
  have b_l_one_of : Binds K d_l_one_of ["tape", "things"] [] := FunD.bindsN F_l_one_of fun _ _ _ _ _ _ us hl => match us, hl with | [_, _], _ => rfl
  obtain ⟨d_l_shuffled, F0_l_shuffled⟩ := (sd c).def_ 11 (d := Hd.dfD "_law_shuffled" (Hd.top 25)) rfl
  have F_l_shuffled : Dw.FnP K "_law_shuffled" Dw.sShuf (fAd K ("_law_shuffled", none)) d_l_shuffled := F0_l_shuffled
  have m_l_shuffled : mg "_law_shuffled" = some (.ref (fAd K ("_law_shuffled", none))) := He.glo_ok X G ((sd c).fact 11 (f := .glo "_law_shuffled") rfl)
  have b_l_shuffled : Binds K d_l_shuffled ["tape", "things"] [] := FunD.bindsN F_l_shuffled fun _ _ _ _ _ _ us hl => match us, hl with | [_, _], _ => rfl
  obtain ⟨d_l_alive, F0_l_alive⟩ := (sd c).def_ 13 (d := Hd.dfD "_law_alive" (Hd.top 27)) rfl
  have F_l_alive : Dw.FnP K "_law_alive" Dw.sAlive (fAd K ("_law_alive", none)) d_l_alive := F0_l_alive
  have m_l_alive : mg "_law_alive" = some (.ref (fAd K ("_law_alive", none))) := He.glo_ok X G ((sd c).fact 13 (f := .glo "_law_alive") rfl)
  have b_l_alive : Binds K d_l_alive ["plan"] [] := FunD.bindsN F_l_alive fun _ _ _ _ _ _ us hl => match us, hl with | [_], _ => rfl
  obtain ⟨d_l_drawn_rules, F0_l_drawn_rules⟩ := (sd c).def_ 14 (d := Hd.dfD "_law_drawn_rules" (Hd.top 28)) rfl
  have F_l_drawn_rules : Dw.FnP K "_law_drawn_rules" Dw.sRules (fAd K ("_law_drawn_rules", none)) d_l_drawn_rules := F0_l_drawn_rules
  have m_l_drawn_rules : mg "_law_drawn_rules" = some (.ref (fAd K ("_law_drawn_rules", none))) := He.glo_ok X G ((sd c).fact 14 (f := .glo "_law_drawn_rules") rfl)
  have b_l_drawn_rules : Binds K d_l_drawn_rules ["tape", "kinds", "worth", "ways"] [] := FunD.bindsN F_l_drawn_rules fun _ _ _ _ _ _ us hl => match us, hl with | [_, _, _, _], _ => rfl
  obtain ⟨d_l_drawn_plan, F0_l_drawn_plan⟩ := (sd c).def_ 15 (d := Hd.dfD "_law_drawn_plan" (Hd.top 29)) rfl
  have F_l_drawn_plan : Dw.FnP K "_law_drawn_plan" Dw.sPlan (fAd K ("_law_drawn_plan", none)) d_l_drawn_plan := F0_l_drawn_plan
  have m_l_drawn_plan : mg "_law_drawn_plan" = some (.ref (fAd K ("_law_drawn_plan", none))) := He.glo_ok X G ((sd c).fact 15 (f := .glo "_law_drawn_plan") rfl)
  have b_l_drawn_plan : Binds K d_l_drawn_plan ["tape", "most"] [] := FunD.bindsN F_l_drawn_plan fun _ _ _ _ _ _ us hl => match us, hl with | [_, _], _ => rfl
  obtain ⟨d_l_is_word, F0_l_is_word⟩ := (sd c).def_ 18 (d := Hd.dfD "_law_is_word" (Hd.top 32)) rfl
  have F_l_is_word : Dw.FnP K "_law_is_word" Dw.sLWord (fAd K ("_law_is_word", none)) d_l_is_word := F0_l_is_word
  have m_l_is_word : mg "_law_is_word" = some (.ref (fAd K ("_law_is_word", none))) := He.glo_ok X G ((sd c).fact 18 (f := .glo "_law_is_word") rfl)
  have b_l_is_word : Binds K d_l_is_word ["thing"] [] := FunD.bindsN F_l_is_word fun _ _ _ _ _ _ us hl => match us, hl with | [_], _ => rfl
  obtain ⟨d_l_is_number, F0_l_is_number⟩ := (sd c).def_ 16 (d := Hd.dfD "_law_is_number" (Hd.top 30)) rfl
  have F_l_is_number : Dw.FnP K "_law_is_number" Dw.sLNum (fAd K ("_law_is_number", none)) d_l_is_number := F0_l_is_number
  have m_l_is_number : mg "_law_is_number" = some (.ref (fAd K ("_law_is_number", none))) := He.glo_ok X G ((sd c).fact 16 (f := .glo "_law_is_number") rfl)
  have b_l_is_number : Binds K d_l_is_number ["thing"] [] := FunD.bindsN F_l_is_number fun _ _ _ _ _ _ us hl => match us, hl with | [_], _ => rfl
  obtain ⟨d_l_unlike, F0_l_unlike⟩ := (sd c).def_ 12 (d := Hd.dfD "_law_unlike" (Hd.top 26)) rfl
  have F_l_unlike : Dw.FnP K "_law_unlike" Dw.sLUnl (fAd K ("_law_unlike", none)) d_l_unlike := F0_l_unlike
  have m_l_unlike : mg "_law_unlike" = some (.ref (fAd K ("_law_unlike", none))) := He.glo_ok X G ((sd c).fact 12 (f := .glo "_law_unlike") rfl)
  have b_l_unlike : Binds K d_l_unlike ["things"] [] := FunD.bindsN F_l_unlike fun _ _ _ _ _ _ us hl => match us, hl with | [_], _ => rfl
  obtain ⟨d_l_are_unlike, F0_l_are_unlike⟩ := (sd c).def_ 19 (d := Hd.dfD "_law_are_unlike" (Hd.top 33)) rfl
  have F_l_are_unlike : Dw.FnP K "_law_are_unlike" Dw.sLAreU (fAd K ("_law_are_unlike", none)) d_l_are_unlike := F0_l_are_unlike
  have m_l_are_unlike : mg "_law_are_unlike" = some (.ref (fAd K ("_law_are_unlike", none))) := He.glo_ok X G ((sd c).fact 19 (f := .glo "_law_are_unlike") rfl)
  have b_l_are_unlike : Binds K d_l_are_unlike ["thing"] [] := FunD.bindsN F_l_are_unlike fun _ _ _ _ _ _ us hl => match us, hl with | [_], _ => rfl
  obtain ⟨d_l_is_rule, F0_l_is_rule⟩ := (sd c).def_ 20 (d := Hd.dfD "_law_is_rule" (Hd.top 34)) rfl
  have F_l_is_rule : Dw.FnP K "_law_is_rule" Dw.sLRule (fAd K ("_law_is_rule", none)) d_l_is_rule := F0_l_is_rule
  have m_l_is_rule : mg "_law_is_rule" = some (.ref (fAd K ("_law_is_rule", none))) := He.glo_ok X G ((sd c).fact 20 (f := .glo "_law_is_rule") rfl)
  have b_l_is_rule : Binds K d_l_is_rule ["kinds", "thing"] [] := FunD.bindsN F_l_is_rule fun _ _ _ _ _ _ us hl => match us, hl with | [_, _], _ => rfl
  obtain ⟨d_l_due, F0_l_due⟩ := (sd c).def_ 21 (d := Hd.dfD "_law_due" (Hd.top 35)) rfl
  have F_l_due : Dw.FnP K "_law_due" Dw.sLDue (fAd K ("_law_due", none)) d_l_due := F0_l_due
  have m_l_due : mg "_law_due" = some (.ref (fAd K ("_law_due", none))) := He.glo_ok X G ((sd c).fact 21 (f := .glo "_law_due") rfl)
  have b_l_due : Binds K d_l_due ["parts"] [] := FunD.bindsN F_l_due fun _ _ _ _ _ _ us hl => match us, hl with | [_], _ => rfl
  obtain ⟨d_l_refused, F0_l_refused⟩ := (sd c).def_ 17 (d := Hd.dfD "_law_refused" (Hd.top 31)) rfl
  have F_l_refused : Dw.FnP K "_law_refused" Dw.sRefB (fAd K ("_law_refused", none)) d_l_refused := F0_l_refused
  have m_l_refused : mg "_law_refused" = some (.ref (fAd K ("_law_refused", none))) := He.glo_ok X G ((sd c).fact 17 (f := .glo "_law_refused") rfl)
  have b_l_refused : Binds K d_l_refused ["parts"] [] := FunD.bindsN F_l_refused fun _ _ _ _ _ _ us hl => match us, hl with | [_], _ => rfl
  obtain ⟨d_l_bent_rules, F0_l_bent_rules⟩ := (sd c).def_ 22 (d := Hd.dfD "_law_bent_rules" (Hd.top 36)) rfl
  have F_l_bent_rules : Dw.FnP K "_law_bent_rules" Dw.sBent (fAd K ("_law_bent_rules", none)) d_l_bent_rules := F0_l_bent_rules
  have m_l_bent_rules : mg "_law_bent_rules" = some (.ref (fAd K ("_law_bent_rules", none))) := He.glo_ok X G ((sd c).fact 22 (f := .glo "_law_bent_rules") rfl)
  have b_l_bent_rules : Binds K d_l_bent_rules ["tape", "rules", "kind"] [] := FunD.bindsN F_l_bent_rules fun _ _ _ _ _ _ us hl => match us, hl with | [_, _, _], _ => rfl
  obtain ⟨d_law, F0_law⟩ := (sd c).def_ 23 (d := Hd.dfD "law" (Hd.top 37)) rfl
  have F_law : FunD K "law" "law" (defArgs Dw.sLaw) (defBody Dw.sLaw) (defScope Dw.sLaw) [] [] (fAd K ("law", none)) d_law := F0_law
  have m_law : mg "law" = some (.ref (fAd K ("law", none))) := He.glo_ok X G ((sd c).fact 23 (f := .glo "law") rfl)
  have mkBook_ := mkBook c
  obtain ⟨d_book, F0_book⟩ := (sd c).def_ 24 (d := Hd.dfM "Book" "__init__" "Book.__init__" (inClass (Hd.top 20) 0)) rfl
  have F_book : FunD K "__init__" "Book.__init__" (defArgs Dw.sBookI) (defBody Dw.sBookI) (defScope Dw.sBookI) [] [] (ma K (ga K "Book") "__init__") d_book := F0_book
  have b_book : Binds K d_book ["self", "kinds", "handles", "rules", "start", "count"] [] := FunD.bindsN F_book fun _ _ _ _ _ _ us hl => match us, hl with | [_, _, _, _, _, _], _ => rfl
  have m_Book : mg "Book" = some (.ref (ga K "Book")) := He.glo_ok X G ((sd c).fact 31 (f := .glo "Book") rfl)
  have g_ValueError := He.free_ok X G ((sd c).fact 32 (f := .free "ValueError") rfl)
  have g_all := He.free_ok X G ((sd c).fact 33 (f := .free "all") rfl)
  have g_bool := He.free_ok X G ((sd c).fact 34 (f := .free "bool") rfl)
  have g_dict := He.free_ok X G ((sd c).fact 35 (f := .free "dict") rfl)
  have g_enumerate := He.free_ok X G ((sd c).fact 36 (f := .free "enumerate") rfl)
  have g_int := He.free_ok X G ((sd c).fact 37 (f := .free "int") rfl)
  have g_isinstance := He.free_ok X G ((sd c).fact 38 (f := .free "isinstance") rfl)
  have g_len := He.free_ok X G ((sd c).fact 39 (f := .free "len") rfl)
  have g_list := He.free_ok X G ((sd c).fact 40 (f := .free "list") rfl)
  have g_max := He.free_ok X G ((sd c).fact 41 (f := .free "max") rfl)
  have g_min := He.free_ok X G ((sd c).fact 42 (f := .free "min") rfl)
  have g_property := He.free_ok X G ((sd c).fact 43 (f := .free "property") rfl)
  have g_range := He.free_ok X G ((sd c).fact 44 (f := .free "range") rfl)
  have g_repr := He.free_ok X G ((sd c).fact 45 (f := .free "repr") rfl)
  have g_set := He.free_ok X G ((sd c).fact 46 (f := .free "set") rfl)
  have g_sorted := He.free_ok X G ((sd c).fact 47 (f := .free "sorted") rfl)
  have g_str := He.free_ok X G ((sd c).fact 48 (f := .free "str") rfl)
  have g_sum := He.free_ok X G ((sd c).fact 49 (f := .free "sum") rfl)
  have g_tuple := He.free_ok X G ((sd c).fact 50 (f := .free "tuple") rfl)
  obtain ⟨t_LETTERS, m_LETTERS⟩ := He.str_ok X G ((sd c).fact 51 (f := .str "LETTERS" "abcdefghijklmnopqrstuvwxyz") rfl)
  obtain ⟨t_LONGEST_NAME, m_LONGEST_NAME⟩ := He.int_ok X G ((sd c).fact 52 (f := .int "LONGEST_NAME" 8) rfl)
  have same_BadKinds_BadKinds : PySem.W.exmOne K (.ref (ga K "BadKinds")) (.ref (ga K "BadKinds")) = some true := of_decide_eq_true ((sd c).fact 67 (f := .exm "BadKinds" "BadKinds" true) rfl)
  have same_BadHandles_BadKinds : PySem.W.exmOne K (.ref (ga K "BadHandles")) (.ref (ga K "BadKinds")) = some false := of_decide_eq_true ((sd c).fact 68 (f := .exm "BadHandles" "BadKinds" false) rfl)
  have same_BadHandles_BadHandles : PySem.W.exmOne K (.ref (ga K "BadHandles")) (.ref (ga K "BadHandles")) = some true := of_decide_eq_true ((sd c).fact 69 (f := .exm "BadHandles" "BadHandles" true) rfl)
  have same_BadRules_BadKinds : PySem.W.exmOne K (.ref (ga K "BadRules")) (.ref (ga K "BadKinds")) = some false := of_decide_eq_true ((sd c).fact 70 (f := .exm "BadRules" "BadKinds" false) rfl)
  have same_BadRules_BadHandles : PySem.W.exmOne K (.ref (ga K "BadRules")) (.ref (ga K "BadHandles")) = some false := of_decide_eq_true ((sd c).fact 71 (f := .exm "BadRules" "BadHandles" false) rfl)
  have same_BadRules_BadRules : PySem.W.exmOne K (.ref (ga K "BadRules")) (.ref (ga K "BadRules")) = some true := of_decide_eq_true ((sd c).fact 72 (f := .exm "BadRules" "BadRules" true) rfl)
  have same_BadRule_BadKinds : PySem.W.exmOne K (.ref (ga K "BadRule")) (.ref (ga K "BadKinds")) = some false := of_decide_eq_true ((sd c).fact 73 (f := .exm "BadRule" "BadKinds" false) rfl)
  have same_BadRule_BadHandles : PySem.W.exmOne K (.ref (ga K "BadRule")) (.ref (ga K "BadHandles")) = some false := of_decide_eq_true ((sd c).fact 74 (f := .exm "BadRule" "BadHandles" false) rfl)
  have same_BadRule_BadRules : PySem.W.exmOne K (.ref (ga K "BadRule")) (.ref (ga K "BadRules")) = some false := of_decide_eq_true ((sd c).fact 75 (f := .exm "BadRule" "BadRules" false) rfl)
  have same_BadRule_BadRule : PySem.W.exmOne K (.ref (ga K "BadRule")) (.ref (ga K "BadRule")) = some true := of_decide_eq_true ((sd c).fact 76 (f := .exm "BadRule" "BadRule" true) rfl)
  have same_NamedTwice_BadKinds : PySem.W.exmOne K (.ref (ga K "NamedTwice")) (.ref (ga K "BadKinds")) = some false := of_decide_eq_true ((sd c).fact 77 (f := .exm "NamedTwice" "BadKinds" false) rfl)
  have same_NamedTwice_BadHandles : PySem.W.exmOne K (.ref (ga K "NamedTwice")) (.ref (ga K "BadHandles")) = some false := of_decide_eq_true ((sd c).fact 78 (f := .exm "NamedTwice" "BadHandles" false) rfl)
  have same_NamedTwice_BadRules : PySem.W.exmOne K (.ref (ga K "NamedTwice")) (.ref (ga K "BadRules")) = some false := of_decide_eq_true ((sd c).fact 79 (f := .exm "NamedTwice" "BadRules" false) rfl)
  have same_NamedTwice_BadRule : PySem.W.exmOne K (.ref (ga K "NamedTwice")) (.ref (ga K "BadRule")) = some false := of_decide_eq_true ((sd c).fact 80 (f := .exm "NamedTwice" "BadRule" false) rfl)
  have same_NamedTwice_NamedTwice : PySem.W.exmOne K (.ref (ga K "NamedTwice")) (.ref (ga K "NamedTwice")) = some true := of_decide_eq_true ((sd c).fact 81 (f := .exm "NamedTwice" "NamedTwice" true) rfl)
  have same_BadStart_BadKinds : PySem.W.exmOne K (.ref (ga K "BadStart")) (.ref (ga K "BadKinds")) = some false := of_decide_eq_true ((sd c).fact 82 (f := .exm "BadStart" "BadKinds" false) rfl)
  have same_BadStart_BadHandles : PySem.W.exmOne K (.ref (ga K "BadStart")) (.ref (ga K "BadHandles")) = some false := of_decide_eq_true ((sd c).fact 83 (f := .exm "BadStart" "BadHandles" false) rfl)
  have same_BadStart_BadRules : PySem.W.exmOne K (.ref (ga K "BadStart")) (.ref (ga K "BadRules")) = some false := of_decide_eq_true ((sd c).fact 84 (f := .exm "BadStart" "BadRules" false) rfl)
  have same_BadStart_BadRule : PySem.W.exmOne K (.ref (ga K "BadStart")) (.ref (ga K "BadRule")) = some false := of_decide_eq_true ((sd c).fact 85 (f := .exm "BadStart" "BadRule" false) rfl)
  have same_BadStart_NamedTwice : PySem.W.exmOne K (.ref (ga K "BadStart")) (.ref (ga K "NamedTwice")) = some false := of_decide_eq_true ((sd c).fact 86 (f := .exm "BadStart" "NamedTwice" false) rfl)
  have same_BadStart_BadStart : PySem.W.exmOne K (.ref (ga K "BadStart")) (.ref (ga K "BadStart")) = some true := of_decide_eq_true ((sd c).fact 87 (f := .exm "BadStart" "BadStart" true) rfl)
  have same_BadCount_BadKinds : PySem.W.exmOne K (.ref (ga K "BadCount")) (.ref (ga K "BadKinds")) = some false := of_decide_eq_true ((sd c).fact 88 (f := .exm "BadCount" "BadKinds" false) rfl)
  have same_BadCount_BadHandles : PySem.W.exmOne K (.ref (ga K "BadCount")) (.ref (ga K "BadHandles")) = some false := of_decide_eq_true ((sd c).fact 89 (f := .exm "BadCount" "BadHandles" false) rfl)
  have same_BadCount_BadRules : PySem.W.exmOne K (.ref (ga K "BadCount")) (.ref (ga K "BadRules")) = some false := of_decide_eq_true ((sd c).fact 90 (f := .exm "BadCount" "BadRules" false) rfl)
  have same_BadCount_BadRule : PySem.W.exmOne K (.ref (ga K "BadCount")) (.ref (ga K "BadRule")) = some false := of_decide_eq_true ((sd c).fact 91 (f := .exm "BadCount" "BadRule" false) rfl)
  have same_BadCount_NamedTwice : PySem.W.exmOne K (.ref (ga K "BadCount")) (.ref (ga K "NamedTwice")) = some false := of_decide_eq_true ((sd c).fact 92 (f := .exm "BadCount" "NamedTwice" false) rfl)
  have same_BadCount_BadStart : PySem.W.exmOne K (.ref (ga K "BadCount")) (.ref (ga K "BadStart")) = some false := of_decide_eq_true ((sd c).fact 93 (f := .exm "BadCount" "BadStart" false) rfl)
  have same_BadCount_BadCount : PySem.W.exmOne K (.ref (ga K "BadCount")) (.ref (ga K "BadCount")) = some true := of_decide_eq_true ((sd c).fact 94 (f := .exm "BadCount" "BadCount" true) rfl)
  have e := hfa.symm.trans m_law
  cases e
  have b_law := FunD.bindsA (ps := ["script"]) F_law fun _ _ _ _ _ _ us hl => match us, hl with | [_], _ => rfl
  refine ⟨d_law, fun s v => b_law s [v] rfl, fun base _ _ => ?_⟩
  have B := bookC c

  have c_BadKinds : Cl P w K mg base "BadKinds" "value" := cl_BadKinds X G c
  have c_BadHandles : Cl P w K mg base "BadHandles" "value" := cl_BadHandles X G c
  have c_BadRules : Cl P w K mg base "BadRules" "value" := cl_BadRules X G c
  have c_BadRule : Cl P w K mg base "BadRule" "number" := cl_BadRule X G c
  have c_NamedTwice : Cl P w K mg base "NamedTwice" "name" := cl_NamedTwice X G c
  have c_BadStart : Cl P w K mg base "BadStart" "value" := cl_BadStart X G c
  have c_BadCount : Cl P w K mg base "BadCount" "value" := cl_BadCount X G c
  have o_is_name := Dw.ok_name (P := P) (w := w) (mg := mg) (base := base) F_is_name g_isinstance g_str g_len g_all m_LETTERS m_LONGEST_NAME
  have o_is_integer := Dw.ok_int (P := P) (w := w) (mg := mg) (base := base) F_is_integer g_isinstance g_int g_bool
  have o_is_among := Dw.ok_among (P := P) (w := w) (mg := mg) (base := base) F_is_among g_isinstance g_str
  have o_are_kinds := Dw.ok_kinds (P := P) (w := w) (mg := mg) (base := base) F_are_kinds g_isinstance g_list g_tuple g_len g_all g_set o_is_name m_is_name F_is_name.kp b_is_name
  have o_are_handles := Dw.ok_handles (P := P) (w := w) (mg := mg) (base := base) F_are_handles g_isinstance g_list g_tuple g_len g_all g_set o_is_among m_is_among F_is_among.kp b_is_among
  have o_is_rule := Dw.ok_rule (P := P) (w := w) (mg := mg) (base := base) F_is_rule g_isinstance g_tuple g_len g_all o_is_name m_is_name F_is_name.kp b_is_name o_is_integer m_is_integer F_is_integer.kp b_is_integer o_is_among m_is_among F_is_among.kp b_is_among
  have o_checked_rules := Dw.ok_goodR (P := P) (w := w) (mg := mg) (base := base) F_checked_rules c_BadRules c_BadRule c_NamedTwice g_isinstance g_tuple g_list g_enumerate o_is_rule m_is_rule F_is_rule.kp b_is_rule
  have oBook := Dw.ok_bookR (P := P) (w := w) (mg := mg) (base := base) F_book B c_BadKinds c_BadHandles c_BadStart c_BadCount o_are_kinds m_are_kinds F_are_kinds.kp b_are_kinds o_are_handles m_are_handles F_are_handles.kp b_are_handles o_checked_rules m_checked_rules F_checked_rules.kp b_checked_rules o_is_among m_is_among F_is_among.kp b_is_among o_is_integer m_is_integer F_is_integer.kp b_is_integer
  have o_l_tape := Dw.ok_tape (P := P) (w := w) (mg := mg) (base := base) F_l_tape g_int g_len
  have o_l_pick := Dw.ok_pick (P := P) (w := w) (mg := mg) (base := base) F_l_pick g_int
  have o_l_one_of := Dw.ok_one (P := P) (w := w) (mg := mg) (base := base) F_l_one_of g_len o_l_pick m_l_pick F_l_pick.kp b_l_pick
  have o_l_shuffled := Dw.ok_shuf (P := P) (w := w) (mg := mg) (base := base) F_l_shuffled g_len g_list o_l_pick m_l_pick F_l_pick.kp b_l_pick
  have o_l_alive := Dw.ok_alive (P := P) (w := w) (mg := mg) (base := base) F_l_alive g_list g_sorted
  have o_l_drawn_rules := Dw.ok_rules (P := P) (w := w) (mg := mg) (base := base) F_l_drawn_rules g_len g_range g_tuple g_enumerate o_l_pick m_l_pick F_l_pick.kp b_l_pick o_l_one_of m_l_one_of F_l_one_of.kp b_l_one_of o_l_shuffled m_l_shuffled F_l_shuffled.kp b_l_shuffled
  have o_l_drawn_plan := Dw.ok_plan (P := P) (w := w) (mg := mg) (base := base) F_l_drawn_plan g_len g_int g_dict g_sum o_l_pick m_l_pick F_l_pick.kp b_l_pick o_l_one_of m_l_one_of F_l_one_of.kp b_l_one_of o_l_shuffled m_l_shuffled F_l_shuffled.kp b_l_shuffled o_l_alive m_l_alive F_l_alive.kp b_l_alive o_l_drawn_rules m_l_drawn_rules F_l_drawn_rules.kp b_l_drawn_rules
  have o_l_is_word := Dw.ok_lword (P := P) (w := w) (mg := mg) (base := base) F_l_is_word g_isinstance g_str g_len g_list
  have o_l_is_number := Dw.ok_lnum (P := P) (w := w) (mg := mg) (base := base) F_l_is_number g_isinstance g_int g_bool
  have o_l_unlike := Dw.ok_unlike (P := P) (w := w) (mg := mg) (base := base) F_l_unlike 
  have o_l_are_unlike := Dw.ok_areU (P := P) (w := w) (mg := mg) (base := base) F_l_are_unlike g_isinstance g_list g_tuple g_len o_l_is_word m_l_is_word F_l_is_word.kp b_l_is_word o_l_unlike m_l_unlike F_l_unlike.kp b_l_unlike
  have o_l_is_rule := Dw.ok_lrule (P := P) (w := w) (mg := mg) (base := base) F_l_is_rule g_isinstance g_tuple g_str g_len o_l_is_word m_l_is_word F_l_is_word.kp b_l_is_word o_l_is_number m_l_is_number F_l_is_number.kp b_l_is_number
  have o_l_due := Dw.ok_ldue (P := P) (w := w) (mg := mg) (base := base) F_l_due g_isinstance g_list g_tuple g_str g_len g_enumerate o_l_are_unlike m_l_are_unlike F_l_are_unlike.kp b_l_are_unlike o_l_is_rule m_l_is_rule F_l_is_rule.kp b_l_is_rule o_l_is_number m_l_is_number F_l_is_number.kp b_l_is_number
  have o_l_refused := Dw.ok_refB (P := P) (w := w) (mg := mg) (base := base) F_l_refused mkBook_ m_Book oBook b_book c_BadKinds c_BadHandles c_BadRules c_BadRule c_NamedTwice c_BadStart c_BadCount same_BadKinds_BadKinds same_BadHandles_BadKinds same_BadHandles_BadHandles same_BadRules_BadKinds same_BadRules_BadHandles same_BadRules_BadRules same_BadRule_BadKinds same_BadRule_BadHandles same_BadRule_BadRules same_BadRule_BadRule same_NamedTwice_BadKinds same_NamedTwice_BadHandles same_NamedTwice_BadRules same_NamedTwice_BadRule same_NamedTwice_NamedTwice same_BadStart_BadKinds same_BadStart_BadHandles same_BadStart_BadRules same_BadStart_BadRule same_BadStart_NamedTwice same_BadStart_BadStart same_BadCount_BadKinds same_BadCount_BadHandles same_BadCount_BadRules same_BadCount_BadRule same_BadCount_NamedTwice same_BadCount_BadStart same_BadCount_BadCount
  have o_l_bent_rules := Dw.ok_bent (P := P) (w := w) (mg := mg) (base := base) F_l_bent_rules g_isinstance g_tuple g_list g_len o_l_pick m_l_pick F_l_pick.kp b_l_pick o_l_one_of m_l_one_of F_l_one_of.kp b_l_one_of
  exact Dw.ok_law F_law
    ⟨_, _, o_l_tape, m_l_tape, F_l_tape.kp, b_l_tape⟩
    ⟨_, _, o_l_drawn_plan, m_l_drawn_plan, F_l_drawn_plan.kp, b_l_drawn_plan⟩
    ⟨_, _, o_l_one_of, m_l_one_of, F_l_one_of.kp, b_l_one_of⟩
    ⟨_, _, o_l_bent_rules, m_l_bent_rules, F_l_bent_rules.kp, b_l_bent_rules⟩
    ⟨_, _, o_l_due, m_l_due, F_l_due.kp, b_l_due⟩
    ⟨_, _, o_l_refused, m_l_refused, F_l_refused.kp, b_l_refused⟩
    g_range g_max g_min g_len g_repr g_tuple
end
end Ek
open PySem PySem.W PySem.Calls PyProof.Rows
theorem PySem.Challenge.cw_farhandles_k03_books_refused_holds : PySem.Challenge.rw_farhandles_k03_books_refused.Holds := by
  w_on; o_law
  refine HandSHeadRun.head_any (r := OpenLaw.row PySem.Challenge.rw_farhandles_k03_books_refused) (q := view (OpenLaw.row PySem.Challenge.rw_farhandles_k03_books_refused).prog [37]) (H := Hd.hk) (ob := Hd.ob) (M := 12000) (loose := Hd.loose) (d := HandSHeadRun.topDef (OpenLaw.row PySem.Challenge.rw_farhandles_k03_books_refused).prog 37) (kwd := []) Hd.ob_eq
    (by kernel_rfl) (fun s => by kernel_rfl) Hd.run (by kernel_rfl) (by kernel_rfl) (by kernel_rfl) (by rfl) (by first | assumption | decide +kernel) (by decide +kernel) ⟨rfl, rfl, rfl, rfl, rfl, by decide +kernel⟩ ?hw ?hc
  case hw => w_witness2
  case hc =>
    refine Fh.walkS (l := PySem.Challenge.rw_farhandles_k03_books_refused) (k := 7) rfl (by kernel_rfl) ⟨rfl, by decide, by decide⟩ ?F
    intro w mg fa h Y G hmg0
    obtain ⟨K, KX, c1, c2⟩ := Y
    have c : Ek.Says h K := ⟨c1, c2⟩
    have hmg : mg ("law" : PySem.Str) = some (.ref fa) := by
      have e : (HandSHeadRun.topDef (OpenLaw.row PySem.Challenge.rw_farhandles_k03_books_refused).prog 37).name = ("law" : PySem.Str) := by kernel_rfl
      rw [← e]
      exact hmg0
    obtain ⟨fd, hb, hF⟩ := Ek.facts (P := (PySem.Challenge.rw_farhandles_k03_books_refused).prog) (w := w) KX G hmg c
    exact ⟨K, fd, KX, c.s.no, c.s.sys, hb, hF⟩
