import PyProof.Rows.All
import Wide.All
import OpenK.AllK
import Wide.FinOn
import KE.KMathGC
import KE.GoesEnum
import PyProof.ReprRoads
import HandS.ForMost
import HandS.Zip
import HandS.Wide
import HandS.Gcd
import HandS.TupAny
import HandS.HeadEnd
import HandS.HeadHook2
import HandS.Lambda
import HandS.IsInst
import KE.DataMinMax
import HandS.SortKw
import HandS.More
import HandS.NoneIn
import HandS.Defaults
import HandS.ExcOwn
import HandS.WordsExc
import KE.KDflt
import HandS.ExcField
import HandS.EndTab
import HandS.HeadWalk
import HandS.TupMul
import HandS.ExcInit
import HandS.Words
import HandS.Head0
import HandS.Head1
import HandS.Head2
import HandS.Head3
import HandS.HeadHook1
import HandS.HeadHook3
import HandS.HeadHook4
import PySem.Challenge.RW_everyfont_k12_systems_judged
set_option Elab.async false
set_option linter.all false
set_option maxRecDepth 100000
set_option maxHeartbeats 4000000
/-! The hand layer with the running guards told (repr asks them); zip and enumerate over lists and tuples alike; repr of data; lcm; a list's item read for an augmented store. -/
namespace V1
open PySem PySem.Spec PyProof.Rows L2

/-- a def's promise where no guarded built-in runs further out -/
structure FnG (P : Program) (w : World) (K : PySem.W.Frag) (mg : Str → Option Value) (base : Heap) (k : Nat) (f : Addr) (fd : FuncData) (ps : List Str) (sp : Sp) : Prop where
  len : ∀ vs H Q E, sp vs H Q E → vs.length = ps.length
  run : ∀ (A : Around) (outer : List Env) (s : Shared) (H : Hp) (args : Args) (us : List Value) (vs : List V) (Q : VK) (E : XK), A.guards = some [] → Room k A →
    Env0 P w K mg base A outer s H → BindsTo s fd args (ps.zip us) → Vals vs us → sp vs H Q E → codeAny (model P w) A (.call (.ref f) args) (CR CX0 outer P w H s Q E) s
section
variable {P : Program} {w : World} {K : PySem.W.Frag} {mg : Str → Option Value} {base : Heap}
theorem FnG.mono {j k : Nat} {f : Addr} {fd : FuncData} {ps : List Str} {sp : Sp} (F : FnG P w K mg base j f fd ps sp) (h : j ≤ k) : FnG P w K mg base k f fd ps sp :=
  ⟨F.len, fun A outer s H args us vs Q E hg hr => F.run A outer s H args us vs Q E hg (hr.mono h)⟩
theorem okG {x qual : Str} {st : Stmt} {f : Addr} {fd : FuncData} {N ps : List Str} {k : Nat} {sp : Sp} (F : Fun K x qual st f fd) (S : FnScope N ps (defScope st)) (hlen : ∀ vs H Q E, sp vs H Q E → vs.length = ps.length)
    (bd : ∀ (cdv : Value) (A : Around) (outer : List Env) (s : Shared) (H : Hp) (vs : List V) (Q : VK) (E : XK), A.guards = some [] → Room k (A.deeper (envOfC qual (defScope st) s.heap.objs.size f cdv)) → sp vs H Q E →
      ∃ t, PSs (cxOf CX0 P w K mg base N qual (defScope st) f cdv A outer s H E).nox (defBody st) t ∧ t { nx := fun _ H' => Q .non H', rt := Q } (start N vs) H) : FnG P w K mg base (k + 1) f fd ps sp := by
  obtain ⟨oc, od, kV, doc, pm, an, cdv, ct, osl, rfl, lk, hcd⟩ := F.ex
  refine ⟨hlen, fun A outer s H args us vs Q E hgd hr e0 hb r hs0 => ?_⟩
  have ll := hlen _ _ _ _ hs0
  have kin : K.In s.heap := e0.mod.kin.keeps (fun b o z => (e0.bs b o z).1)
  have nl : s.heap.NoLimit := e0.mod.nolimit.keeps (fun b o z => (e0.bs b o z).1)
  refine codeAny_call_function hr.depth (kin _ _ lk) rfl S.co S.gen rfl (PySem.W.codeRec_of kin hcd) (hb _ _ _ _ ?_)
  refine wpAny_newFunctionEnv_cells S.kind (fun ⟨n, v⟩ hy => ?_) (fun env he s1 x => ?_)
  · rcases S.par n (List.of_mem_zip hy).1 with q | q
    · exact Or.inl q
    · exact Or.inr ⟨q, PySem.W.cellsFrom_some _ _ _ (Or.inl q)⟩
  subst he
  refine ⟨nl.keeps x.toInCall.keep, codeAny_func ?_⟩
  obtain ⟨t, ht, hq⟩ := bd cdv A outer s H vs Q E hgd (hr.deeper _) hs0
  have I := inv_start (CX := CX0) (E := E) S hr.hd e0 ll r x
  refine wpAny_mono (ht.nox.run [] s1 (start N vs) H _ I hq) (fun fl s2 z => ?_) (fun e s2 z => z)
  cases fl with
  | ret u =>
    obtain ⟨v, σ2, H2, J, rv, q⟩ := z
    exact ⟨v, H2, J.os, J.bare, J.base, J.hok, rv, q⟩
  | next =>
    obtain ⟨σ2, H2, J, q⟩ := z
    exact ⟨V.non, H2, J.os, J.bare, J.base, J.hok, rfl, q⟩
  | brk =>
    obtain ⟨_, _, _, q⟩ := z
    exact q.elim
  | cont =>
    obtain ⟨_, _, _, q⟩ := z
    exact q.elim
end
/-- the guards reach a def's body -/
theorem gd_of {P : Program} {w : World} {K : PySem.W.Frag} {mg : Str → Option Value} {base : Heap} {N : List Str} {q : Str} {sc : Scope} {f : Addr} {cd : Value} {A : Around} {outer : List Env} {s : Shared} {H : Hp} {E : XK} (h : A.guards = some []) :
    (cxOf CX0 P w K mg base N q sc f cd A outer s H E).nox.A.guards = some [] := h
section
variable {X : Cx} {k : Nat} {f : Addr} {fd : FuncData} {ps ks : List Str} {sp : Sp} {E : XK} {x : Str} {p pos : Pos} {e : Expr} {es : List Expr} {kws : List Keyword} {t tk : TA} {g : List Value → List Value → List Value} {gV : List V → List V → List V}
theorem fall {pins : List (Addr × Obj)} {σ : L2.St} {H : Hp} {s : Shared} (I : L2.Inv X pins σ H s) {Q : VK} {r : Result} {s2 : Shared} (hq : CR CX0 X.stack X.prog X.w H s Q E r s2) : ∃ u, r = .ok (.ret u) ∧ EP X pins σ Q u s2 := by
  cases r with
  | error z => exact False.elim hq
  | ok fl =>
    cases fl with
    | ret u => exact ⟨u, rfl, I.after hq⟩
    | next => exact False.elim hq
    | brk => exact False.elim hq
    | cont => exact False.elim hq
theorem runG {pins : List (Addr × Obj)} {σ : L2.St} {H : Hp} {s : Shared} {Q : VK} {us : List Value} {vs : List V} (F : FnG X.prog X.w X.K X.mg X.base k f fd ps sp) (hgd : X.A.guards = some []) (hr : Room k X.A) (hb : Binds X.K fd ps [])
    (I : L2.Inv X pins σ H s) (r : Vals vs us) (h : sp vs H Q E) : wpAny (model X.prog X.w) X.A (call (.ref f) us) (EP X pins σ Q) X.xe s := by
  have hl : (us ++ []).length = ps.length := by rw [List.append_nil, ← r.length]; exact F.len _ _ _ _ h
  have hb2 := hb s us I.kIn hl
  rw [List.append_nil] at hb2
  refine wpAny_call (codeAny_mono (F.run X.A X.stack s H ⟨us, []⟩ us vs Q E hgd hr I.env0 hb2 r h) fun r2 s2 hq => ?_)
  obtain ⟨u, rfl, z⟩ := fall I hq
  exact z
theorem runGk {pins : List (Addr × Obj)} {σ : L2.St} {H : Hp} {s : Shared} {Q : VK} {us ws : List Value} {vs zs : List V} (F : FnG X.prog X.w X.K X.mg X.base k f fd ps sp) (hgd : X.A.guards = some []) (hr : Room k X.A) (hb : KBinds X.K fd ps ks g gV)
    (I : L2.Inv X pins σ H s) (r : Vals vs us) (rz : Vals zs ws) (h : sp (gV vs zs) H Q E) : wpAny (model X.prog X.w) X.A (call (.ref f) us (ks.zip ws)) (EP X pins σ Q) X.xe s := by
  have r2 := hb.rel r rz
  have hl : (g us ws).length = ps.length := by rw [← r2.length]; exact F.len _ _ _ _ h
  refine wpAny_call (codeAny_mono (F.run X.A X.stack s H ⟨us, ks.zip ws⟩ (g us ws) (gV vs zs) Q E hgd hr I.env0 (hb.to s us ws I.kIn hl) r2 h) fun r3 s2 hq => ?_)
  obtain ⟨u, rfl, z⟩ := fall I hq
  exact z
theorem pe_fn (F : FnG X.prog X.w X.K X.mg X.base k f fd ps sp) (hgd : X.A.guards = some []) (hr : Room k X.A) (hg : Gl X x) (hm : X.mg x = some (.ref f)) (hk : PySem.W.keepIn X.K (.ref f) = true) (hb : Binds X.K fd ps [])
    (ha : PA X (e :: es) t) (hdb : (x == ("__debug__" : Str)) = false := by decide) (he : starEach (e :: es) X.env = (false, eval e X.env) :: starEach es X.env := by rfl) (hpl : (backTo pos (starEach es X.env)).any (·.1) = false := by rfl) :
    PE X (.Call (.Name x p) (e :: es) [] pos) (tCall sp [] E t) := by
  refine ⟨fun pins s σ H Q I h => ?_⟩
  refine wpAny_Call_Name_kw (ld_glob I hg hm ?_ hdb)
  refine PySem.W.callWith_K (h₀ := X.base) I.ok.mod.kin hk (thn (ha.run pos pins s σ H _ I h) fun us s1 ⟨vs, H1, I1, r, q⟩ => ⟨I1.kIn, ?_⟩) he hpl
  have q2 : sp (vs ++ []) H1 Q E := q
  rw [List.append_nil] at q2
  exact runG F hgd hr hb I1 r q2
theorem pe_fn0 (F : FnG X.prog X.w X.K X.mg X.base k f fd ps sp) (hgd : X.A.guards = some []) (hr : Room k X.A) (hg : Gl X x) (hm : X.mg x = some (.ref f)) (hk : PySem.W.keepIn X.K (.ref f) = true) (hb : Binds X.K fd ps [])
    (hdb : (x == ("__debug__" : Str)) = false := by decide) : PE X (.Call (.Name x p) [] [] pos) (tCall sp [] E tNil) := by
  refine ⟨fun pins s σ H Q I h => ?_⟩
  refine wpAny_Call_Name_kw (ld_glob I hg hm ?_ hdb)
  exact PySem.W.callWith_K0 I.kIn hk (runG (us := []) F hgd hr hb I .nil h)
/-- f(k = v, ..), keywords alone -/
theorem pe_fnk (F : FnG X.prog X.w X.K X.mg X.base k f fd ps sp) (hgd : X.A.guards = some []) (hr : Room k X.A) (hg : Gl X x) (hm : X.mg x = some (.ref f)) (hk : PySem.W.keepIn X.K (.ref f) = true) (hb : KBinds X.K fd ps ks g gV)
    (hkw : PK X kws tk) (hall : (backToKw pos (keywordEach kws X.env)).all (·.1.isSome) = true := by rfl) (hks : (backToKw pos (keywordEach kws X.env)).filterMap (·.1) = ks := by rfl)
    (hdb : (x == ("__debug__" : Str)) = false := by decide)
    (hpl : ((backTo pos (starEach [] X.env)).any (·.1) || (backToKw pos (keywordEach kws X.env)).any (·.1.isNone)) = false := by rfl) :
    PE X (.Call (.Name x p) [] kws pos) (tCallK sp gV E tNil tk) := by
  refine ⟨fun pins s σ H Q I h => ?_⟩
  refine wpAny_Call_Name_kw (ld_glob I hg hm ?_ hdb)
  refine PySem.W.callWith_KW0 (h₀ := X.base) I.ok.mod.kin hk hall ?_ hpl
  refine thn (hkw.run pos pins s σ H _ I h) fun ws s2 ⟨zs, H2, I2, rz, q2⟩ => ⟨I2.kIn, ?_⟩
  rw [hks]
  exact runGk (us := []) F hgd hr hb I2 .nil rz q2
end

/-! ### repr of data, lcm, a list's item read -/
section
variable {X : Cx}
def rRepr (K : PySem.W.Frag) : List V → Hp → VK → Prop := fun vs H Q => ∃ (a : Addr) (d : PyData), vs = [.ref a] ∧ Dp K H (.ref a) d ∧ d.showable = true ∧ d.hasDict = false ∧ d.depth ≤ 60 ∧ d.shown.length ≤ sizeLine ∧ Q (.str d.shown) H
theorem call_repr (hgd : X.A.guards = some []) (hu : X.A.units + 64 < cLine) : CallR X (.builtin "repr") (rRepr X.K) := by
  intro pins s σ H vs us Q I r h
  obtain ⟨a, d, rfl, hd, h1, h2, h3, h4, q⟩ := h
  cases r with
  | cons r rr =>
    cases rr
    obtain rfl := r
    obtain ⟨as, rd⟩ := Dp.reads I d _ _ hd rfl
    refine repr_of_reads' (h₀ := s.heap) rd h1 (PyData.noDict_hsm h2) hgd (by omega) (fun _ _ z => z) (fun h' u tk hk => ?_) h4
    exact ⟨.str _, H, I.kept (t' := tk) hk, ⟨_, rfl⟩, q⟩
def rLcm : List V → Hp → VK → Prop := fun vs H Q => ∃ a b : Int, vs = [.int a, .int b] ∧ a.natAbs < 2 ^ 64 ∧ b.natAbs < 2 ^ 64 ∧ Q (.int ((Nat.lcm a.natAbs b.natAbs : Nat) : Int)) H
theorem call_lcm : CallR X (.builtin "math.lcm") rLcm := by
  intro pins s σ H vs us Q I r h
  obtain ⟨a, b, rfl, h1, h2, q⟩ := h
  obtain ⟨t, u, rfl⟩ := Vals.int2 r
  exact PySem.W.mc_lcm h1 h2 fun _ => ⟨.int _, H, I.tok _, ⟨_, rfl⟩, q⟩
theorem pget_list : PGet X (rIxL X.K) := by
  intro pins s σ H x y v u Q I rx ry h
  obtain ⟨p, xs, i, z, rfl, rfl, hq, he, q⟩ := h
  cases rx
  obtain ⟨t, rfl⟩ := ry
  obtain ⟨its, r, pl, hz⟩ := I.list hq
  obtain ⟨j, h1, h2, h3, h4, h5⟩ := atI_get he
  obtain ⟨w, ew, rw1⟩ := r.get h2
  have hl := r.length
  have hn := line63
  have last : EP X pins σ Q w s := ⟨z, H, I, rw1, q⟩
  by_cases h0 : 0 ≤ i
  · have hj : i.toNat = j := by
      rw [seqIndex_of h0 h5] at h1
      exact Option.some.inj h1
    exact wpAny_getItem_list pl.isList h0 (by omega) (by rw [hj]; simpa using ew) last
  · have hj : (i + (its.toArray.size : Int)).toNat = j := by
      rw [seqIndex_neg (by omega) h4] at h1
      rw [List.size_toArray, ← hl]
      exact Option.some.inj h1
    exact wpAny_getItem_list_neg pl.isList (by omega) (by rw [List.size_toArray] <;> omega) (by omega) (by rw [hj]; simpa using ew) last
end

/-! ### zip, enumerate: lists and tuples in any mix -/
/-- a list (true) or a tuple (false) -/
def Sq (K : PySem.W.Frag) : Bool → Hp → Addr → List V → Prop
  | true => SqL K
  | false => SqT K
def HSq (h : Heap) : Bool → Addr → Array Value → Prop
  | true => h.IsList
  | false => h.IsTuple
def HIt (h : Heap) : Bool → Addr → Addr → Nat → Prop
  | true => h.IsListIter
  | false => h.IsTupleIter
def itO : Bool → Addr → Obj
  | true, l => { cls := .type "list_iterator", data := .fields #[.ref l, .int 0 0] }
  | false, l => { cls := .type "tuple_iterator", data := .fields #[.ref l, .int 0 0] }
theorem hit_at {h h' : Heap} {k : Bool} {it a : Addr} {i : Nat} (x : HIt h k it a i) (e : ∀ o, h.get? it = some o → h'.get? it = some o) : HIt h' k it a i := by
  cases k with
  | true => exact Heap.IsListIter.at x e
  | false => exact Heap.IsTupleIter.at x e
theorem hit_obj {h : Heap} {k : Bool} {it a : Addr} {i : Nat} (x : HIt h k it a i) : ∃ o, h.get? it = some o ∧ ∀ v, o.data ≠ .cell v := by
  cases k with
  | true => obtain ⟨o, e, _, d⟩ := x; exact ⟨o, e, fun v z => by rw [d] at z; cases z⟩
  | false => obtain ⟨o, e, _, d⟩ := x; exact ⟨o, e, fun v z => by rw [d] at z; cases z⟩
theorem hit_0 {h : Heap} {k : Bool} {it a : Addr} (x : h.get? it = some (itO k a)) : HIt h k it a 0 := by
  cases k with
  | true => exact ⟨_, x, rfl, rfl⟩
  | false => exact ⟨_, x, rfl, rfl⟩
theorem bgn (k : Bool) (a : Addr) (items : Array Value) : Begins (.ref a) (itO k a) fun h => HSq h k a items := by
  cases k with
  | true => exact begins_list a items
  | false => exact begins_tuple a items
theorem drw {prog : Program} {w : World} {A : Around} (hh : A.handled = none) (k : Bool) (it a : Addr) (ne : a ≠ it) (items : Array Value) :
    Draws prog w A it [it, a] items.size (fun i v => items[i]? = some v) (fun i h => HIt h k it a i ∧ HSq h k a items) := by
  cases k with
  | true => exact Draws.list hh it a ne items
  | false => exact Draws.tuple hh it a ne items
section
variable {X : Cx} {pins : List (Addr × Obj)} {σ : L2.St} {H : Hp} {s : Shared} {k : Bool} {a : Addr} {xs ys : List V}
theorem inv_sq (I : L2.Inv X pins σ H s) (h : Sq X.K k H a xs) : ∃ its : List Value, Vals xs its ∧ HSq s.heap k a its.toArray ∧ a < s.heap.objs.size := by
  cases k with
  | true =>
    obtain ⟨its, r, p, _⟩ := I.list h
    exact ⟨its, r, p.isList, p.lt⟩
  | false =>
    obtain ⟨its, r, p, _⟩ := I.tuple h
    exact ⟨its, r, p, p.lt⟩
theorem sq_inj (I : L2.Inv X pins σ H s) (h : Sq X.K k H a xs) (h' : Sq X.K k H a ys) : xs = ys := by
  cases k with
  | true => exact I.list_inj h h'
  | false => exact I.tuple_inj h h'
end
/-- what zip walks -/
def ItP (K : PySem.W.Frag) (k1 : Bool) (a : Addr) (k2 : Bool) (b : Addr) : It :=
  ⟨fun i H => ∃ xs ys x y, Sq K k1 H a xs ∧ Sq K k2 H b ys ∧ xs[i]? = some x ∧ ys[i]? = some y,
   fun i H v H' => ∃ T x y, v = V.ref T ∧ H T = none ∧ H' = upd H T (.tup [x, y]) ∧ (∀ l, Sq K k1 H a l → l[i]? = some x) ∧ ∀ l, Sq K k2 H b l → l[i]? = some y,
   fun i H => ∃ xs ys, Sq K k1 H a xs ∧ Sq K k2 H b ys ∧ i ≤ xs.length ∧ i ≤ ys.length ∧ (i = xs.length ∨ i = ys.length)⟩
theorem turn_zipP {P : Program} {w : World} {K : PySem.W.Frag} {elts : List Expr} {kk : Nat} {tpos : Pos} {k1 k2 : Bool} {a b z TI TO i1 i2 : Addr} (S : ZipSep2 z TI TO i1 i2 [i1, a] [i2, b]) (n1 : a ≠ i1) (n2 : b ≠ i2) :
    Turn P w K (.Tuple elts kk tpos) (ItP K k1 a k2 b) [z, TI, TO, i1, i2] z (fun i h => IsZip h z TI TO .none ∧ IsTupOf2 h TI (.ref i1) (.ref i2) ∧ (∃ x y, IsTupOf2 h TO x y) ∧ HIt h k1 i1 a i ∧ HIt h k2 i2 b i) where
  mem := by simp
  obj := fun i h st c hc => by
    obtain ⟨hz, hTI, ⟨x, y, hTO⟩, h1, h2⟩ := st
    have e' : c = z ∨ c = TI ∨ c = TO ∨ c = i1 ∨ c = i2 := by simpa using hc
    rcases e' with rfl | rfl | rfl | rfl | rfl
    · exact ⟨_, hz, fun v q => nomatch q⟩
    · exact ⟨_, hTI, fun v q => nomatch q⟩
    · exact ⟨_, hTO, fun v q => nomatch q⟩
    · exact hit_obj h1
    · exact hit_obj h2
  keep := fun i h h' st q => by
    obtain ⟨hz, hTI, ⟨x, y, hTO⟩, h1, h2⟩ := st
    exact ⟨q z (by simp) _ hz, q TI (by simp) _ hTI, ⟨x, y, q TO (by simp) _ hTO⟩, hit_at h1 fun o u => q i1 (by simp) o u, hit_at h2 fun o u => q i2 (by simp) o u⟩
  item := by
    intro X hP hw hK hc i pins s σ H E I hf st hg
    subst hP hw hK
    obtain ⟨hz, hTI, ⟨x0, y0, hTO⟩, h1, h2⟩ := st
    obtain ⟨xs, ys, x, y, hqx, hqy, hx, hy⟩ := hg
    obtain ⟨its, rv, p, _⟩ := inv_sq I hqx
    obtain ⟨its2, rv2, p2, _⟩ := inv_sq I hqy
    obtain ⟨u, hu, ru⟩ := rv.get hx
    obtain ⟨u2, hu2, ru2⟩ := rv2.get hy
    have hh : X.A.in1.handled = none := I.ok.hd hc
    have hzl : z < s.heap.objs.size := Heap.lt_size hz
    have lt1 : i < its.toArray.size := by rw [List.size_toArray]; exact (List.getElem?_eq_some_iff.mp hu).1
    have lt2 : i < its2.toArray.size := by rw [List.size_toArray]; exact (List.getElem?_eq_some_iff.mp hu2).1
    refine wpAny_pyNext_zipD2_item S (drw hh k1 i1 a n1 its.toArray) (drw hh k2 i2 b n2 its2.toArray) hz hTI hTO ⟨h1, p⟩ ⟨h2, p2⟩ lt1 lt2 fun v1 v2 h' tk e1 e2 hz' hTO' st1 st2 hT hsz hk => ?_
    obtain rfl : v1 = u := by
      have z1 : its.toArray[i]? = some v1 := e1
      simp at z1
      rw [hu] at z1
      exact (Option.some.inj z1).symm
    obtain rfl : v2 = u2 := by
      have z2 : its2.toArray[i]? = some v2 := e2
      simp at z2
      rw [hu2] at z2
      exact (Option.some.inj z2).symm
    refine ⟨_, rfl, wpAny_letOwnedTupleGo_zip (s := { s with heap := h', toks := tk }) hz' fun h'' hz'' sb => ?_⟩
    have hT2 : h''.get? s.heap.objs.size = some { cls := .type "tuple", data := .seq #[v1, v2] } := (sb.2 _ (Nat.ne_of_gt hzl)).trans hT
    have new : ObjOk X.prog X.w (upd H s.heap.objs.size (.tup [x, y])) h'' s.heap.objs.size (.tup [x, y]) :=
      ⟨by show 2 ≤ sizeLine; decide, [v1, v2], .cons ru (.cons ru2 .nil), ⟨_, hT2, rfl, _, rfl⟩⟩
    have I1 : L2.Inv X pins σ (upd H s.heap.objs.size (.tup [x, y])) { s with heap := h'', toks := tk } :=
      I.turnedNew (t' := tk) (ch := [z, TI, TO, i1, i2]) (fun c o hb q => (sb.2 c (fun q1 => hb (by simp [q1]))).trans (hk c o (fun q1 => hb (by simp [q1])) (fun q1 => hb (by simp [q1])) (fun q1 => hb (by simp [q1])) (fun q1 => hb (by simp [q1])) q)) hf (Nat.le_refl _) new
    refine ⟨.ref s.heap.objs.size, _, I1, rfl, ⟨_, x, y, rfl, I.hok.fresh (Nat.le_refl _), rfl, fun l hl => by rw [sq_inj I hl hqx]; exact hx, fun l hl => by rw [sq_inj I hl hqy]; exact hy⟩, ⟨hz'', ?_, ⟨v1, v2, ?_⟩, ?_, ?_⟩, fun c hcm => ?_⟩
    · exact (sb.2 _ S.TIz).trans (hk _ _ S.TIz S.TITO S.TIi1 S.TIi2 hTI)
    · exact (sb.2 _ S.TOz).trans hTO'
    · exact hit_at st1.1 fun o q => (sb.2 _ S.zi1.symm).trans q
    · exact hit_at st2.1 fun o q => (sb.2 _ S.zi2.symm).trans q
    · have hlt : c < s.heap.objs.size := by
        have e' : c = z ∨ c = TI ∨ c = TO ∨ c = i1 ∨ c = i2 := by simpa using hcm
        rcases e' with rfl | rfl | rfl | rfl | rfl
        · exact hzl
        · exact Heap.lt_size hTI
        · exact Heap.lt_size hTO
        · obtain ⟨_, q, _⟩ := hit_obj h1; exact Heap.lt_size q
        · obtain ⟨_, q, _⟩ := hit_obj h2; exact Heap.lt_size q
      rw [upd_ne (Nat.ne_of_lt hlt)]
      exact (hf c hcm).1
  done := by
    intro X hP hw hK hc i pins s σ H E I hf st hg
    subst hP hw hK
    obtain ⟨hz, hTI, ⟨x0, y0, hTO⟩, h1, h2⟩ := st
    obtain ⟨xs, ys, hqx, hqy, l1, l2, hend⟩ := hg
    obtain ⟨its, rv, p, _⟩ := inv_sq I hqx
    obtain ⟨its2, rv2, p2, _⟩ := inv_sq I hqy
    have m1 := rv.length
    have m2 := rv2.length
    have hh : X.A.in1.handled = none := I.ok.hd hc
    refine wpAny_pyNext_zipD2_end S (drw hh k1 i1 a n1 its.toArray) (drw hh k2 i2 b n2 its2.toArray) hz hTI hTO ⟨h1, p⟩ ⟨h2, p2⟩ (by rw [List.size_toArray] <;> omega) (by rw [List.size_toArray] <;> omega) (by rw [List.size_toArray, List.size_toArray] <;> omega) fun h' tk hk => ?_
    exact ⟨rfl, I.turnedL (t' := tk) (ch := [z, TI, TO, i1, i2]) (fun c o hb q => hk c o (fun q1 => hb (by simp [q1])) (fun q1 => hb (by simp [q1])) (fun q1 => hb (by simp [q1])) (fun q1 => hb (by simp [q1])) q) hf⟩
  self := fun A i s Q E st h => wpAny_pyIter_zip st.1 h
def iZipP (K : PySem.W.Frag) (k1 k2 : Bool) (ta : TA) : TI := fun σ H R => ta σ H fun vs H1 => ∃ a b xs ys, vs = [.ref a, .ref b] ∧ Sq K k1 H1 a xs ∧ Sq K k2 H1 b ys ∧ R (ItP K k1 a k2 b) H1
theorem pi_zipP {X : Cx} {e e2 : Expr} {ta : TA} {p pos tpos : Pos} {elts : List Expr} {kk : Nat} (k1 k2 : Bool) (hg : Gl X "zip") (hm : X.mg "zip" = none) (ha : PA X [e, e2] ta)
    (hs : starEach [e, e2] X.env = (false, eval e X.env) :: starEach [e2] X.env := by rfl) (hpl : (backTo pos (starEach [e2] X.env)).any (·.1) = false := by rfl) :
    PI X (.Tuple elts kk tpos) (.Call (.Name "zip" p) [e, e2] [] pos) (iZipP X.K k1 k2 ta) := by
  refine ⟨fun pins s σ H R I h => ?_⟩
  refine Call_ (ld_blt I hg hm PyProof.Rows.boot_zip (PyProof.Rows.callWith_type1 (thn (ha.run pos pins s σ H _ I h) fun us s1 ⟨vs, H1, I1, r1, q1⟩ => ?_) hs hpl))
  obtain ⟨a, b, xs, ys, rfl, hqx, hqy, q⟩ := q1
  cases r1 with
  | cons r rr =>
    cases rr with
    | cons r' rr =>
      cases rr
      obtain rfl := r
      obtain rfl := r'
      obtain ⟨its, rv, p1, la⟩ := inv_sq I1 hqx
      obtain ⟨its2, rv2, p2, lb⟩ := inv_sq I1 hqy
      refine zip_begins2 (bgn k1 a its.toArray) (bgn k2 b its2.toArray) p1 p2 fun h' hz hTI hTO g1 g2 hsz hk => wpAny_pyIter_zip hz ?_
      have I2 : L2.Inv X pins σ H1 { s1 with heap := h' } := I1.kept (t' := s1.toks) hk
      refine ⟨s1.heap.objs.size + 4, [s1.heap.objs.size + 4, s1.heap.objs.size + 2, s1.heap.objs.size + 3, s1.heap.objs.size, s1.heap.objs.size + 1], _, _, H1, rfl, I2,
        turn_zipP (k1 := k1) (k2 := k2) (zip_sep2 (fp1 := [a]) (fp2 := [b]) (by simpa using la) (by simpa using lb)) (Nat.ne_of_lt la) (Nat.ne_of_lt (Nat.lt_succ_of_lt lb)), ⟨hz, hTI, ⟨_, _, hTO⟩, hit_0 g1, hit_0 g2⟩, fun c hcm => ?_, q⟩
      have hle : s1.heap.objs.size ≤ c := by
        have e' : c = s1.heap.objs.size + 4 ∨ c = s1.heap.objs.size + 2 ∨ c = s1.heap.objs.size + 3 ∨ c = s1.heap.objs.size ∨ c = s1.heap.objs.size + 1 := by simpa using hcm
        have n0 := Nat.le_refl s1.heap.objs.size
        rcases e' with rfl | rfl | rfl | rfl | rfl
        · exact Nat.le_add_right _ _
        · exact Nat.le_add_right _ _
        · exact Nat.le_add_right _ _
        · exact n0
        · exact Nat.le_add_right _ _
      exact I1.fpOk hle (I1.hok.fresh hle)

/-! enumerate -/
set_option maxHeartbeats 1000000 in
theorem meets_enum1 {v : Value} {o : Obj} {Hh : Heap → Prop} (B : Begins v o Hh) :
    Meets (Builtin.«enumerate.__new__» ⟨[.type "enumerate", v], []⟩) (fun _ R s => Hh s.heap ∧
      R (.ok (.ret (.ref (s.heap.push o).objs.size))) { s with heap := (s.heap.push o).push { cls := .type "enumerate", data := .fields #[.none, .bool false, .ref s.heap.objs.size, rawInt 0, .none, .none] } }) :=
  .of_wp fun prog w A R s h => by
    obtain ⟨hp, g, d, tk, os⟩ := s; obtain ⟨h1, h⟩ := h
    have hsub := sub_enumerate
    have it1 : ∀ {A' : Around} {E : Value → Shared → Prop} {Q : Value → Shared → Prop}, Q (.ref hp.objs.size) ⟨hp.push o, g, d, tk, os⟩ → wpAny (model prog w) A' (pyIter v) Q E ⟨hp, g, d, tk, os⟩ :=
      fun q => B.iter prog w _ _ ⟨hp, g, d, tk, os⟩ _ h1 q
    wp_walk using it1
    refine wpAny_stack_any fun st => wpAny_pure ?_
    split
    · rename_i c _ _ _ _ _
      cases (c == Value.type "enumerate")
      · wp_walk using it1
        exact ⟨_, rfl, h⟩
      · wp_walk using it1
        exact ⟨_, rfl, h⟩
    · wp_walk using it1
      exact ⟨_, rfl, h⟩
theorem enum_begins1 {prog : Program} {w : World} {A : Around} {E : Value → Shared → Prop} {s : Shared} {v : Value} {o : Obj} {Hh : Heap → Prop} {Q : Value → Shared → Prop} (B : Begins v o Hh) (h1 : Hh s.heap)
    (h : ∀ h', IsEnum h' (s.heap.objs.size + 1) s.heap.objs.size 0 .none → h'.get? s.heap.objs.size = some o → (∀ b o, s.heap.get? b = some o → h'.get? b = some o) → Q (.ref (s.heap.objs.size + 1)) { s with heap := h' }) :
    wpAny (model prog w) A (call (.type "enumerate") [v]) Q E s := by
  refine callType_new F.called_enumerate (by decide) (F.typeCall_enumerate_1 _) (F.newCall_enumerate_1 _) (fun obj => F.args_object_init_2 obj _) F.entry_enumerate_new (meets_enum1 B) ⟨h1, ?_⟩
  have hz : (s.heap.push o).objs.size = s.heap.objs.size + 1 := Heap.size_push ..
  show _ ∧ _
  rw [hz]
  have he : IsEnum ((s.heap.push o).push { cls := .type "enumerate", data := .fields #[.none, .bool false, .ref s.heap.objs.size, rawInt 0, .none, .none] }) (s.heap.objs.size + 1) s.heap.objs.size 0 .none := by
    have q := Heap.get?_push_size (s.heap.push o) (o := { cls := .type "enumerate", data := .fields #[.none, .bool false, .ref s.heap.objs.size, rawInt 0, .none, .none] }) rfl
    rw [hz] at q; exact q
  exact ⟨⟨_, he, rfl⟩, h _ he (Heap.get?_push_of_some _ (Heap.get?_push_size _ B.free)) fun b o x => Heap.get?_push_of_some _ (Heap.get?_push_of_some _ x)⟩
def ItE (K : PySem.W.Frag) (k : Bool) (a : Addr) : It :=
  ⟨fun i H => ∃ xs x, Sq K k H a xs ∧ xs[i]? = some x,
   fun i H v H' => ∃ T x, v = V.ref T ∧ H T = none ∧ H' = upd H T (.tup [.int (i : Nat), x]) ∧ ∀ l, Sq K k H a l → l[i]? = some x,
   fun i H => ∃ xs, Sq K k H a xs ∧ i = xs.length⟩
theorem turn_enumP {P : Program} {w : World} {K : PySem.W.Frag} {elts : List Expr} {kk : Nat} {tpos : Pos} {k : Bool} {a e it : Addr} (ne : e ≠ it) (na : a ≠ it) (nea : e ≠ a) :
    Turn P w K (.Tuple elts kk tpos) (ItE K k a) [e, it] e (fun i h => (∃ old, IsEnum h e it ((i : Nat) : Int) old) ∧ HIt h k it a i) where
  mem := by simp
  obj := fun i h st b hb => by
    obtain ⟨⟨old, he⟩, hi⟩ := st
    have e' : b = e ∨ b = it := by simpa using hb
    rcases e' with rfl | rfl
    · exact ⟨_, he, fun v q => nomatch q⟩
    · exact hit_obj hi
  keep := fun i h h' st q => by
    obtain ⟨⟨old, he⟩, hi⟩ := st
    exact ⟨⟨old, q e (by simp) _ he⟩, hit_at hi fun o u => q it (by simp) o u⟩
  item := by
    intro X hP hw hK hc i pins s σ H E I hf st hg
    subst hP hw hK
    obtain ⟨⟨old, he⟩, hit⟩ := st
    obtain ⟨xs, x, hq, hx⟩ := hg
    obtain ⟨its, rv, p, _⟩ := inv_sq I hq
    obtain ⟨u, hu, ru⟩ := rv.get hx
    have hh : X.A.in1.handled = none := I.ok.hd hc
    have hel : e < s.heap.objs.size := Heap.lt_size he
    have hil : it < s.heap.objs.size := by obtain ⟨_, q, _⟩ := hit_obj hit; exact Heap.lt_size q
    have lt1 : i < its.toArray.size := by rw [List.size_toArray]; exact (List.getElem?_eq_some_iff.mp hu).1
    refine wpAny_pyNext_enum_itemC (drw hh k it a na its.toArray) he ⟨hit, p⟩ lt1 ne (by simp [ne, nea]) fun v h' tk e1 ho st1 hT hsz hk => ?_
    obtain rfl : v = u := by
      have z1 : its.toArray[i]? = some v := e1
      simp at z1
      rw [hu] at z1
      exact (Option.some.inj z1).symm
    refine ⟨_, rfl, wpAny_letOwnedTupleGo_enum (s := { s with heap := h', toks := tk + 1 }) ho fun h'' he' sb => ?_⟩
    have hT2 : h''.get? s.heap.objs.size = some { cls := .type "tuple", data := .seq #[.int i tk, v] } := (sb.2 _ (Nat.ne_of_gt hel)).trans hT
    have new : ObjOk X.prog X.w (upd H s.heap.objs.size (.tup [.int (i : Nat), x])) h'' s.heap.objs.size (.tup [.int (i : Nat), x]) :=
      ⟨by show 2 ≤ sizeLine; decide, [.int i tk, v], .cons ⟨_, rfl⟩ (.cons ru .nil), ⟨_, hT2, rfl, _, rfl⟩⟩
    have I1 : L2.Inv X pins σ (upd H s.heap.objs.size (.tup [.int (i : Nat), x])) { s with heap := h'', toks := tk + 1 } :=
      I.turnedNew (ch := [e, it]) (fun b ob hb q => (sb.2 b (fun z => hb (by simp [z]))).trans (hk b ob (fun z => hb (by simp [z])) (fun z => hb (by simp [z])) q)) hf (Nat.le_refl _) new
    refine ⟨.ref s.heap.objs.size, _, I1, rfl, ⟨_, x, rfl, I.hok.fresh (Nat.le_refl _), rfl, fun l hl => by rw [sq_inj I hl hq]; exact hx⟩, ⟨⟨v, ?_⟩, hit_at st1.1 fun o q => (sb.2 it (Ne.symm ne)).trans q⟩, fun b hb => ?_⟩
    · have e1 : ((i + 1 : Nat) : Int) = (i : Int) + 1 := by omega
      rw [e1]; exact he'
    · have hb' : b < s.heap.objs.size := by
        have e' : b = e ∨ b = it := by simpa using hb
        rcases e' with rfl | rfl
        · exact hel
        · exact hil
      rw [upd_ne (Nat.ne_of_lt hb')]
      exact (hf b hb).1
  done := by
    intro X hP hw hK hc i pins s σ H E I hf st hg
    subst hP hw hK
    obtain ⟨⟨old, he⟩, hit⟩ := st
    obtain ⟨xs, hq, hx⟩ := hg
    obtain ⟨its, rv, p, _⟩ := inv_sq I hq
    have m1 := rv.length
    have hh : X.A.in1.handled = none := I.ok.hd hc
    have hi2 : i = its.toArray.size := by rw [List.size_toArray]; omega
    refine wpAny_pyNext_enum_endD (drw hh k it a na its.toArray) he (by rw [← hi2]; exact ⟨hit, p⟩) fun h' hk => ⟨rfl, I.turnedL (t' := s.toks) (ch := [e, it]) (fun c o hb q => hk c o (fun q1 => hb (by simp [q1])) q) hf⟩
  self := fun A i s Q E st h => let ⟨⟨_, he⟩, _⟩ := st; wpAny_pyIter_enum he h
def iEnumP (K : PySem.W.Frag) (k : Bool) (ta : TA) : TI := fun σ H R => ta σ H fun vs H1 => ∃ a xs, vs = [.ref a] ∧ Sq K k H1 a xs ∧ R (ItE K k a) H1
theorem pi_enumP {X : Cx} {e : Expr} {ta : TA} {p pos tpos : Pos} {elts : List Expr} {kk : Nat} (k : Bool) (hg : Gl X "enumerate") (hm : X.mg "enumerate" = none) (ha : PA X [e] ta) (hs : starEach [e] X.env = [(false, eval e X.env)] := by rfl) :
    PI X (.Tuple elts kk tpos) (.Call (.Name "enumerate" p) [e] [] pos) (iEnumP X.K k ta) := by
  refine ⟨fun pins s σ H R I h => ?_⟩
  refine Call_ (ld_blt I hg hm boot_enumerate (PyProof.Rows.callWith_type1 (thn (ha.run pos pins s σ H _ I h) fun us s1 ⟨vs, H1, I1, r1, q1⟩ => ?_) hs rfl))
  obtain ⟨a, xs, rfl, hq, q⟩ := q1
  cases r1 with
  | cons r rr =>
    cases rr
    obtain rfl := r
    obtain ⟨its, rv, p1, la⟩ := inv_sq I1 hq
    refine enum_begins1 (bgn k a its.toArray) p1 fun h' he g1 hk => wpAny_pyIter_enum he ?_
    have I2 : L2.Inv X pins σ H1 { s1 with heap := h' } := I1.kept (t' := s1.toks) hk
    refine ⟨s1.heap.objs.size + 1, [s1.heap.objs.size + 1, s1.heap.objs.size], _, _, H1, rfl, I2, turn_enumP (k := k) (Nat.succ_ne_self _) (Nat.ne_of_lt la) (Nat.ne_of_gt (Nat.lt_succ_of_lt la)), ⟨⟨.none, he⟩, hit_0 g1⟩, fun b hb => ?_, q⟩
    have e' : b = s1.heap.objs.size + 1 ∨ b = s1.heap.objs.size := by simpa using hb
    have hle : s1.heap.objs.size ≤ b := by
      rcases e' with rfl | rfl
      · exact Nat.le_add_right _ _
      · exact Nat.le_refl _
    exact I1.fpOk hle (I1.hok.fresh hle)
end V1
set_option Elab.async false
set_option linter.all false
set_option maxRecDepth 100000
set_option maxHeartbeats 4000000
/-! The end of a law row, by a promise that knows the guards. -/
namespace V1
open PySem PySem.Spec PyProof.Rows L2

theorem endG {P : Program} {w : World} {K : PySem.W.Frag} {mg mb : Str → Option Value} {k : Nat} {fa a : Addr} {fd : FuncData} {x : Str} {sp : Sp} {s1 : Shared} {vs : List Value} {ns : List Int}
    (KX : K.In s1.heap) (hns : s1.heap.Ns mainGlobals mg) (hb : s1.heap.Ns builtinsNs mb) (hbb : ∀ x : Str, x ≠ "__name__" → mb x = bootBuiltins x) (nl : s1.heap.NoLimit) (hg : s1.gens = #[])
    (ha : s1.heap.get? a = some { cls := .type "list", data := .seq vs.toArray }) (hi : IntsAre vs ns) (hl : ns.length ≤ sizeLine) (hr : Room k callerA)
    (F : ∀ base : Heap, K.In base → base.Ns mainGlobals mg → FnG P w K mg base k fa fd [x] sp) (bnd : ∀ (s : Shared) (u : Value), BindsTo s fd ⟨[u], []⟩ [(x, u)])
    (hsp : ∀ H : Hp, Only H → SqL K H a (ns.map V.int) → sp [.ref a] H (fun v _ => v = .bl true) fun _ _ _ => False) :
    codeAny (model P w) callerA (.call (.ref fa) ⟨[.ref a], []⟩) (fun r t => r = .ok (.ret (.bool true)) ∧ OldK s1.heap t.heap ∧ t.os = s1.os ∧ AllBare t.gens) s1 := by
  have rv := vals_ints hi
  have lenV := hi.length
  have core : ∀ H : Hp, Only H → SqL K H a (ns.map V.int) → HOk P w H s1.heap → (∀ b, H b ≠ none → b = a) → (H a ≠ none → K.lookup a = none) →
      codeAny (model P w) callerA (.call (.ref fa) ⟨[.ref a], []⟩) (fun r t => r = .ok (.ret (.bool true)) ∧ OldK s1.heap t.heap ∧ t.os = s1.os ∧ AllBare t.gens) s1 := by
    intro H hO hS ok only notK
    have free : ∀ {b : Addr} {o : Obj}, s1.heap.get? b = some o → (b = a → False) → H b = none := fun {b o} e d => by
      cases q : H b with
      | none => rfl
      | some u => exact (d (only b (by rw [q]; simp))).elim
    have nsK : ∀ {b : Addr} {m : Str → Option Value}, s1.heap.Ns b m → (hidT s1.heap H).Ns b m := fun {b m} ⟨o, es, ep, e, d, r⟩ =>
      ⟨o, es, ep, hidT_get e (free e fun z => by
        rw [z, ha] at e
        cases e
        have d1 : Data.seq vs.toArray _ = Data.dict es ep := d
        cases d1), d, r⟩
    have hKb : K.In (hidT s1.heap H) := fun b o e => hidT_get (KX b o e) (by
      cases q : H b with
      | none => rfl
      | some u =>
        have z := only b (by rw [q]; simp)
        rw [z] at e q
        rw [notK (by rw [q]; simp)] at e
        cases e)
    have hM : Mod K mg (hidT s1.heap H) := ⟨hKb, nsK hns, ⟨mb, nsK hb, hbb⟩, let ⟨mc, h1, h2⟩ := nl; ⟨mc, nsK h1, h2⟩⟩
    have e0 : Env0 P w K mg (hidT s1.heap H) callerA [] s1 H := ⟨rfl, hM, fun b o e => of_hidT e, Nat.le_of_eq (hidT_size _ _), trivial, (fun b hb => absurd (show b ∈ ([] : List Addr) from hb) (by simp)), ok, .of_eq hg⟩
    refine codeAny_mono ((F _ hKb (nsK hns)).run callerA [] s1 H ⟨[.ref a], []⟩ [.ref a] [.ref a] _ _ rfl hr e0 (bnd s1 (.ref a)) (.cons rfl .nil) (hsp H hO hS)) fun r t h => ?_
    cases r with
    | error e => exact False.elim h
    | ok fl =>
      cases fl with
      | next => exact False.elim h
      | brk => exact False.elim h
      | cont => exact False.elim h
      | ret u =>
        obtain ⟨v, H2, os, bare, un, ok2, r2, q⟩ := h
        obtain rfl : v = .bl true := q
        obtain rfl : u = Value.bool true := r2
        refine ⟨rfl, OldK.of_keep fun b o e => ?_, os, bare⟩
        cases q : H b with
        | none => exact un.keep b o e q (fun z => absurd (show b ∈ ([] : List Addr) from z) (by simp)) (by simp)
        | some u =>
          rcases hO b with z | ⟨ob, xs, z⟩
          · rw [q] at z
            cases z
          · obtain ⟨e1, _⟩ := ok b _ z
            obtain ⟨e2, _⟩ := ok2 b _ (un.frzs b ob _ z)
            rw [e] at e1
            cases e1
            exact e2
  cases hk : K.lookup a with
  | some o =>
    have e := KX a o hk
    rw [ha] at e
    cases e
    exact core (fun _ => none) (fun _ => Or.inl rfl) (Or.inr ⟨_, vs.toArray, _, hk, rfl, rfl, rfl, by rw [List.size_toArray, lenV]; exact hl, by simpa using rv⟩) (fun b u z => by
      have z1 : (none : Option HO) = some u := z
      cases z1) (fun b z => absurd rfl z) (fun z => absurd rfl z)
  | none =>
    have one : ∀ b, (if b = a then some (HO.frz { cls := .type "list", data := .seq vs.toArray } (.lst (ns.map V.int))) else none) ≠ none → b = a := fun b z => by
      by_cases e : b = a
      · exact e
      · exact absurd (if_neg e) z
    refine core (fun b => if b = a then some (.frz { cls := .type "list", data := .seq vs.toArray } (.lst (ns.map V.int))) else none) (fun b => ?_) (Or.inl (Or.inr ⟨{ cls := .type "list", data := .seq vs.toArray }, if_pos rfl⟩)) (fun b u z => ?_) one fun _ => hk
    · by_cases e : b = a
      · exact Or.inr ⟨_, _, if_pos e⟩
      · exact Or.inl (if_neg e)
    · have e : b = a := one b (fun y => by
        have z2 := y.symm.trans z
        cases z2)
      have z1 := (if_pos e).symm.trans z
      cases z1
      subst e
      exact ⟨ha, by rw [List.length_map]; exact hl, vs, _, rv, ha⟩
theorem walkG {l : PySem.W.OpenLaw} {n k : Nat} {q : Program} {loose : List Str} {XP : (Str → Option Value) → Heap → Prop} {YP : World → Heap → Prop} {d : DefRec} {x : Str}
    (hn : l.most = some n) (hn2 : n ≤ sizeLine) (hdf : d.params.defaults = []) (hr : Room k callerA)
    (F : ∀ (w : World) (mg : Str → Option Value) (fa : Addr) (h : Heap), YP w h → h.Ns mainGlobals mg → mg d.name = some (.ref fa) →
      ∃ (K : PySem.W.Frag) (fd : FuncData) (sp : Sp), K.In h ∧ (∀ (s : Shared) (u : Value), BindsTo s fd ⟨[u], []⟩ [(x, u)]) ∧
        (∀ (H : Hp) (a : Addr) (ns : List Int), ns.length ≤ n → Only H → SqL K H a (ns.map V.int) → sp [.ref a] H (fun v _ => v = .bl true) fun _ _ _ => False) ∧
        ∀ base : Heap, K.In base → base.Ns mainGlobals mg → FnG l.prog w K mg base k fa fd [x] sp) :
    PySem.W.WalkO q loose XP YP l.row.toRowW d [] (fun f vs => PySem.call f vs) := by
  refine Att.attach_call hn hdf fun w s0 s1 mg mb fa o pm cd doc a vs ns G Y ho hd hcd hmg hobj hints hlen hg => ?_
  obtain ⟨K, fd, sp, KX, hb, hsp, hF⟩ := F w mg fa _ Y G.T.g hmg
  exact endG KX G.T.g G.T.b G.T.builtins G.T.nolimit hg hobj hints (Nat.le_trans hlen hn2) hr hF hb fun H hO hS => hsp H a ns hlen hO hS
end V1
set_option Elab.async false
set_option linter.all false
set_option maxRecDepth 100000
set_option maxHeartbeats 4000000
/-! What an expression, a statement comes to, told by DATA: the slots hold data, an expression gives data, the heap grows. -/
namespace V1
open PySem PySem.Spec PyProof.Rows L2

/-- a thing that neither is a dict of draws nor a table of code objects -/
def Fx (o : HO) : Prop := (∀ kvs, o ≠ .dK kvs) ∧ ∀ ps, o ≠ .tbl ps
theorem fxLst {xs : List V} : Fx (.lst xs) := ⟨fun _ z => (by cases z), fun _ z => (by cases z)⟩
theorem fxFrz {o : Obj} {u : HO} : Fx (.frz o u) := ⟨fun _ z => (by cases z), fun _ z => (by cases z)⟩
/-- how {} is told -/
abbrev emD : PyData := .dict [(.none, .none)]
theorem fxTup {xs : List V} : Fx (.tup xs) := ⟨fun _ z => (by cases z), fun _ z => (by cases z)⟩
/-! ### data that stand in tracked objects, away from the addresses of A, or as tuples of the written part -/
/-- a tuple of the written part -/
def KT (K : PySem.W.Frag) (a : Addr) (xs : List V) : Prop := ∃ (o : Obj) (its : Array Value) (n : Nat), K.lookup a = some o ∧ o.cls = .type "tuple" ∧ o.data = .seq its n ∧ its.size ≤ sizeLine ∧ Vals xs its.toList
theorem KT.sq {K : PySem.W.Frag} {a : Addr} {xs : List V} (h : KT K a xs) (H : Hp) : SqT K H a xs := .inr h
mutual
inductive Dv (K : PySem.W.Frag) (A : Addr → Prop) (H : Hp) : V → PyData → Prop
  | non : Dv K A H .non .none
  | bl (b : Bool) : Dv K A H (.bl b) (.bool b)
  | int (i : Int) : Dv K A H (.int i) (.int i)
  | str (x : Str) : Dv K A H (.str x) (.str x)
  | lst {a : Addr} {xs : List V} {ds : List PyData} : ¬ A a → H a = some (.lst xs) → DvAll K A H xs ds → Dv K A H (.ref a) (.list ds)
  | tup {a : Addr} {xs : List V} {ds : List PyData} : ¬ A a → H a = some (.tup xs) → DvAll K A H xs ds → Dv K A H (.ref a) (.tuple ds)
  | ktup {a : Addr} {xs : List V} {ds : List PyData} : KT K a xs → DvAll K A H xs ds → Dv K A H (.ref a) (.tuple ds)
  | emp {a : Addr} {o : Obj} : ¬ A a → H a = some (.frz o (.dK [])) → Dv K A H (.ref a) (.dict [(.none, .none)])
inductive DvAll (K : PySem.W.Frag) (A : Addr → Prop) (H : Hp) : List V → List PyData → Prop
  | nil : DvAll K A H [] []
  | cons {v : V} {vs : List V} {d : PyData} {ds : List PyData} : Dv K A H v d → DvAll K A H vs ds → DvAll K A H (v :: vs) (d :: ds)
end
mutual
theorem Dv.map {K : PySem.W.Frag} {A A' : Addr → Prop} {H H' : Hp} (f : ∀ a o, ¬ A a → H a = some o → Fx o → ¬ A' a ∧ H' a = some o) : ∀ {d : PyData} {v : V}, Dv K A H v d → Dv K A' H' v d
  | .none, _, h => by cases h; exact .non
  | .bool b, _, h => by cases h; exact .bl b
  | .int i, _, h => by cases h; exact .int i
  | .str x, _, h => by cases h; exact .str x
  | .list ds, _, h => by
    cases h with
    | lst n e r =>
      obtain ⟨n2, e2⟩ := f _ _ n e fxLst
      exact .lst n2 e2 (DvAll.map f r)
  | .tuple ds, _, h => by
    cases h with
    | tup n e r =>
      obtain ⟨n2, e2⟩ := f _ _ n e fxTup
      exact .tup n2 e2 (DvAll.map f r)
    | ktup e r => exact .ktup e (DvAll.map f r)
  | .dict _, _, h => by
    cases h with
    | emp n e =>
      obtain ⟨n2, e2⟩ := f _ _ n e fxFrz
      exact .emp n2 e2
theorem DvAll.map {K : PySem.W.Frag} {A A' : Addr → Prop} {H H' : Hp} (f : ∀ a o, ¬ A a → H a = some o → Fx o → ¬ A' a ∧ H' a = some o) : ∀ {ds : List PyData} {vs : List V}, DvAll K A H vs ds → DvAll K A' H' vs ds
  | [], _, h => by cases h; exact .nil
  | d :: ds, _, h => by
    cases h with
    | cons h1 h2 => exact .cons (Dv.map f h1) (DvAll.map f h2)
end
mutual
theorem Dv.dp {K : PySem.W.Frag} {A : Addr → Prop} {H : Hp} : ∀ {d : PyData} {v : V}, Dv K A H v d → d.hasDict = false → Dp K H v d
  | .none, _, h, _ => by cases h; exact .non
  | .bool b, _, h, _ => by cases h; exact .bl b
  | .int i, _, h, _ => by cases h; exact .int i
  | .str x, _, h, _ => by cases h; exact .str x
  | .list ds, _, h, hd => by
    have hd2 : PyData.hasDictAll ds = false := by simpa only [PyData.hasDict] using hd
    cases h with
    | lst n e r => exact .lst (SqL.of e) (DvAll.dp r hd2)
  | .tuple ds, _, h, hd => by
    have hd2 : PyData.hasDictAll ds = false := by simpa only [PyData.hasDict] using hd
    cases h with
    | tup n e r => exact .tup (SqT.of e) (DvAll.dp r hd2)
    | ktup e r => exact .tup (e.sq H) (DvAll.dp r hd2)
  | .dict _, _, h, hd => by simp [PyData.hasDict] at hd
theorem DvAll.dp {K : PySem.W.Frag} {A : Addr → Prop} {H : Hp} : ∀ {ds : List PyData} {vs : List V}, DvAll K A H vs ds → PyData.hasDictAll ds = false → DpAll K H vs ds
  | [], _, h, _ => by cases h; exact .nil
  | d :: ds, _, h, hd => by
    simp only [PyData.hasDictAll, Bool.or_eq_false_iff] at hd
    cases h with
    | cons h1 h2 => exact .cons (Dv.dp h1 hd.1) (DvAll.dp h2 hd.2)
end
section
variable {K : PySem.W.Frag} {A : Addr → Prop} {H : Hp} {xs ys : List V} {ds es : List PyData}
theorem DvAll.length (h : DvAll K A H xs ds) : xs.length = ds.length := by
  induction ds generalizing xs with
  | nil => cases h; rfl
  | cons d ds ih => cases h with | cons h1 h2 => rw [List.length_cons, List.length_cons, ih h2]
theorem DvAll.app (h : DvAll K A H xs ds) (h2 : DvAll K A H ys es) : DvAll K A H (xs ++ ys) (ds ++ es) := by
  induction ds generalizing xs with
  | nil => cases h; exact h2
  | cons d ds ih => cases h with | cons a b => exact .cons a (ih b)
theorem DvAll.get (h : DvAll K A H xs ds) {i : Nat} {d : PyData} (e : ds[i]? = some d) : ∃ x, xs[i]? = some x ∧ Dv K A H x d := by
  induction ds generalizing xs i with
  | nil => simp at e
  | cons d0 ds ih =>
    cases h with
    | cons a b =>
      cases i with
      | zero => simp at e; subst e; exact ⟨_, rfl, a⟩
      | succ i => simpa using ih b (by simpa using e)
theorem DvAll.getx (h : DvAll K A H xs ds) {i : Nat} {x : V} (e : xs[i]? = some x) : ∃ d, ds[i]? = some d ∧ Dv K A H x d := by
  induction ds generalizing xs i with
  | nil => cases h; simp at e
  | cons d0 ds ih =>
    cases h with
    | cons a b =>
      cases i with
      | zero => simp at e; subst e; exact ⟨_, rfl, a⟩
      | succ i => simpa using ih b (by simpa using e)
theorem DvAll.take (n : Nat) (h : DvAll K A H xs ds) : DvAll K A H (xs.take n) (ds.take n) := by
  induction ds generalizing xs n with
  | nil => cases h; simp; exact .nil
  | cons d0 ds ih =>
    cases h with
    | cons a b =>
      cases n with
      | zero => exact .nil
      | succ n => exact .cons a (ih n b)
theorem DvAll.drop (n : Nat) (h : DvAll K A H xs ds) : DvAll K A H (xs.drop n) (ds.drop n) := by
  induction ds generalizing xs n with
  | nil => cases h; simp; exact .nil
  | cons d0 ds ih =>
    cases h with
    | cons a b =>
      cases n with
      | zero => exact .cons a b
      | succ n => exact ih n b
theorem DvAll.set {i : Nat} {x : V} {d : PyData} (h : DvAll K A H xs ds) (hx : Dv K A H x d) : DvAll K A H (xs.set i x) (ds.set i d) := by
  induction ds generalizing xs i with
  | nil => cases h; exact .nil
  | cons d0 ds ih =>
    cases h with
    | cons a b =>
      cases i with
      | zero => exact .cons hx b
      | succ i => exact .cons a (ih b)
theorem DvAll.cut (h : DvAll K A H xs ds) (lo hi : Option Int) : DvAll K A H (cutV xs lo hi) ((ds.drop (HT.sIx ds.length 0 lo)).take (HT.sIx ds.length ds.length hi - HT.sIx ds.length 0 lo)) := by
  unfold cutV
  rw [h.length]
  exact (h.drop _).take _
theorem DvAll.ints {ns : List Int} (h : DvAll K A H xs (ns.map PyData.int)) : xs = ns.map V.int := by
  induction ns generalizing xs with
  | nil => cases h; rfl
  | cons n ns ih =>
    cases h with
    | cons a b =>
      cases a
      rw [ih b]
      rfl
theorem DvAll.rep (n : Nat) (h : DvAll K A H xs ds) : DvAll K A H (List.replicate n xs).flatten (List.replicate n ds).flatten := by
  induction n with
  | zero => exact .nil
  | succ n ih => rw [List.replicate_succ, List.replicate_succ, List.flatten_cons, List.flatten_cons]; exact h.app ih
end

/-! ### how a heap goes on -/
structure Rl where
  K : PySem.W.Frag
  G : Nat → Hp → Prop
  R : Nat → Hp → Hp → Prop
  M : V → Prop
  gle : ∀ {a b H}, a ≤ b → G b H → G a H
  rle : ∀ {a b H H'}, a ≤ b → R a H H' → R b H H'
  gr : ∀ {a b H H'}, G (a + b) H → R a H H' → G b H'
  tr : ∀ {a b H H1 H2}, R a H H1 → R b H1 H2 → R (a + b) H H2
  same : ∀ {H H'}, G 0 H → Same H H' → R 0 H H'
  fresh : ∀ {a H H' q o}, R a H H' → H q = none → (H' q = none ∨ ∃ xs, H' q = some (.lst xs)) → R a H (upd H' q o)
  keep : ∀ {a H H' b o}, R a H H' → H b = some o → Fx o → H' b = some o
  free : ∀ {a H H' q}, R a H H' → H' q = none → H q = none
  mref : ∀ {v}, M v → ∃ a, v = .ref a
abbrev mark : PyData := .dict []
def pureL (K : PySem.W.Frag) : Rl where
  K := K
  G := fun _ _ => True
  R := fun _ H H' => Same H H'
  M := fun _ => False
  gle := fun _ _ => trivial
  rle := fun _ r => r
  gr := fun _ _ => trivial
  tr := fun a b => a.trans b
  same := fun _ s => s
  fresh := fun s h _ b o e => by rw [upd_ne (ne_of_none e h)]; exact s b o e
  keep := fun s e _ => s _ _ e
  free := fun s e => Same.free s e
  mref := fun h => h.elim

section
variable (L : Rl)
def Dq (A : Addr → Prop) (H : Hp) (v : V) (d : PyData) : Prop := (d = mark ∧ L.M v) ∨ Dv L.K A H v d
def EnvOk (A : Addr → Prop) (σ : L2.St) (H : Hp) (Γ : List (Option PyData)) : Prop := σ.length = Γ.length ∧ ∀ (i : Nat) (d : PyData), Γ[i]? = some (some d) → ∃ v, σ[i]? = some (some v) ∧ Dq L A H v d
def Inn (A : Addr → Prop) (H : Hp) : Prop := ∀ b, A b → H b ≠ none
def EvG (n : Nat) (te : TE) (Γ : List (Option PyData)) (P : PyData → Prop) : Prop := ∀ A σ H, Inn A H → EnvOk L A σ H Γ → L.G n H → ∀ Q : VK, (∀ v d H', L.R n H H' → Dq L A H' v d → P d → Q v H') → te σ H Q
def EvD (te : TE) (Γ : List (Option PyData)) (d : PyData) : Prop := EvG L 0 te Γ (fun x => x = d)
def EaG (n : Nat) (ta : TA) (Γ : List (Option PyData)) (P : List PyData → Prop) : Prop := ∀ A σ H, Inn A H → EnvOk L A σ H Γ → L.G n H → ∀ Q : List V → Hp → Prop, (∀ vs ds H', L.R n H H' → vs.length = ds.length → (∀ (i : Nat) d, ds[i]? = some d → ∃ v, vs[i]? = some v ∧ Dq L A H' v d) → P ds → Q vs H') → ta σ H Q
def EaD (ta : TA) (Γ : List (Option PyData)) (ds : List PyData) : Prop := EaG L 0 ta Γ (fun x => x = ds)
def EtD (tt : TT) (Γ : List (Option PyData)) (b : Bool) : Prop := ∀ A σ H, Inn A H → EnvOk L A σ H Γ → L.G 0 H → ∀ Q : Bool → Hp → Prop, (∀ H', L.R 0 H H' → Q b H') → tt σ H Q
def EtG (n : Nat) (tt : TT) (Γ : List (Option PyData)) (P : Bool → Prop) : Prop := ∀ A σ H, Inn A H → EnvOk L A σ H Γ → L.G n H → ∀ Q : Bool → Hp → Prop, (∀ b H', L.R n H H' → P b → Q b H') → tt σ H Q
def SG (n : Nat) (ts : TS) (Γ : List (Option PyData)) (N : List (Option PyData) → Prop) (Rt : PyData → Prop) : Prop := ∀ A σ H, Inn A H → EnvOk L A σ H Γ → L.G n H → ∀ D : Ends,
  (∀ σ' H' Γ', L.R n H H' → EnvOk L A σ' H' Γ' → N Γ' → D.nx σ' H') → (∀ v d H', L.R n H H' → Dq L A H' v d → Rt d → D.rt v H') → ts D σ H
end
section
variable {K : PySem.W.Frag} {L : Rl} {A : Addr → Prop} {H H' : Hp} {v : V} {d : PyData} {σ : L2.St} {Γ : List (Option PyData)} {n a b : Nat}
theorem Dv.r (h : Dv K A H v d) (r : L.R n H H') : Dv K A H' v d := h.map fun _ _ na e k => ⟨na, L.keep r e k⟩
theorem DvAll.r {vs : List V} {ds : List PyData} (h : DvAll K A H vs ds) (r : L.R n H H') : DvAll K A H' vs ds := h.map fun _ _ na e k => ⟨na, L.keep r e k⟩
theorem Dq.r (h : Dq L A H v d) (r : L.R n H H') : Dq L A H' v d := h.imp (fun x => x) fun x => x.r r
theorem EnvOk.r (h : EnvOk L A σ H Γ) (r : L.R n H H') : EnvOk L A σ H' Γ := ⟨h.1, fun i d e => let ⟨v, h1, h2⟩ := h.2 i d e; ⟨v, h1, h2.r r⟩⟩
theorem Inn.r (h : Inn A H) (r : L.R n H H') : Inn A H' := fun b hb z => h b hb (L.free r z)
theorem Inn.no (h : Inn A H) {q : Addr} (e : H q = none) : ¬ A q := fun z => h q z e
theorem EnvOk.set (h : EnvOk L A σ H Γ) (hv : Dq L A H v d) (i : Nat) : EnvOk L A (σ.set i (some v)) H (Γ.set i (some d)) := by
  refine ⟨by rw [List.length_set, List.length_set]; exact h.1, fun j d' e => ?_⟩
  by_cases hj : i = j
  · subst hj
    have hl : i < Γ.length := by
      have := (List.getElem?_eq_some_iff.mp e).1
      rwa [List.length_set] at this
    rw [List.getElem?_set_self hl] at e
    have e1 : d = d' := Option.some.inj (Option.some.inj e)
    subst e1
    exact ⟨v, List.getElem?_set_self (by rw [h.1]; exact hl), hv⟩
  · rw [List.getElem?_set_ne hj] at e
    obtain ⟨w, h1, h2⟩ := h.2 j d' e
    exact ⟨w, by rw [List.getElem?_set_ne hj]; exact h1, h2⟩
theorem Dq.ne (h : Dq L A H v d) (hd : d ≠ mark) : Dv L.K A H v d := h.elim (fun z => absurd z.1 hd) fun z => z
theorem Dq.int {i : Int} (h : Dq L A H v (.int i)) : v = .int i := by
  have h1 := h.ne (by intro z; cases z)
  cases h1
  rfl
theorem Dq.str {i : Str} (h : Dq L A H v (.str i)) : v = .str i := by
  have h1 := h.ne (by intro z; cases z)
  cases h1
  rfl
theorem Dq.bool {i : Bool} (h : Dq L A H v (.bool i)) : v = .bl i := by
  have h1 := h.ne (by intro z; cases z)
  cases h1
  rfl
/-- a tuple, tracked or written -/
def TpAt (K : PySem.W.Frag) (A : Addr → Prop) (H : Hp) (a : Addr) (xs : List V) : Prop := (¬ A a ∧ H a = some (.tup xs)) ∨ KT K a xs
theorem TpAt.sq {K : PySem.W.Frag} {a : Addr} {xs : List V} (h : TpAt K A H a xs) : SqT K H a xs := h.elim (fun z => SqT.of z.2) fun z => z.sq H
theorem TpAt.dv {K : PySem.W.Frag} {a : Addr} {xs : List V} {ds : List PyData} (h : TpAt K A H a xs) (r : DvAll K A H xs ds) : Dv K A H (.ref a) (.tuple ds) := h.elim (fun z => .tup z.1 z.2 r) fun z => .ktup z r
theorem Dq.tuple {ds : List PyData} (h : Dq L A H v (.tuple ds)) : ∃ a xs, v = .ref a ∧ TpAt L.K A H a xs ∧ DvAll L.K A H xs ds := by
  have h1 := h.ne (by intro z; cases z)
  cases h1 with
  | tup n e r => exact ⟨_, _, rfl, .inl ⟨n, e⟩, r⟩
  | ktup e r => exact ⟨_, _, rfl, .inr e, r⟩
theorem Dq.list {ds : List PyData} (h : Dq L A H v (.list ds)) : ∃ a xs, v = .ref a ∧ ¬ A a ∧ H a = some (.lst xs) ∧ DvAll L.K A H xs ds := by
  have h1 := h.ne (by intro z; cases z)
  cases h1 with
  | lst n e r => exact ⟨_, _, rfl, n, e, r⟩
/-- the budget is a nought's -/
theorem Rl.g0 (h : L.G n H) : L.G 0 H := L.gle (Nat.zero_le _) h
theorem Rl.newR (g : L.G n H) {q : Addr} {o : HO} (e : H q = none) : L.R 0 H (upd H q o) := L.same (L.g0 g) fun b u z => by rw [upd_ne (ne_of_none z e)]; exact z
theorem Rl.refl (g : L.G n H) : L.R 0 H H := L.same (L.g0 g) (Same.refl H)
theorem Rl.gR (g : L.G (a + b) H) (r : L.R a H H') : L.G b H' := L.gr g r

/-! ### expressions -/
variable {te ta tb : TE} {t : TA} {tt tu : TT} {P P1 : PyData → Prop}
theorem EvG.mono {P' : PyData → Prop} (h : EvG L a te Γ P) (hn : a ≤ b) (hp : ∀ d, P d → P' d) : EvG L b te Γ P' := fun A σ H hi he hg Q q => h A σ H hi he (L.gle hn hg) Q fun v d H' r hd p => q v d H' (L.rle hn r) hd (hp d p)
theorem EvD.to {d' : PyData} (h : EvD L te Γ d) (e : d = d') : EvD L te Γ d' := e ▸ h
theorem eg_var {i : Nat} (e : Γ[i]? = some (some d)) : EvD L (tVar i) Γ d := fun A σ H hi he hg Q q => by
  obtain ⟨v, h1, h2⟩ := he.2 i d e
  exact ⟨v, h1, q v d H (Rl.refl hg) h2 rfl⟩
theorem eg_int {i : Int} : EvD L (tC (.int i)) Γ (.int i) := fun A σ H hi he hg Q q => q _ _ H (Rl.refl hg) (.inr (.int i)) rfl
theorem eg_str {i : Str} : EvD L (tC (.str i)) Γ (.str i) := fun A σ H hi he hg Q q => q _ _ H (Rl.refl hg) (.inr (.str i)) rfl
theorem eg_bl {i : Bool} : EvD L (tC (.bl i)) Γ (.bool i) := fun A σ H hi he hg Q q => q _ _ H (Rl.refl hg) (.inr (.bl i)) rfl
theorem eg_non : EvD L (tC .non) Γ .none := fun A σ H hi he hg Q q => q _ _ H (Rl.refl hg) (.inr .non) rfl
/-- what a two-place operation gives, by data -/
def OpS (L : Rl) (r : R2) (d1 d2 : PyData) (P : PyData → Prop) : Prop := ∀ A H x y, Inn A H → L.G 0 H → Dq L A H x d1 → Dq L A H y d2 → ∀ Q : VK, (∀ v d H', L.R 0 H H' → Dq L A H' v d → P d → Q v H') → r x y H Q
theorem eg_opG {r : R2} {P1 P2 P : PyData → Prop} (ha : EvG L a ta Γ P1) (hb : EvG L b tb Γ P2) (hr : ∀ d1 d2, P1 d1 → P2 d2 → OpS L r d1 d2 P) : EvG L (a + b) (tOp r ta tb) Γ P := fun A σ H hi he hg Q q =>
  ha A σ H hi he (L.gle (Nat.le_add_right _ _) hg) _ fun x d1 H1 r1 hx p1 => hb A σ H1 (hi.r r1) (he.r r1) (Rl.gR hg r1) _ fun y d2 H2 r2 hy p2 =>
    hr d1 d2 p1 p2 A H2 x y ((hi.r r1).r r2) (Rl.gR (b := 0) (Rl.gR (a := a) (b := b) hg r1) r2) (hx.r r2) hy Q fun v d H3 r3 hv p => q v d H3 (L.tr (b := 0) (L.tr r1 r2) r3) hv p
theorem eg_op {r : R2} {d1 d2 d : PyData} (ha : EvD L ta Γ d1) (hb : EvD L tb Γ d2) (hr : OpS L r d1 d2 (fun x => x = d)) : EvD L (tOp r ta tb) Γ d :=
  eg_opG (a := 0) (b := 0) ha hb fun x y e1 e2 => by rw [e1, e2]; exact hr
theorem os_I0 {g : Int → Int → Int} {i j : Int} : OpS L (rI0 fun i j => .int (g i j)) (.int i) (.int j) (fun x => x = .int (g i j)) := fun A H x y hi hg hx hy Q q => by
  obtain rfl := hx.int
  obtain rfl := hy.int
  exact ⟨i, j, rfl, rfl, q _ _ H (Rl.refl hg) (.inr (.int _)) rfl⟩
theorem os_I {C : Int → Int → Prop} {g : Int → Int → Int} {i j : Int} (hc : C i j) : OpS L (rI C fun i j => .int (g i j)) (.int i) (.int j) (fun x => x = .int (g i j)) := fun A H x y hi hg hx hy Q q => by
  obtain rfl := hx.int
  obtain rfl := hy.int
  exact ⟨i, j, rfl, rfl, hc, q _ _ H (Rl.refl hg) (.inr (.int _)) rfl⟩
theorem os_B0 {g : Int → Int → Bool} {i j : Int} : OpS L (rI0 fun i j => .bl (g i j)) (.int i) (.int j) (fun x => x = .bool (g i j)) := fun A H x y hi hg hx hy Q q => by
  obtain rfl := hx.int
  obtain rfl := hy.int
  exact ⟨i, j, rfl, rfl, q _ _ H (Rl.refl hg) (.inr (.bl _)) rfl⟩
theorem eg_add {i j : Int} (ha : EvD L ta Γ (.int i)) (hb : EvD L tb Γ (.int j)) : EvD L (tOp (rI0 fun i j => .int (i + j)) ta tb) Γ (.int (i + j)) := eg_op ha hb os_I0
theorem eg_sub {i j : Int} (ha : EvD L ta Γ (.int i)) (hb : EvD L tb Γ (.int j)) : EvD L (tOp (rI0 fun i j => .int (i - j)) ta tb) Γ (.int (i - j)) := eg_op ha hb os_I0
theorem eg_mul {i j : Int} (ha : EvD L ta Γ (.int i)) (hb : EvD L tb Γ (.int j)) (hc : CMulW i j) : EvD L (tOp (rI CMulW fun i j => .int (i * j)) ta tb) Γ (.int (i * j)) := eg_op ha hb (os_I hc)
theorem eg_div {i j : Int} (ha : EvD L ta Γ (.int i)) (hb : EvD L tb Γ (.int j)) (hc : CDivW i j) : EvD L (tOp (rI CDivW fun i j => .int (i / j)) ta tb) Γ (.int (i / j)) := eg_op ha hb (os_I hc)
theorem eg_mod {i j : Int} (ha : EvD L ta Γ (.int i)) (hb : EvD L tb Γ (.int j)) (hc : j ≠ 0) : EvD L (tOp (rI (fun _ j => j ≠ 0) fun i j => .int (i.fmod j)) ta tb) Γ (.int (i.fmod j)) := eg_op ha hb (os_I hc)
theorem eg_pow {i j : Int} (ha : EvD L ta Γ (.int i)) (hb : EvD L tb Γ (.int j)) (hc : CPow i j) : EvD L (tOp (rI CPow fun i j => .int (i ^ j.toNat)) ta tb) Γ (.int (i ^ j.toNat)) := eg_op ha hb (os_I hc)
theorem eg_lt {i j : Int} (ha : EvD L ta Γ (.int i)) (hb : EvD L tb Γ (.int j)) : EvD L (tOp (rI0 fun i j => .bl (decide (i < j))) ta tb) Γ (.bool (decide (i < j))) := eg_op ha hb os_B0
theorem eg_gt {i j : Int} (ha : EvD L ta Γ (.int i)) (hb : EvD L tb Γ (.int j)) : EvD L (tOp (rI0 fun i j => .bl (decide (j < i))) ta tb) Γ (.bool (decide (j < i))) := eg_op ha hb os_B0
theorem eg_ge {i j : Int} (ha : EvD L ta Γ (.int i)) (hb : EvD L tb Γ (.int j)) : EvD L (tOp (rI0 fun i j => .bl (decide (j ≤ i))) ta tb) Γ (.bool (decide (j ≤ i))) := eg_op ha hb os_B0
theorem eg_eqI {i j : Int} (ha : EvD L ta Γ (.int i)) (hb : EvD L tb Γ (.int j)) : EvD L (tOp rEq ta tb) Γ (.bool (decide (i = j))) := eg_op ha hb fun A H x y hi hg hx hy Q q => by
  obtain rfl := hx.int
  obtain rfl := hy.int
  refine ⟨rfl, ?_⟩
  have e : decide (V.int i = V.int j) = decide (i = j) := by
    by_cases z : i = j
    · rw [z]; simp
    · rw [decide_eq_false z]; exact decide_eq_false fun y => z (by injection y)
  rw [e]
  exact q _ _ H (Rl.refl hg) (.inr (.bl _)) rfl
theorem eg_neI {i j : Int} (ha : EvD L ta Γ (.int i)) (hb : EvD L tb Γ (.int j)) : EvD L (tOp rNe ta tb) Γ (.bool (!decide (i = j))) := eg_op ha hb fun A H x y hi hg hx hy Q q => by
  obtain rfl := hx.int
  obtain rfl := hy.int
  refine ⟨rfl, ?_⟩
  have e : decide (V.int i = V.int j) = decide (i = j) := by
    by_cases z : i = j
    · rw [z]; simp
    · rw [decide_eq_false z]; exact decide_eq_false fun y => z (by injection y)
  rw [e]
  exact q _ _ H (Rl.refl hg) (.inr (.bl _)) rfl
theorem eg_eqS {i j : Str} (ha : EvD L ta Γ (.str i)) (hb : EvD L tb Γ (.str j)) : EvD L (tOp rEq ta tb) Γ (.bool (decide (i = j))) := eg_op ha hb fun A H x y hi hg hx hy Q q => by
  obtain rfl := hx.str
  obtain rfl := hy.str
  refine ⟨rfl, ?_⟩
  have e : decide (V.str i = V.str j) = decide (i = j) := by
    by_cases z : i = j
    · rw [z]; simp
    · rw [decide_eq_false z]; exact decide_eq_false fun y => z (by injection y)
  rw [e]
  exact q _ _ H (Rl.refl hg) (.inr (.bl _)) rfl
theorem eg_neg {i : Int} (ha : EvD L ta Γ (.int i)) : EvD L (tUn (rU fun i => .int (-i)) ta) Γ (.int (-i)) := fun A σ H hi he hg Q q => ha A σ H hi he hg _ fun x d1 H1 r1 hx p1 => by
  subst p1
  obtain rfl := hx.int
  exact ⟨i, rfl, q _ _ H1 r1 (.inr (.int _)) rfl⟩
theorem os_ixT {ds : List PyData} {i : Int} (h : atI ds i = some d) : OpS L (rIxT L.K) (.tuple ds) (.int i) (fun x => x = d) := fun A H x y hi hg hx hy Q q => by
  obtain ⟨p, xs, rfl, e, r⟩ := hx.tuple
  obtain rfl := hy.int
  unfold atI at h
  cases e2 : ixN ds.length i with
  | none => rw [e2] at h; cases h
  | some j =>
    rw [e2] at h
    obtain ⟨v, hv, dv⟩ := r.get (i := j) h
    refine ⟨p, xs, i, v, rfl, rfl, e.sq, ?_, q v d H (Rl.refl hg) (.inr dv) rfl⟩
    unfold atI
    rw [r.length, e2]
    exact hv
theorem os_ixL {ds : List PyData} {i : Int} (h : atI ds i = some d) : OpS L (rIxL L.K) (.list ds) (.int i) (fun x => x = d) := fun A H x y hi hg hx hy Q q => by
  obtain ⟨p, xs, rfl, na, e, r⟩ := hx.list
  obtain rfl := hy.int
  unfold atI at h
  cases e2 : ixN ds.length i with
  | none => rw [e2] at h; cases h
  | some j =>
    rw [e2] at h
    obtain ⟨v, hv, dv⟩ := r.get (i := j) h
    refine ⟨p, xs, i, v, rfl, rfl, SqL.of e, ?_, q v d H (Rl.refl hg) (.inr dv) rfl⟩
    unfold atI
    rw [r.length, e2]
    exact hv
theorem eg_ixT {ds : List PyData} {i : Int} (ha : EvD L ta Γ (.tuple ds)) (hb : EvD L tb Γ (.int i)) (h : atI ds i = some d) : EvD L (tOp (rIxT L.K) ta tb) Γ d := eg_op ha hb (os_ixT h)
theorem eg_ixL {ds : List PyData} {i : Int} (ha : EvD L ta Γ (.list ds)) (hb : EvD L tb Γ (.int i)) (h : atI ds i = some d) : EvD L (tOp (rIxL L.K) ta tb) Γ d := eg_op ha hb (os_ixL h)
theorem os_cat {ds es : List PyData} (hl : ds.length + es.length ≤ 100000) : OpS L rCat (.list ds) (.list es) (fun x => x = .list (ds ++ es)) := fun A H x y hi hg hx hy Q q => by
  obtain ⟨p, xs, rfl, na, e, r⟩ := hx.list
  obtain ⟨p2, ys, rfl, na2, e2, r2⟩ := hy.list
  refine ⟨p, p2, xs, ys, rfl, rfl, e, e2, Nat.le_trans (by rw [r.length, r2.length]; exact hl) (by decide), fun l hl2 => ?_⟩
  have rr := Rl.newR (o := .lst (xs ++ ys)) hg hl2
  exact q _ _ _ rr (.inr (.lst (hi.no hl2) upd_same ((r.app r2).r rr))) rfl
theorem eg_cat {ds es : List PyData} (ha : EvD L ta Γ (.list ds)) (hb : EvD L tb Γ (.list es)) (hl : ds.length + es.length ≤ 100000) : EvD L (tOp rCat ta tb) Γ (.list (ds ++ es)) := eg_op ha hb (os_cat hl)
theorem os_rep {ds : List PyData} {i : Int} (h0 : 0 ≤ i) (h1 : i ≤ 1000) (hl : ds.length ≤ 100) : OpS L rRep (.list ds) (.int i) (fun x => x = .list (List.replicate i.toNat ds).flatten) := fun A H x y hi hg hx hy Q q => by
  obtain ⟨p, xs, rfl, na, e, r⟩ := hx.list
  obtain rfl := hy.int
  refine ⟨p, i, xs, rfl, rfl, e, by omega, by omega, Nat.le_trans (Nat.mul_le_mul (by rw [r.length]; exact hl) (show i.toNat ≤ 1000 by omega)) (by decide), fun l hl2 => ?_⟩
  have rr := Rl.newR (o := .lst (List.replicate i.toNat xs).flatten) hg hl2
  exact q _ _ _ rr (.inr (.lst (hi.no hl2) upd_same ((r.rep _).r rr))) rfl
theorem eg_rep {ds : List PyData} {i : Int} (ha : EvD L ta Γ (.list ds)) (hb : EvD L tb Γ (.int i)) (h0 : 0 ≤ i) (h1 : i ≤ 1000) (hl : ds.length ≤ 100) : EvD L (tOp rRep ta tb) Γ (.list (List.replicate i.toNat ds).flatten) := eg_op ha hb (os_rep h0 h1 hl)
end
end V1
set_option Elab.async false
set_option linter.all false
set_option maxRecDepth 100000
set_option maxHeartbeats 4000000
/-! The rest of the readings by data: slices, displays, calls, comprehensions, statements, loops. -/
namespace V1
open PySem PySem.Spec PyProof.Rows L2

def cutD (ds : List PyData) (lo hi : Option Int) : List PyData := (ds.drop (HT.sIx ds.length 0 lo)).take (HT.sIx ds.length ds.length hi - HT.sIx ds.length 0 lo)
theorem cut_neg {ds : List PyData} {k : Nat} (hk : 0 < k) (h : k ≤ ds.length) : cutD ds none (some (-(k : Int))) = ds.take (ds.length - k) := by
  unfold cutD
  have e : HT.sIx ds.length ds.length (some (-(k : Int))) = ds.length - k := by
    show (if (-(k : Int)) < 0 then ((-(k : Int)) + (ds.length : Int)).toNat else min (-(k : Int)).toNat ds.length) = _
    rw [if_pos (by omega)]
    omega
  rw [e]
  show (ds.drop 0).take (ds.length - k - 0) = _
  simp
theorem cut_last {ds : List PyData} (h : 0 < ds.length) : cutD ds (some (-1)) none = ds.drop (ds.length - 1) := by
  unfold cutD
  have e : HT.sIx ds.length 0 (some (-1)) = ds.length - 1 := by
    show (if (-1 : Int) < 0 then ((-1 : Int) + (ds.length : Int)).toNat else min (-1 : Int).toNat ds.length) = _
    rw [if_pos (by omega)]
    omega
  rw [e]
  show (ds.drop (ds.length - 1)).take (ds.length - (ds.length - 1)) = _
  rw [List.take_of_length_le (by rw [List.length_drop]; omega)]
def nomk : List PyData → Bool
  | [] => true
  | .dict [] :: _ => false
  | _ :: r => nomk r
theorem nomk_ne {ds : List PyData} (h : nomk ds = true) : ∀ (i : Nat) d, ds[i]? = some d → d ≠ mark := by
  induction ds with
  | nil => intro i d e; simp at e
  | cons d0 r ih =>
    intro i d e z
    subst z
    cases i with
    | zero => simp at e; subst e; simp [nomk] at h
    | succ i =>
      refine ih ?_ i _ (by simpa using e) rfl
      cases d0 with
      | dict k => cases k with
        | nil => simp [nomk] at h
        | cons a b => simpa [nomk] using h
      | _ => simpa [nomk] using h

section
variable {L : Rl} {A : Addr → Prop} {H H' : Hp} {v : V} {d : PyData} {σ : L2.St} {Γ : List (Option PyData)} {n a b c : Nat} {te ta tb : TE} {t : TA} {tt tu : TT} {P P1 P2 : PyData → Prop}

/-! ### slices -/
def EoD (L : Rl) (to : TO) (Γ : List (Option PyData)) (o : Option Int) : Prop := ∀ A σ H, Inn A H → EnvOk L A σ H Γ → L.G 0 H → ∀ Q : Option Int → Hp → Prop, (∀ H', L.R 0 H H' → Q o H') → to σ H Q
theorem eo_none : EoD L tNoPart Γ none := fun A σ H hi he hg Q q => q H (Rl.refl hg)
theorem eo_some {i : Int} (h : EvD L te Γ (.int i)) : EoD L (tPart te) Γ (some i) := fun A σ H hi he hg Q q => h A σ H hi he hg _ fun v d H1 r1 hv p => by
  subst p
  obtain rfl := hv.int
  exact ⟨i, rfl, q H1 r1⟩
theorem eg_slT {ds : List PyData} {tl th : TO} {lo0 hi0 : Option Int} (h : EvD L te Γ (.tuple ds)) (h1 : EoD L tl Γ lo0) (h2 : EoD L th Γ hi0) (hw : ¬ (HT.sIx ds.length 0 lo0 = 0 ∧ HT.sIx ds.length ds.length hi0 = ds.length)) :
    EvD L (tSl (rSlT L.K) te tl th) Γ (.tuple (cutD ds lo0 hi0)) := fun A σ H hi he hg Q q => h A σ H hi he hg _ fun x d1 H1 r1 hx p => by
  subst p
  refine h1 A σ H1 (hi.r r1) (he.r r1) (Rl.gR (b := 0) hg r1) _ fun H2 r2 => h2 A σ H2 ((hi.r r1).r r2) ((he.r r1).r r2) (Rl.gR (b := 0) (Rl.gR (b := 0) hg r1) r2) _ fun H3 r3 => ?_
  have g3 : L.G 0 H3 := Rl.gR (b := 0) (Rl.gR (b := 0) (Rl.gR (b := 0) hg r1) r2) r3
  obtain ⟨p, xs, rfl, e, r⟩ := ((hx.r r2).r r3).tuple
  refine ⟨p, xs, rfl, e.sq, by rw [r.length]; exact hw, fun q1 hq => ?_⟩
  have rr := Rl.newR (o := .tup (cutV xs lo0 hi0)) g3 hq
  exact q _ _ _ (L.tr (a := 0) (b := 0) (L.tr (a := 0) (b := 0) (L.tr (a := 0) (b := 0) r1 r2) r3) rr) (.inr (.tup ((((hi.r r1).r r2).r r3).no hq) upd_same ((r.cut lo0 hi0).r rr))) rfl
theorem eg_slL {ds : List PyData} {tl th : TO} {lo0 hi0 : Option Int} (h : EvD L te Γ (.list ds)) (h1 : EoD L tl Γ lo0) (h2 : EoD L th Γ hi0) : EvD L (tSl (rSlL L.K) te tl th) Γ (.list (cutD ds lo0 hi0)) := fun A σ H hi he hg Q q => h A σ H hi he hg _ fun x d1 H1 r1 hx p => by
  subst p
  refine h1 A σ H1 (hi.r r1) (he.r r1) (Rl.gR (b := 0) hg r1) _ fun H2 r2 => h2 A σ H2 ((hi.r r1).r r2) ((he.r r1).r r2) (Rl.gR (b := 0) (Rl.gR (b := 0) hg r1) r2) _ fun H3 r3 => ?_
  have g3 : L.G 0 H3 := Rl.gR (b := 0) (Rl.gR (b := 0) (Rl.gR (b := 0) hg r1) r2) r3
  obtain ⟨p, xs, rfl, na, e, r⟩ := ((hx.r r2).r r3).list
  refine ⟨p, xs, rfl, SqL.of e, fun q1 hq => ?_⟩
  have rr := Rl.newR (o := .lst (cutV xs lo0 hi0)) g3 hq
  exact q _ _ _ (L.tr (a := 0) (b := 0) (L.tr (a := 0) (b := 0) (L.tr (a := 0) (b := 0) r1 r2) r3) rr) (.inr (.lst ((((hi.r r1).r r2).r r3).no hq) upd_same ((r.cut lo0 hi0).r rr))) rfl

/-! ### arguments, displays -/
theorem ea_nil : EaD L tNil Γ [] := fun A σ H hi he hg Q q => q [] [] H (Rl.refl hg) rfl (fun i d e => by simp at e) rfl
theorem ea_consG {P1 : PyData → Prop} {P2 : List PyData → Prop} (h : EvG L a te Γ P1) (hr : EaG L b t Γ P2) : EaG L (a + b) (tCons te t) Γ (fun ds => ∃ d r, ds = d :: r ∧ P1 d ∧ P2 r) := fun A σ H hi he hg Q q =>
  h A σ H hi he (L.gle (Nat.le_add_right _ _) hg) _ fun x d H1 r1 hx p1 => hr A σ H1 (hi.r r1) (he.r r1) (Rl.gR hg r1) _ fun xs ds H2 r2 hl hxs p2 =>
    q (x :: xs) (d :: ds) H2 (L.tr r1 r2) (by rw [List.length_cons, List.length_cons, hl]) (fun i d' e => by
      cases i with
      | zero => simp at e; subst e; exact ⟨x, rfl, hx.r r2⟩
      | succ i => simpa using hxs i d' (by simpa using e)) ⟨d, ds, rfl, p1, p2⟩
theorem EaG.mono {P P' : List PyData → Prop} (h : EaG L a t Γ P) (hn : a ≤ b) (hp : ∀ d, P d → P' d) : EaG L b t Γ P' := fun A σ H hi he hg Q q => h A σ H hi he (L.gle hn hg) Q fun v d H' r hl hd p => q v d H' (L.rle hn r) hl hd (hp d p)
theorem ea_cons {ds : List PyData} (h : EvD L te Γ d) (hr : EaD L t Γ ds) : EaD L (tCons te t) Γ (d :: ds) := (ea_consG (a := 0) (b := 0) h hr).mono (Nat.le_refl _) fun x ⟨d1, r, e, e1, e2⟩ => by rw [e, e1, e2]
theorem all_of {A : Addr → Prop} {H : Hp} {vs : List V} {ds : List PyData} (hl : vs.length = ds.length) (h : ∀ (i : Nat) d, ds[i]? = some d → ∃ v, vs[i]? = some v ∧ Dq L A H v d) (hn : nomk ds = true) : DvAll L.K A H vs ds := by
  have hne := nomk_ne hn
  clear hn
  induction ds generalizing vs with
  | nil =>
    have e : vs = [] := List.length_eq_zero_iff.mp hl
    subst e
    exact .nil
  | cons d r ih =>
    cases vs with
    | nil => simp at hl
    | cons v vs =>
      obtain ⟨v', e, hv⟩ := h 0 d rfl
      simp at e
      subst e
      refine .cons (hv.ne (hne 0 d rfl)) (ih (by simpa using hl) (fun i d e => by simpa using h (i + 1) d (by simpa using e)) (fun i d e => hne (i + 1) d (by simpa using e)))
theorem eg_tup {ds : List PyData} (h : EaD L t Γ ds) (hn : nomk ds = true := by rfl) (hl : ds.length ≤ 1000 := by simp) : EvD L (tTup t) Γ (.tuple ds) := fun A σ H hi he hg Q q => h A σ H hi he hg _ fun vs ds' H1 r1 l hv p => by
  subst p
  refine ⟨Nat.le_trans (by rw [l]; exact hl) (by decide), fun p hp => ?_⟩
  have rr := Rl.newR (o := .tup vs) (Rl.gR (b := 0) hg r1) hp
  exact q _ _ _ (L.tr (a := 0) (b := 0) r1 rr) (.inr (.tup ((hi.r r1).no hp) upd_same ((all_of l hv hn).r rr))) rfl
theorem eg_lst {ds : List PyData} (h : EaD L t Γ ds) (hn : nomk ds = true := by rfl) (hl : ds.length ≤ 1000 := by simp) : EvD L (tLst t) Γ (.list ds) := fun A σ H hi he hg Q q => h A σ H hi he hg _ fun vs ds' H1 r1 l hv p => by
  subst p
  refine ⟨Nat.le_trans (by rw [l]; exact hl) (by decide), fun p hp => ?_⟩
  have rr := Rl.newR (o := .lst vs) (Rl.gR (b := 0) hg r1) hp
  exact q _ _ _ (L.tr (a := 0) (b := 0) r1 rr) (.inr (.lst ((hi.r r1).no hp) upd_same ((all_of l hv hn).r rr))) rfl

/-! ### built-ins -/
def CaS (L : Rl) (r : List V → Hp → VK → Prop) (ds : List PyData) (d : PyData) : Prop := ∀ A H vs, Inn A H → L.G 0 H → vs.length = ds.length → (∀ (i : Nat) d, ds[i]? = some d → ∃ v, vs[i]? = some v ∧ Dq L A H v d) → ∀ Q : VK, (∀ v H', L.R 0 H H' → Dq L A H' v d → Q v H') → r vs H Q
theorem eg_cb {r : List V → Hp → VK → Prop} {ds : List PyData} (h : EaD L t Γ ds) (hr : CaS L r ds d) : EvD L (tCB r t) Γ d := fun A σ H hi he hg Q q => h A σ H hi he hg _ fun vs ds' H1 r1 l hv p => by
  subst p
  exact hr A H1 vs (hi.r r1) (Rl.gR (b := 0) hg r1) l hv Q fun v H2 r2 hd => q v _ H2 (L.tr (a := 0) (b := 0) r1 r2) hd rfl
theorem one_of {vs : List V} (hl : vs.length = 1) (h : ∀ (i : Nat) d', [d][i]? = some d' → ∃ v, vs[i]? = some v ∧ Dq L A H v d') : ∃ v, vs = [v] ∧ Dq L A H v d := by
  obtain ⟨v, e, hv⟩ := h 0 d rfl
  cases vs with
  | nil => simp at hl
  | cons x r =>
    cases r with
    | nil => simp at e; subst e; exact ⟨x, rfl, hv⟩
    | cons y z => simp at hl
theorem two_of {d2 : PyData} {vs : List V} (hl : vs.length = 2) (h : ∀ (i : Nat) d', [d, d2][i]? = some d' → ∃ v, vs[i]? = some v ∧ Dq L A H v d') : ∃ v w, vs = [v, w] ∧ Dq L A H v d ∧ Dq L A H w d2 := by
  obtain ⟨v, e, hv⟩ := h 0 d rfl
  obtain ⟨w, e2, hw⟩ := h 1 d2 rfl
  cases vs with
  | nil => simp at hl
  | cons x r =>
    cases r with
    | nil => simp at hl
    | cons y z =>
      cases z with
      | nil => simp at e e2; subst e e2; exact ⟨x, y, rfl, hv, hw⟩
      | cons u z => simp at hl
theorem cs_lenL {ds : List PyData} : CaS L (fun xs H Q => ∃ p ys, xs = [.ref p] ∧ (SqL L.K H p ys ∨ SqT L.K H p ys) ∧ Q (.int ys.length) H) [.list ds] (.int ds.length) := fun A H vs hi hg hl h Q q => by
  obtain ⟨v, rfl, hv⟩ := one_of hl h
  obtain ⟨p, xs, rfl, na, e, r⟩ := hv.list
  refine ⟨p, xs, rfl, .inl (SqL.of e), ?_⟩
  rw [r.length]
  exact q _ H (Rl.refl hg) (.inr (.int _))
theorem cs_lenT {ds : List PyData} : CaS L (fun xs H Q => ∃ p ys, xs = [.ref p] ∧ (SqL L.K H p ys ∨ SqT L.K H p ys) ∧ Q (.int ys.length) H) [.tuple ds] (.int ds.length) := fun A H vs hi hg hl h Q q => by
  obtain ⟨v, rfl, hv⟩ := one_of hl h
  obtain ⟨p, xs, rfl, e, r⟩ := hv.tuple
  refine ⟨p, xs, rfl, .inr (e.sq), ?_⟩
  rw [r.length]
  exact q _ H (Rl.refl hg) (.inr (.int _))
theorem cs_gcd {i j : Int} : CaS L rGcd [.int i, .int j] (.int ((Nat.gcd i.natAbs j.natAbs : Nat) : Int)) := fun A H vs hi hg hl h Q q => by
  obtain ⟨v, w, rfl, hv, hw⟩ := two_of hl h
  obtain rfl := hv.int
  obtain rfl := hw.int
  exact ⟨i, j, rfl, q _ H (Rl.refl hg) (.inr (.int _))⟩
theorem cs_lcm {i j : Int} (h1 : i.natAbs < 2 ^ 64) (h2 : j.natAbs < 2 ^ 64) : CaS L rLcm [.int i, .int j] (.int ((Nat.lcm i.natAbs j.natAbs : Nat) : Int)) := fun A H vs hi hg hl h Q q => by
  obtain ⟨v, w, rfl, hv, hw⟩ := two_of hl h
  obtain rfl := hv.int
  obtain rfl := hw.int
  exact ⟨i, j, rfl, h1, h2, q _ H (Rl.refl hg) (.inr (.int _))⟩
theorem cs_int {i : Int} : CaS L (fun xs H Q => (∃ i, xs = [.int i] ∧ Q (.int i) H) ∨ ∃ k, xs = [.bl k] ∧ Q (.int (if k then 1 else 0)) H) [.int i] (.int i) := fun A H vs hi hg hl h Q q => by
  obtain ⟨v, rfl, hv⟩ := one_of hl h
  obtain rfl := hv.int
  exact .inl ⟨i, rfl, q _ H (Rl.refl hg) (.inr (.int _))⟩
theorem cs_intB {k : Bool} : CaS L (fun xs H Q => (∃ i, xs = [.int i] ∧ Q (.int i) H) ∨ ∃ k, xs = [.bl k] ∧ Q (.int (if k then 1 else 0)) H) [.bool k] (.int (if k then 1 else 0)) := fun A H vs hi hg hl h Q q => by
  obtain ⟨v, rfl, hv⟩ := one_of hl h
  obtain rfl := hv.bool
  exact .inr ⟨k, rfl, q _ H (Rl.refl hg) (.inr (.int _))⟩
theorem cs_abs {i : Int} : CaS L (fun xs H Q => ∃ i, xs = [.int i] ∧ Q (.int (if i < 0 then -i else i)) H) [.int i] (.int (i.natAbs : Int)) := fun A H vs hi hg hl h Q q => by
  obtain ⟨v, rfl, hv⟩ := one_of hl h
  obtain rfl := hv.int
  refine ⟨i, rfl, ?_⟩
  have e : (if i < 0 then -i else i) = (i.natAbs : Int) := by split <;> omega
  rw [e]
  exact q _ H (Rl.refl hg) (.inr (.int _))
theorem cs_min {i j : Int} : CaS L (fun xs H Q => ∃ i j, xs = [.int i, .int j] ∧ Q (.int (if j < i then j else i)) H) [.int i, .int j] (.int (min i j)) := fun A H vs hi hg hl h Q q => by
  obtain ⟨v, w, rfl, hv, hw⟩ := two_of hl h
  obtain rfl := hv.int
  obtain rfl := hw.int
  refine ⟨i, j, rfl, ?_⟩
  have e : (if j < i then j else i) = min i j := by split <;> omega
  rw [e]
  exact q _ H (Rl.refl hg) (.inr (.int _))
theorem cs_max {i j : Int} : CaS L (fun xs H Q => ∃ i j, xs = [.int i, .int j] ∧ Q (.int (if j > i then j else i)) H) [.int i, .int j] (.int (max i j)) := fun A H vs hi hg hl h Q q => by
  obtain ⟨v, w, rfl, hv, hw⟩ := two_of hl h
  obtain rfl := hv.int
  obtain rfl := hw.int
  refine ⟨i, j, rfl, ?_⟩
  have e : (if j > i then j else i) = max i j := by split <;> omega
  rw [e]
  exact q _ H (Rl.refl hg) (.inr (.int _))
theorem cs_sum {ns : List Int} : CaS L (rSum L.K) [.list (ns.map PyData.int)] (.int ns.sum) := fun A H vs hi hg hl h Q q => by
  obtain ⟨v, rfl, hv⟩ := one_of hl h
  obtain ⟨p, xs, rfl, na, e, r⟩ := hv.list
  rw [r.ints] at e
  exact ⟨p, ns, rfl, SqL.of e, q _ H (Rl.refl hg) (.inr (.int _))⟩
theorem cs_tuple {ds : List PyData} : CaS L (fun xs H Q => ∃ p ys, xs = [.ref p] ∧ ((SqL L.K H p ys ∧ ∀ l, H l = none → Q (.ref l) (upd H l (.tup ys))) ∨ (SqT L.K H p ys ∧ Q (.ref p) H))) [.list ds] (.tuple ds) := fun A H vs hi hg hl h Q q => by
  obtain ⟨v, rfl, hv⟩ := one_of hl h
  obtain ⟨p, xs, rfl, na, e, r⟩ := hv.list
  refine ⟨p, xs, rfl, .inl ⟨SqL.of e, fun l hl2 => ?_⟩⟩
  have rr := Rl.newR (o := .tup xs) hg hl2
  exact q _ _ rr (.inr (.tup (hi.no hl2) upd_same (r.r rr)))
theorem cs_reprL {ds : List PyData} (h1 : (PyData.list ds).showable = true) (h2 : (PyData.list ds).hasDict = false) (h3 : (PyData.list ds).depth ≤ 60) (h4 : (PyData.list ds).shown.length ≤ sizeLine) : CaS L (rRepr L.K) [.list ds] (.str (PyData.list ds).shown) := fun A H vs hi hg hl h Q q => by
  obtain ⟨v, rfl, hv⟩ := one_of hl h
  have hd := (hv.ne (by intro z; cases z)).dp (K := L.K) h2
  obtain ⟨p, xs, rfl, na, e, r⟩ := hv.list
  exact ⟨p, _, rfl, hd, h1, h2, h3, h4, q _ H (Rl.refl hg) (.inr (.str _))⟩
theorem cs_reprT {ds : List PyData} (h1 : (PyData.tuple ds).showable = true) (h2 : (PyData.tuple ds).hasDict = false) (h3 : (PyData.tuple ds).depth ≤ 60) (h4 : (PyData.tuple ds).shown.length ≤ sizeLine) : CaS L (rRepr L.K) [.tuple ds] (.str (PyData.tuple ds).shown) := fun A H vs hi hg hl h Q q => by
  obtain ⟨v, rfl, hv⟩ := one_of hl h
  have hd := (hv.ne (by intro z; cases z)).dp (K := L.K) h2
  obtain ⟨p, xs, rfl, e, r⟩ := hv.tuple
  exact ⟨p, _, rfl, hd, h1, h2, h3, h4, q _ H (Rl.refl hg) (.inr (.str _))⟩

/-! ### calls of own defs -/
def spL (L : Rl) (n : Nat) (Pre : List PyData → Prop) (Post : List PyData → PyData → Prop) : Sp := fun vs H Q _ => ∃ (A : Addr → Prop) (ds : List PyData), Inn A H ∧ vs.length = ds.length ∧
  (∀ (i : Nat) d, ds[i]? = some d → ∃ v, vs[i]? = some v ∧ Dq L A H v d) ∧ Pre ds ∧ L.G n H ∧ ∀ v d H', L.R n H H' → Dq L A H' v d → Post ds d → Q v H'
variable {Pre : List PyData → Prop} {Post : List PyData → PyData → Prop} {PA1 : List PyData → Prop} {E : XK}
theorem pure_dq (h : Dq (pureL L.K) A H v d) : Dq L A H v d := h.elim (fun z => z.2.elim) .inr
theorem eg_callP (ha : EaG L a t Γ PA1) (hp : ∀ ds, PA1 ds → Pre ds ∧ nomk ds = true) : EvG L a (tCall (spL (pureL L.K) 0 Pre Post) [] E t) Γ (fun d => ∃ ds, PA1 ds ∧ Post ds d) := fun A σ H hi he hg Q q => ha A σ H hi he hg _ fun vs ds H1 r1 l hv p => by
  obtain ⟨h1, h2⟩ := hp ds p
  show spL (pureL L.K) 0 Pre Post (vs ++ []) H1 Q E
  rw [List.append_nil]
  refine ⟨A, ds, hi.r r1, l, fun i d e => ?_, h1, trivial, fun v d H2 r2 hd hpo => q v d H2 (L.tr (b := 0) r1 (L.same (Rl.gR (b := 0) hg r1) r2)) (pure_dq hd) ⟨ds, p, hpo⟩⟩
  obtain ⟨v, e1, e2⟩ := hv i d e
  exact ⟨v, e1, .inr (e2.ne (nomk_ne h2 i d e))⟩
theorem eg_callD {F : List PyData → PyData} {ds : List PyData} (ha : EaD L t Γ ds) (hp : Pre ds) (hn : nomk ds = true := by rfl) : EvD L (tCall (spL (pureL L.K) 0 Pre fun ds d => d = F ds) [] E t) Γ (F ds) :=
  (eg_callP (PA1 := fun x => x = ds) ha fun ds' e => by rw [e]; exact ⟨hp, hn⟩).mono (Nat.le_refl _) fun d ⟨ds', e1, e2⟩ => by rw [e2, e1]
/-- keywords alone -/
theorem eg_callK {F : List PyData → PyData} {ds ds2 : List PyData} {gV : List V → List V → List V} {tk : TA} (ha : EaD L tk Γ ds) (hg2 : ∀ zs : List V, zs.length = ds.length → (gV [] zs).length = ds2.length ∧ ∀ (i : Nat) d, ds2[i]? = some d → ∃ j : Nat, ds[j]? = some d ∧ (gV [] zs)[i]? = zs[j]?) (hp : Pre ds2) (hn : nomk ds2 = true := by rfl) :
    EvD L (tCallK (spL (pureL L.K) 0 Pre fun ds d => d = F ds) gV E tNil tk) Γ (F ds2) := fun A σ H hi he hg Q q => ha A σ H hi he hg _ fun vs ds' H1 r1 l hv p => by
  subst p
  obtain ⟨g1, g2⟩ := hg2 vs l
  refine ⟨A, ds2, hi.r r1, g1, fun i d e => ?_, hp, trivial, fun v d H2 r2 hd hpo => q v d H2 (L.tr (a := 0) (b := 0) r1 (L.same (Rl.gR (b := 0) hg r1) r2)) (pure_dq hd) hpo⟩
  obtain ⟨j, e1, e2⟩ := g2 i d e
  obtain ⟨v, e3, e4⟩ := hv j d e1
  exact ⟨v, by rw [e2]; exact e3, .inr (e4.ne (nomk_ne hn i d e))⟩
/-- a def that goes on as L does -/
theorem eg_callL (ha : EaG L a t Γ PA1) (hp : ∀ ds, PA1 ds → Pre ds) : EvG L (a + b) (tCall (spL L b Pre Post) [] E t) Γ (fun d => ∃ ds, PA1 ds ∧ Post ds d) := fun A σ H hi he hg Q q => ha A σ H hi he (L.gle (Nat.le_add_right _ _) hg) _ fun vs ds H1 r1 l hv p => by
  show spL L b Pre Post (vs ++ []) H1 Q E
  rw [List.append_nil]
  exact ⟨A, ds, hi.r r1, l, hv, hp ds p, Rl.gR hg r1, fun v d H2 r2 hd hpo => q v d H2 (L.tr r1 r2) hd ⟨ds, p, hpo⟩⟩
/-- a def whose way hangs on what it is given -/
def spA (S : Rl → Prop) (n : Nat) (Pre : List PyData → Prop) (Post : List PyData → PyData → Prop) : Sp := fun vs H Q E => ∃ L, S L ∧ spL L n Pre Post vs H Q E
theorem eg_callA {S : Rl → Prop} (hS : S L) (ha : EaG L a t Γ PA1) (hp : ∀ ds, PA1 ds → Pre ds) : EvG L (a + b) (tCall (spA S b Pre Post) [] E t) Γ (fun d => ∃ ds, PA1 ds ∧ Post ds d) := fun A σ H hi he hg Q q => ha A σ H hi he (L.gle (Nat.le_add_right _ _) hg) _ fun vs ds H1 r1 l hv p => by
  show spA S b Pre Post (vs ++ []) H1 Q E
  rw [List.append_nil]
  exact ⟨L, hS, A, ds, hi.r r1, l, hv, hp ds p, Rl.gR hg r1, fun v d H2 r2 hd hpo => q v d H2 (L.tr r1 r2) hd ⟨ds, p, hpo⟩⟩

/-! ### tests -/
theorem et_B {k : Bool} (h : EvD L te Γ (.bool k)) : EtD L (tB te) Γ k := fun A σ H hi he hg Q q => h A σ H hi he hg _ fun v d H1 r1 hv p => by
  subst p
  obtain rfl := hv.bool
  exact ⟨k, rfl, q H1 r1⟩
theorem et_test {k : Bool} (h : EvD L te Γ (.bool k)) : EtD L (tTest te) Γ k := et_B h
theorem et_not {k : Bool} (h : EtD L tt Γ k) : EtD L (tNot tt) Γ (!k) := fun A σ H hi he hg Q q => h A σ H hi he hg _ fun H1 r1 => q H1 r1
theorem et_or0 {k : Bool} (h : EtD L tt Γ false) (h2 : EtD L tu Γ k) : EtD L (tOr tt tu) Γ k := fun A σ H hi he hg Q q => h A σ H hi he hg _ fun H1 r1 => by
  show tu σ H1 Q
  exact h2 A σ H1 (hi.r r1) (he.r r1) (Rl.gR (b := 0) hg r1) Q fun H2 r2 => q H2 (L.tr (a := 0) (b := 0) r1 r2)
theorem et_or1 (h : EtD L tt Γ true) : EtD L (tOr tt tu) Γ true := fun A σ H hi he hg Q q => h A σ H hi he hg _ fun H1 r1 => by
  show Q true H1
  exact q H1 r1
theorem et_is {k k' : Bool} (h : EtD L tt Γ k) (e : k = k') : EtD L tt Γ k' := e ▸ h
theorem eg_if {k : Bool} (h : EtD L tt Γ k) (h1 : k = true → EvD L ta Γ d) (h2 : k = false → EvD L tb Γ d) : EvD L (tIf tt ta tb) Γ d := fun A σ H hi he hg Q q => h A σ H hi he hg _ fun H1 r1 => by
  have fin : ∀ {tx : TE}, EvD L tx Γ d → tx σ H1 Q := fun {tx} hx => hx A σ H1 (hi.r r1) (he.r r1) (Rl.gR (b := 0) hg r1) Q fun v d' H2 r2 hd p => q v d' H2 (L.tr (a := 0) (b := 0) r1 r2) hd p
  cases k with
  | true => exact fin (h1 rfl)
  | false => exact fin (h2 rfl)
end
end V1
set_option Elab.async false
set_option linter.all false
set_option maxRecDepth 100000
set_option maxHeartbeats 4000000
/-! Walks, comprehensions, statements, loops, a def's promise by its body. -/
namespace V1
open PySem PySem.Spec PyProof.Rows L2

/-- all but dicts, and what is avoided, stay -/
def Kp (A : Addr → Prop) (H H' : Hp) : Prop := ∀ b o, ¬ A b → H b = some o → Fx o → H' b = some o
/-- the iterator gives the items, one by one, in whatever heap goes on from H1 -/
structure JOk (K : PySem.W.Frag) (A : Addr → Prop) (J : It) (H1 : Hp) (items : List PyData) : Prop where
  go : ∀ (i : Nat) H', Kp A H1 H' → i < items.length → J.go i H'
  yld : ∀ (i : Nat) H' x H'', Kp A H1 H' → (∀ b, A b → H' b ≠ none) → J.yld i H' x H'' → i < items.length → ∃ d, items[i]? = some d ∧ Same H' H'' ∧ (∀ A', (∀ b, A' b → H' b ≠ none) → (∀ b o, ¬ A b → H1 b = some o → Fx o → ¬ A' b) → Dv K A' H'' x d)
  stop : ∀ H', Kp A H1 H' → J.stop items.length H'
def WkG (L : Rl) (n : Nat) (wi : TI) (Γ : List (Option PyData)) (P : List PyData → Prop) : Prop := ∀ A σ H, Inn A H → EnvOk L A σ H Γ → L.G n H → ∀ R : It → Hp → Prop, (∀ J H1 items, L.R n H H1 → P items → JOk L.K A J H1 items → R J H1) → wi σ H R
abbrev WkD (L : Rl) (wi : TI) (Γ : List (Option PyData)) (items : List PyData) : Prop := WkG L 0 wi Γ (fun x => x = items)
section
variable {L : Rl} {A : Addr → Prop} {H H' H1 : Hp} {v : V} {d : PyData} {σ : L2.St} {Γ : List (Option PyData)} {n a b c : Nat} {te ta tb tl : TE} {t : TA} {tt tu : TT} {P P1 P2 : PyData → Prop}
theorem Kp.at {xs : List V} {p : Addr} (k : Kp A H H') (na : ¬ A p) (e : H p = some (.lst xs)) : H' p = some (.lst xs) := k _ _ na e fxLst
theorem Kp.att {xs : List V} {p : Addr} (k : Kp A H H') (na : ¬ A p) (e : H p = some (.tup xs)) : H' p = some (.tup xs) := k _ _ na e fxTup
/-- what stands stays, away from whatever is avoided later -/
theorem dv_later {A A' : Addr → Prop} {H1 H' H'' : Hp} (h : Dv L.K A H1 v d) (k : Kp A H1 H') (s : Same H' H'') (f : ∀ b o, ¬ A b → H1 b = some o → Fx o → ¬ A' b) : Dv L.K A' H'' v d := h.map fun b o na e q => ⟨f b o na e q, s _ _ (k b o na e q)⟩
/-- a sequence that stands, also later -/
def Stands (K : PySem.W.Frag) (k : Bool) (A : Addr → Prop) (H1 : Hp) (p : Addr) (xs : List V) : Prop := ∀ H', Kp A H1 H' → Sq K k H' p xs
theorem TpAt.stands {p : Addr} {xs : List V} (h : TpAt L.K A H1 p xs) : Stands L.K false A H1 p xs := fun H' q => h.elim (fun z => SqT.of (q.att z.1 z.2)) fun z => z.sq H'
theorem lst_stands {p : Addr} {xs : List V} (na : ¬ A p) (h : H1 p = some (.lst xs)) : Stands L.K true A H1 p xs := fun H' q => SqL.of (q.at na h)
theorem Stands.now {k : Bool} {p : Addr} {xs : List V} (h : Stands L.K k A H1 p xs) : Sq L.K k H1 p xs := h H1 fun _ _ _ e _ => e
theorem jok_seq (k : Bool) {p : Addr} {xs : List V} {ds : List PyData} (st : Stands L.K k A H1 p xs) (r : DvAll L.K A H1 xs ds) (J : It) (hJ : J = (if k then Itl L.K p else Itt L.K p)) : JOk L.K A J H1 ds := by
  subst hJ
  have l := r.length
  refine ⟨fun i H' q hi => ?_, fun i H' x H'' q hA y hi => ?_, fun H' q => ?_⟩
  · have hx : xs[i]? = some xs[i] := List.getElem?_eq_getElem (by omega)
    cases k with
    | true => exact ⟨xs, _, st H' q, hx⟩
    | false => exact ⟨xs, _, st H' q, hx⟩
  · have key : xs[i]? = some x ∧ H'' = H' := by
      cases k with
      | true => exact ⟨y.2 xs (st H' q), y.1⟩
      | false => exact ⟨y.2 xs (st H' q), y.1⟩
    obtain ⟨hx, rfl⟩ := key
    obtain ⟨d, hd, dv⟩ := r.getx hx
    exact ⟨d, hd, Same.refl _, fun A' _ f => dv_later dv q (Same.refl _) f⟩
  · cases k with
    | true => exact ⟨xs, st H' q, by omega⟩
    | false => exact ⟨xs, st H' q, by omega⟩
theorem wk_list {ds : List PyData} (h : EvD L tl Γ (.list ds)) : WkD L (iList L.K tl) Γ ds := fun A σ H hi he hg R q => h A σ H hi he hg _ fun x d H1 r1 hx p => by
  subst p
  obtain ⟨p, xs, rfl, na, e, r⟩ := hx.list
  exact ⟨p, rfl, ⟨xs, SqL.of e⟩, q _ H1 ds r1 rfl (jok_seq true (lst_stands na e) r _ rfl)⟩
theorem wk_tup {ds : List PyData} (h : EvD L tl Γ (.tuple ds)) : WkD L (iTup L.K tl) Γ ds := fun A σ H hi he hg R q => h A σ H hi he hg _ fun x d H1 r1 hx p => by
  subst p
  obtain ⟨p, xs, rfl, e, r⟩ := hx.tuple
  exact ⟨p, rfl, ⟨xs, e.sq⟩, q _ H1 ds r1 rfl (jok_seq false e.stands r _ rfl)⟩
/-- a sequence as data: a list (true), a tuple -/
def sqD : Bool → List PyData → PyData
  | true, ds => .list ds
  | false, ds => .tuple ds
theorem sq_dq {k : Bool} {ds : List PyData} (h : Dq L A H v (sqD k ds)) : ∃ p xs, v = .ref p ∧ Stands L.K k A H p xs ∧ DvAll L.K A H xs ds := by
  cases k with
  | true =>
    obtain ⟨p, xs, e1, na, e2, r⟩ := h.list
    exact ⟨p, xs, e1, lst_stands na e2, r⟩
  | false =>
    obtain ⟨p, xs, e1, e2, r⟩ := h.tuple
    exact ⟨p, xs, e1, e2.stands, r⟩
def zipD (ds es : List PyData) : List PyData := List.zipWith (fun d e => PyData.tuple [d, e]) ds es
theorem wk_zip {k1 k2 : Bool} {ds es : List PyData} (h : EaD L t Γ [sqD k1 ds, sqD k2 es]) : WkD L (iZipP L.K k1 k2 t) Γ (zipD ds es) := fun A σ H hi he hg R q => h A σ H hi he hg _ fun vs ds' H1 r1 hl hv p => by
  subst p
  obtain ⟨v, w, rfl, hx, hy⟩ := two_of hl hv
  obtain ⟨p1, xs, rfl, e1, r1'⟩ := sq_dq hx
  obtain ⟨p2, ys, rfl, e2, r2'⟩ := sq_dq hy
  have l1 := r1'.length
  have l2 := r2'.length
  refine ⟨p1, p2, xs, ys, rfl, e1.now, e2.now, q _ H1 _ r1 rfl ⟨fun i H' k hi => ?_, fun i H' x H'' k hA y hi => ?_, fun H' k => ?_⟩⟩
  · have hi' : i < min ds.length es.length := by simpa [zipD] using hi
    exact ⟨xs, ys, _, _, e1 _ k, e2 _ k, List.getElem?_eq_getElem (show i < xs.length by omega), List.getElem?_eq_getElem (show i < ys.length by omega)⟩
  · obtain ⟨T, x1, y1, rfl, hT, rfl, f1, f2⟩ := y
    obtain ⟨d, hd, dv⟩ := r1'.getx (f1 xs (e1 _ k))
    obtain ⟨e, he', ev⟩ := r2'.getx (f2 ys (e2 _ k))
    have sm : Same H' (upd H' T (.tup [x1, y1])) := fun b o z => by rw [upd_ne (ne_of_none z hT)]; exact z
    refine ⟨.tuple [d, e], ?_, sm, fun A' hA' f => .tup (fun z => hA' T z hT) upd_same (.cons (dv_later dv k sm f) (.cons (dv_later ev k sm f) .nil))⟩
    unfold zipD
    rw [List.getElem?_zipWith, hd, he']
  · refine ⟨xs, ys, e1 _ k, e2 _ k, ?_⟩
    unfold zipD
    rw [List.length_zipWith]
    omega
theorem wk_enum {k : Bool} {ds : List PyData} (h : EaD L t Γ [sqD k ds]) : WkD L (iEnumP L.K k t) Γ (ds.mapIdx fun i d => PyData.tuple [.int (i : Nat), d]) := fun A σ H hi he hg R q => h A σ H hi he hg _ fun vs ds' H1 r1 hl hv p => by
  subst p
  obtain ⟨v, rfl, hx⟩ := one_of hl hv
  obtain ⟨p1, xs, rfl, e1, r1'⟩ := sq_dq hx
  have l1 := r1'.length
  refine ⟨p1, xs, rfl, e1.now, q _ H1 _ r1 rfl ⟨fun i H' k hi => ?_, fun i H' x H'' k hA y hi => ?_, fun H' k => ?_⟩⟩
  · have hi' : i < ds.length := by simpa using hi
    exact ⟨xs, _, e1 _ k, List.getElem?_eq_getElem (show i < xs.length by omega)⟩
  · obtain ⟨T, x1, rfl, hT, rfl, f1⟩ := y
    obtain ⟨d, hd, dv⟩ := r1'.getx (f1 xs (e1 _ k))
    have sm : Same H' (upd H' T (.tup [.int (i : Nat), x1])) := fun b o z => by rw [upd_ne (ne_of_none z hT)]; exact z
    refine ⟨.tuple [.int (i : Nat), d], ?_, sm, fun A' hA' f => .tup (fun z => hA' T z hT) upd_same (.cons (.int _) (.cons (dv_later dv k sm f) .nil))⟩
    rw [List.getElem?_mapIdx, hd]
    rfl
  · refine ⟨xs, e1 _ k, ?_⟩
    rw [List.length_mapIdx]
    omega
def rngD (lo : Int) (n : Nat) : List PyData := (List.range n).map fun (i : Nat) => PyData.int (lo + (i : Int))
theorem wk_rng1G {P : PyData → Prop} (h : EaG L a t Γ (fun ds => ∃ j : Int, ds = [.int j] ∧ P (.int j) ∧ -(2 ^ 62) ≤ j ∧ j < 2 ^ 62)) : WkG L a (iRng1 t) Γ (fun items => ∃ j : Int, P (.int j) ∧ items = rngD 0 j.toNat) := fun A σ H hi he hg R q => h A σ H hi he hg _ fun vs ds' H1 r1 hl hv p => by
  obtain ⟨j, rfl, hp, h1, h2⟩ := p
  obtain ⟨v, rfl, hx⟩ := one_of hl hv
  obtain rfl := hx.int
  refine ⟨j, rfl, h1, h2, q _ H1 _ r1 ⟨j, hp, rfl⟩ ⟨fun i H' k hi => ?_, fun i H' x H'' k hA y hi => ?_, fun H' k => ?_⟩⟩
  · have hi' : i < j.toNat := by simpa [rngD] using hi
    exact hi'
  · obtain ⟨rfl, rfl⟩ := y
    have hi' : i < j.toNat := by simpa [rngD] using hi
    refine ⟨.int (0 + (i : Int)), ?_, Same.refl _, fun A' _ _ => .int _⟩
    unfold rngD
    rw [List.getElem?_map, List.getElem?_range hi']
    rfl
  · show j.toNat ≤ (rngD 0 j.toNat).length
    simp [rngD]
theorem wk_rng1 {j : Int} (h : EaD L t Γ [.int j]) (h1 : -(2 ^ 62) ≤ j ∧ j < 2 ^ 62) : WkD L (iRng1 t) Γ (rngD 0 j.toNat) := fun A σ H hi he hg R q =>
  wk_rng1G (P := fun x => x = .int j) (h.mono (Nat.le_refl _) fun ds e => ⟨j, e, rfl, h1⟩) A σ H hi he hg R fun J H1 items r ⟨j', e1, e2⟩ k => by
    have e3 : j' = j := by injection e1
    subst e3
    exact q J H1 items r e2 k

/-! ### targets -/
def TgG (L : Rl) (g : TG) (js : List Nat) (d : PyData) (Γ Γ' : List (Option PyData)) : Prop := ∀ A x σ H, Dv L.K A H x d → EnvOk L A σ H Γ → ∀ Q : L2.St → Hp → Prop, (∀ σ', EnvOk L A σ' H Γ' → (∀ vs : List Nat, (∀ j ∈ js, j ∈ vs) → wipe σ' vs = wipe σ vs) → Q σ' H) → g x σ H Q
theorem wipe_set {σ : L2.St} {j : Nat} {x : Option V} : ∀ {vs : List Nat}, j ∈ vs → wipe (σ.set j x) vs = wipe σ vs
  | [], h => by simp at h
  | v :: vs, h => by
    by_cases e : v = j
    · subst e
      by_cases h2 : v ∈ vs
      · show (wipe (σ.set v x) vs).set v none = (wipe σ vs).set v none
        rw [wipe_set h2]
      · have key : ∀ (ws : List Nat) (τ : L2.St), v ∉ ws → wipe (τ.set v x) ws = (wipe τ ws).set v x := by
          intro ws
          induction ws with
          | nil => intro τ _; rfl
          | cons u us ih =>
            intro τ hn
            show (wipe (τ.set v x) us).set u none = ((wipe τ us).set u none).set v x
            rw [ih τ (fun z => hn (List.mem_cons_of_mem _ z)), List.set_comm _ _ (fun z => hn (by rw [z]; exact List.mem_cons_self))]
        show (wipe (σ.set v x) vs).set v none = (wipe σ vs).set v none
        rw [key vs σ h2, List.set_set]
    · have h2 : j ∈ vs := (List.mem_cons.mp h).resolve_left (fun z => e z.symm)
      show (wipe (σ.set j x) vs).set v none = (wipe σ vs).set v none
      rw [wipe_set h2]
theorem wipe_mem {σ : L2.St} {v : Nat} : ∀ {ws : List Nat}, v ∈ ws → (wipe σ ws).set v none = wipe σ ws
  | [], h => by simp at h
  | u :: us, h => by
    by_cases e : u = v
    · subst e
      show ((wipe σ us).set u none).set u none = (wipe σ us).set u none
      rw [List.set_set]
    · have h2 : v ∈ us := (List.mem_cons.mp h).resolve_left (fun z => e z.symm)
      show ((wipe σ us).set u none).set v none = (wipe σ us).set u none
      rw [List.set_comm _ _ e, wipe_mem h2]
theorem wipe_wipe {σ : L2.St} (ws : List Nat) : ∀ {vs : List Nat}, (∀ v ∈ vs, v ∈ ws) → wipe (wipe σ ws) vs = wipe σ ws
  | [], _ => rfl
  | v :: vs, h => by
    show (wipe (wipe σ ws) vs).set v none = wipe σ ws
    rw [wipe_wipe ws (fun u hu => h u (List.mem_cons_of_mem _ hu)), wipe_mem (h v List.mem_cons_self)]
theorem tg_name {j : Nat} : TgG L (gName j) [j] d Γ (Γ.set j (some d)) := fun A x σ H hx he Q q => q _ (he.set (.inr hx) j) fun vs hv => wipe_set (hv j (by simp))
theorem tg_two {i j : Nat} {d1 d2 : PyData} : TgG L (gTup L.K 2 (gCons (gName i) (gCons (gName j) gNil))) [i, j] (.tuple [d1, d2]) Γ ((Γ.set i (some d1)).set j (some d2)) := fun A x σ H hx he Q q => by
  obtain ⟨p, xs, rfl, e, r⟩ := Dq.tuple (L := L) (.inr hx)
  cases r with
  | cons r1 r =>
    cases r with
    | cons r2 r =>
      cases r
      refine ⟨p, _, rfl, e.sq, rfl, _, _, rfl, _, _, rfl, rfl, ?_⟩
      refine q _ ((he.set (.inr r1) i).set (.inr r2) j) fun vs hv => ?_
      rw [wipe_set (hv j (by simp)), wipe_set (hv i (by simp))]

/-! ### comprehensions -/
def wipeD (Γ : List (Option PyData)) : List Nat → List (Option PyData)
  | [] => Γ
  | v :: vs => (wipeD Γ vs).set v none
theorem EnvOk.clear (h : EnvOk L A σ H Γ) (i : Nat) : EnvOk L A (σ.set i none) H (Γ.set i none) := by
  refine ⟨by rw [List.length_set, List.length_set]; exact h.1, fun j d' e => ?_⟩
  by_cases hj : i = j
  · subst hj
    have hl : i < Γ.length := by
      have := (List.getElem?_eq_some_iff.mp e).1
      rwa [List.length_set] at this
    rw [List.getElem?_set_self hl] at e
    cases e
  · rw [List.getElem?_set_ne hj] at e
    obtain ⟨w, h1, h2⟩ := h.2 j d' e
    exact ⟨w, by rw [List.getElem?_set_ne hj]; exact h1, h2⟩
theorem EnvOk.wipe (h : EnvOk L A σ H Γ) : ∀ vs : List Nat, EnvOk L A (wipe σ vs) H (wipeD Γ vs)
  | [] => h
  | v :: vs => (h.wipe vs).clear v
/-- a new address is avoided from now on -/
theorem EnvOk.avoid {q : Addr} {o : HO} (h : EnvOk L A σ H Γ) (e : H q = none) : EnvOk L (fun b => A b ∨ b = q) σ (upd H q o) Γ := ⟨h.1, fun i d ed => by
  obtain ⟨v, h1, h2⟩ := h.2 i d ed
  refine ⟨v, h1, h2.imp (fun x => x) fun x => x.map fun b u na eb _ => ?_⟩
  have ne : b ≠ q := ne_of_none eb e
  exact ⟨fun z => z.elim na ne, by rw [upd_ne ne]; exact eb⟩⟩
theorem kp_of (r : L.R n H H') : Kp A H H' := fun b o _ e k => L.keep r e k
/-- an avoided object is written -/
theorem DvAll.off {q : Addr} {o : HO} {vs : List V} {ds : List PyData} (h : DvAll L.K (fun b => A b ∨ b = q) H vs ds) : DvAll L.K (fun b => A b ∨ b = q) (upd H q o) vs ds := h.map fun b u na e k => ⟨na, by rw [upd_ne (fun z => na (.inr z))]; exact e⟩
theorem EnvOk.off {q : Addr} {o : HO} (h : EnvOk L (fun b => A b ∨ b = q) σ H Γ) : EnvOk L (fun b => A b ∨ b = q) σ (upd H q o) Γ := ⟨h.1, fun i d ed => by
  obtain ⟨v, h1, h2⟩ := h.2 i d ed
  exact ⟨v, h1, h2.imp (fun x => x) fun x => x.map fun b u na e _ => ⟨na, by rw [upd_ne (fun z => na (.inr z))]; exact e⟩⟩⟩
/-- a new object -/
def EvF (L : Rl) (n : Nat) (te : TE) (Γ : List (Option PyData)) (P : PyData → Prop) : Prop := ∀ A σ H, Inn A H → EnvOk L A σ H Γ → L.G n H → ∀ Q : VK, (∀ p d H', L.R n H H' → H p = none → Dq L A H' (.ref p) d → P d → Q (.ref p) H') → te σ H Q
theorem EvF.eg (h : EvF L a te Γ P) : EvG L a te Γ P := fun A σ H hi he hg Q q => h A σ H hi he hg Q fun p d H' r _ hv hp => q (.ref p) d H' r hv hp
theorem eg_lcGF {wi : TI} {g : TG} {js vs : List Nat} {PI1 : List PyData → Prop} {Pt : List PyData → Nat → PyData → Prop} (hw : WkG L a wi Γ PI1) (hj : ∀ j ∈ js, j ∈ vs) (hlen : ∀ items, PI1 items → items.length ≤ b ∧ b ≤ 1000)
    (hb : ∀ items, PI1 items → ∀ (i : Nat) d, items[i]? = some d → ∃ Γ', TgG L g js d (wipeD Γ vs) Γ' ∧ EvG L c te Γ' (fun r => r ≠ mark ∧ Pt items i r)) :
    EvF L (a + b * c) (tLc wi g tYes te vs) Γ (fun r => ∃ items rs, PI1 items ∧ r = .list rs ∧ rs.length = items.length ∧ ∀ (i : Nat) d, rs[i]? = some d → Pt items i d) := fun A σ H hi he hg Q q => hw A σ H hi he (L.gle (Nat.le_add_right _ _) hg) _ fun J H1 items r1 hp jk D hD => by
  have hD0 : H D = none := L.free r1 hD
  obtain ⟨hl, hl2⟩ := hlen items hp
  have g1 : L.G (b * c) H1 := Rl.gR hg r1
  -- the walk's word
  refine ⟨fun i m H2 => m = items.length - i ∧ i ≤ items.length ∧ L.R (a + i * c) H H2 ∧ Kp A H1 H2 ∧ ∃ acc rs, H2 D = some (.lst acc) ∧ DvAll L.K (fun b => A b ∨ b = D) H2 acc rs ∧ rs.length = i ∧ ∀ (j : Nat) d, rs[j]? = some d → Pt items j d, ⟨items.length, ?_⟩, ?_⟩
  · refine ⟨by omega, Nat.zero_le _, ?_, fun b o _ e k => by rw [upd_ne (ne_of_none e hD)]; exact e, [], [], upd_same, .nil, rfl, fun j d e => by simp at e⟩
    have e0 : a + 0 * c = a := by rw [Nat.zero_mul, Nat.add_zero]
    rw [e0]
    exact L.fresh r1 hD0 (.inl hD)
  · rintro i m H2 ⟨rfl, hle, r2, k2, acc, rs, eD, dv, hrl, hpt⟩
    have naD : ∀ b, A b → H2 b ≠ none := fun b z => hi.r r2 b z
    by_cases hlt : i < items.length
    · refine .inr ⟨jk.go i H2 k2 hlt, fun H3 => i + 1 ≤ items.length ∧ L.R (a + (i + 1) * c) H H3 ∧ Kp A H1 H3 ∧ ∃ acc rs, H3 D = some (.lst acc) ∧ DvAll L.K (fun b => A b ∨ b = D) H3 acc rs ∧ rs.length = i + 1 ∧ ∀ (j : Nat) d, rs[j]? = some d → Pt items j d,
        fun H3 h3 => ⟨items.length - (i + 1), by omega, rfl, h3⟩, fun x H3 y => ?_⟩
      obtain ⟨d, hd, sm, hdv⟩ := jk.yld i H2 x H3 k2 naD y hlt
      obtain ⟨Γ', htg, hev⟩ := hb items hp i d hd
      have innA' : ∀ b, (A b ∨ b = D) → H2 b ≠ none := fun b z => z.elim (naD b) fun e => by rw [e, eD]; simp
      have dx : Dv L.K (fun b => A b ∨ b = D) H3 x d := hdv _ innA' fun b o na e _ z => z.elim na (ne_of_none e hD)
      -- the names, away from the new list
      have ev2 : EnvOk L (fun b => A b ∨ b = D) (wipe σ vs) H3 (wipeD Γ vs) := by
        have h0 : EnvOk L (fun b => A b ∨ b = D) (wipe σ vs) (upd H1 D (.lst [])) (wipeD Γ vs) := ((he.r r1).wipe vs).avoid hD
        refine ⟨h0.1, fun j d' e => ?_⟩
        obtain ⟨v, e1, e2⟩ := h0.2 j d' e
        refine ⟨v, e1, e2.imp (fun z => z) fun z => z.map fun b o na eb kd => ⟨na, sm _ _ (k2 b o (fun w => na (.inl w)) ?_ kd)⟩⟩
        rwa [upd_ne (fun w => na (.inr w))] at eb
      refine htg (fun b => A b ∨ b = D) x (wipe σ vs) H3 dx ev2 _ fun σ2 e3 w3 => ⟨?_, ?_⟩
      · rw [w3 vs hj, wipe_wipe vs fun v hv => hv]
      · show te σ2 H3 _
        have g0 : L.G (c + 0) H2 := by
          refine Rl.gR (a := a + i * c) ?_ r2
          refine L.gle ?_ hg
          have h1 : (i + 1) * c ≤ b * c := Nat.mul_le_mul_right _ (by omega)
          have h2 : (i + 1) * c = i * c + c := Nat.succ_mul _ _
          omega
        have r3 : L.R 0 H2 H3 := L.same (L.g0 g0) sm
        have g3 : L.G c H3 := Rl.gR (a := 0) (by rw [Nat.zero_add]; exact g0) r3
        refine hev (fun b => A b ∨ b = D) σ2 H3 (fun b z y => innA' b z (L.free r3 y)) e3 g3 _ fun y dy H4 r4 hy pw => ?_
        obtain ⟨hmk, hpt4⟩ := pw
        have eD4 : H4 D = some (.lst acc) := L.keep r4 (sm _ _ eD) fxLst
        refine ⟨acc, eD4, Nat.lt_of_le_of_lt (show acc.length ≤ 1000 by rw [dv.length, hrl]; omega) (by decide), hlt, ?_, ?_, acc ++ [y], rs ++ [dy], upd_same, ?_, by rw [List.length_append, hrl]; rfl, fun j d' e => ?_⟩
        · have hh : L.R (a + i * c + 0 + c) H H4 := L.tr (L.tr r2 r3) r4
          have e5 : a + (i + 1) * c = a + i * c + 0 + c := by rw [Nat.succ_mul]; omega
          rw [e5]
          exact L.fresh hh hD0 (.inr ⟨_, eD4⟩)
        · intro b o na e k
          have ne : b ≠ D := ne_of_none e hD
          rw [upd_ne ne]
          exact L.keep r4 (sm _ _ (k2 b o na e k)) k
        · have dv4 : DvAll L.K (fun b => A b ∨ b = D) H4 acc rs := (dv.map (fun b o na e k => ⟨na, sm _ _ e⟩) : DvAll L.K (fun b => A b ∨ b = D) H3 acc rs).r r4
          exact (dv4.app (.cons (hy.ne hmk) .nil)).off
        · by_cases hj2 : j < rs.length
          · rw [List.getElem?_append_left hj2] at e
            exact hpt j d' e
          · rw [List.getElem?_append_right (by omega)] at e
            have hj3 : j - rs.length = 0 := by
              have := (List.getElem?_eq_some_iff.mp e).1
              simp at this
              omega
            rw [hj3] at e
            simp at e
            subst e
            have : j = i := by omega
            subst this
            exact hpt4
    · have e : i = items.length := by omega
      subst e
      refine .inl ⟨jk.stop H2 k2, ?_⟩
      have nD : ¬ A D := hi.no hD0
      refine q D (.list rs) H2 (L.rle ?_ r2) hD0 (.inr (.lst nD eD (dv.map fun b o na e _ => ⟨fun z => na (.inl z), e⟩))) ⟨items, rs, hp, rfl, hrl, hpt⟩
      have := Nat.mul_le_mul_right c hl
      omega
theorem eg_lcG {wi : TI} {g : TG} {js vs : List Nat} {PI1 : List PyData → Prop} {Pt : List PyData → Nat → PyData → Prop} (hw : WkG L a wi Γ PI1) (hj : ∀ j ∈ js, j ∈ vs) (hlen : ∀ items, PI1 items → items.length ≤ b ∧ b ≤ 1000)
    (hb : ∀ items, PI1 items → ∀ (i : Nat) d, items[i]? = some d → ∃ Γ', TgG L g js d (wipeD Γ vs) Γ' ∧ EvG L c te Γ' (fun r => r ≠ mark ∧ Pt items i r)) :
    EvG L (a + b * c) (tLc wi g tYes te vs) Γ (fun r => ∃ items rs, PI1 items ∧ r = .list rs ∧ rs.length = items.length ∧ ∀ (i : Nat) d, rs[i]? = some d → Pt items i d) := (eg_lcGF hw hj hlen hb).eg
/-- each item comes to one thing -/
theorem eg_lcF {wi : TI} {g : TG} {js vs : List Nat} {items rs : List PyData} (hw : WkD L wi Γ items) (hj : ∀ j ∈ js, j ∈ vs) (hlen : items.length ≤ 1000) (hr : rs.length = items.length)
    (hb : ∀ (i : Nat) d r, items[i]? = some d → rs[i]? = some r → r ≠ mark ∧ ∃ Γ', TgG L g js d (wipeD Γ vs) Γ' ∧ EvD L te Γ' r) : EvF L 0 (tLc wi g tYes te vs) Γ (fun x => x = .list rs) := by
  have h := eg_lcGF (a := 0) (b := items.length) (c := 0) (te := te) (Pt := fun its i r => rs[i]? = some r) hw hj (fun its e => by rw [e]; exact ⟨Nat.le_refl _, hlen⟩) (fun its e i d hd => by
    subst e
    have hi : i < rs.length := by rw [hr]; exact (List.getElem?_eq_some_iff.mp hd).1
    obtain ⟨nm, Γ', h1, h2⟩ := hb i d rs[i] hd (List.getElem?_eq_getElem hi)
    refine ⟨Γ', h1, EvG.mono h2 (Nat.le_refl _) fun r e => ?_⟩
    rw [e]
    exact ⟨nm, List.getElem?_eq_getElem hi⟩)
  intro A σ H hi he hg Q q
  refine h A σ H hi he (L.gle (Nat.le_of_eq (by simp)) hg) Q fun p r H' rr hp hv ⟨its, rs', e1, e2, e3, e4⟩ => q p r H' (L.rle (Nat.le_of_eq (by simp)) rr) hp hv ?_
  rw [e2]
  congr 1
  subst e1
  refine List.ext_getElem? fun i => ?_
  by_cases hi : i < rs'.length
  · have z := e4 i rs'[i] (List.getElem?_eq_getElem hi)
    rw [z, List.getElem?_eq_getElem hi]
  · rw [List.getElem?_eq_none (by omega), List.getElem?_eq_none (by omega)]
theorem eg_lc {wi : TI} {g : TG} {js vs : List Nat} {items rs : List PyData} (hw : WkD L wi Γ items) (hj : ∀ j ∈ js, j ∈ vs) (hlen : items.length ≤ 1000) (hr : rs.length = items.length)
    (hb : ∀ (i : Nat) d r, items[i]? = some d → rs[i]? = some r → r ≠ mark ∧ ∃ Γ', TgG L g js d (wipeD Γ vs) Γ' ∧ EvD L te Γ' r) : EvD L (tLc wi g tYes te vs) Γ (.list rs) := (eg_lcF hw hj hlen hr hb).eg
end
end V1
set_option Elab.async false
set_option linter.all false
set_option maxRecDepth 100000
set_option maxHeartbeats 4000000
/-! Statements and loops by data; a def's promise by its body. -/
namespace V1
open PySem PySem.Spec PyProof.Rows L2
section
variable {L : Rl} {A : Addr → Prop} {H H' H1 : Hp} {v : V} {d : PyData} {σ : L2.St} {Γ : List (Option PyData)} {n a b c : Nat} {te ta tb tl : TE} {t : TA} {tt tu : TT} {ts u z : TS} {P P1 P2 : PyData → Prop} {K : PySem.W.Frag} {N N1 : List (Option PyData) → Prop} {Rt : PyData → Prop}
theorem SG.mono {N' : List (Option PyData) → Prop} {Rt' : PyData → Prop} (h : SG L a ts Γ N Rt) (hn : a ≤ b) (h1 : ∀ G, N G → N' G) (h2 : ∀ d, Rt d → Rt' d) : SG L b ts Γ N' Rt' := fun A σ H hi he hg D q1 q2 =>
  h A σ H hi he (L.gle hn hg) D (fun σ' H' Γ' r e p => q1 σ' H' Γ' (L.rle hn r) e (h1 _ p)) fun v d H' r e p => q2 v d H' (L.rle hn r) e (h2 _ p)
theorem sg_seqG (h : SG L a ts Γ N1 Rt) (k : ∀ Γ', N1 Γ' → SG L b u Γ' N Rt) : SG L (a + b) (tSeq ts u) Γ N Rt := fun A σ H hi he hg D q1 q2 =>
  h A σ H hi he (L.gle (Nat.le_add_right _ _) hg) { D with nx := u D } (fun σ' H' Γ' r e p => k Γ' p A σ' H' (hi.r r) e (Rl.gR hg r) D (fun σ2 H2 Γ2 r2 e2 p2 => q1 σ2 H2 Γ2 (L.tr r r2) e2 p2) fun v d H2 r2 e2 p2 => q2 v d H2 (L.tr r r2) e2 p2)
    fun v d H' r e p => q2 v d H' (L.rle (Nat.le_add_right _ _) r) e p
theorem sg_seq (h : SG L 0 ts Γ N1 Rt) (k : ∀ Γ', N1 Γ' → SG L b u Γ' N Rt) : SG L b (tSeq ts u) Γ N Rt := (sg_seqG h k).mono (Nat.le_of_eq (Nat.zero_add _)) (fun _ x => x) fun _ x => x
theorem sq_asgG {i : Nat} (h : EvG L a te Γ P) (k : ∀ d, P d → SG L b u (Γ.set i (some d)) N Rt) : SG L (a + b) (tSeq (tAsg te (gName i)) u) Γ N Rt := fun A σ H hi he hg D q1 q2 =>
  h A σ H hi he (L.gle (Nat.le_add_right _ _) hg) _ fun v d H1 r hv p => k d p A _ H1 (hi.r r) ((he.r r).set hv i) (Rl.gR hg r) D (fun σ2 H2 Γ2 r2 e2 p2 => q1 σ2 H2 Γ2 (L.tr r r2) e2 p2) fun v d H2 r2 e2 p2 => q2 v d H2 (L.tr r r2) e2 p2
theorem sq_asg {i : Nat} (h : EvD L te Γ d) (k : SG L b u (Γ.set i (some d)) N Rt) : SG L b (tSeq (tAsg te (gName i)) u) Γ N Rt := (sq_asgG (a := 0) h fun d' e => by rw [e]; exact k).mono (Nat.le_of_eq (Nat.zero_add _)) (fun _ x => x) fun _ x => x
theorem sg_asgG {i : Nat} (h : EvG L a te Γ P) (k : ∀ d, P d → N (Γ.set i (some d))) : SG L a (tAsg te (gName i)) Γ N Rt := fun A σ H hi he hg D q1 q2 =>
  h A σ H hi he hg _ fun v d H1 r hv p => q1 _ H1 _ r ((he.r r).set hv i) (k d p)
theorem sg_asg {i : Nat} (h : EvD L te Γ d) (k : N (Γ.set i (some d))) : SG L 0 (tAsg te (gName i)) Γ N Rt := sg_asgG h fun d' e => by rw [e]; exact k
theorem sq_parG {i j : Nat} {PP : List PyData → Prop} (h : EaG L a t Γ PP) (h2 : ∀ ds, PP ds → ∃ d1 d2, ds = [d1, d2] ∧ SG L b u ((Γ.set i (some d1)).set j (some d2)) N Rt) : SG L (a + b) (tSeq (tPar i j t) u) Γ N Rt := fun A σ H hi he hg D q1 q2 =>
  h A σ H hi he (L.gle (Nat.le_add_right _ _) hg) _ fun vs ds H1 r hl hv p => by
    obtain ⟨d1, d2, rfl, k⟩ := h2 ds p
    obtain ⟨v, w, rfl, h3, h4⟩ := two_of hl hv
    exact ⟨v, w, rfl, k A _ H1 (hi.r r) (((he.r r).set h3 i).set h4 j) (Rl.gR hg r) D (fun σ2 H2 Γ2 r2 e2 p2 => q1 σ2 H2 Γ2 (L.tr r r2) e2 p2) fun v d H2 r2 e2 p2 => q2 v d H2 (L.tr r r2) e2 p2⟩
theorem sq_par {i j : Nat} {d1 d2 : PyData} (h : EaD L t Γ [d1, d2]) (k : SG L b u ((Γ.set i (some d1)).set j (some d2)) N Rt) : SG L b (tSeq (tPar i j t) u) Γ N Rt :=
  (sq_parG (a := 0) h fun ds e => ⟨d1, d2, e, k⟩).mono (Nat.le_of_eq (Nat.zero_add _)) (fun _ x => x) fun _ x => x
theorem sg_par {i j : Nat} {d1 d2 : PyData} (h : EaD L t Γ [d1, d2]) (k : N ((Γ.set i (some d1)).set j (some d2))) : SG L 0 (tPar i j t) Γ N Rt := fun A σ H hi he hg D q1 q2 =>
  h A σ H hi he hg _ fun vs ds H1 r hl hv p => by
    subst p
    obtain ⟨v, w, rfl, h3, h4⟩ := two_of hl hv
    exact ⟨v, w, rfl, q1 _ H1 _ r (((he.r r).set h3 i).set h4 j) k⟩
theorem sg_retG (h : EvG L a te Γ P) (k : ∀ d, P d → Rt d) : SG L a (tRet te) Γ N Rt := fun A σ H hi he hg D q1 q2 => h A σ H hi he hg _ fun v d H1 r hv p => q2 v d H1 r hv (k d p)
theorem sg_ret (h : EvD L te Γ d) (k : Rt d) : SG L 0 (tRet te) Γ N Rt := sg_retG h fun d' e => by rw [e]; exact k
theorem sg_retq (h : EvD L te Γ d) (k : Rt d) : SG L 0 (tSeq (tRet te) z) Γ N Rt := fun A σ H hi he hg D q1 q2 => h A σ H hi he hg _ fun v d H1 r hv p => q2 v d H1 r hv (by rw [p]; exact k)
theorem sg_next (k : N Γ) : SG L 0 tNext Γ N Rt := fun A σ H hi he hg D q1 q2 => q1 σ H Γ (Rl.refl hg) he k
theorem sq_next (h : SG L a z Γ N Rt) : SG L a (tSeq tNext z) Γ N Rt := h
theorem sg_if {k : Bool} (h : EtD L tt Γ k) (h1 : k = true → SG L a ts Γ N Rt) (h2 : k = false → SG L a u Γ N Rt) : SG L a (tIfS tt ts u) Γ N Rt := fun A σ H hi he hg D q1 q2 => h A σ H hi he (L.g0 hg) _ fun H1 r1 => by
  have fin : ∀ {tx : TS}, SG L a tx Γ N Rt → tx D σ H1 := fun {tx} hx => hx A σ H1 (hi.r r1) (he.r r1) (Rl.gR (a := 0) (by rw [Nat.zero_add]; exact hg) r1) D
    (fun σ2 H2 Γ2 r2 e2 p2 => q1 σ2 H2 Γ2 (L.rle (Nat.le_of_eq (Nat.zero_add _)) (L.tr r1 r2)) e2 p2) fun v d H2 r2 e2 p2 => q2 v d H2 (L.rle (Nat.le_of_eq (Nat.zero_add _)) (L.tr r1 r2)) e2 p2
  cases k with
  | true => exact fin (h1 rfl)
  | false => exact fin (h2 rfl)
theorem sq_if {k : Bool} (h : EtD L tt Γ k) (h1 : k = true → SG L a (tSeq ts z) Γ N Rt) (h2 : k = false → SG L a (tSeq u z) Γ N Rt) : SG L a (tSeq (tIfS tt ts u) z) Γ N Rt := fun A σ H hi he hg D q1 q2 => h A σ H hi he (L.g0 hg) _ fun H1 r1 => by
  have fin : ∀ {tx : TS}, SG L a tx Γ N Rt → tx D σ H1 := fun {tx} hx => hx A σ H1 (hi.r r1) (he.r r1) (Rl.gR (a := 0) (by rw [Nat.zero_add]; exact hg) r1) D
    (fun σ2 H2 Γ2 r2 e2 p2 => q1 σ2 H2 Γ2 (L.rle (Nat.le_of_eq (Nat.zero_add _)) (L.tr r1 r2)) e2 p2) fun v d H2 r2 e2 p2 => q2 v d H2 (L.rle (Nat.le_of_eq (Nat.zero_add _)) (L.tr r1 r2)) e2 p2
  cases k with
  | true => exact fin (h1 rfl)
  | false => exact fin (h2 rfl)
theorem sg_if_no (h : EtD L tt Γ false) (h2 : SG L a u Γ N Rt) : SG L a (tIfS tt ts u) Γ N Rt := sg_if h (fun e => nomatch e) fun _ => h2
theorem sq_if_no (h : EtD L tt Γ false) (h2 : SG L a z Γ N Rt) : SG L a (tSeq (tIfS tt ts tNext) z) Γ N Rt := sq_if h (fun e => nomatch e) fun _ => h2
theorem sg_ifG {P : Bool → Prop} (h : EtG L a tt Γ P) (h2 : ∀ k, P k → k = false) (h3 : SG L b u Γ N Rt) : SG L (a + b) (tIfS tt ts u) Γ N Rt := fun A σ H hi he hg D q1 q2 => h A σ H hi he (L.gle (Nat.le_add_right _ _) hg) _ fun k H1 r1 pk => by
  rw [h2 k pk]
  exact h3 A σ H1 (hi.r r1) (he.r r1) (Rl.gR hg r1) D (fun σ2 H2 Γ2 r2 e2 p2 => q1 σ2 H2 Γ2 (L.tr r1 r2) e2 p2) fun v d H2 r2 e2 p2 => q2 v d H2 (L.tr r1 r2) e2 p2

/-! ### loops -/
theorem sg_forG {wi : TI} {g : TG} {js : List Nat} {PI1 : List PyData → Prop} (I : List PyData → Nat → List (Option PyData) → Prop) (hw : WkG L a wi Γ PI1) (hlen : ∀ items, PI1 items → items.length ≤ b) (h0 : ∀ items, PI1 items → I items 0 Γ)
    (hb : ∀ items, PI1 items → ∀ (i : Nat) d Γi, items[i]? = some d → I items i Γi → ∃ Γ', TgG L g js d Γi Γ' ∧ SG L c ts Γ' (I items (i + 1)) Rt) (hN : ∀ items, PI1 items → ∀ Γe, I items items.length Γe → N Γe) : SG L (a + b * c) (tFor wi g ts) Γ N Rt := fun A σ H hi he hg D q1 q2 =>
  hw A σ H hi he (L.gle (Nat.le_add_right _ _) hg) _ fun J H1 items r1 hp jk => by
  have hl := hlen items hp
  refine ⟨fun i m σ2 H2 => m = items.length - i ∧ i ≤ items.length ∧ L.R (a + i * c) H H2 ∧ Kp A H1 H2 ∧ ∃ Γi, EnvOk L A σ2 H2 Γi ∧ I items i Γi, ⟨items.length, ?_⟩, ?_⟩
  · refine ⟨by omega, Nat.zero_le _, ?_, fun b o _ e k => e, Γ, he.r r1, h0 items hp⟩
    have e0 : a + 0 * c = a := by rw [Nat.zero_mul, Nat.add_zero]
    rw [e0]
    exact r1
  · rintro i m σ2 H2 ⟨rfl, hle, r2, k2, Γi, e2, p2⟩
    by_cases hlt : i < items.length
    · refine .inr ⟨jk.go i H2 k2 hlt, fun σ3 H3 => i + 1 ≤ items.length ∧ L.R (a + (i + 1) * c) H H3 ∧ Kp A H1 H3 ∧ ∃ Γi, EnvOk L A σ3 H3 Γi ∧ I items (i + 1) Γi, fun σ3 H3 h3 => ⟨items.length - (i + 1), by omega, rfl, h3⟩, fun x H3 y => ?_⟩
      have naD : ∀ b, A b → H2 b ≠ none := fun b z => hi.r r2 b z
      obtain ⟨d, hd, sm, hdv⟩ := jk.yld i H2 x H3 k2 naD y hlt
      obtain ⟨Γ', htg, hs⟩ := hb items hp i d Γi hd p2
      have e5 : a + (i + 1) * c = a + i * c + 0 + c := by rw [Nat.succ_mul]; omega
      have g0 : L.G (c + 0) H2 := by
        refine Rl.gR (a := a + i * c) ?_ r2
        refine L.gle ?_ hg
        have h1 : (i + 1) * c ≤ b * c := Nat.mul_le_mul_right _ (by omega)
        have h2 : (i + 1) * c = i * c + c := Nat.succ_mul _ _
        omega
      have r3 : L.R 0 H2 H3 := L.same (L.g0 g0) sm
      have g3 : L.G c H3 := Rl.gR (a := 0) (by rw [Nat.zero_add]; exact g0) r3
      have dx : Dv L.K A H3 x d := hdv A naD fun b o na e _ => na
      refine htg A x σ2 H3 dx (e2.r r3) _ fun σ4 e4 _ => ?_
      refine hs A σ4 H3 (fun b z y => naD b z (L.free r3 y)) e4 g3 { D with nx := _, ct := _, bk := D.nx } (fun σ5 H5 Γ5 r5 e6 p5 => ?_) fun v d5 H5 r5 hv p5 => ?_
      · refine ⟨hlt, ?_, fun b o na e k => L.keep r5 (sm _ _ (k2 b o na e k)) k, Γ5, e6, p5⟩
        rw [e5]
        exact L.tr (L.tr r2 r3) r5
      · refine q2 v d5 H5 (L.rle ?_ (L.tr (L.tr r2 r3) r5)) hv p5
        have h1 : (i + 1) * c ≤ b * c := Nat.mul_le_mul_right _ (by omega)
        have h2 : (i + 1) * c = i * c + c := Nat.succ_mul _ _
        omega
    · have e : i = items.length := by omega
      subst e
      refine .inl ⟨jk.stop H2 k2, q1 σ2 H2 Γi (L.rle ?_ r2) e2 (hN items hp Γi p2)⟩
      have := Nat.mul_le_mul_right c hl
      omega
theorem sg_for {wi : TI} {g : TG} {js : List Nat} {items : List PyData} (I : Nat → List (Option PyData) → Prop) (hw : WkD L wi Γ items) (h0 : I 0 Γ)
    (hb : ∀ (i : Nat) d Γi, items[i]? = some d → I i Γi → ∃ Γ', TgG L g js d Γi Γ' ∧ SG L 0 ts Γ' (I (i + 1)) Rt) (hN : ∀ Γe, I items.length Γe → N Γe) : SG L 0 (tFor wi g ts) Γ N Rt :=
  (sg_forG (a := 0) (b := items.length) (c := 0) (fun _ => I) hw (fun its e => by rw [e]; exact Nat.le_refl _) (fun _ _ => h0) (fun its e i d Γi hd hI => by subst e; exact hb i d Γi hd hI) fun its e Γe hI => by subst e; exact hN Γe hI).mono (Nat.le_of_eq (by simp)) (fun _ x => x) fun _ x => x
theorem sg_while (I : List (Option PyData) → Prop) (μ : List (Option PyData) → Nat) (h0 : I Γ) (hs : ∀ Γi, I Γi → ∃ k, EtD L tt Γi k ∧ (k = true → SG L 0 ts Γi (fun Γ' => I Γ' ∧ μ Γ' < μ Γi) Rt) ∧ (k = false → N Γi)) : SG L 0 (tWhile tt ts) Γ N Rt := fun A σ H hi he hg D q1 q2 => by
  refine ⟨fun m σ2 H2 => L.R 0 H H2 ∧ ∃ Γi, EnvOk L A σ2 H2 Γi ∧ I Γi ∧ m = μ Γi, ⟨μ Γ, Rl.refl hg, Γ, he, h0, rfl⟩, ?_⟩
  rintro m σ2 H2 ⟨r2, Γi, e2, p2, rfl⟩
  obtain ⟨k, hk, h1, h2⟩ := hs Γi p2
  have g2 : L.G 0 H2 := Rl.gR (a := 0) (b := 0) hg r2
  refine hk A σ2 H2 (hi.r r2) e2 g2 _ fun H3 r3 => ?_
  have r23 : L.R 0 H H3 := L.tr (a := 0) (b := 0) r2 r3
  cases k with
  | true =>
    refine ⟨fun σ4 H4 => ∃ m', m' < μ Γi ∧ (L.R 0 H H4 ∧ ∃ Γi, EnvOk L A σ4 H4 Γi ∧ I Γi ∧ m' = μ Γi), fun σ4 H4 x => x, ?_⟩
    refine h1 rfl A σ2 H3 ((hi.r r2).r r3) (e2.r r3) (Rl.gR (a := 0) (b := 0) g2 r3) { D with nx := _, ct := _, bk := D.nx } (fun σ4 H4 Γ4 r4 e4 p4 => ⟨_, p4.2, L.tr (a := 0) (b := 0) r23 r4, Γ4, e4, p4.1, rfl⟩) fun v d H4 r4 hv p4 => q2 v d H4 (L.tr (a := 0) (b := 0) r23 r4) hv p4
  | false => exact q1 σ2 H3 Γi r23 (e2.r r3) (h2 rfl)
theorem et_orG {a b : Nat} (h : EtG L a tt Γ (fun k => k = false)) (h2 : EtG L b tu Γ (fun k => k = false)) : EtG L (a + b) (tOr tt tu) Γ (fun k => k = false) := fun A σ H hi he hg Q q => h A σ H hi he (L.gle (Nat.le_add_right _ _) hg) _ fun k H1 r1 e => by
  subst e
  show tu σ H1 Q
  exact h2 A σ H1 (hi.r r1) (he.r r1) (Rl.gR hg r1) Q fun k H2 r2 e => q k H2 (L.tr r1 r2) e
theorem et_notG {a : Nat} {te : TE} (h : EvG L a te Γ (fun d => d = .bool true)) : EtG L a (tNot (tB te)) Γ (fun k => k = false) := fun A σ H hi he hg Q q => h A σ H hi he hg _ fun v d H1 r1 hv p => by
  subst p
  obtain rfl := hv.bool
  exact ⟨true, rfl, q false H1 r1 rfl⟩
end

/-! ### a def's promise by its body -/
def Ga (m : Nat) (ds : List PyData) : List (Option PyData) := ds.map some ++ List.replicate (m - ds.length) none
theorem start_ok {L : Rl} {A : Addr → Prop} {H : Hp} {Nm : List Str} {vs : List V} {ds : List PyData} (hl : vs.length = ds.length) (h : ∀ (i : Nat) d, ds[i]? = some d → ∃ v, vs[i]? = some v ∧ Dq L A H v d) : EnvOk L A (L2.start Nm vs) H (Ga Nm.length ds) := by
  refine ⟨by unfold L2.start Ga; rw [List.length_append, List.length_append, List.length_map, List.length_map, List.length_replicate, List.length_replicate, hl], fun i d e => ?_⟩
  unfold Ga at e
  by_cases hi : i < ds.length
  · rw [List.getElem?_append_left (by rw [List.length_map]; exact hi), List.getElem?_map] at e
    cases e2 : ds[i]? with
    | none => rw [e2] at e; cases e
    | some d' =>
      rw [e2] at e
      have e3 : d' = d := Option.some.inj (Option.some.inj e)
      subst e3
      obtain ⟨v, h1, h2⟩ := h i d' e2
      refine ⟨v, ?_, h2⟩
      unfold L2.start
      rw [List.getElem?_append_left (by rw [List.length_map, hl]; exact hi), List.getElem?_map, h1]
      rfl
  · rw [List.getElem?_append_right (by rw [List.length_map]; omega), List.getElem?_replicate] at e
    split at e <;> cases e
section
variable {P : Program} {w : World} {K : PySem.W.Frag} {mg : Str → Option Value} {base : Heap}
theorem ok_of {S : Rl → Prop} {x : Str} {st : Stmt} {f : Addr} {fd : FuncData} {N ps : List Str} {k n : Nat} {Pre : List PyData → Prop} {Post : List PyData → PyData → Prop} (F : Fun K x x st f fd) (Sc : FnScope N ps (defScope st)) (hlen : ∀ ds, Pre ds → ds.length = ps.length)
    (hb : ∀ (cdv : Value) (A : Around) (outer : List Env) (s : Shared) (H : Hp) (E : XK), A.guards = some [] → Room k (A.deeper (envOfC x (defScope st) s.heap.objs.size f cdv)) →
      ∃ t, PSs (cxOf CX0 P w K mg base N x (defScope st) f cdv A outer s H E).nox (defBody st) t ∧ ∀ L, S L → ∀ ds, Pre ds → SG L n t (Ga N.length ds) (fun _ => Post ds .none) (Post ds)) : FnG P w K mg base (k + 1) f fd ps (spA S n Pre Post) := by
  refine okG F Sc (fun vs H Q E h => ?_) (fun cdv A outer s H vs Q E hg hr h => ?_)
  · obtain ⟨L, _, A, ds, _, hl, _, hp, _⟩ := h
    rw [hl, hlen ds hp]
  · obtain ⟨L, hS, Av, ds, hi, hl, hv, hp, hgg, q⟩ := h
    obtain ⟨t, h1, h2⟩ := hb cdv A outer s H E hg hr
    refine ⟨t, h1, h2 L hS ds hp Av (L2.start N vs) H hi (start_ok hl hv) hgg _ (fun σ' H' Γ' r e p => ?_) fun v d H' r hd p => q v d H' r hd p⟩
    exact q .non .none H' r (.inr .non) p
theorem FnG.imp {k : Nat} {f : Addr} {fd : FuncData} {ps : List Str} {sp sp' : Sp} (F : FnG P w K mg base k f fd ps sp) (h : ∀ vs H Q E, sp' vs H Q E → sp vs H Q E) : FnG P w K mg base k f fd ps sp' :=
  ⟨fun vs H Q E z => F.len vs H Q E (h _ _ _ _ z), fun A outer s H args us vs Q E hg hr e0 hb r z => F.run A outer s H args us vs Q E hg hr e0 hb r (h _ _ _ _ z)⟩
/-- a def that leaves the heap as it is, whose answer is F of its arguments -/
theorem ok_fn {x : Str} {st : Stmt} {f : Addr} {fd : FuncData} {N ps : List Str} {k : Nat} {Pre : List PyData → Prop} {Fv : List PyData → PyData} (F : Fun K x x st f fd) (Sc : FnScope N ps (defScope st)) (hlen : ∀ ds, Pre ds → ds.length = ps.length)
    (hb : ∀ (cdv : Value) (A : Around) (outer : List Env) (s : Shared) (H : Hp) (E : XK), A.guards = some [] → Room k (A.deeper (envOfC x (defScope st) s.heap.objs.size f cdv)) →
      ∃ t, PSs (cxOf CX0 P w K mg base N x (defScope st) f cdv A outer s H E).nox (defBody st) t ∧ ∀ ds, Pre ds → SG (pureL K) 0 t (Ga N.length ds) (fun _ => .none = Fv ds) (fun d => d = Fv ds)) : FnG P w K mg base (k + 1) f fd ps (spL (pureL K) 0 Pre fun ds d => d = Fv ds) :=
  (ok_of (S := fun L => L = (pureL K)) F Sc hlen fun cdv A outer s H E hg hr => by
    obtain ⟨t, h1, h2⟩ := hb cdv A outer s H E hg hr
    exact ⟨t, h1, fun L e ds hp => by subst e; exact h2 ds hp⟩).imp fun vs H Q E h => ⟨(pureL K), rfl, h⟩
end
end V1
set_option Elab.async false
set_option linter.all false
set_option maxRecDepth 100000
set_option maxHeartbeats 4000000
/-! Fractions, points and rows as rational numbers. -/
namespace V1
open PySem

/-! ### greatest common divisors of lists -/
def gcdl (ns : List Int) : Nat := ns.foldl (fun g n => Nat.gcd g n.natAbs) 0
def lcml (bs : List Nat) : Nat := bs.foldl (fun l b => Nat.lcm l b) 1
theorem gcd_fold (ns : List Int) : ∀ g : Nat, ns.foldl (fun g n => Nat.gcd g n.natAbs) g = Nat.gcd g (gcdl ns) := by
  unfold gcdl
  induction ns with
  | nil => intro g; simp
  | cons n r ih =>
    intro g
    rw [List.foldl_cons, List.foldl_cons, ih, ih (Nat.gcd 0 n.natAbs), Nat.gcd_zero_left, Nat.gcd_assoc]
theorem gcdl_cons (n : Int) (r : List Int) : gcdl (n :: r) = Nat.gcd n.natAbs (gcdl r) := by
  show List.foldl _ (Nat.gcd 0 n.natAbs) r = _
  rw [gcd_fold, Nat.gcd_zero_left]
theorem gcdl_dvd {ns : List Int} : ∀ n ∈ ns, (gcdl ns : Int) ∣ n := by
  induction ns with
  | nil => intro n h; simp at h
  | cons a r ih =>
    intro n h
    rw [gcdl_cons]
    rcases List.mem_cons.mp h with rfl | h
    · exact Int.ofNat_dvd_left.mpr (Nat.gcd_dvd_left _ _)
    · exact Int.dvd_trans (Int.natCast_dvd_natCast.mpr (Nat.gcd_dvd_right _ _)) (ih n h)
theorem dvd_gcdl {ns : List Int} {k : Nat} (h : ∀ n ∈ ns, (k : Int) ∣ n) : k ∣ gcdl ns := by
  induction ns with
  | nil => exact Nat.dvd_zero k
  | cons a r ih =>
    rw [gcdl_cons]
    exact Nat.dvd_gcd (Int.ofNat_dvd_left.mp (h a List.mem_cons_self)) (ih fun n hn => h n (List.mem_cons_of_mem _ hn))
theorem gcdl_mul (c : Nat) (ns : List Int) : gcdl (ns.map fun n => (c : Int) * n) = c * gcdl ns := by
  induction ns with
  | nil => simp [gcdl]
  | cons a r ih => rw [List.map_cons, gcdl_cons, gcdl_cons, ih, Int.natAbs_mul, Int.natAbs_natCast, Nat.gcd_mul_left]
theorem gcdl_pos {ns : List Int} {n : Int} (h : n ∈ ns) (hn : n ≠ 0) : 0 < gcdl ns := by
  rcases Nat.eq_zero_or_pos (gcdl ns) with z | z
  · have := gcdl_dvd n h
    rw [z] at this
    exact absurd (Int.zero_dvd.mp this) hn
  · exact z
theorem lcm_fold (bs : List Nat) : ∀ l : Nat, bs.foldl (fun l b => Nat.lcm l b) l = Nat.lcm l (lcml bs) := by
  unfold lcml
  induction bs with
  | nil => intro l; simp
  | cons b r ih =>
    intro l
    rw [List.foldl_cons, List.foldl_cons, ih, ih (Nat.lcm 1 b), Nat.lcm_one_left, Nat.lcm_assoc]
theorem lcml_cons (b : Nat) (r : List Nat) : lcml (b :: r) = Nat.lcm b (lcml r) := by
  show List.foldl _ (Nat.lcm 1 b) r = _
  rw [lcm_fold, Nat.lcm_one_left]
theorem dvd_lcml {bs : List Nat} : ∀ b ∈ bs, b ∣ lcml bs := by
  induction bs with
  | nil => intro b h; simp at h
  | cons a r ih =>
    intro b h
    rw [lcml_cons]
    rcases List.mem_cons.mp h with rfl | h
    · exact Nat.dvd_lcm_left _ _
    · exact Nat.dvd_trans (ih b h) (Nat.dvd_lcm_right _ _)
theorem lcml_dvd {bs : List Nat} {k : Nat} (h : ∀ b ∈ bs, b ∣ k) : lcml bs ∣ k := by
  induction bs with
  | nil => exact Nat.one_dvd k
  | cons a r ih =>
    rw [lcml_cons]
    exact Nat.lcm_dvd (h a List.mem_cons_self) (ih fun b hb => h b (List.mem_cons_of_mem _ hb))
theorem lcml_pos {bs : List Nat} (h : ∀ b ∈ bs, 0 < b) : 0 < lcml bs := by
  induction bs with
  | nil => exact Nat.one_pos
  | cons a r ih =>
    rw [lcml_cons]
    exact Nat.lcm_pos (h a List.mem_cons_self) (ih fun b hb => h b (List.mem_cons_of_mem _ hb))

/-! ### fractions -/
def fq (q : Rat) : PyData := .tuple [.int q.num, .int (q.den : Int)]
abbrev rat (a : Int) (b : Nat) : Rat := mkRat a b
theorem fq_of {a : Int} {b : Nat} (hb : 0 < b) : PyData.tuple [.int (a / (Nat.gcd a.natAbs b : Nat)), .int ((b : Int) / (Nat.gcd a.natAbs b : Nat))] = fq (rat a b) := by
  unfold fq rat
  rw [Rat.num_mkRat, Rat.den_mkRat, if_neg (by omega), if_neg (by omega), Nat.gcd_comm]
  rfl
theorem rat_mul_den {a : Int} {b : Nat} (hb : 0 < b) : (rat a b).num * b = a * (rat a b).den := by
  have h := Rat.mkRat_self (rat a b)
  exact (Rat.mkRat_eq_iff (Rat.den_nz _) (by omega)).mp h
theorem den_dvd (a : Int) (b : Nat) (hb : 0 < b) : (rat a b).den ∣ b := by
  unfold rat
  rw [Rat.den_mkRat, if_neg (by omega)]
  exact Nat.div_dvd_of_dvd (Nat.gcd_dvd_left _ _)
theorem rat_eq {a c : Int} {b d : Nat} (hb : 0 < b) (hd : 0 < d) (h : a * d = c * b) : rat a b = rat c d := (Rat.mkRat_eq_iff (by omega) (by omega)).mpr h
theorem rat_div (a : Int) (b : Nat) : rat a b = (a : Rat) / (b : Rat) := Rat.mkRat_eq_div a b

/-! ### points and rows: the primitive integers of rational numbers -/
def lq (qs : List Rat) : Nat := lcml (qs.map fun q => q.den)
def topQ (qs : List Rat) : List Int := qs.map fun q => q.num * ((lq qs / q.den : Nat) : Int)
def rowQ (qs : List Rat) : List Int := topQ qs ++ [(lq qs : Int)]
def tI (ns : List Int) : PyData := .tuple (ns.map .int)
def lI (ns : List Int) : PyData := .list (ns.map .int)
def rowD (qs : List Rat) : PyData := tI (rowQ qs)
def prim (ns : List Int) : List Int := ns.map fun n => n / (gcdl ns : Int)
theorem lq_pos (qs : List Rat) : 0 < lq qs := lcml_pos fun b hb => by
  obtain ⟨q, _, rfl⟩ := List.mem_map.mp hb
  exact q.den_pos
theorem lq_dvd {qs : List Rat} {q : Rat} (h : q ∈ qs) : q.den ∣ lq qs := dvd_lcml _ (List.mem_map.mpr ⟨q, h, rfl⟩)
theorem topQ_len (qs : List Rat) : (topQ qs).length = qs.length := List.length_map _
theorem rowQ_len (qs : List Rat) : (rowQ qs).length = qs.length + 1 := by unfold rowQ; rw [List.length_append, topQ_len]; rfl
/-- n over w, the list of them -/
def over (ns : List Int) (w : Nat) : List Rat := ns.map fun n => rat n w
theorem prim_over (ns : List Int) {w : Nat} (hw : 0 < w) : prim (ns ++ [(w : Int)]) = rowQ (over ns w) := by
  generalize hg : gcdl (ns ++ [(w : Int)]) = g
  have hgp : 0 < g := by rw [← hg]; exact gcdl_pos (n := (w : Int)) (by simp) (by omega)
  have dv : ∀ n ∈ ns ++ [(w : Int)], (g : Int) ∣ n := by rw [← hg]; exact gcdl_dvd
  obtain ⟨k, hk⟩ : g ∣ w := Int.natCast_dvd_natCast.mp (dv w (by simp))
  have hkp : 0 < k := Nat.pos_of_ne_zero fun z => by rw [z] at hk; omega
  have hns : ∀ n ∈ ns, n = (g : Int) * (n / g) := fun n hn => (Int.mul_ediv_cancel' (dv n (by simp [hn]))).symm
  have hq : ∀ n ∈ ns, rat n w = rat (n / g) k := fun n hn => rat_eq hw hkp (by
    have e := hns n hn
    rw [hk, Int.natCast_mul]
    calc n * (k : Int) = ((g : Int) * (n / g)) * k := by rw [← e]
      _ = n / g * ((g : Int) * k) := by rw [Int.mul_comm (g : Int) (n / g), Int.mul_assoc])
  -- the primitive ones have no common divisor
  have g1 : gcdl (ns.map (fun n => n / (g : Int)) ++ [(k : Int)]) = 1 := by
    have e : (ns.map (fun n => n / (g : Int)) ++ [(k : Int)]).map (fun n => (g : Int) * n) = ns ++ [(w : Int)] := by
      rw [List.map_append, List.map_map]
      congr 1
      · calc ns.map ((fun n => (g : Int) * n) ∘ fun n => n / (g : Int)) = ns.map id := List.map_congr_left fun n hn => (hns n hn).symm
          _ = ns := List.map_id ns
      · show [(g : Int) * (k : Int)] = [(w : Int)]
        rw [hk, Int.natCast_mul]
    have h := gcdl_mul g (ns.map (fun n => n / (g : Int)) ++ [(k : Int)])
    rw [e, hg] at h
    exact Nat.eq_of_mul_eq_mul_left hgp (by rw [Nat.mul_one]; exact h.symm)
  -- the common bottom is k
  have hl : lq (over ns w) = k := by
    refine Nat.dvd_antisymm (lcml_dvd fun b hb => ?_) ?_
    · obtain ⟨q, hq1, rfl⟩ := List.mem_map.mp hb
      obtain ⟨n, hn, rfl⟩ := List.mem_map.mp hq1
      rw [hq n hn]
      exact den_dvd _ _ hkp
    · have key : k ∣ gcdl ((ns.map (fun n => n / (g : Int)) ++ [(k : Int)]).map fun n => ((lq (over ns w) : Nat) : Int) * n) := dvd_gcdl fun m hm => by
        obtain ⟨m', hm', rfl⟩ := List.mem_map.mp hm
        rcases List.mem_append.mp hm' with z | z
        · obtain ⟨n, hn, rfl⟩ := List.mem_map.mp z
          have hd : (rat n w).den ∣ lq (over ns w) := lq_dvd (List.mem_map.mpr ⟨n, hn, rfl⟩)
          obtain ⟨c, hc⟩ := hd
          have h1 := rat_mul_den (a := n / g) hkp
          rw [← hq n hn] at h1
          refine ⟨(rat n w).num * c, ?_⟩
          rw [hc, Int.natCast_mul]
          calc ((rat n w).den : Int) * c * (n / g) = (n / g * (rat n w).den) * c := by grind
            _ = ((rat n w).num * k) * c := by rw [h1]
            _ = (k : Int) * ((rat n w).num * c) := by grind
        · have e : m' = (k : Int) := by simpa using z
          subst e
          exact ⟨_, Int.mul_comm _ _⟩
      rw [gcdl_mul, g1, Nat.mul_one] at key
      exact key
  unfold prim rowQ
  rw [hg, List.map_append, hl]
  congr 1
  · unfold topQ over
    rw [List.map_map]
    refine List.map_congr_left fun n hn => ?_
    show n / (g : Int) = (rat n w).num * ((lq (over ns w) / (rat n w).den : Nat) : Int)
    rw [hl]
    have hd : (rat n w).den ∣ k := by rw [hq n hn]; exact den_dvd _ _ hkp
    obtain ⟨c, hc⟩ := hd
    have hdp := (rat n w).den_pos
    have e1 : k / (rat n w).den = c := by rw [hc, Nat.mul_div_cancel_left _ hdp]
    rw [e1]
    have h1 := rat_mul_den (a := n / g) hkp
    rw [← hq n hn, hc, Int.natCast_mul] at h1
    have h2 : ((rat n w).den : Int) * (n / g) = ((rat n w).den : Int) * ((rat n w).num * c) := by
      calc ((rat n w).den : Int) * (n / g) = n / g * (rat n w).den := Int.mul_comm _ _
        _ = (rat n w).num * (((rat n w).den : Int) * c) := h1.symm
        _ = ((rat n w).den : Int) * ((rat n w).num * c) := by grind
    exact Int.eq_of_mul_eq_mul_left (by omega) h2
  · show [(w : Int) / (g : Int)] = [(k : Int)]
    rw [hk, Int.natCast_mul, Int.mul_ediv_cancel_left _ (by omega)]
/-- the integers of a row, over the bottom, are its numbers -/
theorem over_top (qs : List Rat) : over (topQ qs) (lq qs) = qs := by
  unfold over topQ
  rw [List.map_map]
  calc qs.map ((fun n => rat n (lq qs)) ∘ fun q => q.num * ((lq qs / q.den : Nat) : Int)) = qs.map id := List.map_congr_left fun q hq => by
        show rat (q.num * ((lq qs / q.den : Nat) : Int)) (lq qs) = q
        have hd := lq_dvd hq
        obtain ⟨c, hc⟩ := hd
        have hdp := q.den_pos
        have hlp := lq_pos qs
        have e1 : lq qs / q.den = c := by rw [hc, Nat.mul_div_cancel_left _ hdp]
        rw [e1]
        calc rat (q.num * c) (lq qs) = rat q.num q.den := rat_eq hlp hdp (by rw [hc, Int.natCast_mul]; grind)
          _ = q := Rat.mkRat_self q
    _ = qs := List.map_id qs
theorem prim_rowQ (qs : List Rat) : prim (rowQ qs) = rowQ qs := by
  have h := prim_over (topQ qs) (lq_pos qs)
  rw [over_top] at h
  exact h
theorem gcdl_rowQ (qs : List Rat) : gcdl (rowQ qs) = 1 := by
  have h := prim_rowQ qs
  have hm : (lq qs : Int) ∈ rowQ qs := by simp [rowQ]
  have hp : 0 < gcdl (rowQ qs) := gcdl_pos hm (by have := lq_pos qs; omega)
  have e : (prim (rowQ qs)).getLast? = (rowQ qs).getLast? := by rw [h]
  unfold prim at e
  rw [List.getLast?_map] at e
  have e2 : (rowQ qs).getLast? = some (lq qs : Int) := by simp [rowQ]
  rw [e2] at e
  have e3 : (lq qs : Int) / (gcdl (rowQ qs) : Int) = (lq qs : Int) := by simpa using e
  have hl := lq_pos qs
  have d := gcdl_dvd _ hm
  obtain ⟨c, hc⟩ := d
  rw [hc, Int.mul_ediv_cancel_left _ (by omega)] at e3
  have h4 : (1 : Int) * c = (gcdl (rowQ qs) : Int) * c := by rw [Int.one_mul]; exact e3
  have hcz : c ≠ 0 := fun z => by rw [z] at hc; omega
  have h5 := Int.eq_of_mul_eq_mul_right hcz h4
  omega
end V1
set_option Elab.async false
set_option linter.all false
set_option maxRecDepth 100000
set_option maxHeartbeats 4000000
/-! The text of the law k02 by places; what the top has left. -/
namespace V1
open PySem PySem.Spec PyProof.Rows L2

/-- built-in names, and the two of math -/
structure Bt (K : PySem.W.Frag) (mg : Str → Option Value) : Prop where
  len : mg "len" = none
  abs : mg "abs" = none
  sum : mg "sum" = none
  min : mg "min" = none
  max : mg "max" = none
  repr : mg "repr" = none
  int : mg "int" = none
  bool : mg "bool" = none
  tuple : mg "tuple" = none
  zip : mg "zip" = none
  enumerate : mg "enumerate" = none
  range : mg "range" = none
  isinstance : mg "isinstance" = none
  str : mg "str" = none
  list : mg "list" = none
  all : mg "all" = none
  set : mg "set" = none
  sorted : mg "sorted" = none
/-- a def of the top as it stands -/
structure Df (K : PySem.W.Frag) (mg : Str → Option Value) (x : Str) (st : Stmt) (ps : List Str) (f : Addr) (fd : FuncData) : Prop where
  gm : mg x = some (.ref f)
  F : Fun K x x st f fd
  b : Binds K fd ps []
/-- .. and what it promises -/
structure Cal (P : Program) (w : World) (K : PySem.W.Frag) (mg : Str → Option Value) (base : Heap) (x : Str) (st : Stmt) (ps : List Str) (k : Nat) (sp : Sp) (f : Addr) (fd : FuncData) : Prop where
  gm : mg x = some (.ref f)
  F : Fun K x x st f fd
  b : Binds K fd ps []
  G : FnG P w K mg base k f fd ps sp
theorem Cal.kp {P : Program} {w : World} {K : PySem.W.Frag} {mg : Str → Option Value} {base : Heap} {x : Str} {st : Stmt} {ps : List Str} {k : Nat} {sp : Sp} {f : Addr} {fd : FuncData} (c : Cal P w K mg base x st ps k sp f fd) : PySem.W.keepIn K (.ref f) = true := c.F.kp
/-- a list or a tuple, walked -/
def iAny (K : PySem.W.Frag) (tl : TE) : TI := fun σ H R => tl σ H fun x H1 => ∃ a, x = .ref a ∧ ((∃ xs, SqL K H1 a xs) ∧ R (Itl K a) H1 ∨ (∃ xs, SqT K H1 a xs) ∧ R (Itt K a) H1)
theorem pi_any {X : Cx} {tg l : Expr} {tl : TE} (hl : PE X l tl) : PI X tg l (iAny X.K tl) := by
  refine ⟨fun pins s σ H R I h => thn (hl.run pins s σ H _ I h) fun v s1 ⟨x, H1, I1, r1, q1⟩ => ?_⟩
  obtain ⟨a, rfl, q1⟩ := q1
  cases r1
  have fr : ∀ b ∈ [s1.heap.objs.size], FpOk X pins H1 b := fun b hb => by
    have e : b = s1.heap.objs.size := by simpa using hb
    subst e
    exact I1.fpOk (Nat.le_refl _) (I1.hok.fresh (Nat.le_refl _))
  rcases q1 with ⟨⟨xs, hq⟩, q⟩ | ⟨⟨xs, hq⟩, q⟩
  · obtain ⟨its, rv, p, hz⟩ := I1.list hq
    exact wpAny_pyIter_list p.isList ⟨s1.heap.objs.size, [s1.heap.objs.size], _, _, H1, rfl, I1.kept (t' := s1.toks) (fun b o e => Heap.get?_push_of_some _ e), turn_list a _, ⟨_, Heap.get?_push_size _ rfl, rfl, rfl⟩, fr, q⟩
  · obtain ⟨its, rv, p, hz⟩ := I1.tuple hq
    exact wpAny_pyIter_tuple (show s1.heap.IsTuple a its.toArray from p) ⟨s1.heap.objs.size, [s1.heap.objs.size], _, _, H1, rfl, I1.kept (t' := s1.toks) (fun b o e => Heap.get?_push_of_some _ e), turn_tuple a _, ⟨_, Heap.get?_push_size _ rfl, rfl, rfl⟩, fr, q⟩
section
variable {L : Rl} {Γ : List (Option PyData)} {K : PySem.W.Frag} {tl te : TE}
theorem wk_any {k : Bool} {ds : List PyData} (h : EvD L tl Γ (sqD k ds)) : WkD L (iAny L.K tl) Γ ds := fun A σ H hi he hg R q => h A σ H hi he hg _ fun x d H1 r1 hx p => by
  subst p
  obtain ⟨p, xs, rfl, e, r⟩ := sq_dq hx
  refine ⟨p, rfl, ?_⟩
  cases k with
  | true => exact .inl ⟨⟨xs, e.now⟩, q _ H1 ds r1 rfl (jok_seq true e r _ rfl)⟩
  | false => exact .inr ⟨⟨xs, e.now⟩, q _ H1 ds r1 rfl (jok_seq false e r _ rfl)⟩
/-- the name of a value's class -/
def kindN : PyData → String
  | .none => "NoneType"
  | .bool _ => "bool"
  | .int _ => "int"
  | .str _ => "str"
  | .list _ => "list"
  | .tuple _ => "tuple"
  | .dict _ => "dict"
theorem dv_ty {A : Addr → Prop} {H : Hp} {x : V} {d : PyData} (h : Dv L.K A H x d) : TyX L.K H x (.type (kindN d)) := by
  cases h with
  | non => exact .base .non
  | bl b => exact .base (.bl b)
  | int i => exact .base (.int i)
  | str z => exact .base (.str z)
  | lst _ e _ => exact .base (.lst e)
  | tup _ e _ => exact .base (.tup e)
  | ktup e _ =>
    obtain ⟨o, its, n, e1, e2, _⟩ := e
    exact .kTuple e1 e2
  | emp _ e => exact .fDict e
/-- isinstance of any data -/
theorem eg_isi {d : PyData} {b : Bool} {n : String} (h : EvD L te Γ d) (hd : d ≠ mark) (hk : kitB (kindN d) n = some b) : EvD L (tCB (rIsi L.K) (tCons te (tCons (tC (.ty n)) tNil))) Γ (.bool b) := fun A σ H hi he hg Q q => h A σ H hi he hg _ fun x d1 H1 r1 hx p => by
  subst p
  exact ⟨x, .ty n, .type (kindN d1), .type n, b, rfl, .ty n, dv_ty (hx.ne hd), kit_ty hk, q _ _ H1 r1 (.inr (.bl b)) rfl⟩
theorem eg_isiI {i : Int} {b : Bool} {n : String} (h : EvD L te Γ (.int i)) (hk : kitB "int" n = some b) : EvD L (tCB (rIsi L.K) (tCons te (tCons (tC (.ty n)) tNil))) Γ (.bool b) := eg_isi h (by intro z; cases z) hk
theorem eg_isiT {ds : List PyData} {b : Bool} {n : String} (h : EvD L te Γ (.tuple ds)) (hk : kitB "tuple" n = some b) : EvD L (tCB (rIsi L.K) (tCons te (tCons (tC (.ty n)) tNil))) Γ (.bool b) := eg_isi h (by intro z; cases z) hk
/-- and, or: the right one is looked at where the left one asks it -/
theorem eg_andC {a b : Bool} {ta tb : TE} (ha : EvD L ta Γ (.bool a)) (hb : a = true → EvD L tb Γ (.bool b)) : EvD L (tAndV ta tb) Γ (.bool (a && b)) := fun A σ H hi he hg Q q => ha A σ H hi he hg _ fun x d H1 r1 hx p => by
  subst p
  obtain rfl := hx.bool
  refine ⟨a, rfl, ?_⟩
  cases a with
  | true => exact hb rfl A σ H1 (hi.r r1) (he.r r1) (Rl.gR (b := 0) hg r1) _ fun y d H2 r2 hy p => q y d H2 (L.tr (a := 0) (b := 0) r1 r2) hy p
  | false => exact q _ _ H1 r1 (.inr (.bl false)) rfl
theorem eg_and {a b : Bool} {ta tb : TE} (ha : EvD L ta Γ (.bool a)) (hb : EvD L tb Γ (.bool b)) : EvD L (tAndV ta tb) Γ (.bool (a && b)) := fun A σ H hi he hg Q q => ha A σ H hi he hg _ fun x d H1 r1 hx p => by
  subst p
  obtain rfl := hx.bool
  refine ⟨a, rfl, ?_⟩
  cases a with
  | true => exact hb A σ H1 (hi.r r1) (he.r r1) (Rl.gR (b := 0) hg r1) _ fun y d H2 r2 hy p => q y d H2 (L.tr (a := 0) (b := 0) r1 r2) hy p
  | false => exact q _ _ H1 r1 (.inr (.bl false)) rfl
theorem eg_not {a : Bool} {ta : TE} (ha : EvD L ta Γ (.bool a)) : EvD L (tNotV ta) Γ (.bool (!a)) := fun A σ H hi he hg Q q => ha A σ H hi he hg _ fun x d H1 r1 hx p => by
  subst p
  obtain rfl := hx.bool
  exact ⟨a, rfl, q _ _ H1 r1 (.inr (.bl _)) rfl⟩
end
end V1
namespace V1
open PySem PySem.Spec PyProof.Rows L2
/-- a def whose answer is told for each a -/
def spR (K : PySem.W.Frag) {α : Type} (args : α → List PyData) (ok : α → Prop) (val : α → PyData) : Sp := fun vs H Q E => ∃ a, ok a ∧ spL (pureL K) 0 (fun ds => ds = args a) (fun _ d => d = val a) vs H Q E
section
variable {L : Rl} {Γ : List (Option PyData)} {t tk : TA} {E : XK} {α : Type} {args : α → List PyData} {ok : α → Prop} {val : α → PyData}
theorem eg_callR (a : α) (ha : EaD L t Γ (args a)) (ho : ok a) (hn : nomk (args a) = true := by rfl) : EvD L (tCall (spR L.K args ok val) [] E t) Γ (val a) := fun A σ H hi he hg Q q => ha A σ H hi he hg _ fun vs ds H1 r1 l hv p => by
  subst p
  show spR L.K args ok val (vs ++ []) H1 Q E
  rw [List.append_nil]
  refine ⟨a, ho, A, args a, hi.r r1, l, fun i d e => ?_, rfl, trivial, fun v d H2 r2 hd hpo => q v d H2 (L.tr (a := 0) (b := 0) r1 (L.same (Rl.gR (b := 0) hg r1) r2)) (pure_dq hd) hpo⟩
  obtain ⟨v, e1, e2⟩ := hv i d e
  exact ⟨v, e1, .inr (e2.ne (nomk_ne hn i d e))⟩
/-- with keywords alone, in an order of their own -/
theorem eg_callRK (a : α) {ds : List PyData} {gV : List V → List V → List V} (ha : EaD L tk Γ ds) (hg2 : ∀ zs : List V, zs.length = ds.length → (gV [] zs).length = (args a).length ∧ ∀ (i : Nat) d, (args a)[i]? = some d → ∃ j : Nat, ds[j]? = some d ∧ (gV [] zs)[i]? = zs[j]?) (ho : ok a) (hn : nomk (args a) = true := by rfl) :
    EvD L (tCallK (spR L.K args ok val) gV E tNil tk) Γ (val a) := fun A σ H hi he hg Q q => ha A σ H hi he hg _ fun vs ds' H1 r1 l hv p => by
  subst p
  obtain ⟨g1, g2⟩ := hg2 vs l
  refine ⟨a, ho, A, args a, hi.r r1, g1, fun i d e => ?_, rfl, trivial, fun v d H2 r2 hd hpo => q v d H2 (L.tr (a := 0) (b := 0) r1 (L.same (Rl.gR (b := 0) hg r1) r2)) (pure_dq hd) hpo⟩
  obtain ⟨j, e1, e2⟩ := g2 i d e
  obtain ⟨v, e3, e4⟩ := hv j d e1
  exact ⟨v, by rw [e2]; exact e3, .inr (e4.ne (nomk_ne hn i d e))⟩
end
section
variable {P : Program} {w : World} {K : PySem.W.Frag} {mg : Str → Option Value} {base : Heap}
theorem ok_R {α : Type} {args : α → List PyData} {ok : α → Prop} {val : α → PyData} {x : Str} {st : Stmt} {f : Addr} {fd : FuncData} {N ps : List Str} {k : Nat} (D : Df K mg x st ps f fd) (Sc : FnScope N ps (defScope st)) (hlen : ∀ a, (args a).length = ps.length)
    (hb : ∀ (cdv : Value) (A : Around) (outer : List Env) (s : Shared) (H : Hp) (E : XK), (cxOf CX0 P w K mg base N x (defScope st) f cdv A outer s H E).nox.A.guards = some [] → Room k (cxOf CX0 P w K mg base N x (defScope st) f cdv A outer s H E).nox.A →
      ∃ t, PSs (cxOf CX0 P w K mg base N x (defScope st) f cdv A outer s H E).nox (defBody st) t ∧ ∀ a, ok a → SG (pureL K) 0 t (Ga N.length (args a)) (fun _ => .none = val a) (fun d => d = val a)) : Cal P w K mg base x st ps (k + 1) (spR K args ok val) f fd := by
  refine ⟨D.gm, D.F, D.b, okG D.F Sc (fun vs H Q E h => ?_) (fun cdv A outer s H vs Q E hg hr h => ?_)⟩
  · obtain ⟨a, _, Av, ds, _, hl, _, hp, _⟩ := h
    rw [hl, hp, hlen a]
  · obtain ⟨a, ho, Av, ds, hi, hl, hv, hp, hgg, q⟩ := h
    subst hp
    obtain ⟨t, h1, h2⟩ := hb cdv A outer s H E hg hr
    refine ⟨t, h1, h2 a ho Av _ H hi (start_ok hl hv) hgg _ (fun σ' H' Γ' r e p => ?_) fun v d H' r hd p => q v d H' r hd p⟩
    exact q .non .none H' r (.inr .non) p
end
def Bn (n : Nat) (ns : List Int) : Prop := ∀ z ∈ ns, z.natAbs < 2 ^ n
end V1
set_option Elab.async false
set_option linter.all false
set_option maxRecDepth 100000
set_option maxHeartbeats 4000000
/-! Rows as data; slices of them; helpers for comprehensions. -/
namespace V1
open PySem PySem.Spec PyProof.Rows L2
/-- the integer of q over the bottom l -/
def tq (l : Nat) (q : Rat) : Int := q.num * ((l / q.den : Nat) : Int)
theorem tq_rat {l : Nat} {q : Rat} (hl : 0 < l) (h : q.den ∣ l) : rat (tq l q) l = q := by
  obtain ⟨c, hc⟩ := h
  have hdp := q.den_pos
  have e1 : l / q.den = c := by rw [hc, Nat.mul_div_cancel_left _ hdp]
  unfold tq
  rw [e1]
  calc rat (q.num * c) l = rat q.num q.den := rat_eq hl hdp (by rw [hc, Int.natCast_mul]; grind)
    _ = q := Rat.mkRat_self q
theorem rat_cast {a : Int} {b : Nat} (hb : 0 < b) : ((a : Int) : Rat) = rat a b * (b : Rat) := by
  rw [rat_div]
  have : (b : Rat) ≠ 0 := by
    intro z
    have : b = 0 := by exact_mod_cast z
    omega
  grind
theorem tq_cast {l : Nat} {q : Rat} (hl : 0 < l) (h : q.den ∣ l) : ((tq l q : Int) : Rat) = q * (l : Rat) := by
  rw [rat_cast (a := tq l q) hl, tq_rat hl h]
theorem natne {b : Nat} (hb : 0 < b) : (b : Rat) ≠ 0 := by
  intro z
  have : b = 0 := by exact_mod_cast z
  omega
/-- an integer over a bottom is q if it is q times the bottom -/
theorem rat_of {a : Int} {b : Nat} {q : Rat} (hb : 0 < b) (h : ((a : Int) : Rat) = q * (b : Rat)) : rat a b = q := by
  rw [rat_div, h]
  have := natne hb
  grind
theorem topQ_eq (qs : List Rat) : topQ qs = qs.map (tq (lq qs)) := rfl
def iv (l : Nat) (q : Rat) : PyData := .int (tq l q)
theorem rowD_one (x : List Rat) : rowD x = .tuple (x.map (iv (lq x)) ++ [.int (lq x : Int)]) := by
  unfold rowD tI rowQ
  rw [topQ_eq, List.map_append, List.map_map]
  rfl
theorem rowD_two (r : List Rat) (c : Rat) : rowD (r ++ [c]) = .tuple (r.map (iv (lq (r ++ [c]))) ++ [iv (lq (r ++ [c])) c, .int (lq (r ++ [c]) : Int)]) := by
  rw [rowD_one, List.map_append, List.append_assoc]
  rfl
/-- bounds -/
def rb (n : Nat) (r : List Rat) : Prop := r.length ≤ 50 ∧ Bn n (rowQ r)
theorem rb_lq {n : Nat} {r : List Rat} (h : rb n r) : lq r < 2 ^ n := by
  have := h.2 (lq r : Int) (by simp [rowQ])
  simpa using this
theorem rb_tq {n : Nat} {r : List Rat} (h : rb n r) {q : Rat} (hq : q ∈ r) : (tq (lq r) q).natAbs < 2 ^ n := h.2 _ (by
  unfold rowQ
  rw [topQ_eq]
  exact List.mem_append_left _ (List.mem_map.mpr ⟨q, hq, rfl⟩))
theorem bn_prim {n : Nat} {ns : List Int} (h : Bn n ns) : Bn n (prim ns) := fun z hz => by
  unfold prim at hz
  obtain ⟨m, hm, rfl⟩ := List.mem_map.mp hz
  have h1 := h m hm
  have h2 := Int.natAbs_ediv_le_natAbs m (gcdl ns : Int)
  omega
theorem rb_over {n : Nat} {ns : List Int} {w : Nat} (hw : 0 < w) (h : Bn n (ns ++ [(w : Int)])) (hl : ns.length ≤ 50) : rb n (over ns w) := by
  refine ⟨by unfold over; rw [List.length_map]; exact hl, ?_⟩
  rw [← prim_over ns hw]
  exact bn_prim h
theorem Bn.mono {a b : Nat} {ns : List Int} (h : Bn a ns) (hab : a ≤ b) : Bn b ns := fun z hz => Nat.lt_of_lt_of_le (h z hz) (Nat.pow_le_pow_right (by decide) hab)
theorem rb.mono {a b : Nat} {r : List Rat} (h : rb a r) (hab : a ≤ b) : rb b r := ⟨h.1, h.2.mono hab⟩

theorem ix_tupK {X : Cx} {K : PySem.W.Frag} (h : X.K = K) : IxR X (rIxT K) := h ▸ ix_tup
theorem ix_listK {X : Cx} {K : PySem.W.Frag} (h : X.K = K) : IxR X (rIxL K) := h ▸ ix_list
section
variable {L : Rl} {Γ : List (Option PyData)} {te : TE} {t : TA}
theorem cut1 (xs : List PyData) (a : PyData) : cutD (xs ++ [a]) none (some (-1)) = xs := by
  rw [show (-1 : Int) = -((1 : Nat) : Int) from rfl, cut_neg (by decide) (by simp)]
  simp
theorem cut2 (xs : List PyData) (a b : PyData) : cutD (xs ++ [a, b]) none (some (-2)) = xs := by
  rw [show (-2 : Int) = -((2 : Nat) : Int) from rfl, cut_neg (by decide) (by simp)]
  simp
theorem eg_init1 {xs : List PyData} {a : PyData} (h : EvD L te Γ (.tuple (xs ++ [a]))) : EvD L (tSl (rSlT L.K) te tNoPart (tPart (tUn (rU fun i => .int (-i)) (tC (.int 1))))) Γ (.tuple xs) := by
  have h1 := eg_slT h eo_none (eo_some (eg_neg (eg_int (i := 1)))) (by
    rintro ⟨_, z⟩
    have z2 : (if (-1 : Int) < 0 then ((-1 : Int) + ((xs ++ [a]).length : Int)).toNat else min (-1 : Int).toNat (xs ++ [a]).length) = (xs ++ [a]).length := z
    rw [if_pos (by omega)] at z2
    simp at z2
    omega)
  rw [cut1] at h1
  exact h1
theorem eg_init2 {xs : List PyData} {a b : PyData} (h : EvD L te Γ (.tuple (xs ++ [a, b]))) : EvD L (tSl (rSlT L.K) te tNoPart (tPart (tUn (rU fun i => .int (-i)) (tC (.int 2))))) Γ (.tuple xs) := by
  have h1 := eg_slT h eo_none (eo_some (eg_neg (eg_int (i := 2)))) (by
    rintro ⟨_, z⟩
    have z2 : (if (-2 : Int) < 0 then ((-2 : Int) + ((xs ++ [a, b]).length : Int)).toNat else min (-2 : Int).toNat (xs ++ [a, b]).length) = (xs ++ [a, b]).length := z
    rw [if_pos (by omega)] at z2
    simp at z2
    omega)
  rw [cut2] at h1
  exact h1
theorem at_last2 (xs : List PyData) (a b : PyData) : atI (xs ++ [a, b]) (-1) = some b := by
  rw [show xs ++ [a, b] = (xs ++ [a]) ++ [b] by simp]
  exact atI_last _ _
theorem at_last3 (xs : List PyData) (a b : PyData) : atI (xs ++ [a, b]) (-2) = some a := by
  have e : ixN (xs ++ [a, b]).length (-2) = some xs.length := by
    unfold ixN
    rw [if_neg (by omega), if_pos (by simp; omega)]
    simp
    omega
  unfold atI
  rw [e]
  simp
/-- a comprehension over things that stand for data -/
theorem eg_lcm {α : Type} {wi : TI} {g : TG} {js vs : List Nat} {xs : List α} {enc res : α → PyData} (hw : WkD L wi Γ (xs.map enc)) (hj : ∀ j ∈ js, j ∈ vs) (hlen : xs.length ≤ 1000)
    (hb : ∀ x ∈ xs, res x ≠ mark ∧ ∃ Γ', TgG L g js (enc x) (wipeD Γ vs) Γ' ∧ EvD L te Γ' (res x)) : EvD L (tLc wi g tYes te vs) Γ (.list (xs.map res)) :=
  eg_lc hw hj (by rw [List.length_map]; exact hlen) (by rw [List.length_map, List.length_map]) fun i d r hd hr => by
    rw [List.getElem?_map] at hd hr
    cases hx : xs[i]? with
    | none => rw [hx] at hd; cases hd
    | some x =>
      rw [hx] at hd hr
      have e1 : enc x = d := Option.some.inj hd
      have e2 : res x = r := Option.some.inj hr
      subst e1 e2
      exact hb x (List.mem_of_getElem? hx)
theorem zipD_map {α β : Type} (e1 : α → PyData) (e2 : β → PyData) : ∀ (xs : List α) (ys : List β), zipD (xs.map e1) (ys.map e2) = (xs.zip ys).map fun p => PyData.tuple [e1 p.1, e2 p.2]
  | [], ys => by cases ys <;> rfl
  | x :: xs, [] => rfl
  | x :: xs, y :: ys => by
    have h := zipD_map e1 e2 xs ys
    unfold zipD at h ⊢
    rw [List.map_cons, List.map_cons, List.zipWith_cons_cons, h, List.zip_cons_cons, List.map_cons]
theorem eg_notN (h : EvD L te Γ .none) : EvD L (tOp (fun x y H Q => y = V.non ∧ Q (.bl (!decide (x = .non))) H) te (tC .non)) Γ (.bool false) := fun A σ H hi he hg Q q => h A σ H hi he hg _ fun x d H1 r1 hx p => by
  subst p
  have hx1 := hx.ne (by intro z; cases z)
  cases hx1
  exact ⟨rfl, q _ _ H1 r1 (.inr (.bl false)) rfl⟩
theorem eg_mulN {C : Int → Int → Prop} {i j : Int} {ta tb : TE} (ha : EvD L ta Γ (.int i)) (hb : EvD L tb Γ (.int j)) (hc : C i j) : EvD L (tOp (rI C fun i j => .int (i * j)) ta tb) Γ (.int (i * j)) := eg_op ha hb (os_I hc)
end
/-- products of bounded numbers -/
theorem mw {i j : Int} {a b : Nat} (ha : i.natAbs < 2 ^ a) (hb : j.natAbs < 2 ^ b) (h0 : 0 < a := by decide) (h1 : 0 < b := by decide) (h : a + b ≤ 1000000 := by decide) : CMulW i j := wide_mul ha hb h0 h1 h
theorem nb {b n : Nat} (h : b < 2 ^ n) : ((b : Int)).natAbs < 2 ^ n := by rw [Int.natAbs_natCast]; exact h
theorem nat_mul_lt {a b n m : Nat} (ha : a < 2 ^ n) (hb : b < 2 ^ m) : a * b < 2 ^ (n + m) := by
  rw [Nat.pow_add]
  exact Nat.mul_lt_mul'' ha hb
/-! ### the inner product -/
def dot (r x : List Rat) : Rat := (List.zipWith (fun a b => a * b) r x).sum
def dotI (l w : Nat) (r x : List Rat) : Int := ((r.zip x).map fun p => tq l p.1 * tq w p.2).sum
theorem dotI_cast {l w : Nat} (hl : 0 < l) (hw : 0 < w) : ∀ (r x : List Rat), (∀ q ∈ r, q.den ∣ l) → (∀ q ∈ x, q.den ∣ w) → ((dotI l w r x : Int) : Rat) = dot r x * ((l : Rat) * (w : Rat))
  | [], x, _, _ => by simp [dotI, dot]
  | a :: r, [], _, _ => by simp [dotI, dot]
  | a :: r, b :: x, h1, h2 => by
    have ih := dotI_cast hl hw r x (fun q hq => h1 q (List.mem_cons_of_mem _ hq)) (fun q hq => h2 q (List.mem_cons_of_mem _ hq))
    have e1 : dotI l w (a :: r) (b :: x) = tq l a * tq w b + dotI l w r x := by simp [dotI]
    have e2 : dot (a :: r) (b :: x) = a * b + dot r x := by simp [dot]
    rw [e1, e2, Rat.intCast_add, Rat.intCast_mul, ih, tq_cast hl (h1 a List.mem_cons_self), tq_cast hw (h2 b List.mem_cons_self)]
    grind
end V1
set_option Elab.async false
set_option linter.all false
set_option maxRecDepth 100000
set_option maxHeartbeats 4000000
/-! A list made here is written. -/
namespace V1
open PySem PySem.Spec PyProof.Rows L2
def FrS (H0 : Hp) (j : Nat) (σ : L2.St) : Prop := ∃ p, σ[j]? = some (some (V.ref p)) ∧ H0 p = none
def SF (L : Rl) (j : Nat) (ts : TS) (Γ : List (Option PyData)) (N : List (Option PyData) → Prop) : Prop := ∀ (H0 : Hp) A σ H, Inn A H → EnvOk L A σ H Γ → L.G 0 H → L.R 0 H0 H → FrS H0 j σ → ∀ D : Ends,
  (∀ σ' H' Γ', L.R 0 H H' → EnvOk L A σ' H' Γ' → FrS H0 j σ' → N Γ' → D.nx σ' H') → ts D σ H
def SW (L : Rl) (j : Nat) (ts : TS) (Γ : List (Option PyData)) (N : List (Option PyData) → Prop) : Prop := ∀ (H0 : Hp) A σ H, Inn A H → EnvOk L A σ H Γ → L.G 0 H → L.R 0 H0 H → FrS H0 j σ → ∀ D : Ends,
  (∀ σ' H' Γ', L.R 0 H0 H' → EnvOk L A σ' H' Γ' → N Γ' → D.nx σ' H') → ts D σ H
section
variable {L : Rl} {Γ : List (Option PyData)} {te : TE} {ts tf ta u : TS} {d : PyData} {i j : Nat} {N N1 N2 : List (Option PyData) → Prop} {Rt : PyData → Prop}
theorem sf_asg (hij : i ≠ j) (h : EvD L te Γ d) (k : N (Γ.set i (some d))) : SF L j (tAsg te (gName i)) Γ N := fun H0 A σ H hi he hg r0 ⟨p, hp, hn⟩ D q => h A σ H hi he hg _ fun v d' H1 r hv e => by
  subst e
  exact q _ H1 _ r ((he.r r).set hv i) ⟨p, by rw [List.getElem?_set_ne hij]; exact hp, hn⟩ k
theorem sf_asgF (h : EvF L 0 te Γ (fun x => x = d)) (k : N (Γ.set j (some d))) : SF L j (tAsg te (gName j)) Γ N := fun H0 A σ H hi he hg r0 ⟨p, hp, hn⟩ D q => h A σ H hi he hg _ fun p1 d' H1 r hf hv e => by
  subst e
  exact q _ H1 _ r ((he.r r).set hv j) ⟨p1, List.getElem?_set_self (List.getElem?_eq_some_iff.mp hp).1, L.free r0 hf⟩ k
theorem sf_seq (h : SF L j ts Γ N1) (k : ∀ G, N1 G → SF L j u G N) : SF L j (tSeq ts u) Γ N := fun H0 A σ H hi he hg r0 hf D q => h H0 A σ H hi he hg r0 hf { D with nx := u D } fun σ1 H1 G r e f p =>
  k G p H0 A σ1 H1 (hi.r r) e (Rl.gR (b := 0) hg r) (L.tr (a := 0) (b := 0) r0 r) f D fun σ2 H2 G2 r2 e2 f2 p2 => q σ2 H2 G2 (L.tr (a := 0) (b := 0) r r2) e2 f2 p2
theorem wipe_get {σ : L2.St} {j : Nat} : ∀ {vs : List Nat}, j ∉ vs → (wipe σ vs)[j]? = σ[j]?
  | [], _ => rfl
  | v :: vs, h => by
    show ((wipe σ vs).set v none)[j]? = _
    rw [List.getElem?_set_ne (fun z => h (by rw [z]; exact List.mem_cons_self))]
    exact wipe_get fun z => h (List.mem_cons_of_mem _ z)
theorem sf_for {wi : TI} {g : TG} {js : List Nat} {items : List PyData} (I : Nat → List (Option PyData) → Prop) (hjs : j ∉ js) (hw : WkD L wi Γ items) (h0 : I 0 Γ)
    (hb : ∀ (i : Nat) d Γi, items[i]? = some d → I i Γi → ∃ Γ', TgG L g js d Γi Γ' ∧ SF L j ts Γ' (I (i + 1))) (hN : ∀ Γe, I items.length Γe → N Γe) : SF L j (tFor wi g ts) Γ N := fun H0 A σ H hi he hg r0 hf D q1 =>
  hw A σ H hi he hg _ fun J H1 its r1 hp jk => by
  subst hp
  refine ⟨fun i m σ2 H2 => m = its.length - i ∧ i ≤ its.length ∧ L.R 0 H H2 ∧ Kp A H1 H2 ∧ FrS H0 j σ2 ∧ ∃ Γi, EnvOk L A σ2 H2 Γi ∧ I i Γi, ⟨its.length, ?_⟩, ?_⟩
  · exact ⟨by omega, Nat.zero_le _, r1, fun b o _ e k => e, hf, Γ, he.r r1, h0⟩
  · rintro i m σ2 H2 ⟨rfl, hle, r2, k2, f2, Γi, e2, p2⟩
    have g2 : L.G 0 H2 := Rl.gR (b := 0) hg r2
    by_cases hlt : i < its.length
    · refine .inr ⟨jk.go i H2 k2 hlt, fun σ3 H3 => i + 1 ≤ its.length ∧ L.R 0 H H3 ∧ Kp A H1 H3 ∧ FrS H0 j σ3 ∧ ∃ Γi, EnvOk L A σ3 H3 Γi ∧ I (i + 1) Γi, fun σ3 H3 h3 => ⟨its.length - (i + 1), by omega, rfl, h3⟩, fun x H3 y => ?_⟩
      have naD : ∀ b, A b → H2 b ≠ none := fun b z => hi.r r2 b z
      obtain ⟨d, hd, sm, hdv⟩ := jk.yld i H2 x H3 k2 naD y hlt
      obtain ⟨Γ', htg, hs⟩ := hb i d Γi hd p2
      have r3 : L.R 0 H2 H3 := L.same g2 sm
      have r23 : L.R 0 H H3 := L.tr (a := 0) (b := 0) r2 r3
      have dx : Dv L.K A H3 x d := hdv A naD fun b o na e _ => na
      refine htg A x σ2 H3 dx (e2.r r3) _ fun σ4 e4 w4 => ?_
      obtain ⟨p, hp, hn⟩ := f2
      have f4 : FrS H0 j σ4 := by
        refine ⟨p, ?_, hn⟩
        have hw4 := w4 js fun k hk => hk
        rw [← wipe_get hjs, hw4, wipe_get hjs]
        exact hp
      refine hs H0 A σ4 H3 (fun b z y => naD b z (L.free r3 y)) e4 (Rl.gR (b := 0) g2 r3) (L.tr (a := 0) (b := 0) r0 r23) f4 { D with nx := _, ct := _, bk := D.nx } (fun σ5 H5 Γ5 r5 e6 f5 p5 => ?_)
      exact ⟨hlt, L.tr (a := 0) (b := 0) r23 r5, fun b o na e k => L.keep r5 (sm _ _ (k2 b o na e k)) k, f5, Γ5, e6, p5⟩
    · have e : i = its.length := by omega
      subst e
      exact .inl ⟨jk.stop H2 k2, q1 σ2 H2 Γi r2 e2 f2 (hN Γi p2)⟩
/-- made, filled, written, and on -/
theorem sg_grown (hj : j < Γ.length) (h1 : EvF L 0 te Γ (fun x => x = d)) (h2 : SF L j tf (Γ.set j (some d)) N1) (h3 : ∀ G, N1 G → SW L j ta G N2) (h4 : ∀ G, N2 G → SG L 0 u G N Rt) : SG L 0 (tSeq (tAsg te (gName j)) (tSeq tf (tSeq ta u))) Γ N Rt := fun A σ H hi he hg D q1 q2 =>
  h1 A σ H hi he hg _ fun p d' H1 r1 hf hv e => by
  subst e
  have fr : FrS H j (σ.set j (some (V.ref p))) := ⟨p, List.getElem?_set_self (by rw [he.1]; exact hj), hf⟩
  refine h2 H A _ H1 (hi.r r1) ((he.r r1).set hv j) (Rl.gR (b := 0) hg r1) r1 fr { D with nx := _ } fun σ2 H2 G2 r2 e2 f2 p2 => ?_
  have r12 : L.R 0 H H2 := L.tr (a := 0) (b := 0) r1 r2
  refine h3 G2 p2 H A σ2 H2 (hi.r r12) e2 (Rl.gR (b := 0) hg r12) r12 f2 { D with nx := _ } fun σ3 H3 G3 r3 e3 p3 => ?_
  exact h4 G3 p3 A σ3 H3 (hi.r r3) e3 (Rl.gR (b := 0) hg r3) D (fun σ4 H4 G4 r4 e4 p4 => q1 σ4 H4 G4 (L.tr (a := 0) (b := 0) r3 r4) e4 p4) fun v d H4 r4 e4 p4 => q2 v d H4 (L.tr (a := 0) (b := 0) r3 r4) e4 p4
theorem DvAll.ofInts {K : PySem.W.Frag} {A : Addr → Prop} {H : Hp} (ns : List Int) : DvAll K A H (ns.map V.int) (ns.map PyData.int) := by
  induction ns with
  | nil => exact .nil
  | cons n r ih => exact .cons (.int n) ih
theorem sw_aug {ti : TE} {ns : List Int} {m e : Int} {Γ2 : List (Option PyData)} (hΓ : Γ[j]? = some (some (lI (ns ++ [m])))) (hi2 : EvD L ti Γ (.int (-1))) (he2 : EvD L te Γ (.int e)) (hl : Γ2.length = Γ.length)
    (h2 : ∀ (i : Nat) d, Γ2[i]? = some (some d) → (i = j ∧ d = lI (ns ++ [m + e])) ∨ (Γ[i]? = some (some d) ∧ ((∃ zs, d = tI zs) ∨ ∃ z, d = .int z))) :
    SW L j (tAugS (tVar j) ti te (rIxL L.K) (ipI fun i j => i + j) rSetL) Γ (fun G => G = Γ2) := fun H0 A σ H hi he hg r0 ⟨p, hp, hn⟩ D q => by
  obtain ⟨v, hv, dv⟩ := he.2 j _ hΓ
  rw [hp] at hv
  have ev : V.ref p = v := Option.some.inj (Option.some.inj hv)
  subst ev
  refine ⟨V.ref p, hp, ?_⟩
  refine hi2 A σ H hi he hg _ fun vi d1 H1 r1 hvi p1 => ?_
  subst p1
  obtain rfl := hvi.int
  obtain ⟨p', xs, ep, na, eH, rr⟩ := (dv.r r1).list
  have ep' : p = p' := by injection ep
  subst ep'
  have ex := rr.ints
  subst ex
  have hix : ixN ((ns ++ [m]).map V.int).length (-1) = some ns.length := by
    unfold ixN
    rw [List.length_map, List.length_append]
    rw [List.length_singleton, if_neg (by decide), if_pos (by omega)]
    congr 1
    omega
  refine ⟨p, (ns ++ [m]).map V.int, -1, .int m, rfl, rfl, SqL.of eH, ?_, ?_⟩
  · unfold atI
    rw [hix]
    simp
  refine he2 A σ H1 (hi.r r1) (he.r r1) (Rl.gR (b := 0) hg r1) _ fun vy d2 H2 r2 hvy p2 => ?_
  subst p2
  obtain rfl := hvy.int
  have eH2 : H2 p = some (.lst ((ns ++ [m]).map V.int)) := L.keep r2 eH fxLst
  have r02 : L.R 0 H0 H2 := L.tr (a := 0) (b := 0) (L.tr (a := 0) (b := 0) r0 r1) r2
  have he3 : EnvOk L A σ H2 Γ := (he.r r1).r r2
  refine ⟨m, e, rfl, rfl, p, _, -1, ns.length, rfl, rfl, eH2, hix, ?_⟩
  refine q σ _ Γ2 (L.fresh r02 hn (.inr ⟨_, eH2⟩)) ⟨by rw [hl]; exact he.1, fun i d hd => ?_⟩ rfl
  have es : ((ns ++ [m]).map V.int).set ns.length (V.int (m + e)) = (ns ++ [m + e]).map V.int := by simp
  rw [es]
  rcases h2 i d hd with ⟨rfl, rfl⟩ | ⟨h3, h4⟩
  · exact ⟨V.ref p, hp, .inr (.lst na upd_same (DvAll.ofInts _))⟩
  · obtain ⟨v, hv, dv⟩ := he3.2 i d h3
    refine ⟨v, hv, ?_⟩
    rcases h4 with ⟨zs, rfl⟩ | ⟨z, rfl⟩
    · obtain ⟨a, xs, rfl, ea, ra⟩ := dv.tuple
      rw [ra.ints] at ea
      refine .inr (TpAt.dv ?_ (DvAll.ofInts _))
      rcases ea with ⟨na2, ea⟩ | ea
      · have ne : a ≠ p := fun z => by
          rw [z, eH2] at ea
          cases ea
        exact .inl ⟨na2, by rw [upd_ne ne]; exact ea⟩
      · exact .inr ea
    · obtain rfl := dv.int
      exact .inr (.int z)
theorem os_repF {ds : List PyData} {i : Int} {ta tb : TE} (ha : EvD L ta Γ (.list ds)) (hb : EvD L tb Γ (.int i)) (h0 : 0 ≤ i) (h1 : i ≤ 1000) (hl : ds.length ≤ 100) : EvF L 0 (tOp rRep ta tb) Γ (fun x => x = .list (List.replicate i.toNat ds).flatten) := fun A σ H hi he hg Q q =>
  ha A σ H hi he hg _ fun x d1 H1 r1 hx p1 => hb A σ H1 (hi.r r1) (he.r r1) (Rl.gR (b := 0) hg r1) _ fun y d2 H2 r2 hy p2 => by
    subst p1 p2
    obtain ⟨p, xs, rfl, na, e, r⟩ := (hx.r r2).list
    obtain rfl := hy.int
    have r12 : L.R 0 H H2 := L.tr (a := 0) (b := 0) r1 r2
    refine ⟨p, i, xs, rfl, rfl, e, by omega, by omega, Nat.le_trans (Nat.mul_le_mul (by rw [r.length]; exact hl) (show i.toNat ≤ 1000 by omega)) (by decide), fun l hl2 => ?_⟩
    have rr := Rl.newR (o := .lst (List.replicate i.toNat xs).flatten) (Rl.gR (b := 0) hg r12) hl2
    exact q l _ _ (L.tr (a := 0) (b := 0) r12 rr) (L.free r12 hl2) (.inr (.lst ((hi.r r12).no hl2) upd_same ((r.rep _).r rr))) rfl
theorem eg_lcmF {α : Type} {wi : TI} {g : TG} {js vs : List Nat} {xs : List α} {enc res : α → PyData} (hw : WkD L wi Γ (xs.map enc)) (hj : ∀ j ∈ js, j ∈ vs) (hlen : xs.length ≤ 1000)
    (hb : ∀ x ∈ xs, res x ≠ mark ∧ ∃ Γ', TgG L g js (enc x) (wipeD Γ vs) Γ' ∧ EvD L te Γ' (res x)) : EvF L 0 (tLc wi g tYes te vs) Γ (fun x => x = .list (xs.map res)) :=
  eg_lcF hw hj (by rw [List.length_map]; exact hlen) (by rw [List.length_map, List.length_map]) fun i d r hd hr => by
    rw [List.getElem?_map] at hd hr
    cases hx : xs[i]? with
    | none => rw [hx] at hd; cases hd
    | some x =>
      rw [hx] at hd hr
      have e1 : enc x = d := Option.some.inj hd
      have e2 : res x = r := Option.some.inj hr
      subst e1 e2
      exact hb x (List.mem_of_getElem? hx)
end
end V1
set_option Elab.async false
set_option linter.all false
set_option maxRecDepth 100000
set_option maxHeartbeats 4000000
/-! The dict of the draws. -/
namespace V1
open PySem PySem.Spec PyProof.Rows L2
def dct (l sd : Int) (c : Addr) (s : Int) : List (Key × V) := [(.inr "left", .int l), (.inr "seed", .int sd), (.inr "cells", .ref c), (.inr "spot", .int s)]
def mG (T : List (Addr × Str)) (p c : Addr) (ns : List Int) (n : Nat) (H : Hp) : Prop := (∃ l sd s : Int, H p = some (.dK (dct l sd c s)) ∧ H c = some (.lst (ns.map V.int)) ∧ 0 ≤ s ∧ s + (n : Int) ≤ 2 ^ 50) ∧ LamX.Tabs T H
/-- all but the dict at p and the tables of code objects stays; the tables go on -/
structure mR (T : List (Addr × Str)) (p c : Addr) (n : Nat) (H H' : Hp) : Prop where
  st : ∀ b o, H b = some o → (b ≠ p ∨ ∀ kvs, o ≠ .dK kvs) → (∀ ps, o ≠ .tbl ps) → H' b = some o
  sp : ∀ l sd s : Int, H p = some (.dK (dct l sd c s)) → ∃ l' s' : Int, H' p = some (.dK (dct l' sd c s')) ∧ s ≤ s' ∧ s' ≤ s + (n : Int)
  nn : ∀ b, H b ≠ none → H' b ≠ none
  tb : LamX.Tabs T H'
theorem tabs_fresh {T : List (Addr × Str)} {H' : Hp} {q : Addr} {o : HO} (t : LamX.Tabs T H') (hq : H' q = none ∨ ∃ xs, H' q = some (.lst xs)) : LamX.Tabs T (upd H' q o) := fun r hr => by
  obtain ⟨ps, h1, h2, h3⟩ := t r hr
  have ne : ∀ b u, H' b = some u → (∀ xs, u ≠ .lst xs) → b ≠ q := fun b u e k z => by
    rw [z] at e
    rcases hq with y | ⟨xs, y⟩
    · rw [y] at e
      cases e
    · rw [y] at e
      exact k xs (Option.some.inj e).symm
  refine ⟨ps, by rw [upd_ne (ne _ _ h1 (fun xs z => by cases z))]; exact h1, h2, fun pos cv hc => ?_⟩
  obtain ⟨c, e1, e2⟩ := h3 pos cv hc
  refine ⟨c, e1, ?_⟩
  rw [upd_ne (ne _ _ e2 (fun xs z => by unfold LamX.CodeO at z; cases z))]
  exact e2
theorem same_nn {H H' : Hp} (s : Same H H') (b : Addr) (z : H b ≠ none) : H' b ≠ none := fun y => by
  cases e : H b with
  | none => exact z e
  | some o => rw [s _ _ e] at y; cases y
def mL (K : PySem.W.Frag) (T : List (Addr × Str)) (p c : Addr) (ns : List Int) : Rl where
  K := K
  G := mG T p c ns
  R := mR T p c
  M := fun v => v = .ref p
  gle := fun h ⟨⟨l, sd, s, h1, h2, h3, h4⟩, t⟩ => ⟨⟨l, sd, s, h1, h2, h3, by omega⟩, t⟩
  rle := fun h r => ⟨r.st, fun l sd s e => let ⟨l', s', e1, e2, e3⟩ := r.sp l sd s e; ⟨l', s', e1, e2, by omega⟩, r.nn, r.tb⟩
  gr := fun ⟨⟨l, sd, s, g1, g2, g3, g4⟩, t⟩ r => by
    obtain ⟨l', s', e1, e2, e3⟩ := r.sp l sd s g1
    exact ⟨⟨l', sd, s', e1, r.st _ _ g2 (.inr fun kvs z => by cases z) (fun ps z => by cases z), by omega, by omega⟩, r.tb⟩
  tr := fun {a b H H1 H2} r k => ⟨fun q o e z y => k.st q o (r.st q o e z y) z y, fun l sd s e => by
    obtain ⟨l', s', e1, e2, e3⟩ := r.sp l sd s e
    obtain ⟨l2, s2, f1, f2, f3⟩ := k.sp l' sd s' e1
    exact ⟨l2, s2, f1, by omega, by omega⟩, fun b z => k.nn b (r.nn b z), k.tb⟩
  same := fun g s => ⟨fun b o e _ _ => s b o e, fun l sd sp e => ⟨l, sp, s _ _ e, by omega, by omega⟩, same_nn s, g.2.ext s⟩
  fresh := fun {a H H' q o} r hq h2 => ⟨fun b u e z y => by rw [upd_ne (ne_of_none e hq)]; exact r.st b u e z y, fun l sd s e => by
    have ne := ne_of_none e hq
    rw [upd_ne ne]
    exact r.sp l sd s e, fun b z => by
    have ne : b ≠ q := fun y => z (by rw [y]; exact hq)
    rw [upd_ne ne]
    exact r.nn b z, tabs_fresh r.tb h2⟩
  keep := fun r e k => r.st _ _ e (.inr k.1) k.2
  free := fun {a H H' q} r e => Classical.byContradiction fun z => r.nn q z e
  mref := fun h => ⟨p, h⟩
/-- what lambdas may be made in -/
structure LamL (L : Rl) (T : List (Addr × Str)) : Prop where
  tb : ∀ {n H}, L.G n H → LamX.Tabs T H
  of : ∀ {n H H'}, L.G n H → LamX.ExtN H H' → LamX.Tabs T H' → (∀ b, H b ≠ none → H' b ≠ none) → L.R 0 H H'
theorem lamL_m {K : PySem.W.Frag} {T : List (Addr × Str)} {p c : Addr} {ns : List Int} : LamL (mL K T p c ns) T := ⟨fun g => (show mG T p c ns _ _ from g).2, fun _ e t' nn =>
  (show mR T p c 0 _ _ from ⟨fun b o h _ k => e b o h k, fun l sd s h => ⟨l, s, e _ _ h (fun ps z => by cases z), by omega, by omega⟩, nn, t'⟩)⟩
/-- nothing but the tables changes -/
def tabL (K : PySem.W.Frag) (T : List (Addr × Str)) : Rl where
  K := K
  G := fun _ H => LamX.Tabs T H
  R := fun _ H H' => LamX.ExtN H H' ∧ (∀ b, H b ≠ none → H' b ≠ none) ∧ LamX.Tabs T H'
  M := fun _ => False
  gle := fun _ h => h
  rle := fun _ r => r
  gr := fun _ r => r.2.2
  tr := fun a b => ⟨a.1.trans b.1, fun q z => b.2.1 q (a.2.1 q z), b.2.2⟩
  same := fun g s => ⟨LamX.ExtN.of s, same_nn s, g.ext s⟩
  fresh := fun r hq h2 => ⟨fun b u e y => by rw [upd_ne (ne_of_none e hq)]; exact r.1 b u e y, fun b z => by
    rw [upd_ne (fun y => z (by rw [y]; exact hq))]
    exact r.2.1 b z, tabs_fresh r.2.2 h2⟩
  keep := fun r e k => r.1 _ _ e k.2
  free := fun {a H H' q} r e => Classical.byContradiction fun z => r.2.1 q z e
  mref := fun h => h.elim
theorem lamL_t {K : PySem.W.Frag} {T : List (Addr × Str)} : LamL (tabL K T) T := ⟨fun g => g, fun _ e t nn => ⟨e, nn, t⟩⟩
/-- the way of some dict of draws -/
def SM (L : Rl) : Prop := ∃ K T p c ns, ns ≠ [] ∧ L = mL K T p c ns
/-- a def that draws -/
def spM (K : PySem.W.Frag) {α : Type} (n : Nat) (args : α → List PyData) (ok : α → Prop) (post : α → PyData → Prop) : Sp := fun vs H Q E => ∃ L a, L.K = K ∧ SM L ∧ ok a ∧ spL L n (fun ds => ds = args a) (fun _ d => post a d) vs H Q E
section
variable {P : Program} {w : World} {K : PySem.W.Frag} {mg : Str → Option Value} {base : Heap}
theorem ok_A {α : Type} {args : α → List PyData} {ok : α → Prop} {post : α → PyData → Prop} {n : Nat} {x : Str} {st : Stmt} {f : Addr} {fd : FuncData} {N ps : List Str} {k : Nat} (D : Df K mg x st ps f fd) (Sc : FnScope N ps (defScope st)) (hlen : ∀ a, (args a).length = ps.length)
    (hb : ∀ (cdv : Value) (A : Around) (outer : List Env) (s : Shared) (H : Hp) (E : XK), (cxOf CX0 P w K mg base N x (defScope st) f cdv A outer s H E).nox.A.guards = some [] → Room k (cxOf CX0 P w K mg base N x (defScope st) f cdv A outer s H E).nox.A →
      ∃ t, PSs (cxOf CX0 P w K mg base N x (defScope st) f cdv A outer s H E).nox (defBody st) t ∧ ∀ L, L.K = K → SM L → ∀ a, ok a → SG L n t (Ga N.length (args a)) (fun _ => False) (post a)) : Cal P w K mg base x st ps (k + 1) (spM K n args ok post) f fd := by
  refine ⟨D.gm, D.F, D.b, okG D.F Sc (fun vs H Q E h => ?_) (fun cdv A outer s H vs Q E hg hr h => ?_)⟩
  · obtain ⟨L, a, _, _, _, Av, ds, _, hl, _, e, _⟩ := h
    rw [hl, e, hlen a]
  · obtain ⟨L, a, hK, hS, ha, Av, ds, hi, hl, hv, e, hgg, q⟩ := h
    obtain ⟨t, h1, h2⟩ := hb cdv A outer s H E hg hr
    subst e
    exact ⟨t, h1, h2 L hK hS a ha Av (L2.start N vs) H hi (start_ok hl hv) hgg _ (fun σ' H' Γ' r e p => p.elim) fun v d H' r hd p => q v d H' r hd p⟩
end
section
variable {L : Rl} {Γ : List (Option PyData)} {t : TA} {te ta tb : TE} {E : XK} {α : Type} {args : α → List PyData} {ok : α → Prop} {val : α → PyData} {post : α → PyData → Prop} {a m n : Nat} {P1 P2 : PyData → Prop} {PA : List PyData → Prop}
theorem eg_callM (hS : SM L) (x : α) (ha : EaD L t Γ (args x)) (ho : ok x) : EvG L n (tCall (spM L.K n args ok post) [] E t) Γ (post x) := fun A σ H hi he hg Q q => ha A σ H hi he (L.g0 hg) _ fun vs ds H1 r1 l hv p => by
  subst p
  show spM L.K n args ok post (vs ++ []) H1 Q E
  rw [List.append_nil]
  exact ⟨L, x, rfl, hS, ho, A, args x, hi.r r1, l, hv, rfl, Rl.gR (a := 0) (by rw [Nat.zero_add]; exact hg) r1, fun v d H2 r2 hd hpo => q v d H2 (L.rle (Nat.le_of_eq (Nat.zero_add _)) (L.tr r1 r2)) hd hpo⟩
/-- a def that leaves all, called with drawn things -/
theorem eg_callRG (ha : EaG L m t Γ PA) (hp : ∀ ds, PA ds → nomk ds = true ∧ ∃ x, ok x ∧ ds = args x) : EvG L m (tCall (spR L.K args ok val) [] E t) Γ (fun d => ∃ x, PA (args x) ∧ ok x ∧ d = val x) := fun A σ H hi he hg Q q => ha A σ H hi he hg _ fun vs ds H1 r1 l hv p => by
  obtain ⟨hn, x, ho, e⟩ := hp ds p
  subst e
  show spR L.K args ok val (vs ++ []) H1 Q E
  rw [List.append_nil]
  refine ⟨x, ho, A, args x, hi.r r1, l, fun i d e => ?_, rfl, trivial, fun v d H2 r2 hd hpo => q v d H2 (L.tr (b := 0) r1 (L.same (Rl.gR (b := 0) hg r1) r2)) (pure_dq hd) ⟨x, p, ho, hpo⟩⟩
  obtain ⟨v, e1, e2⟩ := hv i d e
  exact ⟨v, e1, .inr (e2.ne (nomk_ne hn i d e))⟩
theorem eg_addG {P1 P2 : Int → Prop} (ha : EvG L m ta Γ (fun d => ∃ i, P1 i ∧ d = .int i)) (hb : EvG L n tb Γ (fun d => ∃ i, P2 i ∧ d = .int i)) : EvG L (m + n) (tOp (rI0 fun i j => .int (i + j)) ta tb) Γ (fun d => ∃ i, (∃ x y, P1 x ∧ P2 y ∧ i = x + y) ∧ d = .int i) :=
  eg_opG ha hb fun d1 d2 ⟨i, p1, e1⟩ ⟨j, p2, e2⟩ => by
    subst e1 e2
    exact fun A H x y hi hg hx hy Q q => os_I0 A H x y hi hg hx hy Q fun v d H' r hv e => q v d H' r hv ⟨i + j, ⟨i, j, p1, p2, rfl⟩, e⟩
theorem eg_subG {P1 P2 : Int → Prop} (ha : EvG L m ta Γ (fun d => ∃ i, P1 i ∧ d = .int i)) (hb : EvG L n tb Γ (fun d => ∃ i, P2 i ∧ d = .int i)) : EvG L (m + n) (tOp (rI0 fun i j => .int (i - j)) ta tb) Γ (fun d => ∃ i, (∃ x y, P1 x ∧ P2 y ∧ i = x - y) ∧ d = .int i) :=
  eg_opG ha hb fun d1 d2 ⟨i, p1, e1⟩ ⟨j, p2, e2⟩ => by
    subst e1 e2
    exact fun A H x y hi hg hx hy Q q => os_I0 A H x y hi hg hx hy Q fun v d H' r hv e => q v d H' r hv ⟨i - j, ⟨i, j, p1, p2, rfl⟩, e⟩
theorem eg_intG {i : Int} : EvG L 0 (tC (.int i)) Γ (fun d => ∃ j, j = i ∧ d = .int j) := EvG.mono eg_int (Nat.le_refl _) fun d e => ⟨i, rfl, e⟩
end
end V1
set_option Elab.async false
set_option linter.all false
set_option maxRecDepth 100000
set_option maxHeartbeats 4000000
/-! What readings share. -/
namespace V1
open PySem PySem.Spec PyProof.Rows L2
theorem take_next {α : Type} {xs : List α} {i : Nat} {x : α} (h : xs[i]? = some x) : xs.take (i + 1) = xs.take i ++ [x] := by
  rw [List.take_add_one, h]
  rfl
theorem map_at {α : Type} {xs : List α} {enc : α → PyData} {i : Nat} {d : PyData} (h : (xs.map enc)[i]? = some d) : ∃ x, xs[i]? = some x ∧ x ∈ xs ∧ d = enc x := by
  rw [List.getElem?_map] at h
  cases hx : xs[i]? with
  | none => rw [hx] at h; cases h
  | some x =>
    rw [hx] at h
    exact ⟨x, rfl, List.mem_of_getElem? hx, (Option.some.inj h).symm⟩
/-- what repr may be asked of -/
structure Sh (d : PyData) : Prop where
  seq : (∃ ds, d = .list ds) ∨ ∃ ds, d = .tuple ds
  show1 : d.showable = true
  nd : d.hasDict = false
  dep : d.depth ≤ 60
  len : d.shown.length ≤ sizeLine

theorem atI_zero {α : Type} (x : α) (xs : List α) : atI (x :: xs) 0 = some x := by
  unfold atI ixN
  rw [if_pos (by decide), if_pos (by rw [List.length_cons]; omega)]
  rfl
theorem split_last {α : Type} {xs : List α} {n : Nat} (h : xs.length = n + 1) : ∃ ys y, xs = ys ++ [y] ∧ ys.length = n := by
  refine ⟨xs.take n, xs[n], ?_, by rw [List.length_take]; omega⟩
  have := List.take_append_drop n xs
  rw [List.drop_eq_getElem_cons (by omega), List.drop_of_length_le (by omega)] at this
  exact this.symm
structure Shn (b k : Nat) (d : PyData) : Prop where
  s : d.showable = true
  nd : d.hasDict = false
  dp : d.depth ≤ k
  sh : d.leavesShort 1921 = true
  bk : d.bulk ≤ b
theorem shn_int {i : Int} {b k : Nat} (h : i.natAbs < 2 ^ 1900) : Shn b k (.int i) := by
  have hlog : i.natAbs.log2 < 1920 := by
    by_cases z : i.natAbs = 0
    · rw [z]; decide
    · exact Nat.lt_of_lt_of_le ((Nat.log2_lt z).mpr h) (by decide)
  refine ⟨by simp only [PyData.showable, decide_eq_true_eq]; exact hlog, by simp only [PyData.hasDict], by simp only [PyData.depth]; omega, ?_, by simp only [PyData.bulk]; omega⟩
  simp only [PyData.leavesShort, decide_eq_true_eq]
  show (Str.ofString (toString i)).length ≤ 1921
  rw [PySem.ofString_length]
  exact int_text_length_le (by decide) hlog
theorem shn_all {b k : Nat} : ∀ {ds : List PyData}, (∀ d ∈ ds, Shn b k d) → PyData.showableAll ds = true ∧ PyData.hasDictAll ds = false ∧ PyData.depthAll ds ≤ k ∧ PyData.leavesShortAll 1921 ds = true ∧ PyData.bulkAll ds ≤ ds.length * (b + 1)
  | [], _ => ⟨by simp only [PyData.showableAll], by simp only [PyData.hasDictAll], by simp only [PyData.depthAll]; omega, by simp only [PyData.leavesShortAll], by simp only [PyData.bulkAll]; omega⟩
  | d :: ds, h => by
    have h1 := h d List.mem_cons_self
    obtain ⟨a1, a2, a3, a4, a5⟩ := shn_all (ds := ds) fun x hx => h x (List.mem_cons_of_mem _ hx)
    refine ⟨?_, ?_, ?_, ?_, ?_⟩
    · simp only [PyData.showableAll, h1.s, a1, Bool.and_self]
    · simp only [PyData.hasDictAll, h1.nd, a2, Bool.or_self]
    · simp only [PyData.depthAll]
      have := h1.dp
      omega
    · simp only [PyData.leavesShortAll, h1.sh, a4, Bool.and_self]
    · simp only [PyData.bulkAll, List.length_cons]
      have := h1.bk
      rw [Nat.succ_mul]
      omega
theorem shn_tup {b k m : Nat} {ds : List PyData} (h : ∀ d ∈ ds, Shn b k d) (hl : ds.length ≤ m) : Shn (m * (b + 1)) (k + 1) (.tuple ds) := by
  obtain ⟨a1, a2, a3, a4, a5⟩ := shn_all h
  exact ⟨by simpa only [PyData.showable] using a1, by simpa only [PyData.hasDict] using a2, by simp only [PyData.depth]; omega, by simpa only [PyData.leavesShort] using a4, by simp only [PyData.bulk]; exact Nat.le_trans a5 (Nat.mul_le_mul_right _ hl)⟩
theorem shn_lst {b k m : Nat} {ds : List PyData} (h : ∀ d ∈ ds, Shn b k d) (hl : ds.length ≤ m) : Shn (m * (b + 1)) (k + 1) (.list ds) := by
  obtain ⟨a1, a2, a3, a4, a5⟩ := shn_all h
  exact ⟨by simpa only [PyData.showable] using a1, by simpa only [PyData.hasDict] using a2, by simp only [PyData.depth]; omega, by simpa only [PyData.leavesShort] using a4, by simp only [PyData.bulk]; exact Nat.le_trans a5 (Nat.mul_le_mul_right _ hl)⟩
theorem Shn.mono {b k b' k' : Nat} {d : PyData} (h : Shn b k d) (hb : b ≤ b' := by decide) (hk : k ≤ k' := by decide) : Shn b' k' d := ⟨h.s, h.nd, Nat.le_trans h.dp hk, h.sh, Nat.le_trans h.bk hb⟩
theorem Shn.fits {b k : Nat} {d : PyData} (h : Shn b k d) (hb : b ≤ 8000) : d.shown.length ≤ sizeLine := by
  have h1 := PyData.shown_le_bulk 1921 (by decide) d h.sh
  have h2 : (1921 + 2) * d.bulk ≤ 1923 * 8000 := Nat.mul_le_mul (by decide) (Nat.le_trans h.bk hb)
  rw [sizeLine_eq]
  omega
theorem sh_lst {b k : Nat} {ds : List PyData} (h : Shn b k (.list ds)) (hb : b ≤ 8000 := by decide) (hk : k ≤ 60 := by decide) : Sh (.list ds) := ⟨.inl ⟨ds, rfl⟩, h.s, h.nd, Nat.le_trans h.dp hk, h.fits hb⟩
theorem sh_tup {b k : Nat} {ds : List PyData} (h : Shn b k (.tuple ds)) (hb : b ≤ 8000 := by decide) (hk : k ≤ 60 := by decide) : Sh (.tuple ds) := ⟨.inr ⟨ds, rfl⟩, h.s, h.nd, Nat.le_trans h.dp hk, h.fits hb⟩
theorem p1900 {i : Int} {n : Nat} (h : i.natAbs < 2 ^ n) (hn : n ≤ 1900 := by decide) : i.natAbs < 2 ^ 1900 := Nat.lt_of_lt_of_le h (Nat.pow_le_pow_right (by decide) hn)
section
variable {L : Rl} {Γ : List (Option PyData)} {t : TA} {te ta tb : TE} {E : XK} {a b c m n : Nat} {P1 P2 P3 P4 : PyData → Prop}
theorem ea2G (h1 : EvG L a ta Γ P1) (h2 : EvG L b tb Γ P2) : EaG L (a + (b + 0)) (tCons ta (tCons tb tNil)) Γ (fun ds => ∃ d1 d2, ds = [d1, d2] ∧ P1 d1 ∧ P2 d2) :=
  EaG.mono (ea_consG h1 (ea_consG h2 ea_nil)) (Nat.le_refl _) fun ds ⟨d1, r, e, p1, d2, r2, e2, p2, e3⟩ => ⟨d1, d2, by rw [e, e2, e3], p1, p2⟩
theorem ea1G (h1 : EvG L a ta Γ P1) : EaG L (a + 0) (tCons ta tNil) Γ (fun ds => ∃ d1, ds = [d1] ∧ P1 d1) :=
  EaG.mono (ea_consG h1 ea_nil) (Nat.le_refl _) fun ds ⟨d1, r, e, p1, e2⟩ => ⟨d1, by rw [e, e2], p1⟩
theorem enc_of {α : Type} {enc : α → PyData} {P : α → Prop} : ∀ {rs : List PyData}, (∀ (i : Nat) d, rs[i]? = some d → ∃ x, P x ∧ d = enc x) → ∃ xs : List α, rs = xs.map enc ∧ xs.length = rs.length ∧ ∀ x ∈ xs, P x
  | [], _ => ⟨[], rfl, rfl, fun x h => by simp at h⟩
  | d :: r, h => by
    obtain ⟨x, hx, e⟩ := h 0 d rfl
    obtain ⟨xs, e2, hl, hP⟩ := enc_of (rs := r) fun i d' e => h (i + 1) d' (by simpa using e)
    refine ⟨x :: xs, by rw [e, e2]; rfl, by rw [List.length_cons, List.length_cons, hl], fun y hy => ?_⟩
    rcases List.mem_cons.mp hy with rfl | hy
    · exact hx
    · exact hP y hy
/-- a comprehension of drawn things -/
theorem eg_lcX {α : Type} {enc : α → PyData} {P : α → Prop} {wi : TI} {g : TG} {js vs : List Nat} {items : List PyData} (henc : ∀ x, enc x ≠ mark) (hw : WkD L wi Γ items) (hj : ∀ j ∈ js, j ∈ vs) (hlen : items.length ≤ b) (hb1 : b ≤ 1000)
    (hb : ∀ (i : Nat) d, items[i]? = some d → ∃ Γ', TgG L g js d (wipeD Γ vs) Γ' ∧ EvG L c te Γ' (fun r => ∃ x, P x ∧ r = enc x)) : EvG L (0 + b * c) (tLc wi g tYes te vs) Γ (fun r => ∃ xs : List α, r = .list (xs.map enc) ∧ xs.length = items.length ∧ ∀ x ∈ xs, P x) :=
  EvG.mono (eg_lcG (a := 0) (b := b) (c := c) (Pt := fun _ _ r => ∃ x, P x ∧ r = enc x) hw hj (fun its e => by rw [e]; exact ⟨hlen, hb1⟩) fun its e i d hd => by
    subst e
    obtain ⟨Γ', h1, h2⟩ := hb i d hd
    exact ⟨Γ', h1, EvG.mono h2 (Nat.le_refl _) fun r ⟨x, hx, e⟩ => ⟨by rw [e]; exact henc x, x, hx, e⟩⟩) (Nat.le_refl _) fun r ⟨its, rs, e1, e2, e3, e4⟩ => by
    obtain ⟨xs, f1, f2, f3⟩ := enc_of e4
    exact ⟨xs, by rw [e2, f1], by rw [f2, e3, e1], f3⟩
end
theorem rng_len (n : Nat) : (rngD 0 n).length = n := by unfold rngD; rw [List.length_map, List.length_range]
section
variable {L : Rl} {Γ : List (Option PyData)} {t : TA} {te ta tb : TE} {E : XK} {a b c m n j : Nat} {P P1 P2 : PyData → Prop} {N N2 : List (Option PyData) → Prop} {Rt : PyData → Prop} {u us : TS} {d : PyData}
theorem eg_tupG {PA : List PyData → Prop} (h : EaG L a t Γ PA) (hn : ∀ ds, PA ds → nomk ds = true ∧ ds.length ≤ 1000) : EvG L a (tTup t) Γ (fun d => ∃ ds, PA ds ∧ d = .tuple ds) := fun A σ H hi he hg Q q => h A σ H hi he hg _ fun vs ds' H1 r1 l hv p => by
  obtain ⟨h1, h2⟩ := hn ds' p
  refine ⟨Nat.le_trans (by rw [l]; exact h2) (by decide), fun p1 hp => ?_⟩
  have rr := Rl.newR (o := .tup vs) (Rl.gR (b := 0) hg r1) hp
  exact q _ _ _ (L.tr (b := 0) r1 rr) (.inr (.tup ((hi.r r1).no hp) upd_same ((all_of l hv h1).r rr))) ⟨ds', p, rfl⟩
theorem eg_lstF {ds : List PyData} (h : EaD L t Γ ds) (hn : nomk ds = true := by rfl) (hl : ds.length ≤ 1000 := by simp) : EvF L 0 (tLst t) Γ (fun x => x = .list ds) := fun A σ H hi he hg Q q => h A σ H hi he hg _ fun vs ds' H1 r1 l hv p => by
  subst p
  refine ⟨Nat.le_trans (by rw [l]; exact hl) (by decide), fun p hp => ?_⟩
  have rr := Rl.newR (o := .lst vs) (Rl.gR (b := 0) hg r1) hp
  exact q p _ _ (L.tr (a := 0) (b := 0) r1 rr) (L.free r1 hp) (.inr (.lst ((hi.r r1).no hp) upd_same ((all_of l hv hn).r rr))) rfl
theorem sq_tgG {g : TG} {js : List Nat} (h : EvG L a te Γ P) (hm : ∀ d, P d → d ≠ mark) (k : ∀ d, P d → ∃ Γ', TgG L g js d Γ Γ' ∧ SG L b u Γ' N Rt) : SG L (a + b) (tSeq (tAsg te g) u) Γ N Rt := fun A σ H hi he hg D q1 q2 =>
  h A σ H hi he (L.gle (Nat.le_add_right _ _) hg) _ fun v d H1 r hv p => by
    obtain ⟨Γ', h1, h2⟩ := k d p
    exact h1 A v σ H1 (hv.ne (hm d p)) (he.r r) _ fun σ' e' _ => h2 A σ' H1 (hi.r r) e' (Rl.gR hg r) D (fun σ2 H2 Γ2 r2 e2 p2 => q1 σ2 H2 Γ2 (L.tr r r2) e2 p2) fun v d H2 r2 e2 p2 => q2 v d H2 (L.tr r r2) e2 p2
/-- made, written, and on -/
theorem sg_grown2 {n : Nat} (hj : j < Γ.length) (h1 : EvF L 0 te Γ (fun x => x = d)) (h3 : SW L j us (Γ.set j (some d)) N2) (h4 : ∀ G, N2 G → SG L n u G N Rt) : SG L n (tSeq (tAsg te (gName j)) (tSeq us u)) Γ N Rt := fun A σ H hi he hg D q1 q2 =>
  h1 A σ H hi he (L.g0 hg) _ fun p d' H1 r1 hf hv e => by
  subst e
  have fr : FrS H j (σ.set j (some (V.ref p))) := ⟨p, List.getElem?_set_self (by rw [he.1]; exact hj), hf⟩
  refine h3 H A _ H1 (hi.r r1) ((he.r r1).set hv j) (Rl.gR (b := 0) (L.g0 hg) r1) r1 fr { D with nx := _ } fun σ3 H3 G3 r3 e3 p3 => ?_
  have e0 : n = 0 + n := (Nat.zero_add n).symm
  have g3 : L.G n H3 := Rl.gR (a := 0) (by rw [Nat.zero_add]; exact hg) r3
  exact h4 G3 p3 A σ3 H3 (hi.r r3) e3 g3 D (fun σ4 H4 G4 r4 e4 p4 => q1 σ4 H4 G4 (L.rle (Nat.le_of_eq (Nat.zero_add n)) (L.tr r3 r4)) e4 p4) fun v d H4 r4 e4 p4 => q2 v d H4 (L.rle (Nat.le_of_eq (Nat.zero_add n)) (L.tr r3 r4)) e4 p4
theorem flat_upd {K : PySem.W.Frag} {A : Addr → Prop} {H : Hp} {v : V} {zs : List Int} {p : Addr} {xs : List V} {o : HO} (h : Dv K A H v (tI zs)) (e : H p = some (.lst xs)) : Dv K A (upd H p o) v (tI zs) := by
  cases h with
  | @tup a ys ds na ea ra =>
    have ne : a ≠ p := fun z => by
      rw [z, e] at ea
      cases ea
    refine .tup na (by rw [upd_ne ne]; exact ea) ?_
    rw [ra.ints]
    exact DvAll.ofInts _
  | @ktup a ys ds ea ra =>
    rw [ra.ints] at ea
    exact .ktup ea (DvAll.ofInts _)
theorem flats_upd {A : Addr → Prop} {H : Hp} {p : Addr} {xs : List V} {o : HO} (e : H p = some (.lst xs)) : ∀ {zss : List (List Int)} {vs : List V}, DvAll L.K A H vs (zss.map tI) → DvAll L.K A (upd H p o) vs (zss.map tI)
  | [], _, h => by cases h; exact .nil
  | z :: zs, _, h => by
    cases h with
    | cons h1 h2 => exact .cons (flat_upd h1 e) (flats_upd e h2)
theorem sw_app {zss : List (List Int)} {zs : List Int} {Γ2 : List (Option PyData)} (hj : Γ[j]? = some (some (.list (zss.map tI)))) (hlen : zss.length ≤ 1000) (he2 : EvD L te Γ (tI zs)) (hl : Γ2.length = Γ.length)
    (h2 : ∀ (i : Nat) d, Γ2[i]? = some (some d) → (i = j ∧ d = .list ((zss ++ [zs]).map tI)) ∨ (Γ[i]? = some (some d) ∧ ((∃ zs, d = tI zs) ∨ (∃ z, d = .int z) ∨ d = mark))) :
    SW L j (tDrop (tBM L.K "list" rAppend (tVar j) (tCons te tNil))) Γ (fun G => G = Γ2) := fun H0 A σ H hi he hg r0 ⟨p, hp, hn⟩ D q => by
  obtain ⟨v, hv, dv⟩ := he.2 j _ hj
  rw [hp] at hv
  have ev : V.ref p = v := Option.some.inj (Option.some.inj hv)
  subst ev
  obtain ⟨p', xs, ep, na, eH, rr⟩ := dv.list
  have ep' : p = p' := by injection ep
  subst ep'
  refine ⟨V.ref p, hp, .inl ⟨rfl, xs, SqL.of eH⟩, ?_⟩
  refine he2 A σ H hi he hg _ fun vy d2 H2 r2 hvy p2 => ?_
  subst p2
  have eH2 : H2 p = some (.lst xs) := L.keep r2 eH fxLst
  have r02 : L.R 0 H0 H2 := L.tr (a := 0) (b := 0) r0 r2
  have he3 : EnvOk L A σ H2 Γ := he.r r2
  have rr2 := rr.r r2
  have hlx : xs.length = zss.length := by rw [rr.length, List.length_map]
  refine ⟨p, xs, vy, rfl, rfl, eH2, Nat.lt_of_le_of_lt (show xs.length ≤ 1000 by omega) (by decide), ?_⟩
  refine q σ _ Γ2 (L.fresh r02 hn (.inr ⟨_, eH2⟩)) ⟨by rw [hl]; exact he.1, fun i d hd => ?_⟩ rfl
  rcases h2 i d hd with ⟨rfl, rfl⟩ | ⟨h3, h4⟩
  · refine ⟨V.ref p, hp, .inr (.lst na upd_same ?_)⟩
    rw [List.map_append]
    have hvy2 : Dv L.K A H2 vy (tI zs) := hvy.ne (by unfold tI; intro z; cases z)
    exact (flats_upd eH2 rr2).app (.cons (flat_upd hvy2 eH2) .nil)
  · obtain ⟨v, hv, dv⟩ := he3.2 i d h3
    refine ⟨v, hv, ?_⟩
    rcases h4 with ⟨zs, rfl⟩ | ⟨z, rfl⟩ | rfl
    · exact .inr (flat_upd (dv.ne (by unfold tI; intro z; cases z)) eH2)
    · obtain rfl := dv.int
      exact .inr (.int z)
    · rcases dv with dv | dv
      · exact .inl dv
      · cases dv
end

end V1
set_option Elab.async false
set_option linter.all false
set_option maxRecDepth 100000
set_option maxHeartbeats 4000000
/-! The script: a list that is read alone. -/
namespace V1
open PySem PySem.Spec PyProof.Rows L2
theorem SqL.same {K : PySem.W.Frag} {H H' : Hp} {a : Addr} {xs : List V} (h : SqL K H a xs) (s : Same H H') : SqL K H' a xs := by
  rcases h with (e | ⟨o, e⟩) | h
  · exact .inl (.inl (s _ _ e))
  · exact .inl (.inr ⟨o, s _ _ e⟩)
  · exact .inr h
theorem SqL.ext {K : PySem.W.Frag} {H H' : Hp} {a : Addr} {xs : List V} (h : SqL K H a xs) (s : LamX.ExtN H H') : SqL K H' a xs := by
  rcases h with (e | ⟨o, e⟩) | h
  · exact .inl (.inl (s _ _ e (fun ps z => by cases z)))
  · exact .inl (.inr ⟨o, s _ _ e (fun ps z => by cases z)⟩)
  · exact .inr h
def scL (K : PySem.W.Frag) (T : List (Addr × Str)) (a : Addr) (sc : List Int) : Rl where
  K := K
  G := fun _ H => SqL K H a (sc.map V.int) ∧ LamX.Tabs T H
  R := (tabL K T).R
  M := fun v => v = .ref a
  gle := fun _ h => h
  rle := fun _ r => r
  gr := fun g r => ⟨SqL.ext g.1 r.1, r.2.2⟩
  tr := fun a b => (tabL K T).tr a b
  same := fun g s => (tabL K T).same g.2 s
  fresh := fun r hq h2 => (tabL K T).fresh r hq h2
  keep := fun r e k => (tabL K T).keep r e k
  free := fun r e => (tabL K T).free r e
  mref := fun h => ⟨a, h⟩
theorem lamL_s {K : PySem.W.Frag} {T : List (Addr × Str)} {a : Addr} {sc : List Int} : LamL (scL K T a sc) T := ⟨fun g => g.2, fun _ e t nn => (show (tabL K T).R 0 _ _ from ⟨e, nn, t⟩)⟩
section
variable {T : List (Addr × Str)} {K : PySem.W.Frag} {L : Rl} {Γ : List (Option PyData)} {a : Addr} {sc : List Int} {i : Nat} {te : TE} {tt : TT}
theorem dq_mark {A : Addr → Prop} {H : Hp} {v : V} (h : Dq (scL K T a sc) A H v mark) : v = .ref a := by
  rcases h with ⟨_, h⟩ | h
  · exact h
  · cases h
theorem cut_ints (xs : List Int) (lo hi : Option Int) : ∃ zs : List Int, cutV (xs.map V.int) lo hi = zs.map V.int ∧ zs.length ≤ xs.length := by
  refine ⟨(xs.drop (HT.sIx (xs.map V.int).length 0 lo)).take (HT.sIx (xs.map V.int).length (xs.map V.int).length hi - HT.sIx (xs.map V.int).length 0 lo), ?_, ?_⟩
  · unfold cutV
    rw [List.map_take, List.map_drop]
  · rw [List.length_take, List.length_drop]
    omega
theorem eg_slS {tl th : TO} {lo hi0 : Option Int} (e : Γ[i]? = some (some mark)) (h1 : EoD (scL K T a sc) tl Γ lo) (h2 : EoD (scL K T a sc) th Γ hi0) : EvG (scL K T a sc) 0 (tSl (rSlL K) (tVar i) tl th) Γ (fun d => ∃ zs : List Int, zs.length ≤ sc.length ∧ d = lI zs) := fun A σ H hi he hg Q q => by
  obtain ⟨v, hv, dv⟩ := he.2 i _ e
  have ev := dq_mark dv
  subst ev
  refine ⟨_, hv, h1 A σ H hi he hg _ fun H1 r1 => h2 A σ H1 (hi.r r1) (he.r r1) (Rl.gR (a := 0) (b := 0) hg r1) _ fun H2 r2 => ?_⟩
  have r12 : (scL K T a sc).R 0 H H2 := (scL K T a sc).tr (a := 0) (b := 0) r1 r2
  have g2 : (scL K T a sc).G 0 H2 := Rl.gR (a := 0) (b := 0) hg r12
  obtain ⟨zs, e1, e2⟩ := cut_ints sc lo hi0
  refine ⟨a, sc.map V.int, rfl, g2.1, fun p hp => ?_⟩
  have rr := Rl.newR (L := scL K T a sc) (o := .lst (cutV (sc.map V.int) lo hi0)) g2 hp
  rw [e1] at rr ⊢
  exact q _ _ _ ((scL K T a sc).tr (a := 0) (b := 0) r12 rr) (.inr (.lst ((hi.r r12).no hp) upd_same (DvAll.ofInts zs))) ⟨zs, e2, rfl⟩
theorem cs_lenS (e : Γ[i]? = some (some mark)) : EvD (scL K T a sc) (tCB (fun xs H Q => ∃ p ys, xs = [.ref p] ∧ (SqL K H p ys ∨ SqT K H p ys) ∧ Q (.int ys.length) H) (tCons (tVar i) tNil)) Γ (.int (sc.length : Int)) := fun A σ H hi he hg Q q => by
  obtain ⟨v, hv, dv⟩ := he.2 i _ e
  have ev := dq_mark dv
  subst ev
  refine ⟨_, hv, a, sc.map V.int, rfl, .inl hg.1, ?_⟩
  rw [List.length_map]
  exact q _ _ H (Rl.refl hg) (.inr (.int _)) rfl
/-- a comprehension with a test -/
theorem eg_lcT {wi : TI} {g : TG} {js vs : List Nat} {items : List PyData} {Pt : PyData → Prop} (hw : WkD L wi Γ items) (hj : ∀ j ∈ js, j ∈ vs) (hlen : items.length ≤ 1000)
    (hb : ∀ (i : Nat) d, items[i]? = some d → ∃ Γ', TgG L g js d (wipeD Γ vs) Γ' ∧ (∃ k, EtD L tt Γ' k) ∧ EvG L 0 te Γ' (fun r => r ≠ mark ∧ Pt r)) :
    EvG L 0 (tLc wi g tt te vs) Γ (fun r => ∃ rs, r = .list rs ∧ rs.length ≤ items.length ∧ ∀ (i : Nat) d, rs[i]? = some d → Pt d) := fun A σ H hi he hg Q q => hw A σ H hi he hg _ fun J H1 its r1 hp jk D hD => by
  subst hp
  have hD0 : H D = none := L.free r1 hD
  have g1 : L.G 0 H1 := Rl.gR (b := 0) hg r1
  refine ⟨fun i m H2 => m = its.length - i ∧ i ≤ its.length ∧ L.R 0 H H2 ∧ Kp A H1 H2 ∧ ∃ acc rs, H2 D = some (.lst acc) ∧ DvAll L.K (fun b => A b ∨ b = D) H2 acc rs ∧ rs.length ≤ i ∧ ∀ (j : Nat) d, rs[j]? = some d → Pt d, ⟨its.length, ?_⟩, ?_⟩
  · exact ⟨by omega, Nat.zero_le _, L.fresh r1 hD0 (.inl hD), fun b o _ e k => by rw [upd_ne (ne_of_none e hD)]; exact e, [], [], upd_same, .nil, Nat.le_refl _, fun j d e => by simp at e⟩
  · rintro i m H2 ⟨rfl, hle, r2, k2, acc, rs, eD, dv, hrl, hpt⟩
    have naD : ∀ b, A b → H2 b ≠ none := fun b z => hi.r r2 b z
    by_cases hlt : i < its.length
    · refine .inr ⟨jk.go i H2 k2 hlt, fun H3 => i + 1 ≤ its.length ∧ L.R 0 H H3 ∧ Kp A H1 H3 ∧ ∃ acc rs, H3 D = some (.lst acc) ∧ DvAll L.K (fun b => A b ∨ b = D) H3 acc rs ∧ rs.length ≤ i + 1 ∧ ∀ (j : Nat) d, rs[j]? = some d → Pt d,
        fun H3 h3 => ⟨its.length - (i + 1), by omega, rfl, h3⟩, fun x H3 y => ?_⟩
      obtain ⟨d, hd, sm, hdv⟩ := jk.yld i H2 x H3 k2 naD y hlt
      obtain ⟨Γ', htg, ⟨kk, htt⟩, hev⟩ := hb i d hd
      have innA' : ∀ b, (A b ∨ b = D) → H2 b ≠ none := fun b z => z.elim (naD b) fun e => by rw [e, eD]; simp
      have dx : Dv L.K (fun b => A b ∨ b = D) H3 x d := hdv _ innA' fun b o na e _ z => z.elim na (ne_of_none e hD)
      have ev2 : EnvOk L (fun b => A b ∨ b = D) (wipe σ vs) H3 (wipeD Γ vs) := by
        have h0 : EnvOk L (fun b => A b ∨ b = D) (wipe σ vs) (upd H1 D (.lst [])) (wipeD Γ vs) := ((he.r r1).wipe vs).avoid hD
        refine ⟨h0.1, fun j d' e => ?_⟩
        obtain ⟨v, e1, e2⟩ := h0.2 j d' e
        refine ⟨v, e1, e2.imp (fun z => z) fun z => z.map fun b o na eb kd => ⟨na, sm _ _ (k2 b o (fun w => na (.inl w)) ?_ kd)⟩⟩
        rwa [upd_ne (fun w => na (.inr w))] at eb
      refine htg (fun b => A b ∨ b = D) x (wipe σ vs) H3 dx ev2 _ fun σ2 e3 w3 => ⟨?_, ?_⟩
      · rw [w3 vs hj, wipe_wipe vs fun v hv => hv]
      · have g2 : L.G 0 H2 := Rl.gR (b := 0) hg r2
        have r3 : L.R 0 H2 H3 := L.same g2 sm
        have g3 : L.G 0 H3 := Rl.gR (b := 0) g2 r3
        have inn3 : Inn (fun b => A b ∨ b = D) H3 := fun b z y => innA' b z (L.free r3 y)
        refine htt (fun b => A b ∨ b = D) σ2 H3 inn3 e3 g3 _ fun H4 r4 => ?_
        have r34 : L.R 0 H2 H4 := L.tr (a := 0) (b := 0) r3 r4
        have k4 : Kp A H1 H4 := fun b o na e k => L.keep r34 (k2 b o na e k) k
        have eD4 : H4 D = some (.lst acc) := L.keep r34 eD fxLst
        cases kk with
        | false =>
          show i + 1 ≤ its.length ∧ _
          exact ⟨hlt, L.tr (a := 0) (b := 0) r2 r34, k4, acc, rs, eD4, dv.r r34, by omega, hpt⟩
        | true =>
          show te σ2 H4 _
          refine hev (fun b => A b ∨ b = D) σ2 H4 (inn3.r r4) (e3.r r4) (Rl.gR (b := 0) g3 r4) _ fun y dy H5 r5 hy pw => ?_
          obtain ⟨hmk, hpt4⟩ := pw
          have eD5 : H5 D = some (.lst acc) := L.keep r5 eD4 fxLst
          have r25 : L.R 0 H2 H5 := L.tr (a := 0) (b := 0) r34 r5
          refine ⟨acc, eD5, Nat.lt_of_le_of_lt (show acc.length ≤ 1000 by rw [dv.length]; omega) (by decide), hlt, L.fresh (L.tr (a := 0) (b := 0) r2 r25) hD0 (.inr ⟨_, eD5⟩), ?_, acc ++ [y], rs ++ [dy], upd_same, ?_, by rw [List.length_append]; show _ + 1 ≤ _; omega, fun j d' e => ?_⟩
          · intro b o na e k
            have ne : b ≠ D := ne_of_none e hD
            rw [upd_ne ne]
            exact L.keep r25 (k2 b o na e k) k
          · exact ((dv.r r25).app (.cons (hy.ne hmk) .nil)).off
          · by_cases hj2 : j < rs.length
            · rw [List.getElem?_append_left hj2] at e
              exact hpt j d' e
            · rw [List.getElem?_append_right (by omega)] at e
              have hj3 : j - rs.length = 0 := by
                have := (List.getElem?_eq_some_iff.mp e).1
                simp at this
                omega
              rw [hj3] at e
              simp at e
              subst e
              exact hpt4
    · have e : i = its.length := by omega
      subst e
      refine .inl ⟨jk.stop H2 k2, ?_⟩
      have nD : ¬ A D := hi.no hD0
      exact q (.ref D) (.list rs) H2 r2 (.inr (.lst nD eD (dv.map fun b o na e _ => ⟨fun z => na (.inl z), e⟩))) ⟨rs, rfl, hrl, hpt⟩
theorem eg_catG {P1 P2 : List Int → Prop} {ta tb : TE} {m n : Nat} (ha : EvG L m ta Γ (fun d => ∃ zs, P1 zs ∧ d = lI zs)) (hb : EvG L n tb Γ (fun d => ∃ zs, P2 zs ∧ d = lI zs)) (hl : ∀ xs ys, P1 xs → P2 ys → xs.length + ys.length ≤ 100000) : EvG L (m + n) (tOp rCat ta tb) Γ (fun d => ∃ xs ys, P1 xs ∧ P2 ys ∧ d = lI (xs ++ ys)) :=
  eg_opG ha hb fun d1 d2 ⟨xs, p1, e1⟩ ⟨ys, p2, e2⟩ => by
    subst e1 e2
    exact fun A H x y hi hg hx hy Q q => os_cat (by rw [List.length_map, List.length_map]; exact hl xs ys p1 p2) A H x y hi hg hx hy Q fun v d H' r hv e => q v d H' r hv ⟨xs, ys, p1, p2, by rw [e]; unfold lI; rw [List.map_append]⟩
theorem dp_nil {K : PySem.W.Frag} {A : Addr → Prop} {H : Hp} {p : Addr} (h : H p = some (.lst [])) : Dp K H (.ref p) (.list []) := .lst (SqL.of h) .nil
theorem eqv_nil (ds : List PyData) : PyData.eqv (.list ds) (.list []) = ds.isEmpty := by
  cases ds with
  | nil => rfl
  | cons d ds => rfl
theorem canlay_ints : ∀ zs : List Int, PyData.canLayAll0 (zs.map .int) = true
  | [] => rfl
  | z :: zs => by simp only [List.map_cons, PyData.canLayAll0, PyData.canLay0, canlay_ints zs, Bool.and_self]
theorem depth_ints : ∀ zs : List Int, PyData.depthAll (zs.map .int) = 0
  | [] => rfl
  | z :: zs => by simp only [List.map_cons, PyData.depthAll, PyData.depth, depth_ints zs, Nat.max_self]
theorem shaped_ints (zs : List Int) : SeqAt.shaped (lI zs) = true := by
  unfold SeqAt.shaped lI
  rw [Bool.and_eq_true]
  refine ⟨by simp only [PyData.canLay0]; exact canlay_ints zs, decide_eq_true ?_⟩
  simp only [PyData.depth, depth_ints]
  omega
theorem nd_ints (zs : List Int) : (lI zs).hasDict = false := by
  unfold lI
  simp only [PyData.hasDict]
  induction zs with
  | nil => simp only [List.map_nil, PyData.hasDictAll]
  | cons z zs ih => simp only [List.map_cons, PyData.hasDictAll, PyData.hasDict, ih, Bool.or_self]
/-- xs != [] -/
theorem eg_neNil {ta : TE} {zs : List Int} (h : EvD L ta Γ (lI zs)) : EvD L (tOp (rNeD L.K) ta (tLst tNil)) Γ (.bool (!zs.isEmpty)) := fun A σ H hi he hg Q q => h A σ H hi he hg _ fun x d H1 r1 hx p => by
  subst p
  refine eg_lst (L := L) (Γ := Γ) (t := tNil) (ds := []) ea_nil rfl (by decide) A σ H1 (hi.r r1) (he.r r1) (Rl.gR (b := 0) hg r1) _ fun y d2 H2 r2 hy p2 => ?_
  subst p2
  have dx : Dp L.K H2 x (lI zs) := ((hx.r r2).ne (by unfold lI; intro z; cases z)).dp (nd_ints zs)
  have dy : Dp L.K H2 y (.list []) := (hy.ne (by intro z; cases z)).dp (by simp only [PyData.hasDict, PyData.hasDictAll])
  refine ⟨lI zs, .list [], dx, dy, shaped_ints zs, rfl, ?_⟩
  have e : PyData.eqv (lI zs) (.list []) = zs.isEmpty := by
    unfold lI
    rw [eqv_nil]
    cases zs <;> rfl
  rw [e]
  exact q _ _ H2 (L.tr (a := 0) (b := 0) r1 r2) (.inr (.bl _)) rfl
/-- a way through statements, to an end of its own -/
def SX (L : Rl) (A : Addr → Prop) (H0 : Hp) (D : Ends) (ts : TS) (Γ : List (Option PyData)) : Prop := ∀ σ H, Inn A H → EnvOk L A σ H Γ → L.G 0 H → L.R 0 H0 H → ts D σ H
theorem sx_asgG {A : Addr → Prop} {H0 : Hp} {D : Ends} {u : TS} {P : PyData → Prop} {j : Nat} (h : EvG L 0 te Γ P) (k : ∀ d, P d → SX L A H0 D u (Γ.set j (some d))) : SX L A H0 D (tSeq (tAsg te (gName j)) u) Γ := fun σ H hi he hg r0 =>
  h A σ H hi he hg _ fun v d H1 r1 hv p => k d p _ H1 (hi.r r1) ((he.r r1).set hv j) (Rl.gR (b := 0) hg r1) (L.tr (a := 0) (b := 0) r0 r1)
theorem sx_sg {A : Addr → Prop} {H0 : Hp} {D : Ends} {ts u : TS} {N : List (Option PyData) → Prop} (h : SG L 0 ts Γ N (fun _ => False)) (k : ∀ Γ', N Γ' → SX L A H0 D u Γ') : SX L A H0 D (tSeq ts u) Γ := fun σ H hi he hg r0 =>
  h A σ H hi he hg { D with nx := u D } (fun σ' H' Γ' r e p => k Γ' p σ' H' (hi.r r) e (Rl.gR (b := 0) hg r) (L.tr (a := 0) (b := 0) r0 r)) fun v d H' r hd z => z.elim
end
end V1
set_option Elab.async false
set_option linter.all false
set_option maxRecDepth 100000
set_option maxHeartbeats 4000000
/-! A way that leaves one slot as it is. -/
namespace V1
open PySem PySem.Spec PyProof.Rows L2
def SK (L : Rl) (j : Nat) (v0 : V) (n : Nat) (ts : TS) (Γ : List (Option PyData)) (N : List (Option PyData) → Prop) : Prop := ∀ A σ H, Inn A H → EnvOk L A σ H Γ → L.G n H → σ[j]? = some (some v0) → ∀ D : Ends,
  (∀ σ' H' Γ', L.R n H H' → EnvOk L A σ' H' Γ' → σ'[j]? = some (some v0) → N Γ' → D.nx σ' H') → ts D σ H
section
variable {L : Rl} {Γ : List (Option PyData)} {te : TE} {t : TA} {tt : TT} {ts u : TS} {i j a b c : Nat} {v0 : V} {N : List (Option PyData) → Prop} {P : PyData → Prop}
theorem sk_asgG (hij : i ≠ j) (h : EvG L a te Γ P) (k : ∀ d, P d → SK L j v0 b u (Γ.set i (some d)) N) : SK L j v0 (a + b) (tSeq (tAsg te (gName i)) u) Γ N := fun A σ H hi he hg hs D q =>
  h A σ H hi he (L.gle (Nat.le_add_right _ _) hg) _ fun v d H1 r hv p => k d p A _ H1 (hi.r r) ((he.r r).set hv i) (Rl.gR hg r) (by rw [List.getElem?_set_ne hij]; exact hs) D fun σ2 H2 Γ2 r2 e2 s2 p2 => q σ2 H2 Γ2 (L.tr r r2) e2 s2 p2
theorem sk_parG {i2 : Nat} {PP : List PyData → Prop} (h1 : i ≠ j) (h2 : i2 ≠ j) (h : EaG L a t Γ PP) (k : ∀ ds, PP ds → ∃ d1 d2, ds = [d1, d2] ∧ SK L j v0 b u ((Γ.set i (some d1)).set i2 (some d2)) N) : SK L j v0 (a + b) (tSeq (tPar i i2 t) u) Γ N := fun A σ H hi he hg hs D q =>
  h A σ H hi he (L.gle (Nat.le_add_right _ _) hg) _ fun vs ds H1 r hl hv p => by
    obtain ⟨d1, d2, rfl, k⟩ := k ds p
    obtain ⟨v, w, rfl, h3, h4⟩ := two_of hl hv
    exact ⟨v, w, rfl, k A _ H1 (hi.r r) (((he.r r).set h3 i).set h4 i2) (Rl.gR hg r) (by rw [List.getElem?_set_ne h2, List.getElem?_set_ne h1]; exact hs) D fun σ2 H2 Γ2 r2 e2 s2 p2 => q σ2 H2 Γ2 (L.tr r r2) e2 s2 p2⟩
theorem sk_ifn (h : EtG L a tt Γ (fun k => k = false)) (k : N Γ) : SK L j v0 a (tIfS tt ts tNext) Γ N := fun A σ H hi he hg hs D q => h A σ H hi he hg _ fun b H1 r1 e => by
  subst e
  exact q σ H1 Γ r1 (he.r r1) hs k
theorem sk_for {wi : TI} {g : TG} {js : List Nat} {items : List PyData} (I : Nat → List (Option PyData) → Prop) (hjs : j ∉ js) (hw : WkD L wi Γ items) (hlen : items.length ≤ b) (h0 : I 0 Γ)
    (hb : ∀ (i : Nat) d Γi, items[i]? = some d → I i Γi → ∃ Γ', TgG L g js d Γi Γ' ∧ SK L j v0 c ts Γ' (I (i + 1))) (hN : ∀ Γe, I items.length Γe → N Γe) : SK L j v0 (b * c) (tFor wi g ts) Γ N := fun A σ H hi he hg hs D q1 =>
  hw A σ H hi he (L.g0 hg) _ fun J H1 its r1 hp jk => by
  subst hp
  refine ⟨fun i m σ2 H2 => m = its.length - i ∧ i ≤ its.length ∧ L.R (i * c) H H2 ∧ Kp A H1 H2 ∧ σ2[j]? = some (some v0) ∧ ∃ Γi, EnvOk L A σ2 H2 Γi ∧ I i Γi, ⟨its.length, ?_⟩, ?_⟩
  · refine ⟨by omega, Nat.zero_le _, ?_, fun b o _ e k => e, hs, Γ, he.r r1, h0⟩
    rw [Nat.zero_mul]
    exact r1
  · rintro i m σ2 H2 ⟨rfl, hle, r2, k2, s2, Γi, e2, p2⟩
    by_cases hlt : i < its.length
    · refine .inr ⟨jk.go i H2 k2 hlt, fun σ3 H3 => i + 1 ≤ its.length ∧ L.R ((i + 1) * c) H H3 ∧ Kp A H1 H3 ∧ σ3[j]? = some (some v0) ∧ ∃ Γi, EnvOk L A σ3 H3 Γi ∧ I (i + 1) Γi, fun σ3 H3 h3 => ⟨its.length - (i + 1), by omega, rfl, h3⟩, fun x H3 y => ?_⟩
      have naD : ∀ b, A b → H2 b ≠ none := fun b z => hi.r r2 b z
      obtain ⟨d, hd, sm, hdv⟩ := jk.yld i H2 x H3 k2 naD y hlt
      obtain ⟨Γ', htg, hs'⟩ := hb i d Γi hd p2
      have e5 : (i + 1) * c = i * c + 0 + c := by rw [Nat.succ_mul]; omega
      have g0 : L.G (c + 0) H2 := by
        refine Rl.gR (a := i * c) ?_ r2
        refine L.gle ?_ hg
        have h1 : (i + 1) * c ≤ b * c := Nat.mul_le_mul_right _ (by omega)
        have h2 : (i + 1) * c = i * c + c := Nat.succ_mul _ _
        omega
      have r3 : L.R 0 H2 H3 := L.same (L.g0 g0) sm
      have g3 : L.G c H3 := Rl.gR (a := 0) (by rw [Nat.zero_add]; exact g0) r3
      have dx : Dv L.K A H3 x d := hdv A naD fun b o na e _ => na
      refine htg A x σ2 H3 dx (e2.r r3) _ fun σ4 e4 w4 => ?_
      have s4 : σ4[j]? = some (some v0) := by
        have hw4 := w4 js fun k hk => hk
        rw [← wipe_get hjs, hw4, wipe_get hjs]
        exact s2
      refine hs' A σ4 H3 (fun b z y => naD b z (L.free r3 y)) e4 g3 s4 { D with nx := _, ct := _, bk := D.nx } (fun σ5 H5 Γ5 r5 e6 s5 p5 => ?_)
      refine ⟨hlt, ?_, fun b o na e k => L.keep r5 (sm _ _ (k2 b o na e k)) k, s5, Γ5, e6, p5⟩
      rw [e5]
      exact L.tr (L.tr r2 r3) r5
    · have e : i = its.length := by omega
      subst e
      exact .inl ⟨jk.stop H2 k2, q1 σ2 H2 Γi (L.rle (Nat.mul_le_mul_right c hlen) r2) e2 s2 (hN Γi p2)⟩
end
end V1
set_option Elab.async false
set_option linter.all false
set_option maxRecDepth 100000
set_option maxHeartbeats 4000000
/-! max of a list with a default. -/
namespace V1
open PySem PySem.Spec PyProof.Rows L2
def maxI (d : Int) : List Int → Int
  | [] => d
  | n :: r => r.foldl max n
theorem dpAll_ints {K : PySem.W.Frag} {H : Hp} : ∀ ns : List Int, DpAll K H (ns.map V.int) (ns.map PyData.int)
  | [] => .nil
  | n :: r => .cons (.int n) (dpAll_ints r)
theorem alike_ints (ns : List Int) : PySem.W.AlikeAll (ns.map PyData.int) := by
  refine ⟨fun x hx y hy => ?_, fun x hx => ?_⟩
  · obtain ⟨a, _, rfl⟩ := List.mem_map.mp hx
    obtain ⟨b, _, rfl⟩ := List.mem_map.mp hy
    rfl
  · obtain ⟨a, _, rfl⟩ := List.mem_map.mp hx
    intro z
    cases z
theorem cr_maxDef {X : Cx} {K : PySem.W.Frag} (hK : X.K = K) (hc : X.calm = true) (hu : X.A.units + 64 < cLine) : CallRK X (.builtin "max") [Str.ofString "default"] (fun vs zs H Q => ∃ (a : Addr) (ns : List Int) (d : Int), vs = [.ref a] ∧ zs = [.int d] ∧ SqL K H a (ns.map V.int) ∧ Q (.int (maxI d ns)) H) := by
  subst hK
  intro pins s σ H vs zs us ws Q I r rz h
  obtain ⟨a, ns, d, rfl, rfl, hs, q⟩ := h
  obtain rfl := Vals.ref1 r
  obtain ⟨w1, rfl, e1⟩ := vals1 rz
  obtain ⟨t, rfl⟩ := e1
  obtain ⟨its, rv, pl, hz⟩ := I.list hs
  obtain ⟨as, ra⟩ := Dp.readsAll I _ _ _ (dpAll_ints ns) rv
  refine PySem.W.max_list_default (vs := its.toArray) (I.ok.hd hc) pl.isList (by simpa using ra) (alike_ints ns) (by rw [depth_ints]; omega) (fun e h' tk hk => ?_) fun y ys i v h' tk bs e hv rr hk => ?_
  · have e2 : ns = [] := by simpa using e
    subst e2
    exact ⟨.int d, H, I.kept hk, ⟨_, rfl⟩, q⟩
  · cases ns with
    | nil => cases e
    | cons n r =>
      rw [List.map_cons] at e
      injection e with e2 e3
      subst e2 e3
      rw [PySem.W.maxD_ints] at rr
      cases rr
      exact ⟨.int (r.foldl max n), H, I.kept hk, ⟨_, rfl⟩, q⟩
section
variable {L : Rl} {Γ : List (Option PyData)} {ta : TE}
theorem eg_maxDef {ns : List Int} {d : Int} (h : EvD L ta Γ (lI ns)) : EvD L (tCKw (fun vs zs H Q => ∃ (a : Addr) (ns : List Int) (d : Int), vs = [.ref a] ∧ zs = [.int d] ∧ SqL L.K H a (ns.map V.int) ∧ Q (.int (maxI d ns)) H) (tCons ta tNil) (tCons (tC (.int d)) tNil)) Γ (.int (maxI d ns)) := fun A σ H hi he hg Q q => h A σ H hi he hg _ fun v d1 H1 r1 hv p => by
  subst p
  obtain ⟨p, xs, rfl, na, e, r⟩ := hv.list
  rw [r.ints] at e
  exact ⟨p, ns, d, rfl, rfl, SqL.of e, q _ _ H1 r1 (.inr (.int _)) rfl⟩
/-- a tuple of texts of the written part, by its address -/
theorem eg_gtup {a : Addr} {ws : List Str} (h : ∀ H, SqT L.K H a (ws.map V.str)) : EvD L (tC (.ref a)) Γ (.tuple (ws.map .str)) := fun A σ H hi he hg Q q => by
  have hk : KT L.K a (ws.map V.str) := by
    rcases h (fun _ => none) with (e | ⟨o, e⟩) | e
    · cases e
    · cases e
    · exact e
  refine q _ _ H (Rl.refl hg) (.inr (.ktup hk ?_)) rfl
  clear h hk q
  induction ws with
  | nil => exact .nil
  | cons w r ih => exact .cons (.str w) ih
end
end V1
set_option Elab.async false
set_option linter.all false
set_option maxRecDepth 100000
set_option maxHeartbeats 4000000
/-! A text, or None, in a dict of the written part. -/
namespace V1
open PySem PySem.Spec PyProof.Rows L2
theorem none_mapK {P : Program} {w : World} {K : PySem.W.Frag} {h : Heap} {d : Addr} {es : Array DictEntry} {n : Nat} (X : K.In h) (D : KDict K w d es n) : ∃ f, h.MapOf (noneKind P w) d f ∧ f none = none := by
  refine ⟨fun k => findBy (noneKind P w).is es k, ⟨_, es, n, X _ _ D.at_, ⟨rfl, rfl, rfl⟩, rfl, fun e he => ?_, fun k => rfl⟩, ?_⟩
  · obtain ⟨x, t, e1, e2⟩ := D.lit.all e (Array.mem_toList_iff.mpr he)
    refine ⟨some (.inr x), ?_, e2⟩
    show keyIs (.inr x) e.key = true
    rw [e1]
    exact PySem.strKind_is P w x t
  · have q : (es.find? fun e => nkIs none e.key) = none := by
      rw [Array.find?_eq_none]
      intro e he hq
      obtain ⟨x, t, e1, _⟩ := D.lit.all e (Array.mem_toList_iff.mpr he)
      rw [nk_none hq] at e1
      cases e1
    show (es.find? fun e => nkIs none e.key).map (·.val) = none
    rw [q] <;> rfl
section
variable {X : Cx} {d : Addr} {es : Array DictEntry} {n : Nat}
theorem op_in_kdN (D : KDict X.K X.w d es n) : OpR X (compareOp .In) (fun x y H Q => y = .ref d ∧ ((∃ (z : Str) (r : Option Value), x = .str z ∧ PySem.W.nsIn X.K d z = some r ∧ Q (.bl r.isSome) H) ∨ (x = .non ∧ Q (.bl false) H))) := by
  intro pins s σ H x y v u Q I rx ry h
  obtain ⟨rfl, h⟩ := h
  rcases h with ⟨z, r, rfl, e, q⟩ | ⟨rfl, q⟩
  · exact op_in_kd D pins s σ H _ _ v u Q I rx ry ⟨z, r, rfl, rfl, e, q⟩
  · cases ry
    obtain rfl : v = Value.none := rx
    obtain ⟨f, hm, hf⟩ := none_mapK (P := X.prog) (w := X.w) I.kIn D
    refine wpAny_in_of (show (noneKind X.prog X.w).is none .none = true from rfl) D.low hm ?_
    rw [hf]
    exact ⟨.bl false, H, I.tok _, rfl, q⟩
end
end V1
set_option Elab.async false
set_option linter.all false
set_option maxRecDepth 100000
set_option maxHeartbeats 4000000
/-! A list made here that grows in a loop. -/
namespace V1
open PySem PySem.Spec PyProof.Rows L2
/-- a new list whose things stand away from it -/
def EvL (L : Rl) (te : TE) (Γ : List (Option PyData)) (ds : List PyData) : Prop := ∀ A σ H, Inn A H → EnvOk L A σ H Γ → L.G 0 H → ∀ Q : VK, (∀ p xs H', L.R 0 H H' → H p = none → H' p = some (.lst xs) → DvAll L.K (fun b => A b ∨ b = p) H' xs ds → Q (.ref p) H') → te σ H Q
section
variable {L : Rl} {Γ : List (Option PyData)} {t : TA} {te te2 : TE} {B u : TS} {j : Nat} {N : List (Option PyData) → Prop} {Rt : PyData → Prop}
theorem evl_lst {ds : List PyData} (h : EaD L t Γ ds) (hn : nomk ds = true := by rfl) (hl : ds.length ≤ 1000 := by simp) : EvL L (tLst t) Γ ds := fun A σ H hi he hg Q q => h A σ H hi he hg _ fun vs ds' H1 r1 l hv p => by
  subst p
  refine ⟨Nat.le_trans (by rw [l]; exact hl) (by decide), fun p hp => ?_⟩
  have rr := Rl.newR (o := .lst vs) (Rl.gR (b := 0) hg r1) hp
  refine q p vs _ (L.tr (a := 0) (b := 0) r1 rr) (L.free r1 hp) upd_same ((all_of l hv hn).map fun b o na e k => ⟨fun z => z.elim na (ne_of_none e hp), ?_⟩)
  rw [upd_ne (ne_of_none e hp)]
  exact e
theorem EnvOk.less {A A' : Addr → Prop} {σ : L2.St} {H : Hp} (h : EnvOk L A' σ H Γ) (f : ∀ b, A b → A' b) : EnvOk L A σ H Γ := ⟨h.1, fun i d e => let ⟨v, h1, h2⟩ := h.2 i d e; ⟨v, h1, h2.imp (fun z => z) fun z => z.map fun b o na e k => ⟨fun w => na (f b w), e⟩⟩⟩
theorem sg_growE {wi : TI} {g : TG} {js : List Nat} {items ds0 : List PyData} {acc : Nat → List PyData} (I : Nat → List (Option PyData) → Prop) (hj : j < Γ.length) (hjs : j ∉ js) (h1 : EvL L te Γ ds0) (ha0 : acc 0 = ds0) (hlen : ∀ i, (acc i).length ≤ 100000)
    (hw : WkD L wi (Γ.set j none) items) (h0 : I 0 (Γ.set j none))
    (hb : ∀ (i : Nat) d Γi, items[i]? = some d → I i Γi → ∃ Γ' N1, TgG L g js d Γi Γ' ∧ (∀ v0, SK L j v0 0 B Γ' N1) ∧ ∀ G, N1 G → ∃ es, EvD L te2 G (.list es) ∧ es.length ≤ 100000 ∧ acc (i + 1) = acc i ++ es ∧ I (i + 1) G)
    (hN : ∀ Γe, I items.length Γe → SG L 0 u (Γe.set j (some (.list (acc items.length)))) N Rt) :
    SG L 0 (tSeq (tAsg te (gName j)) (tSeq (tFor wi g (tSeq B (tDrop (tBM L.K "list" rExtend (tVar j) (tCons te2 tNil))))) u)) Γ N Rt := fun A σ H hi he hg D q1 q2 => h1 A σ H hi he hg _ fun p xs0 H1 r1 hp0 eP dv0 => by
  have nAp : ¬ A p := fun z => hi p z hp0
  have g1 : L.G 0 H1 := Rl.gR (b := 0) hg r1
  have hi1 : Inn (fun b => A b ∨ b = p) H1 := fun b z y => z.elim (fun z => (hi.r r1) b z y) fun z => by rw [z, eP] at y; cases y
  have sj : (σ.set j (some (V.ref p)))[j]? = some (some (V.ref p)) := List.getElem?_set_self (by rw [he.1]; exact hj)
  have he1 : EnvOk L (fun b => A b ∨ b = p) (σ.set j (some (V.ref p))) H1 (Γ.set j none) := by
    refine ⟨by rw [List.length_set, List.length_set]; exact he.1, fun i d e => ?_⟩
    by_cases hij : j = i
    · subst hij
      rw [List.getElem?_set_self hj] at e
      cases e
    · rw [List.getElem?_set_ne hij] at e
      obtain ⟨v, e1, e2⟩ := he.2 i d e
      refine ⟨v, by rw [List.getElem?_set_ne hij]; exact e1, e2.imp (fun z => z) fun z => z.map fun b o na eb k => ⟨fun w => w.elim na (ne_of_none eb hp0), L.keep r1 eb k⟩⟩
  refine hw (fun b => A b ∨ b = p) _ H1 hi1 he1 g1 _ fun J H2 its r2 hits jk => ?_
  subst hits
  have eP2 : H2 p = some (.lst xs0) := L.keep r2 eP fxLst
  refine ⟨fun i m σ3 H3 => m = its.length - i ∧ i ≤ its.length ∧ L.R 0 H H3 ∧ Kp (fun b => A b ∨ b = p) H2 H3 ∧ σ3[j]? = some (some (V.ref p)) ∧ (∃ xs, H3 p = some (.lst xs) ∧ DvAll L.K (fun b => A b ∨ b = p) H3 xs (acc i)) ∧ ∃ Γi, EnvOk L (fun b => A b ∨ b = p) σ3 H3 Γi ∧ I i Γi, ⟨its.length, ?_⟩, ?_⟩
  · exact ⟨by omega, Nat.zero_le _, L.tr (a := 0) (b := 0) r1 r2, fun b o _ e _ => e, sj, ⟨xs0, eP2, by rw [ha0]; exact dv0.r r2⟩, _, he1.r r2, h0⟩
  · rintro i m σ3 H3 ⟨rfl, hle, r3, k3, s3, ⟨xs, eP3, dv3⟩, Γi, e3, p3⟩
    have g3 : L.G 0 H3 := Rl.gR (b := 0) hg r3
    have hi3 : Inn (fun b => A b ∨ b = p) H3 := fun b z y => z.elim (fun z => (hi.r r3) b z y) fun z => by rw [z, eP3] at y; cases y
    by_cases hlt : i < its.length
    · refine .inr ⟨jk.go i H3 k3 hlt, fun σ4 H4 => i + 1 ≤ its.length ∧ L.R 0 H H4 ∧ Kp (fun b => A b ∨ b = p) H2 H4 ∧ σ4[j]? = some (some (V.ref p)) ∧ (∃ xs, H4 p = some (.lst xs) ∧ DvAll L.K (fun b => A b ∨ b = p) H4 xs (acc (i + 1))) ∧ ∃ Γi, EnvOk L (fun b => A b ∨ b = p) σ4 H4 Γi ∧ I (i + 1) Γi, fun σ4 H4 h4 => ⟨its.length - (i + 1), by omega, rfl, h4⟩, fun x H4 y => ?_⟩
      obtain ⟨d, hd, sm, hdv⟩ := jk.yld i H3 x H4 k3 hi3 y hlt
      obtain ⟨Γ', N1, htg, hB, hes⟩ := hb i d Γi hd p3
      have r34 : L.R 0 H3 H4 := L.same g3 sm
      have dx : Dv L.K (fun b => A b ∨ b = p) H4 x d := hdv _ hi3 fun b o na e _ => na
      refine htg _ x σ3 H4 dx (e3.r r34) _ fun σ5 e5 w5 => ?_
      have s5 : σ5[j]? = some (some (V.ref p)) := by
        have hw5 := w5 js fun k hk => hk
        rw [← wipe_get hjs, hw5, wipe_get hjs]
        exact s3
      have g4 : L.G 0 H4 := Rl.gR (b := 0) g3 r34
      refine hB (V.ref p) _ σ5 H4 (hi3.r r34) e5 g4 s5 { nx := _, rt := _, bk := _, ct := _ } fun σ6 H6 Γ6 r6 e6 s6 p6 => ?_
      obtain ⟨es, he2, hl2, hacc, hI⟩ := hes Γ6 p6
      have r36 : L.R 0 H3 H6 := L.tr (a := 0) (b := 0) r34 r6
      have eP6 : H6 p = some (.lst xs) := L.keep r36 eP3 fxLst
      refine ⟨V.ref p, s6, .inl ⟨rfl, xs, SqL.of eP6⟩, ?_⟩
      refine he2 _ σ6 H6 (hi3.r r36) e6 (Rl.gR (b := 0) g3 r36) _ fun v d7 H7 r7 hv7 ed => ?_
      subst ed
      obtain ⟨b7, zs, rfl, nb7, eb7, dz⟩ := hv7.list
      have r37 : L.R 0 H3 H7 := L.tr (a := 0) (b := 0) r36 r7
      have eP7 : H7 p = some (.lst xs) := L.keep r37 eP3 fxLst
      have dv7 := dv3.r r37
      refine ⟨p, b7, xs, zs, rfl, rfl, eP7, eb7, ?_, ?_⟩
      · rw [dv7.length, dz.length]
        exact Nat.le_trans (Nat.add_le_add (hlen i) hl2) (by decide)
      · refine ⟨hlt, L.fresh (L.tr (a := 0) (b := 0) r3 r37) hp0 (.inr ⟨_, eP7⟩), fun b o na e k => ?_, s6, ⟨xs ++ zs, upd_same, ?_⟩, Γ6, (e6.r r7).off, hI⟩
        · rw [upd_ne (fun z => na (.inr z))]
          exact L.keep r37 (k3 b o na e k) k
        · rw [hacc]
          exact (dv7.app dz).off
    · have e : i = its.length := by omega
      subst e
      refine .inl ⟨jk.stop H3 k3, ?_⟩
      have e4 : EnvOk L A σ3 H3 Γi := e3.less fun b z => .inl z
      have dA : DvAll L.K A H3 xs (acc its.length) := dv3.map fun b o na e k => ⟨fun z => na (.inl z), e⟩
      have hlj : j < σ3.length := (List.getElem?_eq_some_iff.mp s3).1
      have e5 : EnvOk L A σ3 H3 (Γi.set j (some (.list (acc its.length)))) := by
        have h5 := e4.set (d := .list (acc its.length)) (v := V.ref p) (.inr (.lst nAp eP3 dA)) j
        have hs : σ3.set j (some (V.ref p)) = σ3 := by
          refine List.ext_getElem? fun i => ?_
          by_cases hij : j = i
          · subst hij
            rw [List.getElem?_set_self hlj, s3]
          · rw [List.getElem?_set_ne hij]
        rwa [hs] at h5
      exact hN Γi p3 A σ3 H3 (hi.r r3) e5 g3 D (fun σ6 H6 G6 r6 e6 p6 => q1 σ6 H6 G6 (L.tr (a := 0) (b := 0) r3 r6) e6 p6) fun v d H6 r6 e6 p6 => q2 v d H6 (L.tr (a := 0) (b := 0) r3 r6) e6 p6
end
end V1
set_option Elab.async false
set_option linter.all false
set_option maxRecDepth 100000
set_option maxHeartbeats 4000000
/-! A comprehension with two walks. -/
namespace V1
open PySem PySem.Spec PyProof.Rows L2
theorem EnvOk.kp {L : Rl} {Γ : List (Option PyData)} {A : Addr → Prop} {σ : L2.St} {H H' : Hp} (h : EnvOk L A σ H Γ) (k : Kp A H H') : EnvOk L A σ H' Γ := ⟨h.1, fun i d e => let ⟨v, h1, h2⟩ := h.2 i d e; ⟨v, h1, h2.imp (fun z => z) fun z => z.map fun b o na e kd => ⟨na, k b o na e kd⟩⟩⟩
def rowR (res : Nat → Nat → PyData) (i k : Nat) : List PyData := (List.range k).map (res i)
def flatR (inn : Nat → List PyData) (res : Nat → Nat → PyData) (n : Nat) : List PyData := (List.range n).flatMap fun i => rowR res i (inn i).length
theorem flatR_succ (inn : Nat → List PyData) (res : Nat → Nat → PyData) (n : Nat) : flatR inn res (n + 1) = flatR inn res n ++ rowR res n (inn n).length := by
  unfold flatR
  rw [List.range_succ, List.flatMap_append]
  simp
theorem rowR_succ (res : Nat → Nat → PyData) (i k : Nat) : rowR res i (k + 1) = rowR res i k ++ [res i k] := by
  unfold rowR
  rw [List.range_succ, List.map_append]
  rfl
section
variable {L : Rl} {Γ : List (Option PyData)} {te : TE}
theorem eg_lc2 {wi wi1 : TI} {g g1 : TG} {js js1 vs vs1 : List Nat} {items : List PyData} {inn : Nat → List PyData} {res : Nat → Nat → PyData} (hw : WkD L wi Γ items) (hj : ∀ j ∈ js, j ∈ vs) (hj1 : ∀ j ∈ js1, j ∈ vs1) (hl : items.length ≤ 1000) (hl2 : ∀ i, (inn i).length ≤ 1000)
    (hb : ∀ (i : Nat) d, items[i]? = some d → ∃ Γ', TgG L g js d (wipeD Γ vs) Γ' ∧ WkD L wi1 Γ' (inn i) ∧ ∀ (k : Nat) e, (inn i)[k]? = some e → ∃ Γ'', TgG L g1 js1 e (wipeD Γ' vs1) Γ'' ∧ res i k ≠ mark ∧ EvD L te Γ'' (res i k)) :
    EvD L (tLc2 wi g tYes wi1 g1 tYes te vs vs1) Γ (.list (flatR inn res items.length)) := fun A σ H hi he hg Q q => hw A σ H hi he hg _ fun J H1 its r1 hits jk D hD => by
  subst hits
  have hD0 : H D = none := L.free r1 hD
  have g1' : L.G 0 H1 := Rl.gR (b := 0) hg r1
  have lenF : ∀ n, n ≤ its.length → (flatR inn res n).length ≤ n * 1000 := by
    intro n
    induction n with
    | zero => intro _; exact Nat.le_refl _
    | succ n ih =>
      intro hn
      have h1 := ih (by omega)
      have h2 := hl2 n
      rw [flatR_succ, List.length_append]
      unfold rowR
      rw [List.length_map, List.length_range]
      omega
  refine ⟨fun i m H2 => m = its.length - i ∧ i ≤ its.length ∧ L.R 0 H H2 ∧ Kp A H1 H2 ∧ ∃ acc, H2 D = some (.lst acc) ∧ DvAll L.K (fun b => A b ∨ b = D) H2 acc (flatR inn res i), ⟨its.length, ?_⟩, ?_⟩
  · exact ⟨by omega, Nat.zero_le _, L.fresh r1 hD0 (.inl hD), fun b o _ e k => by rw [upd_ne (ne_of_none e hD)]; exact e, [], upd_same, .nil⟩
  · rintro i m H2 ⟨rfl, hle, r2, k2, acc, eD, dv⟩
    have naD : ∀ b, A b → H2 b ≠ none := fun b z => hi.r r2 b z
    by_cases hlt : i < its.length
    · refine .inr ⟨jk.go i H2 k2 hlt, fun H3 => i + 1 ≤ its.length ∧ L.R 0 H H3 ∧ Kp A H1 H3 ∧ ∃ acc, H3 D = some (.lst acc) ∧ DvAll L.K (fun b => A b ∨ b = D) H3 acc (flatR inn res (i + 1)),
        fun H3 h3 => ⟨its.length - (i + 1), by omega, rfl, h3⟩, fun x H3 y => ?_⟩
      obtain ⟨d, hd, sm, hdv⟩ := jk.yld i H2 x H3 k2 naD y hlt
      obtain ⟨Γ', htg, hw1, hin⟩ := hb i d hd
      have innA' : ∀ b, (A b ∨ b = D) → H2 b ≠ none := fun b z => z.elim (naD b) fun e => by rw [e, eD]; simp
      have dx : Dv L.K (fun b => A b ∨ b = D) H3 x d := hdv _ innA' fun b o na e _ z => z.elim na (ne_of_none e hD)
      have ev2 : EnvOk L (fun b => A b ∨ b = D) (wipe σ vs) H3 (wipeD Γ vs) := by
        have h0 : EnvOk L (fun b => A b ∨ b = D) (wipe σ vs) (upd H1 D (.lst [])) (wipeD Γ vs) := ((he.r r1).wipe vs).avoid hD
        refine ⟨h0.1, fun j d' e => ?_⟩
        obtain ⟨v, e1, e2⟩ := h0.2 j d' e
        refine ⟨v, e1, e2.imp (fun z => z) fun z => z.map fun b o na eb kd => ⟨na, sm _ _ (k2 b o (fun w => na (.inl w)) ?_ kd)⟩⟩
        rwa [upd_ne (fun w => na (.inr w))] at eb
      refine htg (fun b => A b ∨ b = D) x (wipe σ vs) H3 dx ev2 _ fun σ2 e3 w3 => ⟨?_, ?_⟩
      · rw [w3 vs hj, wipe_wipe vs fun v hv => hv]
      · show wi1 σ2 H3 _
        have g2 : L.G 0 H2 := Rl.gR (b := 0) hg r2
        have r3 : L.R 0 H2 H3 := L.same g2 sm
        have g3 : L.G 0 H3 := Rl.gR (b := 0) g2 r3
        have inn3 : Inn (fun b => A b ∨ b = D) H3 := fun b z y => innA' b z (L.free r3 y)
        refine hw1 (fun b => A b ∨ b = D) σ2 H3 inn3 e3 g3 _ fun J1 H4 its1 r4 hits1 jk1 => ?_
        subst hits1
        have r24 : L.R 0 H2 H4 := L.tr (a := 0) (b := 0) r3 r4
        have eD4 : H4 D = some (.lst acc) := L.keep r24 eD fxLst
        have e4 : EnvOk L (fun b => A b ∨ b = D) σ2 H4 Γ' := e3.r r4
        refine ⟨fun j k H5 => k = (inn i).length - j ∧ j ≤ (inn i).length ∧ L.R 0 H H5 ∧ Kp A H1 H5 ∧ Kp (fun b => A b ∨ b = D) H4 H5 ∧ ∃ acc, H5 D = some (.lst acc) ∧ DvAll L.K (fun b => A b ∨ b = D) H5 acc (flatR inn res i ++ rowR res i j), ⟨(inn i).length, ?_⟩, ?_⟩
        · exact ⟨by omega, Nat.zero_le _, L.tr (a := 0) (b := 0) r2 r24, fun b o na e k => L.keep r24 (k2 b o na e k) k, fun b o _ e _ => e, acc, eD4, by
            have e : rowR res i 0 = [] := rfl
            rw [e, List.append_nil]
            exact dv.r r24⟩
        · rintro j k H5 ⟨rfl, hle5, r5, k5, k45, acc5, eD5, dv5⟩
          have inn5 : ∀ b, (A b ∨ b = D) → H5 b ≠ none := fun b z => z.elim (fun z => hi.r r5 b z) fun e => by rw [e, eD5]; simp
          have g5 : L.G 0 H5 := Rl.gR (b := 0) hg r5
          by_cases hlt5 : j < (inn i).length
          · refine .inr ⟨jk1.go j H5 k45 hlt5, fun H6 => j + 1 ≤ (inn i).length ∧ L.R 0 H H6 ∧ Kp A H1 H6 ∧ Kp (fun b => A b ∨ b = D) H4 H6 ∧ ∃ acc, H6 D = some (.lst acc) ∧ DvAll L.K (fun b => A b ∨ b = D) H6 acc (flatR inn res i ++ rowR res i (j + 1)),
              fun H6 h6 => ⟨(inn i).length - (j + 1), by omega, rfl, h6⟩, fun x1 H6 y1 => ?_⟩
            obtain ⟨d1, hd1, sm1, hdv1⟩ := jk1.yld j H5 x1 H6 k45 inn5 y1 hlt5
            obtain ⟨Γ'', htg1, hmk, hev⟩ := hin j d1 hd1
            have dx1 : Dv L.K (fun b => A b ∨ b = D) H6 x1 d1 := hdv1 _ inn5 fun b o na e _ => na
            have r6 : L.R 0 H5 H6 := L.same g5 sm1
            have e6 : EnvOk L (fun b => A b ∨ b = D) (wipe σ2 vs1) H6 (wipeD Γ' vs1) := ((e4.kp k45).r r6).wipe vs1
            have inn6 : Inn (fun b => A b ∨ b = D) H6 := fun b z y => inn5 b z (L.free r6 y)
            refine htg1 (fun b => A b ∨ b = D) x1 (wipe σ2 vs1) H6 dx1 e6 _ fun σ3 e7 w7 => ⟨?_, ?_⟩
            · rw [w7 vs1 hj1, wipe_wipe vs1 fun v hv => hv]
            · show te σ3 H6 _
              refine hev (fun b => A b ∨ b = D) σ3 H6 inn6 e7 (Rl.gR (b := 0) g5 r6) _ fun yv dy H7 r7 hy ed => ?_
              subst ed
              have r57 : L.R 0 H5 H7 := L.tr (a := 0) (b := 0) r6 r7
              have eD7 : H7 D = some (.lst acc5) := L.keep r57 eD5 fxLst
              have hlen5 : acc5.length ≤ 2000000 := by
                rw [dv5.length, List.length_append]
                have h1 := lenF i hle
                have h2 := hl2 i
                unfold rowR
                rw [List.length_map, List.length_range]
                have h3 : i * 1000 ≤ 1000 * 1000 := Nat.mul_le_mul_right _ (by omega)
                omega
              refine ⟨acc5, eD7, Nat.lt_of_le_of_lt hlen5 (by decide), hlt5, L.fresh (L.tr (a := 0) (b := 0) r5 r57) hD0 (.inr ⟨_, eD7⟩), ?_, ?_, acc5 ++ [yv], upd_same, ?_⟩
              · intro b o na e k
                rw [upd_ne (ne_of_none e hD)]
                exact L.keep r57 (k5 b o na e k) k
              · intro b o na e k
                rw [upd_ne (fun z => na (.inr z))]
                exact L.keep r57 (k45 b o na e k) k
              · rw [rowR_succ, ← List.append_assoc]
                exact ((dv5.r r57).app (.cons (hy.ne hmk) .nil)).off
          · have e : j = (inn i).length := by omega
            subst e
            refine .inl ⟨jk1.stop H5 k45, ?_⟩
            show i + 1 ≤ its.length ∧ _
            exact ⟨hlt, r5, k5, acc5, eD5, by rw [flatR_succ]; exact dv5⟩
    · have e : i = its.length := by omega
      subst e
      refine .inl ⟨jk.stop H2 k2, ?_⟩
      have nD : ¬ A D := hi.no hD0
      exact q (.ref D) _ H2 r2 (.inr (.lst nD eD (dv.map fun b o na e _ => ⟨fun z => na (.inl z), e⟩))) rfl
end
end V1
set_option Elab.async false
set_option linter.all false
set_option maxRecDepth 100000
set_option maxHeartbeats 4000000
/-! A walk over range(a, b). -/
namespace V1
open PySem PySem.Spec PyProof.Rows L2
section
variable {L : Rl} {Γ : List (Option PyData)} {t : TA}
theorem wk_rng2 {i0 j0 : Int} (h : EaD L t Γ [.int i0, .int j0]) (hb : -(2 ^ 62) ≤ i0 ∧ i0 < 2 ^ 62 ∧ -(2 ^ 62) ≤ j0 ∧ j0 < 2 ^ 62) : WkD L (iRng2 t) Γ (rngD i0 (j0 - i0).toNat) := fun A σ H hi he hg R q => h A σ H hi he hg _ fun vs ds' H1 r1 hl hv p => by
  have p' : ds' = [.int i0, .int j0] := p
  subst p'
  obtain ⟨v, w, rfl, hx, hy⟩ := two_of hl hv
  obtain rfl := hx.int
  obtain rfl := hy.int
  refine ⟨i0, j0, rfl, hb, q _ H1 _ r1 rfl ⟨fun i H' k hi => ?_, fun i H' x H'' k hA y hi => ?_, fun H' k => ?_⟩⟩
  · have hi' : i < (j0 - i0).toNat := by simpa [rngD] using hi
    exact hi'
  · obtain ⟨rfl, rfl⟩ := y
    have hi' : i < (j0 - i0).toNat := by simpa [rngD] using hi
    refine ⟨.int (i0 + (i : Int)), ?_, Same.refl _, fun A' _ _ => .int _⟩
    unfold rngD
    rw [List.getElem?_map, List.getElem?_range hi']
    rfl
  · show (j0 - i0).toNat ≤ (rngD i0 (j0 - i0).toNat).length
    simp [rngD]
end
end V1
set_option Elab.async false
set_option linter.all false
set_option maxRecDepth 100000
set_option maxHeartbeats 4000000
/-! Comprehensions over longer walks. -/
namespace V1
open PySem PySem.Spec PyProof.Rows L2
section
variable {L : Rl} {A : Addr → Prop} {H H' H1 : Hp} {v : V} {d : PyData} {σ : L2.St} {Γ : List (Option PyData)} {n a b c : Nat} {te ta tb tl : TE} {t : TA} {tt tu : TT} {P P1 P2 : PyData → Prop}
theorem eg_lcGFW {wi : TI} {g : TG} {js vs : List Nat} {PI1 : List PyData → Prop} {Pt : List PyData → Nat → PyData → Prop} (hw : WkG L a wi Γ PI1) (hj : ∀ j ∈ js, j ∈ vs) (hlen : ∀ items, PI1 items → items.length ≤ b ∧ b ≤ 100000)
    (hb : ∀ items, PI1 items → ∀ (i : Nat) d, items[i]? = some d → ∃ Γ', TgG L g js d (wipeD Γ vs) Γ' ∧ EvG L c te Γ' (fun r => r ≠ mark ∧ Pt items i r)) :
    EvF L (a + b * c) (tLc wi g tYes te vs) Γ (fun r => ∃ items rs, PI1 items ∧ r = .list rs ∧ rs.length = items.length ∧ ∀ (i : Nat) d, rs[i]? = some d → Pt items i d) := fun A σ H hi he hg Q q => hw A σ H hi he (L.gle (Nat.le_add_right _ _) hg) _ fun J H1 items r1 hp jk D hD => by
  have hD0 : H D = none := L.free r1 hD
  obtain ⟨hl, hl2⟩ := hlen items hp
  have g1 : L.G (b * c) H1 := Rl.gR hg r1
  -- the walk's word
  refine ⟨fun i m H2 => m = items.length - i ∧ i ≤ items.length ∧ L.R (a + i * c) H H2 ∧ Kp A H1 H2 ∧ ∃ acc rs, H2 D = some (.lst acc) ∧ DvAll L.K (fun b => A b ∨ b = D) H2 acc rs ∧ rs.length = i ∧ ∀ (j : Nat) d, rs[j]? = some d → Pt items j d, ⟨items.length, ?_⟩, ?_⟩
  · refine ⟨by omega, Nat.zero_le _, ?_, fun b o _ e k => by rw [upd_ne (ne_of_none e hD)]; exact e, [], [], upd_same, .nil, rfl, fun j d e => by simp at e⟩
    have e0 : a + 0 * c = a := by rw [Nat.zero_mul, Nat.add_zero]
    rw [e0]
    exact L.fresh r1 hD0 (.inl hD)
  · rintro i m H2 ⟨rfl, hle, r2, k2, acc, rs, eD, dv, hrl, hpt⟩
    have naD : ∀ b, A b → H2 b ≠ none := fun b z => hi.r r2 b z
    by_cases hlt : i < items.length
    · refine .inr ⟨jk.go i H2 k2 hlt, fun H3 => i + 1 ≤ items.length ∧ L.R (a + (i + 1) * c) H H3 ∧ Kp A H1 H3 ∧ ∃ acc rs, H3 D = some (.lst acc) ∧ DvAll L.K (fun b => A b ∨ b = D) H3 acc rs ∧ rs.length = i + 1 ∧ ∀ (j : Nat) d, rs[j]? = some d → Pt items j d,
        fun H3 h3 => ⟨items.length - (i + 1), by omega, rfl, h3⟩, fun x H3 y => ?_⟩
      obtain ⟨d, hd, sm, hdv⟩ := jk.yld i H2 x H3 k2 naD y hlt
      obtain ⟨Γ', htg, hev⟩ := hb items hp i d hd
      have innA' : ∀ b, (A b ∨ b = D) → H2 b ≠ none := fun b z => z.elim (naD b) fun e => by rw [e, eD]; simp
      have dx : Dv L.K (fun b => A b ∨ b = D) H3 x d := hdv _ innA' fun b o na e _ z => z.elim na (ne_of_none e hD)
      -- the names, away from the new list
      have ev2 : EnvOk L (fun b => A b ∨ b = D) (wipe σ vs) H3 (wipeD Γ vs) := by
        have h0 : EnvOk L (fun b => A b ∨ b = D) (wipe σ vs) (upd H1 D (.lst [])) (wipeD Γ vs) := ((he.r r1).wipe vs).avoid hD
        refine ⟨h0.1, fun j d' e => ?_⟩
        obtain ⟨v, e1, e2⟩ := h0.2 j d' e
        refine ⟨v, e1, e2.imp (fun z => z) fun z => z.map fun b o na eb kd => ⟨na, sm _ _ (k2 b o (fun w => na (.inl w)) ?_ kd)⟩⟩
        rwa [upd_ne (fun w => na (.inr w))] at eb
      refine htg (fun b => A b ∨ b = D) x (wipe σ vs) H3 dx ev2 _ fun σ2 e3 w3 => ⟨?_, ?_⟩
      · rw [w3 vs hj, wipe_wipe vs fun v hv => hv]
      · show te σ2 H3 _
        have g0 : L.G (c + 0) H2 := by
          refine Rl.gR (a := a + i * c) ?_ r2
          refine L.gle ?_ hg
          have h1 : (i + 1) * c ≤ b * c := Nat.mul_le_mul_right _ (by omega)
          have h2 : (i + 1) * c = i * c + c := Nat.succ_mul _ _
          omega
        have r3 : L.R 0 H2 H3 := L.same (L.g0 g0) sm
        have g3 : L.G c H3 := Rl.gR (a := 0) (by rw [Nat.zero_add]; exact g0) r3
        refine hev (fun b => A b ∨ b = D) σ2 H3 (fun b z y => innA' b z (L.free r3 y)) e3 g3 _ fun y dy H4 r4 hy pw => ?_
        obtain ⟨hmk, hpt4⟩ := pw
        have eD4 : H4 D = some (.lst acc) := L.keep r4 (sm _ _ eD) fxLst
        refine ⟨acc, eD4, Nat.lt_of_le_of_lt (show acc.length ≤ 100000 by rw [dv.length, hrl]; omega) (by decide), hlt, ?_, ?_, acc ++ [y], rs ++ [dy], upd_same, ?_, by rw [List.length_append, hrl]; rfl, fun j d' e => ?_⟩
        · have hh : L.R (a + i * c + 0 + c) H H4 := L.tr (L.tr r2 r3) r4
          have e5 : a + (i + 1) * c = a + i * c + 0 + c := by rw [Nat.succ_mul]; omega
          rw [e5]
          exact L.fresh hh hD0 (.inr ⟨_, eD4⟩)
        · intro b o na e k
          have ne : b ≠ D := ne_of_none e hD
          rw [upd_ne ne]
          exact L.keep r4 (sm _ _ (k2 b o na e k)) k
        · have dv4 : DvAll L.K (fun b => A b ∨ b = D) H4 acc rs := (dv.map (fun b o na e k => ⟨na, sm _ _ e⟩) : DvAll L.K (fun b => A b ∨ b = D) H3 acc rs).r r4
          exact (dv4.app (.cons (hy.ne hmk) .nil)).off
        · by_cases hj2 : j < rs.length
          · rw [List.getElem?_append_left hj2] at e
            exact hpt j d' e
          · rw [List.getElem?_append_right (by omega)] at e
            have hj3 : j - rs.length = 0 := by
              have := (List.getElem?_eq_some_iff.mp e).1
              simp at this
              omega
            rw [hj3] at e
            simp at e
            subst e
            have : j = i := by omega
            subst this
            exact hpt4
    · have e : i = items.length := by omega
      subst e
      refine .inl ⟨jk.stop H2 k2, ?_⟩
      have nD : ¬ A D := hi.no hD0
      refine q D (.list rs) H2 (L.rle ?_ r2) hD0 (.inr (.lst nD eD (dv.map fun b o na e _ => ⟨fun z => na (.inl z), e⟩))) ⟨items, rs, hp, rfl, hrl, hpt⟩
      have := Nat.mul_le_mul_right c hl
      omega
theorem eg_lcGW {wi : TI} {g : TG} {js vs : List Nat} {PI1 : List PyData → Prop} {Pt : List PyData → Nat → PyData → Prop} (hw : WkG L a wi Γ PI1) (hj : ∀ j ∈ js, j ∈ vs) (hlen : ∀ items, PI1 items → items.length ≤ b ∧ b ≤ 100000)
    (hb : ∀ items, PI1 items → ∀ (i : Nat) d, items[i]? = some d → ∃ Γ', TgG L g js d (wipeD Γ vs) Γ' ∧ EvG L c te Γ' (fun r => r ≠ mark ∧ Pt items i r)) :
    EvG L (a + b * c) (tLc wi g tYes te vs) Γ (fun r => ∃ items rs, PI1 items ∧ r = .list rs ∧ rs.length = items.length ∧ ∀ (i : Nat) d, rs[i]? = some d → Pt items i d) := (eg_lcGFW hw hj hlen hb).eg
/-- each item comes to one thing -/
theorem eg_lcFW {wi : TI} {g : TG} {js vs : List Nat} {items rs : List PyData} (hw : WkD L wi Γ items) (hj : ∀ j ∈ js, j ∈ vs) (hlen : items.length ≤ 100000) (hr : rs.length = items.length)
    (hb : ∀ (i : Nat) d r, items[i]? = some d → rs[i]? = some r → r ≠ mark ∧ ∃ Γ', TgG L g js d (wipeD Γ vs) Γ' ∧ EvD L te Γ' r) : EvF L 0 (tLc wi g tYes te vs) Γ (fun x => x = .list rs) := by
  have h := eg_lcGFW (a := 0) (b := items.length) (c := 0) (te := te) (Pt := fun its i r => rs[i]? = some r) hw hj (fun its e => by rw [e]; exact ⟨Nat.le_refl _, hlen⟩) (fun its e i d hd => by
    subst e
    have hi : i < rs.length := by rw [hr]; exact (List.getElem?_eq_some_iff.mp hd).1
    obtain ⟨nm, Γ', h1, h2⟩ := hb i d rs[i] hd (List.getElem?_eq_getElem hi)
    refine ⟨Γ', h1, EvG.mono h2 (Nat.le_refl _) fun r e => ?_⟩
    rw [e]
    exact ⟨nm, List.getElem?_eq_getElem hi⟩)
  intro A σ H hi he hg Q q
  refine h A σ H hi he (L.gle (Nat.le_of_eq (by simp)) hg) Q fun p r H' rr hp hv ⟨its, rs', e1, e2, e3, e4⟩ => q p r H' (L.rle (Nat.le_of_eq (by simp)) rr) hp hv ?_
  rw [e2]
  congr 1
  subst e1
  refine List.ext_getElem? fun i => ?_
  by_cases hi : i < rs'.length
  · have z := e4 i rs'[i] (List.getElem?_eq_getElem hi)
    rw [z, List.getElem?_eq_getElem hi]
  · rw [List.getElem?_eq_none (by omega), List.getElem?_eq_none (by omega)]
theorem eg_lcW {wi : TI} {g : TG} {js vs : List Nat} {items rs : List PyData} (hw : WkD L wi Γ items) (hj : ∀ j ∈ js, j ∈ vs) (hlen : items.length ≤ 100000) (hr : rs.length = items.length)
    (hb : ∀ (i : Nat) d r, items[i]? = some d → rs[i]? = some r → r ≠ mark ∧ ∃ Γ', TgG L g js d (wipeD Γ vs) Γ' ∧ EvD L te Γ' r) : EvD L (tLc wi g tYes te vs) Γ (.list rs) := (eg_lcFW hw hj hlen hr hb).eg
end
end V1
set_option Elab.async false
set_option linter.all false
set_option maxRecDepth 100000
set_option maxHeartbeats 4000000
/-! A comprehension with a test, told for each item; targets of three. -/
namespace V1
open PySem PySem.Spec PyProof.Rows L2
def fil (keep : Nat → Bool) (res : Nat → PyData) (n : Nat) : List PyData := ((List.range n).filter keep).map res
theorem fil_succ (keep : Nat → Bool) (res : Nat → PyData) (n : Nat) : fil keep res (n + 1) = fil keep res n ++ (if keep n then [res n] else []) := by
  unfold fil
  rw [List.range_succ, List.filter_append, List.map_append]
  congr 1
  cases h : keep n <;> simp [List.filter, h]
theorem fil_len (keep : Nat → Bool) (res : Nat → PyData) (n : Nat) : (fil keep res n).length ≤ n := by
  unfold fil
  rw [List.length_map]
  exact Nat.le_trans (List.length_filter_le _ _) (by rw [List.length_range]; exact Nat.le_refl _)
section
variable {L : Rl} {Γ : List (Option PyData)} {te : TE} {tt : TT}
theorem eg_lcTD {wi : TI} {g : TG} {js vs : List Nat} {items : List PyData} {keep : Nat → Bool} {res : Nat → PyData} (hw : WkD L wi Γ items) (hj : ∀ j ∈ js, j ∈ vs) (hlen : items.length ≤ 100000)
    (hb : ∀ (i : Nat) d, items[i]? = some d → ∃ Γ', TgG L g js d (wipeD Γ vs) Γ' ∧ EtD L tt Γ' (keep i) ∧ (keep i = true → EvD L te Γ' (res i) ∧ res i ≠ mark)) :
    EvD L (tLc wi g tt te vs) Γ (.list (fil keep res items.length)) := fun A σ H hi he hg Q q => hw A σ H hi he hg _ fun J H1 its r1 hp jk D hD => by
  subst hp
  have hD0 : H D = none := L.free r1 hD
  have g1 : L.G 0 H1 := Rl.gR (b := 0) hg r1
  refine ⟨fun i m H2 => m = its.length - i ∧ i ≤ its.length ∧ L.R 0 H H2 ∧ Kp A H1 H2 ∧ ∃ acc, H2 D = some (.lst acc) ∧ DvAll L.K (fun b => A b ∨ b = D) H2 acc (fil keep res i), ⟨its.length, ?_⟩, ?_⟩
  · exact ⟨by omega, Nat.zero_le _, L.fresh r1 hD0 (.inl hD), fun b o _ e k => by rw [upd_ne (ne_of_none e hD)]; exact e, [], upd_same, .nil⟩
  · rintro i m H2 ⟨rfl, hle, r2, k2, acc, eD, dv⟩
    have naD : ∀ b, A b → H2 b ≠ none := fun b z => hi.r r2 b z
    by_cases hlt : i < its.length
    · refine .inr ⟨jk.go i H2 k2 hlt, fun H3 => i + 1 ≤ its.length ∧ L.R 0 H H3 ∧ Kp A H1 H3 ∧ ∃ acc, H3 D = some (.lst acc) ∧ DvAll L.K (fun b => A b ∨ b = D) H3 acc (fil keep res (i + 1)),
        fun H3 h3 => ⟨its.length - (i + 1), by omega, rfl, h3⟩, fun x H3 y => ?_⟩
      obtain ⟨d, hd, sm, hdv⟩ := jk.yld i H2 x H3 k2 naD y hlt
      obtain ⟨Γ', htg, htt, hev⟩ := hb i d hd
      have innA' : ∀ b, (A b ∨ b = D) → H2 b ≠ none := fun b z => z.elim (naD b) fun e => by rw [e, eD]; simp
      have dx : Dv L.K (fun b => A b ∨ b = D) H3 x d := hdv _ innA' fun b o na e _ z => z.elim na (ne_of_none e hD)
      have ev2 : EnvOk L (fun b => A b ∨ b = D) (wipe σ vs) H3 (wipeD Γ vs) := by
        have h0 : EnvOk L (fun b => A b ∨ b = D) (wipe σ vs) (upd H1 D (.lst [])) (wipeD Γ vs) := ((he.r r1).wipe vs).avoid hD
        refine ⟨h0.1, fun j d' e => ?_⟩
        obtain ⟨v, e1, e2⟩ := h0.2 j d' e
        refine ⟨v, e1, e2.imp (fun z => z) fun z => z.map fun b o na eb kd => ⟨na, sm _ _ (k2 b o (fun w => na (.inl w)) ?_ kd)⟩⟩
        rwa [upd_ne (fun w => na (.inr w))] at eb
      refine htg (fun b => A b ∨ b = D) x (wipe σ vs) H3 dx ev2 _ fun σ2 e3 w3 => ⟨?_, ?_⟩
      · rw [w3 vs hj, wipe_wipe vs fun v hv => hv]
      · have g2 : L.G 0 H2 := Rl.gR (b := 0) hg r2
        have r3 : L.R 0 H2 H3 := L.same g2 sm
        have g3 : L.G 0 H3 := Rl.gR (b := 0) g2 r3
        have inn3 : Inn (fun b => A b ∨ b = D) H3 := fun b z y => innA' b z (L.free r3 y)
        refine htt (fun b => A b ∨ b = D) σ2 H3 inn3 e3 g3 _ fun H4 r4 => ?_
        have r34 : L.R 0 H2 H4 := L.tr (a := 0) (b := 0) r3 r4
        have k4 : Kp A H1 H4 := fun b o na e k => L.keep r34 (k2 b o na e k) k
        have eD4 : H4 D = some (.lst acc) := L.keep r34 eD fxLst
        rw [fil_succ]
        have hal : acc.length ≤ 100000 := by
          rw [dv.length]
          have := fil_len keep res i
          omega
        cases hk : keep i with
        | false =>
          show i + 1 ≤ its.length ∧ _
          refine ⟨hlt, L.tr (a := 0) (b := 0) r2 r34, k4, acc, eD4, ?_⟩
          have e : (if false = true then [res i] else []) = ([] : List PyData) := rfl
          rw [e, List.append_nil]
          exact dv.r r34
        | true =>
          obtain ⟨hev1, hmk⟩ := hev hk
          show te σ2 H4 _
          refine hev1 (fun b => A b ∨ b = D) σ2 H4 (inn3.r r4) (e3.r r4) (Rl.gR (b := 0) g3 r4) _ fun y dy H5 r5 hy pw => ?_
          have pw' : dy = res i := pw
          subst pw'
          have eD5 : H5 D = some (.lst acc) := L.keep r5 eD4 fxLst
          have r25 : L.R 0 H2 H5 := L.tr (a := 0) (b := 0) r34 r5
          refine ⟨acc, eD5, Nat.lt_of_le_of_lt hal (by decide), hlt, L.fresh (L.tr (a := 0) (b := 0) r2 r25) hD0 (.inr ⟨_, eD5⟩), ?_, acc ++ [y], upd_same, ?_⟩
          · intro b o na e k
            have ne : b ≠ D := ne_of_none e hD
            rw [upd_ne ne]
            exact L.keep r25 (k2 b o na e k) k
          · exact ((dv.r r25).app (.cons (hy.ne hmk) .nil)).off
    · have e : i = its.length := by omega
      subst e
      refine .inl ⟨jk.stop H2 k2, ?_⟩
      have nD : ¬ A D := hi.no hD0
      exact q (.ref D) _ H2 r2 (.inr (.lst nD eD (dv.map fun b o na e _ => ⟨fun z => na (.inl z), e⟩))) rfl
theorem tg_three {i j k : Nat} {d1 d2 d3 : PyData} : TgG L (gTup L.K 3 (gCons (gName i) (gCons (gName j) (gCons (gName k) gNil)))) [i, j, k] (.tuple [d1, d2, d3]) Γ (((Γ.set i (some d1)).set j (some d2)).set k (some d3)) := fun A x σ H hx he Q q => by
  obtain ⟨p, xs, rfl, e, r⟩ := Dq.tuple (L := L) (.inr hx)
  cases r with
  | cons r1 r =>
    cases r with
    | cons r2 r =>
      cases r with
      | cons r3 r =>
        cases r
        refine ⟨p, _, rfl, e.sq, rfl, _, _, rfl, _, _, rfl, _, _, rfl, rfl, ?_⟩
        refine q _ (((he.set (.inr r1) i).set (.inr r2) j).set (.inr r3) k) fun vs hv => ?_
        rw [wipe_set (hv k (by simp)), wipe_set (hv j (by simp)), wipe_set (hv i (by simp))]
end
end V1
set_option Elab.async false
set_option linter.all false
set_option maxRecDepth 100000
set_option maxHeartbeats 4000000
/-! Lambdas, with default values at dV: made, and called. -/
namespace V1
open PySem PySem.Spec PySem.Calls PyProof.Rows L2
/-- a lambda's function data, its default values at dV -/
abbrev lamF (q : Str) (pa : Arguments) (b : Expr) (sc : Scope) (cl : List (Str × Addr)) (dV pm cd ct : Value) : FuncData := { PySem.W.kla_fn "<lambda>" q pa b sc cl pm cd ct with defaults := dV }
abbrev lamO (q : Str) (pa : Arguments) (b : Expr) (sc : Scope) (cl : List (Str × Addr)) (dV pm : Value) (c' : Addr) (ct : Value) : Obj := { cls := .type "function", data := .func (lamF q pa b sc cl dV pm (.ref c') ct) }
/-- the record of a code object -/
def RecAt (h : Heap) (c : Addr) (q : Str) : Prop := ∃ (oc : Obj) (vs : Array Value) (t : Tok), h.get? c = some oc ∧ oc.data = .fields vs ∧ vs[1]? = some (.str q t)
/-- what is left behind a lambda's code: found in the table, or the table one longer -/
inductive Left (P : Addr) (ps : Array Value) (q : Str) (h h' : Heap) (c' : Addr) : Prop
  | old : (∀ b o, h.get? b = some o → h'.get? b = some o) → (∃ pos, codeAmong pos ps.toList = some (.ref c')) → h.objs.size ≤ h'.objs.size → Left P ps q h h' c'
  | new (pos : Pos) : (∀ b o, b ≠ P → h.get? b = some o → h'.get? b = some o) → h.objs.size ≤ c' → c' < h'.objs.size → RecAt h' c' q → h'.get? P = some { cls := .none, data := .fields (ps ++ #[rawInt pos.line, rawInt pos.col, .ref c']) } → Left P ps q h h' c'
/-- the end of a lambda's making, its closure's tuple made -/
def tailC (q : Str) (pa : Arguments) (b : Expr) (sc : Scope) (env : Env) (cl : List (Str × Addr)) (dV : Value) (pos : Pos) (fl : Nat) (ct : Value) : Sem Value := do
  let code ← functionCode env pos fl "<lambda>" q pa sc (.expr b)
  let bl ← builtinsFor mainGlobals env.builtins
  let pm ← nsGet mainGlobals "__name__"
  let doc ← (pure .none : Sem Value)
  newObj (.type "function") (.func { name := "<lambda>", qualname := q, params := pa, body := .expr b, scope := sc, globals := mainGlobals, closure := cl, closureTuple := ct, code := code, builtins := bl, defaults := dV, kwdefaults := .none, annotations := none, pyModule := pm.getD .none, doc := doc })
section
variable {M : Model} {A : Around} {E : Value → Shared → Prop} {s : Shared} {q : Str} {pa : Arguments} {b : Expr} {sc : Scope} {env : Env} {c P : Addr} {ps : Array Value} {pos : Pos} {fl : Nat} {mg : Str → Option Value} {cl : List (Str × Addr)} {dV ct : Value} {Q : Value → Shared → Prop}
theorem tail_c (hg : s.heap.Ns mainGlobals mg) (ec : env.code = .ref c) (C : PySem.W.CodeHd s.heap c P) (tP : s.heap.get? P = some { cls := .none, data := .fields ps }) (ht : TriplesOk ps.toList) (nP : mainGlobals ≠ P) (hb : s.heap.BuiltinsAt mg P)
    (ha : ∀ (p' : Pos) (cv : Value), codeAmong p' ps.toList = some cv → ∃ c', cv = .ref c')
    (h : ∀ (c' : Addr) (h' : Heap) (tk : Tok), Left P ps q s.heap h' c' → Q (.ref h'.objs.size) { s with heap := h'.push (lamO q pa b sc cl dV ((mg "__name__").getD .none) c' ct), toks := tk }) :
    wpAny M A (tailC q pa b sc env cl dV pos fl ct) Q E s := by
  obtain ⟨bm, ob, b1, b2, b3, b4, b5, b6, b7, b8⟩ := hb
  unfold tailC
  cases hc : codeAmong pos ps.toList with
  | some cv =>
    obtain ⟨c', rfl⟩ := ha pos cv hc
    refine wpAny_bind (wpAny_functionCode_hit ec (C.code tP ht) hc ?_)
    refine wpAny_bind (wpAny_builtinsFor hg b1 b2 b5 b6 b7 b8 ?_)
    refine wpAny_bind (wpAny_nsGet hg (wpAny_bind (wpAny_pure ?_)))
    exact wpAny_newObj_type (h c' s.heap s.toks (.old (fun _ _ e => e) ⟨pos, hc⟩ (Nat.le_refl _))) (by size_fits)
  | none =>
    refine wpAny_bind (wpAny_functionCodeX ec (C.code tP ht) (C.tab tP) hc fun c' h' tk hx g1 g2 _ hr tb _ => ?_)
    have hg2 := hg.extBut hx nP
    refine wpAny_bind (wpAny_builtinsFor hg2 b1 b2 (hx _ _ b4 b5) b6 b7 b8 ?_)
    refine wpAny_bind (wpAny_nsGet hg2 (wpAny_bind (wpAny_pure ?_)))
    obtain ⟨c2, oc, vs, t, z, z1, z2, z3⟩ := hr
    cases z
    exact wpAny_newObj_type (h c' h' tk (.new pos hx g1 g2 ⟨oc, vs, t, z1, z2, z3⟩ tb.2)) (by size_fits)
theorem lam_tail (hcl : closureFor sc env = pure cl) (ge : env.globals = mainGlobals) (hg : s.heap.Ns mainGlobals mg) (ec : env.code = .ref c) (C : PySem.W.CodeHd s.heap c P) (tP : s.heap.get? P = some { cls := .none, data := .fields ps }) (ht : TriplesOk ps.toList) (nP : mainGlobals ≠ P) (hb : s.heap.BuiltinsAt mg P)
    (ha : ∀ (p' : Pos) (cv : Value), codeAmong p' ps.toList = some cv → ∃ c', cv = .ref c')
    (h : ∀ (c' : Addr) (ct : Value) (h' : Heap) (tk : Tok), Left P ps q s.heap h' c' → Q (.ref h'.objs.size) { s with heap := h'.push (lamO q pa b sc cl dV ((mg "__name__").getD .none) c' ct), toks := tk }) :
    wpAny M A (makeTail "<lambda>" q pa (.expr b) sc env dV .none none pos fl) Q E s := by
  unfold makeTail
  rw [hcl, ge]
  refine wpAny_bind (wpAny_pure ?_)
  cases cl with
  | nil =>
    simp only [List.isEmpty_nil, if_true]
    refine wpAny_bind (wpAny_pure ?_)
    exact tail_c hg ec C tP ht nP hb ha fun c' h' tk l => h c' _ h' tk l
  | cons y r =>
    simp only [List.isEmpty_cons, Bool.false_eq_true, if_false]
    refine wpAny_bind (wpAny_newTextTuple ?_)
    have kp : ∀ (o : Obj) (b : Addr) (u : Obj), s.heap.get? b = some u → (s.heap.push o).get? b = some u := fun o b u e => Heap.get?_push_of_some _ e
    refine tail_c (s := { s with heap := s.heap.push _ }) (hg.push _) ec (C.keeps (kp _)) (kp _ _ _ tP) ht nP (hb.keeps (kp _)) ha fun c' h' tk l => h c' _ h' tk ?_
    cases l with
    | old k1 k2 k3 => exact .old (fun b o e => k1 b o (kp _ b o e)) k2 (Nat.le_trans (by rw [Heap.size_push]; omega) k3)
    | new p2 k1 k2 k3 k4 k5 => exact .new p2 (fun b o n e => k1 b o n (kp _ b o e)) (Nat.le_trans (by rw [Heap.size_push]; omega) k2) k3 k4 k5
end
end V1
set_option Elab.async false
set_option linter.all false
set_option maxRecDepth 100000
set_option maxHeartbeats 4000000
namespace V1
open PySem PySem.Spec PySem.Calls PyProof.Rows L2 LamX
section
variable {X : Cx} {pins : List (Addr × Obj)} {σ : L2.St} {H : Hp} {s : Shared}
/-- a lambda is made: what holds of the function object at f -/
structure Made (X : Cx) (T : List (Addr × Str)) (H H1 : Hp) (q : Str) (f c' : Addr) : Prop where
  ext : ExtN H H1
  nn : ∀ b, H b ≠ none → H1 b ≠ none
  tabs : Tabs T H1
  free : H1 f = none
  nofr : f ∉ frs X.stack
  code : H1 c' = some (CodeO c' q)
theorem lam_mk {T : List (Addr × Str)} {c P : Addr} {pa : Arguments} {b : Expr} {sc : Scope} {pos : Pos} {fl : Nat} {dV : Value} {E : Value → Shared → Prop} {Q : Value → Shared → Prop} (I : Inv X pins σ H s) (TB : TabB X.base X.mg c P) (ec : X.env.code = .ref c)
    (hm : (P, X.env.qual ++ "<lambda>") ∈ T) (hu : ∀ p ∈ T, p.1 = P → p.2 = X.env.qual ++ "<lambda>") (hT : Tabs T H) (hfree : ∀ y ∈ sc.names, y.2 = .free → ∃ c, X.env.cells.lookup y.1 = some c)
    (h : ∀ (f c' : Addr) (pm ct : Value) (H1 : Hp) (s' : Shared), Inv X pins σ H1 s' → Made X T H H1 (X.env.qual ++ "<lambda>") f c' →
      s'.heap.get? f = some (lamO (X.env.qual ++ "<lambda>") pa b sc (cloFrom X.env.cells sc.names []) dV pm c' ct) → Q (.ref f) s') :
    wpAny (model X.prog X.w) X.A (makeTail "<lambda>" (X.env.qual ++ "<lambda>") pa (.expr b) sc X.env dV .none none pos fl) Q E s := by
  obtain ⟨ps, hP, ht, ha⟩ := hT _ hm
  have tP : s.heap.get? P = some { cls := .none, data := .fields ps } := I.hok P _ hP
  have nof : ∀ f, s.heap.objs.size ≤ f → f ∉ frs X.stack := fun f hf z => by
    rcases List.mem_cons.mp (I.stkSub _ z) with e | e
    · have l2 := I.lt
      rw [← e] at l2
      exact absurd hf (Nat.not_le.mpr l2)
    · exact I.nofs hf e
  refine lam_tail (mg := X.mg) (c := c) (P := P) (ps := ps) (closure_ok hfree) I.ok.glob (I.mod.glob.keeps I.bk) ec (TB.code.keeps I.bk) tP ht TB.gP (TB.bm.keeps I.bk) (fun p' cv e => ?_) fun c' ct h' tk l => ?_
  · obtain ⟨c', e1, _⟩ := ha p' cv e
    exact ⟨c', e1⟩
  cases l with
  | old k1 k2 k3 =>
    obtain ⟨p2, e2⟩ := k2
    obtain ⟨c3, e3, e4⟩ := ha p2 _ e2
    cases e3
    have I1 := I.kept (t' := tk) (h' := h'.push (lamO (X.env.qual ++ "<lambda>") pa b sc (cloFrom X.env.cells sc.names []) dV ((X.mg "__name__").getD .none) c' ct)) fun b o e => Heap.get?_push_of_some _ (k1 b o e)
    exact h _ c' _ ct H _ I1 ⟨ExtN.refl H, fun b z => z, hT, I.hok.fresh k3, nof _ k3, e4⟩ (Heap.get?_push_size _ rfl)
  | new p2 k1 k2 k3 k4 k5 =>
    have hsz := Nat.le_trans k2 (Nat.le_of_lt k3)
    have nC : H c' = none := I.hok.fresh k2
    have nPc : P ≠ c' := ne_of_none hP nC
    obtain ⟨oc, vs, t, r1, r2, r3⟩ := k4
    have I1 := inv_table (t' := tk) (more := #[rawInt p2.line, rawInt p2.col, .ref c']) (h' := h'.push (lamO (X.env.qual ++ "<lambda>") pa b sc (cloFrom X.env.cells sc.names []) dV ((X.mg "__name__").getD .none) c' ct)) I hP
      (fun b o n e => Heap.get?_push_of_some _ (k1 b o n e)) (Heap.get?_push_of_some _ k5) k2 ⟨oc, vs, t, Heap.get?_push_of_some _ r1, r2, r3⟩
    generalize hH1 : upd (upd H P (.tbl (ps ++ #[rawInt p2.line, rawInt p2.col, .ref c']))) c' (CodeO c' (X.env.qual ++ "<lambda>")) = H1 at I1
    have at1 : ∀ b, b ≠ P → b ≠ c' → H1 b = H b := fun b n1 n2 => by rw [← hH1, upd_ne n2, upd_ne n1]
    have atP : H1 P = some (.tbl (ps ++ #[rawInt p2.line, rawInt p2.col, .ref c'])) := by rw [← hH1, upd_ne nPc, upd_same]
    have atC : H1 c' = some (CodeO c' (X.env.qual ++ "<lambda>")) := by rw [← hH1, upd_same]
    have hE : ExtN H H1 := fun b o e n => by
      rw [at1 b (fun z => n ps (by rw [z, hP] at e; exact (Option.some.inj e).symm)) (ne_of_none e nC)]
      exact e
    have hN : ∀ b, H b ≠ none → H1 b ≠ none := fun b z y => by
      by_cases n1 : b = P
      · rw [n1, atP] at y
        cases y
      · by_cases n2 : b = c'
        · rw [n2, atC] at y
          cases y
        · rw [at1 b n1 n2] at y
          exact z y
    have eL : (ps ++ #[rawInt p2.line, rawInt p2.col, .ref c']).toList = ps.toList ++ [rawInt p2.line, rawInt p2.col, .ref c'] := by simp
    refine h _ c' _ ct H1 _ I1 ⟨hE, hN, fun p hp => ?_, ?_, nof _ hsz, atC⟩ (Heap.get?_push_size _ rfl)
    · by_cases hb : p.1 = P
      · rw [hu p hp hb, hb]
        refine ⟨_, atP, by rw [eL]; exact PySem.TriplesOk_snoc _ _ _ _ ht, fun p' cv hcv => ?_⟩
        rw [eL] at hcv
        rcases among_app _ ht hcv with z | z
        · obtain ⟨c0, e1, e2⟩ := ha p' cv z
          exact ⟨c0, e1, hE _ _ e2 codeO_ne⟩
        · exact ⟨c', z, atC⟩
      · obtain ⟨ps', a1, a2, a3⟩ := hT p hp
        refine ⟨ps', by rw [at1 _ hb (ne_of_none a1 nC)]; exact a1, a2, fun p' cv hcv => ?_⟩
        obtain ⟨c0, e1, e2⟩ := a3 p' cv hcv
        exact ⟨c0, e1, hE _ _ e2 codeO_ne⟩
    · have n1 : h'.objs.size ≠ c' := Nat.ne_of_gt k3
      have n2 : h'.objs.size ≠ P := Nat.ne_of_gt (Nat.lt_of_lt_of_le (Heap.lt_size tP) hsz)
      rw [at1 _ n2 n1]
      exact I.hok.fresh hsz
end
end V1
set_option Elab.async false
set_option linter.all false
set_option maxRecDepth 100000
set_option maxHeartbeats 4000000
namespace V1
open PySem PySem.Spec PySem.Calls PyProof.Rows L2 LamX
/-- a lambda's names: captured ones, globals, its own parameters, which are no slots of the maker (N) -/
structure LamN (N : List Str) (sc scope : Scope) : Prop where
  kind : scope.kind = .function
  co : scope.isCoroutine = false
  gen : scope.isGenerator = false
  cell : ∀ y ∈ scope.names, y.2 ≠ .cell
  loc : ∀ y ∈ scope.names, y.2 = .local → y.1 ∉ N
  free : ∀ y ∈ scope.names, y.2 = .free → sc.names.lookup y.1 = some .cell ∨ sc.names.lookup y.1 = some .free
def lamNB (N : List Str) (sc scope : Scope) : Bool :=
  decide (scope.kind = .function) && (!scope.isCoroutine && (!scope.isGenerator && (scope.names.all (fun y => !decide (y.2 = .cell)) && (scope.names.all (fun y => !decide (y.2 = .local) || !decide (y.1 ∈ N)) && scope.names.all fun y => !decide (y.2 = .free) || (decide (sc.names.lookup y.1 = some .cell) || decide (sc.names.lookup y.1 = some .free))))))
theorem lamN_by {N : List Str} {sc scope : Scope} (h : lamNB N sc scope = true) : LamN N sc scope := by
  unfold lamNB at h
  simp only [Bool.and_eq_true, Bool.or_eq_true, Bool.not_eq_true', decide_eq_true_eq, decide_eq_false_iff_not, List.all_eq_true] at h
  obtain ⟨a1, a2, a3, a4, a5, a6⟩ := h
  exact ⟨a1, a2, a3, a4, fun y hy e => (a5 y hy).elim (fun z => absurd e z) id, fun y hy e => (a6 y hy).elim (fun z => absurd e z) id⟩
section
variable {X : Cx} {pins : List (Addr × Obj)} {σ : L2.St} {H HZ : Hp} {s s1 : Shared}
theorem LamN.has {scope : Scope} (L : LamN X.N X.env.scope scope) (ok : X.Ok) (y : Str × NameKind) (hy : y ∈ scope.names) (e : y.2 = .free) : ∃ c, X.env.cells.lookup y.1 = some c :=
  (L.free y hy e).elim (fun k => ok.has _ (.inl k)) fun k => ok.has _ (.inr k)
theorem lam_in {A : Around} {outer : List Env} {E : XK} {scope : Scope} {f c' : Addr} {h₁ : Heap} {tk : Nat} {mm : Str → Option Value} (I : Inv X pins σ H s) (L : LamN X.N X.env.scope scope) (e0 : Env0 X.prog X.w X.K X.mg X.base A outer s1 HZ) (hd : A.handled = none)
    (un : Un (frs X.stack) [] H HZ s.heap s1.heap) (hns : h₁.Ns s1.heap.objs.size mm) (kp : ∀ b o, s1.heap.get? b = some o → h₁.get? b = some o) :
    Inv (lamCx X A outer s1 HZ E scope f c') [] σ HZ { s1 with heap := h₁, toks := tk } := by
  have hfree := L.has I.ok
  have cm : ∀ {y c}, (cloFrom X.env.cells scope.names []).lookup y = some c → X.env.cells.lookup y = some c := by
    intro y c e
    rcases cloFrom_mem (PySem.mem_of_lookup e) with hm | ⟨g1, g2⟩
    · cases hm
    · obtain ⟨c1, hc⟩ := hfree _ g1 rfl
      have hc1 : X.env.cells.lookup y = some c1 := hc
      have ee : c = c1 := by
        rw [g2, hc1]
        rfl
      rw [ee]
      exact hc1
  have look : ∀ {y}, scope.names.lookup y = some .free → ∃ c, (cloFrom X.env.cells scope.names []).lookup y = some c := fun {y} hl =>
    mem_lookup (cloFrom_has (cells := X.env.cells) (acc := []) (show (y, NameKind.free) ∈ scope.names from PySem.mem_of_lookup hl))
  have cellK : ∀ {c : Addr} {v : Option Value}, H c = none → s.heap.IsCell c v → h₁.IsCell c v := by
    intro c v n ⟨o, ho, q⟩
    obtain ⟨sl, z⟩ := un.any ho n (by simp)
    exact ⟨_, kp _ _ z, q⟩
  have noE : ∀ b : Addr, b ∉ (lamCx X A outer s1 HZ E scope f c').ex := fun b z => absurd (show b ∈ ([] : List Addr) from z) (by simp)
  have ok : (lamCx X A outer s1 HZ E scope f c').Ok := {
    mod := e0.mod
    kind := L.kind
    glob := rfl
    blt := rfl
    above := Nat.le_refl _
    inj := fun y z c e1 e2 => I.ok.inj y z c (cm e1) (cm e2)
    has := fun y hy => by
      have hy2 : scope.names.lookup y = some .cell ∨ scope.names.lookup y = some .free := hy
      rcases hy2 with z | z
      · exact absurd rfl (L.cell _ (PySem.mem_of_lookup z))
      · exact look z
    cab := fun y c z _ => by
      have z2 : false = true := z
      cases z2
    hd := fun _ => hd
    frames := Around.frames_deeper e0.frames
    stk := .inr ⟨rfl, rfl⟩
    exf := fun b z => absurd z (noE b)
    bs := e0.bs
    bsz := e0.bsz
    noex := fun b _ _ => noE b
    exfs := fun b z => absurd z (noE b)
    funs := e0.funs
    frf := e0.frf }
  refine { ok := ok, os := rfl, bare := e0.bare, base := Un.kept kp, loc := ⟨mm, hns, fun i y v e1 e2 e3 => ?_⟩, cell := fun y c e => ?_, free := e0.hok.fresh (Nat.le_refl _), freeC := fun y c e => ?_, pin := fun q hq => absurd (show q ∈ ([] : List (Addr × Obj)) ++ [] from hq) (by simp), hok := e0.hok.kept kp, len := I.len }
  · have e4 : Vis scope y := e3
    have hyN : y ∈ X.N := List.mem_of_getElem? (show X.N[i]? = some y from e1)
    rcases e4 with k | k | k
    · exact absurd hyN (L.loc _ (PySem.mem_of_lookup k) rfl)
    · exact absurd rfl (L.cell _ (PySem.mem_of_lookup k))
    · obtain ⟨m, hn, hl⟩ := I.loc
      have fr := L.free _ (PySem.mem_of_lookup k) rfl
      obtain ⟨u, r, q⟩ := hl i y v e1 e2 (fr.elim (fun z => .inr (.inl z)) fun z => .inr (.inr z))
      obtain ⟨c2, h2⟩ := look k
      refine ⟨u, r, .inr ⟨.inr k, c2, h2, ?_⟩⟩
      have c1 := cm h2
      rcases q with ⟨k1, _⟩ | ⟨_, c3, e5, z⟩
      · have k2 : X.env.scope.names.lookup y = some .local := k1
        rcases fr with f1 | f1
        · rw [show X.env.scope.names.lookup y = _ from f1] at k2
          cases k2
        · rw [show X.env.scope.names.lookup y = _ from f1] at k2
          cases k2
      · rw [c1] at e5
        cases e5
        exact cellK (I.freeC y _ c1) z
  · obtain ⟨u, z⟩ := I.cell y c (cm e)
    exact ⟨u, cellK (I.freeC y c (cm e)) z⟩
  · obtain ⟨v, o, ho, q⟩ := I.cell y c (cm e)
    exact un.free c o ho (I.freeC y c (cm e)) (by simp)
end
end V1
set_option Elab.async false
set_option linter.all false
set_option maxRecDepth 100000
set_option maxHeartbeats 4000000
namespace V1
open PySem PySem.Spec PySem.Calls PyProof.Rows L2 LamX
/-- what a call without arguments binds, the tuples of H being there -/
def BindL (H : Hp) (fd : FuncData) : Prop := ∀ (P : Program) (w : World) (HZ : Hp) (h : Heap), (∀ b xs, H b = some (.tup xs) → HZ b = some (.tup xs)) → HOk P w HZ h → ∃ bs : List (Str × Value), (∀ M, PySem.W.Looks M h (bindArgs fd ⟨[], []⟩) bs) ∧ ∀ y ∈ bs, fd.scope.names.lookup y.1 = some .local
theorem bindL_pure {H : Hp} {fd : FuncData} (h : bindArgs fd ⟨[], []⟩ = pure []) : BindL H fd := fun _ _ _ _ _ _ => ⟨[], fun M => PySem.W.Looks.of_pure h, fun y hy => by cases hy⟩
section
variable {X : Cx} {pins : List (Addr × Obj)} {σ : L2.St} {H : Hp} {s : Shared}
/-- call(), in the def that got the lambda at f -/
theorem pe_actD {CXg : CXT} {Eg : XK} {Ng : List Str} {qg : Str} {sg : Scope} {g f c' : Addr} {cdg pm ct dV : Value} {pa : Arguments} {body : Expr} {scope : Scope} {k i : Nat} {a : Str} {pn : List (Addr × Obj)} {xe : Value → Shared → Prop} {W : WX} {tb : XK → TE} {p1 p2 : Pos}
    (I : Inv X pins σ H s) (L : LamN X.N X.env.scope scope) (hf : s.heap.get? f = some (lamO (X.env.qual ++ "<lambda>") pa body scope (cloFrom X.env.cells scope.names []) dV pm c' ct)) (hfn : H f = none) (hfr : f ∉ frs X.stack)
    (hb : BindL H (lamF (X.env.qual ++ "<lambda>") pa body scope (cloFrom X.env.cells scope.names []) dV pm (.ref c') ct))
    (tk : Takes ((cxOf CXg X.prog X.w X.K X.mg X.base Ng qg sg g cdg X.A X.stack s H Eg).tr pn xe) W) (hr : Room (k + 1) (X.A.deeper (envOfC qg sg s.heap.objs.size g cdg)))
    (hbody : ∀ (A : Around) (outer : List Env) (s2 : Shared) (H2 : Hp) (E : XK), A = X.A.deeper (envOfC qg sg s.heap.objs.size g cdg) → Room k (A.deeper (lamEnv X scope s2.heap.objs.size f c')) → PE (lamCx X A outer s2 H2 E scope f c') body (tb E))
    (hN : Ng[i]? = some a) (hv : Vis sg a) (hd : (a == ("__debug__" : Str)) = false) (hcd : (a == ("__classdict__" : Str)) = false) :
    PE ((cxOf CXg X.prog X.w X.K X.mg X.base Ng qg sg g cdg X.A X.stack s H Eg).tr pn xe) (.Call (.Name a p1) [] [] p2)
      (fun σZ HZ Q => σZ[i]? = some (some (.ref f)) ∧ HZ c' = some (CodeO c' (X.env.qual ++ "<lambda>")) ∧ tb (WE W σZ) σ HZ Q) := by
  refine ⟨fun pZ sZ σZ HZ Q IZ ⟨hs, hc, ht⟩ => ?_⟩
  refine wpAny_Call_Name_kw (thn ((pe_var (pos := p1) (i := i) hN hv hd hcd).run pZ sZ σZ HZ (fun v H1 => v = .ref f ∧ H1 = HZ) IZ ⟨.ref f, hs, rfl, rfl⟩) fun u s1 ⟨v, H1, I1, r1, ev, eH⟩ => ?_)
  subst ev eH
  obtain rfl : u = Value.ref f := r1
  have un : Un (frs X.stack) [] H H1 s.heap s1.heap := I1.base
  have of1 : s1.heap.get? f = some (lamO (X.env.qual ++ "<lambda>") pa body scope (cloFrom X.env.cells scope.names []) dV pm c' ct) := un.keep f _ hf hfn hfr (fun z => nomatch (show f ∈ ([] : List Addr) from z))
  refine PySem.W.callWith_F0 ⟨_, _, _, _, of1⟩ ?_
  obtain ⟨⟨oc, vs, t, z1, z2, z3⟩, _, _⟩ := I1.hok c' _ hc
  obtain ⟨bs, b1, b2⟩ := hb _ _ H1 s1.heap un.tups I1.hok
  have rc : codeAny (model X.prog X.w) (X.A.deeper (envOfC qg sg s.heap.objs.size g cdg)) (.call (.ref f) ⟨[], []⟩) (CR (L2.CX X.prog X.w) (envOfC qg sg s.heap.objs.size g cdg :: X.stack) X.prog X.w H1 s1 Q (WE W σZ)) s1 := by
    refine PySem.W.kla_callFunE hr.depth of1 rfl L.co L.gen rfl ⟨c', oc, vs, t, rfl, z1, z2, z3⟩ ((b1 _).here ?_)
    refine wpAny_newFunctionEnv L.cell b2 (fun h₁ hns hsb => ⟨I1.nolimit.fresh _ hsb, ?_⟩) L.kind
    have kp : ∀ b o, s1.heap.get? b = some o → h₁.get? b = some o := fun b o e => hsb.extBut b o (Nat.ne_of_lt (Heap.lt_size e)) (Heap.get?_push_of_some _ e)
    have J := lam_in (E := WE W σZ) (f := f) (c' := c') (tk := s1.toks + bs.length) I L I1.env0 hr.hd un hns kp
    show codeAny _ _ (.expr body (lamEnv X scope _ f c')) _ _
    refine PySem.W.kla_codeExpr (wpAny_mono ((hbody _ _ s1 H1 (WE W σZ) rfl (hr.deeper _)).run [] _ _ H1 Q J ht) (fun v s' hq => ?_) fun e s' hq => hq)
    obtain ⟨w', H', J', rv, q⟩ := hq
    exact ⟨w', H', J'.os, J'.bare, J'.base, J'.hok, rv, q⟩
  refine wpAny_call (codeAny_mono rc fun r s' hq => ?_)
  match r, hq with
  | .error e, hq => exact passAt tk σZ pZ H1 s1 e s' I1 hq
  | .ok (.ret u), hq => exact I1.after hq
  | .ok .next, hq => exact hq.elim
  | .ok .brk, hq => exact hq.elim
  | .ok .cont, hq => exact hq.elim
end
end V1
set_option Elab.async false
set_option linter.all false
set_option maxRecDepth 100000
set_option maxHeartbeats 4000000
namespace V1
open PySem PySem.Spec PySem.Calls PyProof.Rows L2 LamX
/-- a lambda expression: it makes a function object whose call without arguments binds -/
def MkL (X : Cx) (T : List (Addr × Str)) (e : Expr) (pa : Arguments) (body : Expr) (sc : Scope) : Prop := ∀ (pins : List (Addr × Obj)) (σ : L2.St) (H : Hp) (s : Shared) (E Q : Value → Shared → Prop), Inv X pins σ H s → Tabs T H →
  (∀ (f c' : Addr) (pm ct dV : Value) (H1 : Hp) (s' : Shared), Inv X pins σ H1 s' → Made X T H H1 (X.env.qual ++ "<lambda>") f c' → s'.heap.get? f = some (lamO (X.env.qual ++ "<lambda>") pa body sc (cloFrom X.env.cells sc.names []) dV pm c' ct) →
    BindL H1 (lamF (X.env.qual ++ "<lambda>") pa body sc (cloFrom X.env.cells sc.names []) dV pm (.ref c') ct) → Q (.ref f) s') → wpAny (model X.prog X.w) X.A (eval e X.env) Q E s
/-- where the maker's lambdas stand: its code object, its table -/
structure LamP (X : Cx) (T : List (Addr × Str)) : Prop where
  ex : ∃ c P, TabB X.base X.mg c P ∧ X.env.code = .ref c ∧ (P, X.env.qual ++ "<lambda>") ∈ T ∧ ∀ p ∈ T, p.1 = P → p.2 = X.env.qual ++ "<lambda>"
section
variable {X : Cx} {T : List (Addr × Str)} {pa : Arguments} {body : Expr} {sc : Scope} {pos : Pos}
theorem mkl0 (LP : LamP X T) (L : LamN X.N X.env.scope sc) (hd : defaultsOf pa X.env = ([], []))
    (hb : ∀ (q : Str) (cl : List (Str × Addr)) (pm cv ct : Value), bindArgs (lamF q pa body sc cl .none pm cv ct) ⟨[], []⟩ = pure []) : MkL X T (.Lambda pa body sc pos) pa body sc := fun pins σ H s E Q I hT h => by
  obtain ⟨c, P, TB, ec, hm, hu⟩ := LP.ex
  refine PySem.W.kla_eval hd ?_
  rw [makeFunction_eq]
  simp only [List.zip_nil_right, List.filterMap_nil, List.isEmpty_nil, if_true, pure_bind]
  exact lam_mk I TB ec hm hu hT (L.has I.ok) fun f c' pm ct H1 s' I1 md e => h f c' pm ct .none H1 s' I1 md e (bindL_pure (hb _ _ _ _ _))
theorem mkl1 {a : Str} {i : Int} {j : Nat} {p2 : Pos} (LP : LamP X T) (L : LamN X.N X.env.scope sc) (hd : pa.defaults = [.Constant (.int i) j p2]) (hk : pa.kw_defaults = [])
    (hl : sc.names.lookup a = some .local)
    (hb : ∀ (q : Str) (cl : List (Str × Addr)) (tp : Addr) (pm cv ct u : Value), ∃ k, bindArgs (lamF q pa body sc cl (.ref tp) pm cv ct) ⟨[], []⟩ = seqItems? (.ref tp) >>= k ∧ k (some #[u]) = pure [(a, u)]) : MkL X T (.Lambda pa body sc pos) pa body sc := fun pins σ H s E Q I hT h => by
  obtain ⟨c, P, TB, ec, hm, hu⟩ := LP.ex
  refine PySem.W.kdv_lam (by rw [hd]; rfl) hk ?_
  rw [hd]
  refine PySem.W.kdv_all1 ?_
  refine wpAny_Constant_int ?_
  have I0 := I.tok (s.toks + 1)
  refine PyProof.Rows.evalAll_nil ?_
  rw [makeFunction_eq]
  simp only [List.zip_nil_right, List.filterMap_nil, List.isEmpty_nil, List.isEmpty_cons, Bool.false_eq_true, if_true, if_false, pure_bind]
  refine wpAny_bind (wpAny_newTextTuple ?_)
  generalize htp : s.heap.objs.size = tp
  have hn : H tp = none := I0.hok.fresh (Nat.le_of_eq htp)
  have hs : (s.heap.push { cls := .type "tuple", data := .seq (#[Value.int i s.toks]) }).get? tp = some { cls := .type "tuple", data := .seq (#[Value.int i s.toks]) } := by
    rw [← htp]
    exact Heap.get?_push_size _ rfl
  have I1 : Inv X pins σ (upd H tp (.tup [.int i])) { { s with toks := s.toks + 1 } with heap := s.heap.push { cls := .type "tuple", data := .seq (#[Value.int i s.toks]) }, toks := s.toks + 1 } :=
    I0.laid (fun b u e => Heap.get?_push_of_some _ e) (Nat.le_of_eq htp) ⟨(show 1 ≤ sizeLine by decide), [Value.int i s.toks], .cons ⟨_, rfl⟩ .nil, _, hs, rfl, _, rfl⟩
  have kp : ∀ b o, H b = some o → upd H tp (.tup [.int i]) b = some o := fun b o e => by
    rw [upd_ne (ne_of_none e hn)]
    exact e
  have hT1 : Tabs T (upd H tp (.tup [.int i])) := hT.ext kp
  refine lam_mk I1 TB ec hm hu hT1 (L.has I.ok) fun f c' pm ct H1 s' I2 md e => h f c' pm ct (.ref tp) H1 s' I2 ⟨(ExtN.of kp).trans md.ext, fun b z => md.nn b (same_nn kp b z), md.tabs, md.free, md.nofr, md.code⟩ e ?_
  intro P2 w2 HZ hz ht hok
  have et : HZ tp = some (.tup [.int i]) := ht _ _ (md.ext _ _ upd_same (fun ps z => by cases z))
  obtain ⟨_, its, r, o, e1, e2, n, e3⟩ := hok tp _ et
  cases r with
  | cons r1 r2 =>
    cases r2
    rename_i u
    obtain ⟨k, b1, b2⟩ := hb (X.env.qual ++ "<lambda>") (cloFrom X.env.cells sc.names []) tp pm (.ref c') ct u
    refine ⟨[(a, u)], fun M => ?_, fun y hy => ?_⟩
    · rw [b1]
      exact fun A Q E s kq q => wpAny_bind (wpAny_seqItems (kq _ _ e1) e3 (by rw [b2]; exact wpAny_pure q))
    · rcases List.mem_cons.mp hy with rfl | hy
      · exact hl
      · cases hy
end
end V1
set_option Elab.async false
set_option linter.all false
set_option maxRecDepth 100000
set_option maxHeartbeats 4000000
namespace V1
open PySem PySem.Spec PySem.Calls PyProof.Rows L2 LamX
/-- what a def that gets a lambda makes of its reading -/
abbrev HT : Type := (XK → Hp → VK → Prop) → Hp → VK → Prop
def Hears (X : Cx) (Ng : List Str) (x : Str) (sg : Scope) (g : Addr) (cdg : Value) (bg : List Stmt) (a q : Str) (TT : HT) : Prop :=
  ∀ (f c' : Addr) (s : Shared) (H : Hp) (Q : VK) (tl : XK → Hp → VK → Prop),
    (∀ (W : WX) (pn : List (Addr × Obj)) (xe : Value → Shared → Prop) (p1 p2 : Pos), Takes ((cxOf CX0 X.prog X.w X.K X.mg X.base Ng x sg g cdg X.A X.stack s H E0).tr pn xe) W →
      PE ((cxOf CX0 X.prog X.w X.K X.mg X.base Ng x sg g cdg X.A X.stack s H E0).tr pn xe) (.Call (.Name a p1) [] [] p2) (fun σZ HZ Q => σZ[0]? = some (some (.ref f)) ∧ HZ c' = some (CodeO c' q) ∧ tl (WE W σZ) HZ Q)) →
    H c' = some (CodeO c' q) → TT tl H Q →
    ∃ t, PSs (cxOf CX0 X.prog X.w X.K X.mg X.base Ng x sg g cdg X.A X.stack s H E0).nox bg t ∧ t { nx := fun _ H' => Q .non H', rt := Q } (L2.start Ng [.ref f]) H
def tHd (T : List (Addr × Str)) (TT : HT) (t : XK → TE) : TE := fun σ H Q => Tabs T H ∧ ∀ H1, ExtN H H1 → (∀ b, H b ≠ none → H1 b ≠ none) → Tabs T H1 → TT (fun E H' Q' => t E σ H' Q') H1 Q
section
variable {X : Cx} {T : List (Addr × Str)} {TT : HT} {x a : Str} {g : Addr} {fd : FuncData} {st : Stmt} {Ng : List Str} {e : Expr} {pa : Arguments} {body : Expr} {sc : Scope} {t : XK → TE} {k : Nat} {p pos : Pos}
/-- x(lambda: ..) -/
theorem pe_heard (hg : Gl X x) (hm : X.mg x = some (.ref g)) (F : Fun X.K x x st g fd) (hb : Binds X.K fd [a] []) (Sg : FnScope Ng [a] (defScope st)) (h0 : Ng[0]? = some a) (hva : Vis (defScope st) a)
    (M : MkL X T e pa body sc) (L : LamN X.N X.env.scope sc) (hr : Room (k + 2) X.A) (hgd : X.A.guards = some [])
    (hG : ∀ cdv, Hears X Ng x (defScope st) g cdv (defBody st) a (X.env.qual ++ "<lambda>") TT)
    (hbody : ∀ (A : Around) (outer : List Env) (s2 : Shared) (H2 : Hp) (E : XK) (f c' : Addr), (lamCx X A outer s2 H2 E sc f c').A.guards = some [] → Room k (lamCx X A outer s2 H2 E sc f c').A → PE (lamCx X A outer s2 H2 E sc f c') body (t E))
    (hdb : (x == ("__debug__" : Str)) = false := by decide) (hd : (a == ("__debug__" : Str)) = false := by decide) (hcd : (a == ("__classdict__" : Str)) = false := by decide)
    (hs : starEach [e] X.env = (false, eval e X.env) :: starEach [] X.env := by rfl) : PE X (.Call (.Name x p) [e] [] pos) (tHd T TT t) := by
  refine ⟨fun pins s σ H Q I ⟨hT, h⟩ => ?_⟩
  refine wpAny_Call_Name_kw (ld_glob I hg hm ?_ hdb)
  refine PySem.W.callWith_K (h₀ := X.base) I.ok.mod.kin F.kp ?_ hs (by rfl)
  rw [hs]
  show wpAny _ _ (spliced ((false, eval e X.env) :: backTo pos (starEach [] X.env))) _ _ s
  refine PySem.Calls.spliced_cons (M pins σ H s _ _ I hT fun f c' pm ct dV H1 s' I1 md hf hB => ?_)
  refine PySem.Calls.spliced_nil ⟨I1.kIn, ?_⟩
  have b1 := hb s' [.ref f] I1.kIn rfl
  obtain ⟨oc, od, kV, doc, pm2, an, cdv, ct2, osl, e1, lk, hcd2⟩ := F.ex
  have rc : codeAny (model X.prog X.w) X.A (.call (.ref g) ⟨[.ref f], []⟩) (CR CX0 X.stack X.prog X.w H1 s' Q E0) s' := by
    subst e1
    refine LamX.run_ofS (k := k + 1) (N := Ng) (ps := [a]) (us := [.ref f]) (vs := [.ref f]) lk hcd2 Sg hr I1.env0 b1 (.cons rfl .nil) rfl fun hr2 => ?_
    obtain ⟨t2, ht, hq⟩ := hG cdv f c' s' H1 Q (fun E H' Q' => t E σ H' Q') (fun W pn xe p1 p2 tk => pe_actD (k := k) (i := 0) (tb := t) I1 L hf md.free md.nofr hB tk hr2 (fun A outer s2 H2 E eA hr3 => hbody A outer s2 H2 E f c' (by subst eA; exact hgd) hr3) h0 hva hd hcd) md.code (h H1 md.ext md.nn md.tabs)
    exact ⟨t2, ht.nox, hq⟩
  refine wpAny_call (codeAny_mono rc fun r s2 hq => ?_)
  match r, hq with
  | .error e, hq => exact (show False from hq).elim
  | .ok (.ret u), hq => exact I1.after hq
  | .ok .next, hq => exact hq.elim
  | .ok .brk, hq => exact hq.elim
  | .ok .cont, hq => exact hq.elim
end
end V1
set_option Elab.async false
set_option linter.all false
set_option maxRecDepth 100000
set_option maxHeartbeats 4000000
/-! try: return [call()] / except C as caught: return (word, caught.field) -/
namespace V1
open PySem PySem.Spec PySem.Calls PyProof.Rows L2 LamX
def TT1 (C : Addr) (wd fld : Str) : HT := fun tl H Q => ∀ (E : XK) (Q' : VK), (∀ (dd : Addr) (fs : List (Str × V)) (v : V) (H' : Hp), H' dd = some (.xd fs) → fs.lookup fld = some v → (∀ p, H' p = none → Q (.ref p) (upd H' p (.tup [.str wd, v]))) → E (.ref C) (some dd) H') →
  (∀ (v : V) (H1 : Hp), (∀ p, H1 p = none → Q (.ref p) (upd H1 p (.lst [v]))) → Q' v H1) → tl E H Q'
theorem hears1 {X : Cx} {x a q ec cn wd fld : Str} {sg : Scope} {g C : Addr} {cdg : Value} {j n9 : Nat} {p1 p2 p3 p4 p5 p6 p7 p8 p9 p10 p11 p12 : Pos} (hge : sg.names.lookup ec = some .globalImplicit) (hme : X.mg ec = some (.ref C)) (hde : (ec == ("__debug__" : Str)) = false)
    (ht : PySem.W.exmOne X.K (.ref C) (.ref C) = some true) (XF : XfC X.K C) (no : PySem.W.findIn X.K (.ref C) fld = some none) (hac : (a == cn) = false) (hlc : sg.names.lookup cn = some .local) (hcn1 : (cn == ("__debug__" : Str)) = false) (hcn2 : (cn == ("__classdict__" : Str)) = false)
    (hat : ∀ env : Env, attributeBase (.Name cn p7) fld env (eval (.Name cn p7) env) = eval (.Name cn p7) env) :
    Hears X [a, cn] x sg g cdg [.Try [.Return (some (.List [.Call (.Name a p1) [] [] p2] p3)) p4] [.ExceptHandler (some (.Name ec p5)) (some cn) [.Return (some (.Tuple [.Constant (.str wd) j p6, .Attribute (.Name cn p7) fld p8] n9 p9)) p10] p11] [] [] p12] a q (TT1 C wd fld) := by
  intro f c' s H Q tl act hc h
  have hnd : ([a, cn] : List Str).Nodup := by
    simp only [List.nodup_cons, List.mem_singleton, List.not_mem_nil, not_false_eq_true, List.nodup_nil, and_true]
    intro z
    subst z
    simp at hac
  have hgl : Gl (cxOf CX0 X.prog X.w X.K X.mg X.base [a, cn] x sg g cdg X.A X.stack s H E0).nox ec := hge
  refine ⟨_, pss_one (ps_try_as (X := (cxOf CX0 X.prog X.w X.K X.mg X.base [a, cn] x sg g cdg X.A X.stack s H E0).nox) (c := .ref C) (i := 1) (Wout := fun _ _ _ _ => False)
      (tb := fun W D σ H => σ[0]? = some (some (.ref f)) ∧ H c' = some (CodeO c' q) ∧ tl (WE W σ) H fun v H1 => (1 ≤ sizeLine ∧ ∀ p, H1 p = none → D.rt (.ref p) (upd H1 p (.lst [v]))))
      (ts := fun a' cls d => tRet (tTup (tCons (tC (.str wd)) (tCons (tXf a' cls d C fld (tVar 1)) tNil))))
      rfl rfl hnd rfl hlc ⟨hgl, hde, .inl hme⟩ L2.takes0 (fun W pn xe tk _ => ?_) (fun a' oe cls d pn hz hf => pss_one (ps_ret (pe_tup (pa_cons pe_str (pa_cons (pe_xf (X := (cxOf CX0 X.prog X.w X.K X.mg X.base [a, cn] x sg g cdg X.A X.stack s H E0).nox) XF no hz hf (pe_var (i := 1) rfl (Or.inl hlc) hcn1 hcn2) (hat _)) pa_nil)))))), ?_⟩
  · refine ⟨fun pins s' σ H' D I ⟨h1, h2, h3⟩ => ?_⟩
    have hq := pss_one (ps_ret (pos := p4) (pe_lst (pos := p3) (pa_cons (act W pn xe p1 p2 tk) pa_nil)))
    exact hq.run pins s' σ H' D I ⟨h1, h2, h3⟩
  · refine ⟨rfl, hc, h _ _ (fun dd fs v H' e1 e2 e3 => ?_) fun v H1 hq => ⟨(show 1 ≤ sizeLine by decide), hq⟩⟩
    refine ⟨true, ht, fun _ a' ha => ?_, fun z => by cases z⟩
    exact ⟨.ref a', rfl, rfl, rfl, dd, fs, v, rfl, e1, e2, (show 2 ≤ sizeLine by decide), e3⟩
end V1
set_option Elab.async false
set_option linter.all false
set_option maxRecDepth 100000
set_option maxHeartbeats 4000000
/-! By data: what a def that gets a lambda tells; defs that may raise. -/
namespace V1
open PySem PySem.Spec PySem.Calls PyProof.Rows L2 LamX
/-- by data: it raises C, its field holding dq -/
def RzD (L : Rl) (C : Addr) (fld : Str) (t : XK → TE) (Γ : List (Option PyData)) (dq : PyData) : Prop := ∀ (E : XK) (A : Addr → Prop) (σ : L2.St) (H : Hp), Inn A H → EnvOk L A σ H Γ → L.G 0 H →
  (∀ (v : V) (dd : Addr) (H' : Hp), L.R 0 H H' → H' dd = some (.xd [(fld, v)]) → Dv L.K A H' v dq → E (.ref C) (some dd) H') → ∀ Q : VK, t E σ H Q
section
variable {L : Rl} {Γ : List (Option PyData)} {T : List (Addr × Str)} {C : Addr} {wd fld : Str} {t : XK → TE} {d dq : PyData}
theorem laid_same {H : Hp} {p : Addr} {o : HO} (hp : H p = none) : Same H (upd H p o) := fun b u e => by
  rw [upd_ne (ne_of_none e hp)]
  exact e
theorem eg_heardV (LL : LamL L T) (hd : d ≠ mark) (h : ∀ E : XK, EvD L (t E) Γ d) : EvD L (tHd T (TT1 C wd fld) t) Γ (.list [d]) := fun A σ H hi he hg Q q => by
  refine ⟨LL.tb hg, fun H1 e nn tb E Q' hE hQ => ?_⟩
  have r1 : L.R 0 H H1 := LL.of hg e tb nn
  refine h E A σ H1 (hi.r r1) (he.r r1) (Rl.gR (b := 0) hg r1) Q' fun v d' H2 r2 hv ed => hQ v H2 fun p hp => ?_
  subst ed
  have r12 := L.tr (a := 0) (b := 0) r1 r2
  have sm := laid_same (o := .lst [v]) hp
  have r3 := L.same (Rl.gR (b := 0) hg r12) sm
  have hi2 := hi.r r12
  exact q _ _ _ (L.tr (a := 0) (b := 0) r12 r3) (.inr (.lst (hi2.no hp) upd_same (.cons ((hv.ne hd).map fun b o na e k => ⟨na, sm b o e⟩) .nil))) rfl
theorem eg_heardX (LL : LamL L T) (h : RzD L C fld t Γ dq) : EvD L (tHd T (TT1 C wd fld) t) Γ (.tuple [.str wd, dq]) := fun A σ H hi he hg Q q => by
  refine ⟨LL.tb hg, fun H1 e nn tb E Q' hE hQ => ?_⟩
  have r1 : L.R 0 H H1 := LL.of hg e tb nn
  refine h E A σ H1 (hi.r r1) (he.r r1) (Rl.gR (b := 0) hg r1) (fun v dd H2 r2 hx hv => hE dd _ v H2 hx (by simp [List.lookup]) fun p hp => ?_) Q'
  have r12 := L.tr (a := 0) (b := 0) r1 r2
  have sm := laid_same (o := .tup [.str wd, v]) hp
  have r3 := L.same (Rl.gR (b := 0) hg r12) sm
  have hi2 := hi.r r12
  exact q _ _ _ (L.tr (a := 0) (b := 0) r12 r3) (.inr (.tup (hi2.no hp) upd_same (.cons (.str wd) (.cons (hv.map fun b o na e k => ⟨na, sm b o e⟩) .nil)))) rfl
end
/-- a def that leaves all, and answers or raises C -/
def spX (K : PySem.W.Frag) (C : Addr) (fld : Str) {α : Type} (args : α → List PyData) (ok : α → Prop) (res : α → Except PyData PyData) : Sp := fun vs H Q E => ∃ (a : α) (A : Addr → Prop), ok a ∧ Inn A H ∧ vs.length = (args a).length ∧ (∀ (i : Nat) d, (args a)[i]? = some d → ∃ v, vs[i]? = some v ∧ Dv K A H v d) ∧
  (∀ d, res a = .ok d → ∀ v H', Same H H' → Dv K A H' v d → Q v H') ∧ ∀ q, res a = .error q → ∀ v dd H', Same H H' → H' dd = some (.xd [(fld, v)]) → Dv K A H' v q → E (.ref C) (some dd) H'
section
variable {L : Rl} {Γ : List (Option PyData)} {C : Addr} {fld : Str} {α : Type} {args : α → List PyData} {ok : α → Prop} {res : α → Except PyData PyData} {ta : TA} {d dq : PyData}
theorem eg_callXv {E : L2.St → XK} (a : α) (ha : EaD L ta Γ (args a)) (ho : ok a) (hr : res a = .ok d) (hn : nomk (args a) = true := by rfl) : EvD L (tCallS (spX L.K C fld args ok res) E ta) Γ d := fun A σ H hi he hg Q q => ha A σ H hi he hg _ fun vs ds H1 r1 l hv p => by
  subst p
  refine ⟨a, A, ho, hi.r r1, l, fun i d e => ?_, fun d2 e v H' sm hd => ?_, fun q2 e => by rw [hr] at e; cases e⟩
  · obtain ⟨v, e1, e2⟩ := hv i d e
    exact ⟨v, e1, e2.ne (nomk_ne hn i d e)⟩
  · rw [hr] at e
    cases e
    exact q v _ H' (L.tr (a := 0) (b := 0) r1 (L.same (Rl.gR (b := 0) hg r1) sm)) (.inr hd) rfl
theorem rz_callX (a : α) (ha : EaD L ta Γ (args a)) (ho : ok a) (hr : res a = .error dq) (hn : nomk (args a) = true := by rfl) : RzD L C fld (fun E => tCallS (spX L.K C fld args ok res) (fun _ => E) ta) Γ dq := fun E A σ H hi he hg hE Q => ha A σ H hi he hg _ fun vs ds H1 r1 l hv p => by
  subst p
  refine ⟨a, A, ho, hi.r r1, l, fun i d e => ?_, fun d2 e => (by rw [hr] at e; cases e), fun q2 e v dd H' sm hx hv2 => ?_⟩
  · obtain ⟨v, e1, e2⟩ := hv i d e
    exact ⟨v, e1, e2.ne (nomk_ne hn i d e)⟩
  · rw [hr] at e
    cases e
    exact hE v dd H' (L.tr (a := 0) (b := 0) r1 (L.same (Rl.gR (b := 0) hg r1) sm)) hx hv2
end
end V1
set_option Elab.async false
set_option linter.all false
set_option maxRecDepth 100000
set_option maxHeartbeats 4000000
/-! The end of a law row with tables of code objects, by a promise that knows the guards. -/
namespace V1
open PySem PySem.Spec PyProof.Rows L2 LamX
/-- the tables at the head: code objects and their tables, empty, off the written part -/
structure Tb0 (K : PySem.W.Frag) (h : Heap) (cs : List (Addr × Addr)) : Prop where
  emp : ∀ p ∈ cs, h.get? p.2 = some { cls := .none, data := .fields #[] }
  off : ∀ p ∈ cs, K.lookup p.2 = none
  hd : ∀ p ∈ cs, PySem.W.CodeHd h p.1 p.2
/-- the tracked things at the law's call: the script, the tables -/
structure Trk (cs : List (Addr × Addr)) (a : Addr) (H : Hp) : Prop where
  tb : ∀ p ∈ cs, H p.2 = some (.tbl #[])
  kd : ∀ b, H b = none ∨ b ∈ cs.map (·.2) ∨ ∃ o xs, H b = some (.frz o (.lst xs))
  at_ : ∀ b, H b ≠ none → b = a ∨ b ∈ cs.map (·.2)
theorem not_fields {d : Data} (h : ∀ vs, d ≠ .fields vs) : d ≠ .fields #[] := h _
section
variable {P : Program} {w : World} {K : PySem.W.Frag} {mg mb : Str → Option Value} {k : Nat} {fa a : Addr} {cs : List (Addr × Addr)} {fd : FuncData} {x : Str} {sp : Sp} {s1 : Shared} {vs : List Value} {ns : List Int}
theorem tb_in {h : Heap} (t : Tb0 K h cs) (b : Addr) (hb : b ∈ cs.map (·.2)) : h.get? b = some { cls := .none, data := .fields #[] } := by
  obtain ⟨p, hp, e⟩ := List.mem_map.mp hb
  subst e
  exact t.emp p hp
/-- what is neither a list nor an empty record is not tracked -/
theorem trk_no {H : Hp} (t : Tb0 K s1.heap cs) (R : Trk cs a H) (ha : s1.heap.get? a = some { cls := .type "list", data := .seq vs.toArray }) {b : Addr} {o : Obj} (e : s1.heap.get? b = some o) (h1 : ∀ us n, o.data ≠ .seq us n) (h2 : o.data ≠ .fields #[]) : H b = none := by
  cases q : H b with
  | none => rfl
  | some u =>
    rcases R.at_ b (by rw [q]; exact Option.some_ne_none _) with z | z
    · subst z
      rw [ha] at e
      cases e
      exact (h1 _ _ rfl).elim
    · rw [tb_in t b z] at e
      cases e
      exact (h2 rfl).elim
theorem end_core {H : Hp} (KX : K.In s1.heap) (hns : s1.heap.Ns mainGlobals mg) (hb : s1.heap.Ns builtinsNs mb) (hbb : ∀ x : Str, x ≠ "__name__" → mb x = bootBuiltins x) (nl : s1.heap.NoLimit) (hg : s1.gens = #[]) (t : Tb0 K s1.heap cs)
    (hbm : ∃ (bm : Addr) (ob : Obj), mg "__builtins__" = some (.ref bm) ∧ bm ≠ builtinsNs ∧ s1.heap.get? bm = some ob ∧ ob.cls = .type "module" ∧ ob.dict = some builtinsNs ∧ ob.data = .plain)
    (ha : s1.heap.get? a = some { cls := .type "list", data := .seq vs.toArray }) (hr : Room k callerA)
    (F : ∀ base : Heap, K.In base → base.Ns mainGlobals mg → (∀ p ∈ cs, TabB base mg p.1 p.2) → FnG P w K mg base k fa fd [x] sp) (bnd : ∀ (s : Shared) (u : Value), BindsTo s fd ⟨[u], []⟩ [(x, u)])
    (R : Trk cs a H) (ok : HOk P w H s1.heap) (nk : H a ≠ none → K.lookup a = none) (hsp : sp [.ref a] H (fun v _ => v = .bl true) fun _ _ _ => False) :
    codeAny (model P w) callerA (.call (.ref fa) ⟨[.ref a], []⟩) (fun r t => r = .ok (.ret (.bool true)) ∧ OldK s1.heap t.heap ∧ t.os = s1.os ∧ AllBare t.gens) s1 := by
  have dk : ∀ {b : Addr} {o : Obj} {es : Array DictEntry} {ep : Nat}, s1.heap.get? b = some o → o.data = .dict es ep → H b = none := by
    intro b o es ep e d
    refine trk_no t R ha e (fun us n z => ?_) (fun z => ?_) <;> · rw [d] at z; cases z
  have nsK : ∀ {b : Addr} {m : Str → Option Value}, s1.heap.Ns b m → (hidT s1.heap H).Ns b m := by
    rintro b m ⟨o, es, ep, e, d, r⟩
    exact ⟨o, es, ep, hidT_get e (dk e d), d, r⟩
  have hK2 : K.In (hidT s1.heap H) := by
    intro b o e
    refine hidT_get (KX b o e) ?_
    cases q : H b with
    | none => rfl
    | some u =>
      rcases R.at_ b (by rw [q]; exact Option.some_ne_none _) with z | z
      · subst z
        rw [nk (by rw [q]; exact Option.some_ne_none _)] at e
        cases e
      · obtain ⟨p, hp, ep⟩ := List.mem_map.mp z
        subst ep
        rw [t.off p hp] at e
        cases e
  have hM : Mod K mg (hidT s1.heap H) := ⟨hK2, nsK hns, ⟨mb, nsK hb, hbb⟩, let ⟨mc, g1, g2⟩ := nl; ⟨mc, nsK g1, g2⟩⟩
  obtain ⟨og, eg, pg, ng1, ng2, ng3⟩ := hns
  have TB : ∀ p ∈ cs, TabB (hidT s1.heap H) mg p.1 p.2 := by
    intro p hp
    have hE := t.emp p hp
    constructor
    · obtain ⟨o, us, file, tf, fl, tg, inF, tx, tt, e1, r1, r2, r3, r4⟩ := t.hd p hp
      refine ⟨o, us, file, tf, fl, tg, inF, tx, tt, hidT_get e1 (trk_no t R ha e1 (fun vs n z => ?_) fun z => ?_), r1, r2, r3, r4⟩
      · rw [r2] at z
        cases z
      · rw [r2] at z
        cases z
        simp at r3
    · obtain ⟨bm, ob, b1, b2, b3, b4, b5, b6⟩ := hbm
      refine ⟨bm, ob, b1, b2, fun q => ?_, fun q => ?_, hidT_get b3 (trk_no t R ha b3 (fun vs n z => ?_) fun z => ?_), b4, b5, b6⟩
      · subst q
        rw [ng1] at b3
        cases b3
        rw [ng2] at b6
        cases b6
      · subst q
        rw [hE] at b3
        cases b3
        cases b6
      · rw [b6] at z
        cases z
      · rw [b6] at z
        cases z
    · intro z
      rw [z, hE] at ng1
      cases ng1
      cases ng2
  have e0 : Env0 P w K mg (hidT s1.heap H) callerA [] s1 H := { frames := rfl, mod := hM, bs := fun b o e => of_hidT e, bsz := Nat.le_of_eq (hidT_size _ _), funs := trivial, frf := fun b hb => absurd (show b ∈ ([] : List Addr) from hb) (by simp), hok := ok, bare := .of_eq hg }
  refine codeAny_mono ((F _ hK2 (nsK ⟨og, eg, pg, ng1, ng2, ng3⟩) TB).run callerA [] s1 H ⟨[.ref a], []⟩ [.ref a] [.ref a] _ _ rfl hr e0 (bnd s1 (.ref a)) (.cons rfl .nil) hsp) fun r t2 h => ?_
  match r, h with
  | .error e, h => exact h.elim
  | .ok .next, h => exact h.elim
  | .ok .brk, h => exact h.elim
  | .ok .cont, h => exact h.elim
  | .ok (.ret u), h =>
    obtain ⟨v, H2, os, bare, un, ok2, r2, q⟩ := h
    obtain rfl : v = .bl true := q
    obtain rfl : u = Value.bool true := r2
    have kept : ∀ b o, b ∉ cs.map (·.2) → s1.heap.get? b = some o → t2.heap.get? b = some o := by
      intro b o nb e
      rcases R.kd b with z | z | ⟨ob, xs, z⟩
      · exact un.keep b o e z (fun y => absurd (show b ∈ ([] : List Addr) from y) (by simp)) (by simp)
      · exact absurd z nb
      · have e1 := (ok b _ z).1
        have e2 := (ok2 b _ (un.frzs b ob _ z)).1
        rw [e] at e1
        cases e1
        exact e2
    have grow : ∀ p ∈ cs, ∃ more : Array Value, t2.heap.get? p.2 = some { cls := .none, data := .fields more } := by
      intro p hp
      obtain ⟨more, z⟩ := un.tbls p.2 #[] (R.tb p hp)
      exact ⟨_, ok2 p.2 _ z⟩
    refine ⟨rfl, ⟨fun b o e => ?_, fun b o e => ?_⟩, os, bare⟩
    · by_cases hb : b ∈ cs.map (·.2)
      · obtain ⟨p, hp, ep⟩ := List.mem_map.mp hb
        subst ep
        obtain ⟨more, hm⟩ := grow p hp
        have eo : o = { cls := .none, data := .fields #[] } := Option.some.inj (e.symm.trans (t.emp p hp))
        subst eo
        refine .inr (.inl ⟨((t.hd p hp).tab (t.emp p hp)).isCodeTable, rfl, #[], more, rfl, ?_⟩)
        rw [Array.empty_append]
        exact hm
      · exact .inl (kept b o hb e)
    · by_cases hb : b ∈ cs.map (·.2)
      · obtain ⟨p, hp, ep⟩ := List.mem_map.mp hb
        subst ep
        obtain ⟨more, hm⟩ := grow p hp
        exact ⟨_, hm⟩
      · exact ⟨o, kept b o hb e⟩
end
end V1
set_option Elab.async false
set_option linter.all false
set_option maxRecDepth 100000
set_option maxHeartbeats 4000000
namespace V1
open PySem PySem.Spec PyProof.Rows L2 LamX
section
variable {P : Program} {w : World} {K : PySem.W.Frag} {mg mb : Str → Option Value} {k : Nat} {fa a : Addr} {cs : List (Addr × Addr)} {fd : FuncData} {x : Str} {sp : Sp} {s1 : Shared} {vs : List Value} {ns : List Int}
theorem endGT (KX : K.In s1.heap) (hns : s1.heap.Ns mainGlobals mg) (hb : s1.heap.Ns builtinsNs mb) (hbb : ∀ x : Str, x ≠ "__name__" → mb x = bootBuiltins x) (nl : s1.heap.NoLimit) (hg : s1.gens = #[]) (t : Tb0 K s1.heap cs)
    (hbm : ∃ (bm : Addr) (ob : Obj), mg "__builtins__" = some (.ref bm) ∧ bm ≠ builtinsNs ∧ s1.heap.get? bm = some ob ∧ ob.cls = .type "module" ∧ ob.dict = some builtinsNs ∧ ob.data = .plain)
    (ha : s1.heap.get? a = some { cls := .type "list", data := .seq vs.toArray }) (hi : IntsAre vs ns) (hl : ns.length ≤ sizeLine) (hr : Room k callerA)
    (F : ∀ base : Heap, K.In base → base.Ns mainGlobals mg → (∀ p ∈ cs, TabB base mg p.1 p.2) → FnG P w K mg base k fa fd [x] sp) (bnd : ∀ (s : Shared) (u : Value), BindsTo s fd ⟨[u], []⟩ [(x, u)])
    (hsp : ∀ H : Hp, (∀ p ∈ cs, H p.2 = some (.tbl #[])) → SqL K H a (ns.map V.int) → sp [.ref a] H (fun v _ => v = .bl true) fun _ _ _ => False) :
    codeAny (model P w) callerA (.call (.ref fa) ⟨[.ref a], []⟩) (fun r t => r = .ok (.ret (.bool true)) ∧ OldK s1.heap t.heap ∧ t.os = s1.os ∧ AllBare t.gens) s1 := by
  have rv := vals_ints hi
  have lenV := hi.length
  have aT : a ∉ cs.map (·.2) := by
    intro z
    have q := tb_in t a z
    rw [ha] at q
    cases q
  have mT : ∀ p ∈ cs, p.2 ∈ cs.map (·.2) := fun p hp => List.mem_map.mpr ⟨p, hp, rfl⟩
  have nT : ∀ p ∈ cs, p.2 ≠ a := fun p hp z => aT (by rw [← z]; exact mT p hp)
  generalize hfz : ({ cls := .type "list", data := .seq vs.toArray } : Obj) = fz at ha
  generalize hH0 : (fun b => if b ∈ cs.map (·.2) then some (HO.tbl #[]) else none : Hp) = H0
  have t0 : ∀ b, b ∈ cs.map (·.2) → H0 b = some (.tbl #[]) := fun b hb => by rw [← hH0]; exact if_pos hb
  have n0 : ∀ b, b ∉ cs.map (·.2) → H0 b = none := fun b hb => by rw [← hH0]; exact if_neg hb
  have ok0 : ∀ b u, H0 b = some u → b ∈ cs.map (·.2) ∧ u = .tbl #[] := fun b u e => by
    by_cases hb : b ∈ cs.map (·.2)
    · rw [t0 b hb] at e
      exact ⟨hb, (Option.some.inj e).symm⟩
    · rw [n0 b hb] at e
      cases e
  cases hk : K.lookup a with
  | some o =>
    have e := KX a o hk
    rw [ha] at e
    have eo : fz = o := Option.some.inj e
    subst eo
    refine end_core (vs := vs) (H := H0) KX hns hb hbb nl hg t hbm (by rw [hfz]; exact ha) hr F bnd ⟨fun p hp => t0 _ (mT p hp), fun b => ?_, fun b z => ?_⟩ (fun b u e => ?_) (fun z => absurd (n0 a aT) z) (hsp H0 (fun p hp => t0 _ (mT p hp)) (.inr ⟨_, vs.toArray, _, hk, by rw [← hfz], by rw [← hfz], by rw [← hfz], by rw [List.size_toArray, lenV]; exact hl, by simpa using rv⟩))
    · by_cases hb : b ∈ cs.map (·.2)
      · exact .inr (.inl hb)
      · exact .inl (n0 b hb)
    · by_cases hb : b ∈ cs.map (·.2)
      · exact .inr hb
      · exact absurd (n0 b hb) z
    · obtain ⟨m, rfl⟩ := ok0 b u e
      exact tb_in t b m
  | none =>
    have hH : ∀ b, b ≠ a → upd H0 a (.frz fz (.lst (ns.map V.int))) b = H0 b := fun b n => upd_ne n
    refine end_core (vs := vs) (H := upd H0 a (.frz fz (.lst (ns.map V.int)))) KX hns hb hbb nl hg t hbm (by rw [hfz]; exact ha) hr F bnd ⟨fun p hp => by rw [hH _ (nT p hp)]; exact t0 _ (mT p hp), fun b => ?_, fun b z => ?_⟩ (fun b u e => ?_) (fun _ => hk) (hsp _ (fun p hp => by rw [hH _ (nT p hp)]; exact t0 _ (mT p hp)) (.inl (.inr ⟨fz, upd_same⟩)))
    · by_cases hba : b = a
      · subst hba
        exact .inr (.inr ⟨_, _, upd_same⟩)
      · rw [hH b hba]
        by_cases hb : b ∈ cs.map (·.2)
        · exact .inr (.inl hb)
        · exact .inl (n0 b hb)
    · by_cases hba : b = a
      · exact .inl hba
      · rw [hH b hba] at z
        by_cases hb : b ∈ cs.map (·.2)
        · exact .inr hb
        · exact absurd (n0 b hb) z
    · by_cases hba : b = a
      · subst hba
        rw [upd_same] at e
        have eu := Option.some.inj e
        subst eu
        exact ⟨ha, by rw [List.length_map]; exact hl, vs, _, rv, by rw [ha, ← hfz]⟩
      · rw [hH b hba] at e
        obtain ⟨m, rfl⟩ := ok0 b u e
        exact tb_in t b m
end
/-- the end, where the defs make lambdas -/
theorem walkGT {l : PySem.W.OpenLaw} {n k : Nat} {q : Program} {loose : List Str} {XP : (Str → Option Value) → Heap → Prop} {YP : World → Heap → Prop} {d : DefRec} {x : Str}
    (hn : l.most = some n) (hn2 : n ≤ sizeLine) (hdf : d.params.defaults = []) (hr : Room k callerA)
    (F : ∀ (w : World) (mg : Str → Option Value) (fa : Addr) (h : Heap), YP w h → h.Ns mainGlobals mg → mg d.name = some (.ref fa) →
      ∃ (K : PySem.W.Frag) (fd : FuncData) (sp : Sp) (cs : List (Addr × Addr)), K.In h ∧ Tb0 K h cs ∧ (∀ (s : Shared) (u : Value), BindsTo s fd ⟨[u], []⟩ [(x, u)]) ∧
        (∀ (H : Hp) (a : Addr) (ns : List Int), ns.length ≤ n → (∀ p ∈ cs, H p.2 = some (.tbl #[])) → SqL K H a (ns.map V.int) → sp [.ref a] H (fun v _ => v = .bl true) fun _ _ _ => False) ∧
        ∀ base : Heap, K.In base → base.Ns mainGlobals mg → (∀ p ∈ cs, TabB base mg p.1 p.2) → FnG l.prog w K mg base k fa fd [x] sp) :
    PySem.W.WalkO q loose XP YP l.row.toRowW d [] (fun f vs => PySem.call f vs) := by
  refine Att.attach_call hn hdf fun w s0 s1 mg mb fa o pm cd doc a vs ns G Y ho hd hcd hmg hobj hints hlen hg => ?_
  obtain ⟨K, fd, sp, cs, KX, t, hb, hsp, hF⟩ := F w mg fa _ Y G.T.g hmg
  exact endGT KX G.T.g G.T.b G.T.builtins G.T.nolimit hg t G.T.bmain hobj hints (Nat.le_trans hlen hn2) hr hF hb fun H hT hS => hsp H a ns hlen hT hS
end V1
set_option Elab.async false
set_option linter.all false
set_option maxRecDepth 100000
set_option maxHeartbeats 4000000
/-! Defs that make lambdas: the code object is told; promises that leave all but the tables. -/
namespace V1
open PySem PySem.Spec PyProof.Rows L2 LamX
section
variable {P : Program} {w : World} {K : PySem.W.Frag} {mg : Str → Option Value} {base : Heap}
theorem okGc {x qual : Str} {st : Stmt} {f : Addr} {fd : FuncData} {N ps : List Str} {k : Nat} {sp : Sp} (F : Fun K x qual st f fd) (S : FnScope N ps (defScope st)) (hlen : ∀ vs H Q E, sp vs H Q E → vs.length = ps.length)
    (bd : ∀ (cdv : Value) (A : Around) (outer : List Env) (s : Shared) (H : Hp) (vs : List V) (Q : VK) (E : XK), fd.code = cdv → A.guards = some [] → Room k (A.deeper (envOfC qual (defScope st) s.heap.objs.size f cdv)) → sp vs H Q E →
      ∃ t, PSs (cxOf CX0 P w K mg base N qual (defScope st) f cdv A outer s H E).nox (defBody st) t ∧ t { nx := fun _ H' => Q .non H', rt := Q } (start N vs) H) : FnG P w K mg base (k + 1) f fd ps sp := by
  obtain ⟨oc, od, kV, doc, pm, an, cdv, ct, osl, e1, lk, hcd⟩ := F.ex
  have ec : fd.code = cdv := by rw [e1]
  have bd2 := fun A outer s H vs Q E => bd cdv A outer s H vs Q E ec
  subst e1
  constructor
  · exact hlen
  · intro A outer s H args us vs Q E hgd hr e0 hb r hs0
    have kin := e0.mod.kin.keeps (fun b o z => (e0.bs b o z).1)
    have lim := e0.mod.nolimit.keeps (fun b o z => (e0.bs b o z).1)
    have par : ∀ y ∈ ps.zip us, (defScope st).names.lookup y.1 = some .local ∨ ((defScope st).names.lookup y.1 = some .cell ∧ ((cellsFrom (s.heap.objs.size + 1) (defScope st).names []).lookup y.1).isSome = true) := by
      rintro ⟨n, v⟩ hy
      exact (S.par n (List.of_mem_zip hy).1).imp id fun q => ⟨q, PySem.W.cellsFrom_some _ _ _ (.inl q)⟩
    refine codeAny_call_function hr.depth (kin _ _ lk) rfl S.co S.gen rfl (PySem.W.codeRec_of kin hcd) (hb _ _ _ _ (wpAny_newFunctionEnv_cells S.kind par fun env he s1 y => ?_))
    subst he
    refine ⟨lim.keeps y.toInCall.keep, codeAny_func ?_⟩
    obtain ⟨t, ht, hq⟩ := bd2 A outer s H vs Q E hgd (hr.deeper _) hs0
    have I := inv_start (CX := CX0) (E := E) S hr.hd e0 (hlen _ _ _ _ hs0) r y
    refine wpAny_mono (ht.nox.run [] s1 (start N vs) H _ I hq) (fun fl s2 z => ?_) fun e s2 z => z
    match fl, z with
    | .ret u, ⟨v, σ2, H2, J, rv, q⟩ => exact ⟨v, H2, J.os, J.bare, J.base, J.hok, rv, q⟩
    | .next, ⟨σ2, H2, J, q⟩ => exact ⟨V.non, H2, J.os, J.bare, J.base, J.hok, rfl, q⟩
    | .brk, ⟨_, _, _, q⟩ => exact q.elim
    | .cont, ⟨_, _, _, q⟩ => exact q.elim
/-- a def whose answer is told for each a, and that leaves all but the tables -/
def spT (K : PySem.W.Frag) (T : List (Addr × Str)) {α : Type} (args : α → List PyData) (ok : α → Prop) (val : α → PyData) : Sp := fun vs H Q E => ∃ a, ok a ∧ spL (tabL K T) 0 (fun ds => ds = args a) (fun _ d => d = val a) vs H Q E
/-- a def that draws, and makes lambdas -/
def spMT (K : PySem.W.Frag) (T : List (Addr × Str)) {α : Type} (n : Nat) (args : α → List PyData) (ok : α → Prop) (post : α → PyData → Prop) : Sp := fun vs H Q E => ∃ (L : Rl) (a : α), L.K = K ∧ SM L ∧ LamL L T ∧ ok a ∧ spL L n (fun ds => ds = args a) (fun _ d => post a d) vs H Q E
theorem ok_T {T : List (Addr × Str)} {α : Type} {args : α → List PyData} {ok : α → Prop} {val : α → PyData} {x : Str} {st : Stmt} {f : Addr} {fd : FuncData} {N ps : List Str} {k : Nat} (D : Df K mg x st ps f fd) (Sc : FnScope N ps (defScope st)) (hlen : ∀ a, (args a).length = ps.length)
    (hb : ∀ (cdv : Value) (A : Around) (outer : List Env) (s : Shared) (H : Hp) (E : XK), fd.code = cdv → (cxOf CX0 P w K mg base N x (defScope st) f cdv A outer s H E).nox.A.guards = some [] → Room k (cxOf CX0 P w K mg base N x (defScope st) f cdv A outer s H E).nox.A →
      ∃ t, PSs (cxOf CX0 P w K mg base N x (defScope st) f cdv A outer s H E).nox (defBody st) t ∧ ∀ a, ok a → SG (tabL K T) 0 t (Ga N.length (args a)) (fun _ => .none = val a) (fun d => d = val a)) : Cal P w K mg base x st ps (k + 1) (spT K T args ok val) f fd := by
  refine ⟨D.gm, D.F, D.b, okGc D.F Sc (fun vs H Q E ⟨a, _, Av, ds, _, hl, _, hp, _⟩ => by rw [hl, hp, hlen a]) fun cdv A outer s H vs Q E ec hg hr ⟨a, ho, Av, ds, hi, hl, hv, hp, hgg, q⟩ => ?_⟩
  subst hp
  obtain ⟨t, h1, h2⟩ := hb cdv A outer s H E ec hg hr
  exact ⟨t, h1, h2 a ho Av _ H hi (start_ok hl hv) hgg _ (fun σ' H' Γ' r e p => q .non .none H' r (.inr .non) p) fun v d H' r hd p => q v d H' r hd p⟩
theorem ok_MT {T : List (Addr × Str)} {α : Type} {args : α → List PyData} {ok : α → Prop} {post : α → PyData → Prop} {n : Nat} {x : Str} {st : Stmt} {f : Addr} {fd : FuncData} {N ps : List Str} {k : Nat} (D : Df K mg x st ps f fd) (Sc : FnScope N ps (defScope st)) (hlen : ∀ a, (args a).length = ps.length)
    (hb : ∀ (cdv : Value) (A : Around) (outer : List Env) (s : Shared) (H : Hp) (E : XK), fd.code = cdv → (cxOf CX0 P w K mg base N x (defScope st) f cdv A outer s H E).nox.A.guards = some [] → Room k (cxOf CX0 P w K mg base N x (defScope st) f cdv A outer s H E).nox.A →
      ∃ t, PSs (cxOf CX0 P w K mg base N x (defScope st) f cdv A outer s H E).nox (defBody st) t ∧ ∀ L, L.K = K → SM L → LamL L T → ∀ a, ok a → SG L n t (Ga N.length (args a)) (fun _ => False) (post a)) : Cal P w K mg base x st ps (k + 1) (spMT K T n args ok post) f fd := by
  refine ⟨D.gm, D.F, D.b, okGc D.F Sc (fun vs H Q E ⟨L, a, _, _, _, _, Av, ds, _, hl, _, hp, _⟩ => by rw [hl, hp, hlen a]) fun cdv A outer s H vs Q E ec hg hr ⟨L, a, hK, hS, hL, ho, Av, ds, hi, hl, hv, hp, hgg, q⟩ => ?_⟩
  subst hp
  obtain ⟨t, h1, h2⟩ := hb cdv A outer s H E ec hg hr
  exact ⟨t, h1, h2 L hK hS hL a ho Av _ H hi (start_ok hl hv) hgg _ (fun σ' H' Γ' r e p => p.elim) fun v d H' r hd p => q v d H' r hd p⟩
end
section
variable {L : Rl} {T : List (Addr × Str)} {Γ : List (Option PyData)} {t : TA} {E : XK} {α : Type} {args : α → List PyData} {ok : α → Prop} {val : α → PyData} {post : α → PyData → Prop} {n : Nat}
theorem tab_dq {K : PySem.W.Frag} {A : Addr → Prop} {H : Hp} {v : V} {d : PyData} (h : Dq (tabL K T) A H v d) : Dv K A H v d := h.elim (fun z => z.2.elim) id
theorem eg_callT (LL : LamL L T) (a : α) (ha : EaD L t Γ (args a)) (ho : ok a) (hn : nomk (args a) = true := by rfl) : EvD L (tCall (spT L.K T args ok val) [] E t) Γ (val a) := fun A σ H hi he hg Q q => ha A σ H hi he hg _ fun vs ds H1 r1 l hv p => by
  subst p
  show spT L.K T args ok val (vs ++ []) H1 Q E
  rw [List.append_nil]
  have g1 := Rl.gR (b := 0) hg r1
  refine ⟨a, ho, A, args a, hi.r r1, l, fun i d e => ?_, rfl, LL.tb g1, fun v d H2 r2 hd hpo => q v d H2 (L.tr (a := 0) (b := 0) r1 (LL.of g1 r2.1 r2.2.2 r2.2.1)) (.inr (tab_dq hd)) hpo⟩
  obtain ⟨v, e1, e2⟩ := hv i d e
  exact ⟨v, e1, .inr (e2.ne (nomk_ne hn i d e))⟩
theorem eg_callMT (hS : SM L) (LL : LamL L T) (x : α) (ha : EaD L t Γ (args x)) (ho : ok x) : EvG L n (tCall (spMT L.K T n args ok post) [] E t) Γ (post x) := fun A σ H hi he hg Q q => ha A σ H hi he (L.g0 hg) _ fun vs ds H1 r1 l hv p => by
  subst p
  show spMT L.K T n args ok post (vs ++ []) H1 Q E
  rw [List.append_nil]
  exact ⟨L, x, rfl, hS, LL, ho, A, args x, hi.r r1, l, hv, rfl, Rl.gR (a := 0) (by rw [Nat.zero_add]; exact hg) r1, fun v d H2 r2 hd hpo => q v d H2 (L.rle (Nat.le_of_eq (Nat.zero_add _)) (L.tr r1 r2)) hd hpo⟩
end
end V1
set_option Elab.async false
set_option linter.all false
set_option maxRecDepth 100000
set_option maxHeartbeats 4000000
/-! Lambdas in whose bodies something is drawn. -/
namespace V1
open PySem PySem.Spec PyProof.Rows L2 LamX
def RzG (L : Rl) (n : Nat) (C : Addr) (fld : Str) (t : XK → TE) (Γ : List (Option PyData)) (dq : PyData) : Prop := ∀ (E : XK) (A : Addr → Prop) (σ : L2.St) (H : Hp), Inn A H → EnvOk L A σ H Γ → L.G n H →
  (∀ (v : V) (dd : Addr) (H' : Hp), L.R n H H' → H' dd = some (.xd [(fld, v)]) → Dv L.K A H' v dq → E (.ref C) (some dd) H') → ∀ Q : VK, t E σ H Q
section
variable {L : Rl} {n : Nat} {Γ : List (Option PyData)} {T : List (Addr × Str)} {C : Addr} {wd fld : Str} {t : XK → TE} {dq : PyData} {Pd : PyData → Prop}
theorem eg_heardXG (LL : LamL L T) (h : RzG L n C fld t Γ dq) : EvG L n (tHd T (TT1 C wd fld) t) Γ (fun y => y = .tuple [.str wd, dq]) := fun A σ H hi he hg Q q => by
  refine ⟨LL.tb hg, fun H1 e nn tb E Q' hE hQ => ?_⟩
  have r1 : L.R 0 H H1 := LL.of hg e tb nn
  have g1 : L.G n H1 := L.gr (a := 0) (by rw [Nat.zero_add]; exact hg) r1
  refine h E A σ H1 (hi.r r1) (he.r r1) g1 (fun v dd H2 r2 hx hv => hE dd _ v H2 hx (by simp [List.lookup]) fun p hp => ?_) Q'
  have r12 : L.R n H H2 := L.rle (Nat.le_of_eq (Nat.zero_add n)) (L.tr r1 r2)
  have g2 : L.G 0 H2 := L.gr (a := n) (b := 0) hg r12
  have sm := laid_same (o := .tup [.str wd, v]) hp
  have r3 := L.same g2 sm
  have hi2 := hi.r r12
  exact q _ _ _ (L.tr (b := 0) r12 r3) (.inr (.tup (hi2.no hp) upd_same (.cons (.str wd) (.cons (hv.map fun b o na e k => ⟨na, sm b o e⟩) .nil)))) rfl
theorem eg_heardVG (LL : LamL L T) (hd : ∀ d, Pd d → d ≠ mark) (h : ∀ E : XK, EvG L n (t E) Γ Pd) : EvG L n (tHd T (TT1 C wd fld) t) Γ (fun y => ∃ d, Pd d ∧ y = .list [d]) := fun A σ H hi he hg Q q => by
  refine ⟨LL.tb hg, fun H1 e nn tb E Q' hE hQ => ?_⟩
  have r1 : L.R 0 H H1 := LL.of hg e tb nn
  have g1 : L.G n H1 := L.gr (a := 0) (by rw [Nat.zero_add]; exact hg) r1
  refine h E A σ H1 (hi.r r1) (he.r r1) g1 Q' fun v d H2 r2 hv pd => hQ v H2 fun p hp => ?_
  have r12 : L.R n H H2 := L.rle (Nat.le_of_eq (Nat.zero_add n)) (L.tr r1 r2)
  have g2 : L.G 0 H2 := L.gr (a := n) (b := 0) hg r12
  have sm := laid_same (o := .lst [v]) hp
  have r3 := L.same g2 sm
  have hi2 := hi.r r12
  exact q _ _ _ (L.tr (b := 0) r12 r3) (.inr (.lst (hi2.no hp) upd_same (.cons ((hv.ne (hd d pd)).map fun b o na e k => ⟨na, sm b o e⟩) .nil))) ⟨d, pd, rfl⟩
theorem rz_callXG {α : Type} {args : α → List PyData} {ok : α → Prop} {res : α → Except PyData PyData} {ta : TA} {PA : List PyData → Prop} (ha : EaG L n ta Γ PA) (hp : ∀ ds, PA ds → ∃ a, ds = args a ∧ ok a ∧ res a = .error dq ∧ nomk (args a) = true) :
    RzG L n C fld (fun E => tCallS (spX L.K C fld args ok res) (fun _ => E) ta) Γ dq := fun E A σ H hi he hg hE Q => ha A σ H hi he hg _ fun vs ds H1 r1 l hv p => by
  obtain ⟨a, e, ho, hr, hn⟩ := hp ds p
  subst e
  have g1 : L.G 0 H1 := L.gr (a := n) (b := 0) hg r1
  refine ⟨a, A, ho, hi.r r1, l, fun i d e => ?_, fun d2 e => (by rw [hr] at e; cases e), fun q2 e v dd H' sm hx hv2 => ?_⟩
  · obtain ⟨v, e1, e2⟩ := hv i d e
    exact ⟨v, e1, e2.ne (nomk_ne hn i d e)⟩
  · rw [hr] at e
    cases e
    exact hE v dd H' (L.tr (b := 0) r1 (L.same g1 sm)) hx hv2
end
end V1
namespace V1
open PySem
def top (i : Nat) : Stmt := PySem.Challenge.pw_everyfont_k12_systems_judged.main.body.getD i (.Pass ⟨0, 0, 0, 0⟩)
end V1
set_option Elab.async false
set_option linter.all false
set_option maxRecDepth 100000
set_option maxHeartbeats 4000000
namespace V1
open PySem PySem.Spec PyProof.Rows L2
variable {P : Program} {w : World} {K : PySem.W.Frag} {mg : Str → Option Value} {base : Heap}
theorem v_left (l sd : Int) (c : Addr) (s : Int) : valV (dct l sd c s) (.inr "left") = some (.int l) := rfl
theorem v_seed (l sd : Int) (c : Addr) (s : Int) : valV (dct l sd c s) (.inr "seed") = some (.int sd) := rfl
theorem v_cells (l sd : Int) (c : Addr) (s : Int) : valV (dct l sd c s) (.inr "cells") = some (.ref c) := rfl
theorem v_spot (l sd : Int) (c : Addr) (s : Int) : valV (dct l sd c s) (.inr "spot") = some (.int s) := rfl
theorem p_left (l sd : Int) (c : Addr) (s x : Int) : putK (dct l sd c s) (.inr "left") (.int x) = dct x sd c s := rfl
theorem p_spot (l sd : Int) (c : Addr) (s x : Int) : putK (dct l sd c s) (.inr "spot") (.int x) = dct l sd c x := rfl
theorem h_get {σ : L2.St} {H : Hp} {p : Addr} {kvs : List (Key × V)} {x : Str} {v : V} {Q : VK} (h0 : σ[0]? = some (some (V.ref p))) (e : H p = some (.dK kvs)) (hv : valV kvs (.inr x) = some v) (q : Q v H) : tDGet (tVar 0) (tC (.str x)) σ H Q :=
  ⟨V.ref p, h0, p, v, rfl, by rw [← hv]; exact DGet.k (k := .inr x) e, q⟩
theorem h_put {σ : L2.St} {H H1 : Hp} {p : Addr} {kvs : List (Key × V)} {x : Str} {v : V} {te : TE} {D : Ends} (h0 : σ[0]? = some (some (V.ref p))) (e : H p = some (.dK kvs)) (hl : kvs.length < sizeLine) (ht : ∀ Q : VK, Q v H → te σ H Q) (q : D.nx σ (upd H p (.dK (putK kvs (.inr x) v)))) : sDPut (tVar 0) (tC (.str x)) te D σ H :=
  ht _ ⟨V.ref p, h0, p, _, rfl, DPut.k (k := .inr x) e hl, q⟩
theorem dct_len (l sd : Int) (c : Addr) (s : Int) : (dct l sd c s).length < sizeLine := by
  show 4 < sizeLine
  exact Nat.lt_of_lt_of_le (by decide) (show 100000 ≤ sizeLine by decide)
theorem mR_put {T : List (Addr × Str)} {p c : Addr} {n : Nat} {H : Hp} {l sd s l' s' : Int} (hP : H p = some (.dK (dct l sd c s))) (hT : LamX.Tabs T H) (h1 : s ≤ s') (h2 : s' ≤ s + (n : Int)) : mR T p c n H (upd H p (.dK (dct l' sd c s'))) := by
  have ne : ∀ b u, H b = some u → (∀ kvs, u ≠ .dK kvs) → b ≠ p := fun b u e k z => by
    rw [z, hP] at e
    exact k _ (Option.some.inj e).symm
  refine ⟨fun q o e z _ => ?_, fun l2 sd2 s2 e => ?_, fun b z => ?_, fun r hr => ?_⟩
  · have hq : q ≠ p := z.elim id fun k => ne q o e k
    rw [upd_ne hq]
    exact e
  · rw [hP] at e
    have e2 : dct l sd c s = dct l2 sd2 c s2 := HO.dK.inj (Option.some.inj e)
    unfold dct at e2
    simp at e2
    obtain ⟨rfl, rfl, rfl⟩ := e2
    exact ⟨l', s', upd_same, h1, h2⟩
  · by_cases hb : b = p
    · rw [hb, upd_same]
      simp
    · rw [upd_ne hb]
      exact z
  · obtain ⟨ps, a1, a2, a3⟩ := hT r hr
    refine ⟨ps, by rw [upd_ne (ne _ _ a1 (fun kvs z => by cases z))]; exact a1, a2, fun pos cv hc => ?_⟩
    obtain ⟨c0, e1, e2⟩ := a3 pos cv hc
    refine ⟨c0, e1, ?_⟩
    rw [upd_ne (ne _ _ e2 (fun kvs z => by unfold LamX.CodeO at z; cases z))]
    exact e2
theorem cmul_l {i j : Int} (h1 : 0 ≤ i) (h2 : i < 2 ^ 64) : CMul i j := .inl ⟨by omega, h2⟩
theorem cmul_r {i j : Int} (h1 : 0 ≤ j) (h2 : j < 2 ^ 64) : CMul i j := .inr ⟨by omega, h2⟩

abbrev s_law_draw : Stmt := top 28
abbrev n_law_draw : List Str := ["m", "bound", "found", "spot", "cells", "extra", "cell", "blend"]
theorem sc_law_draw : FnScope n_law_draw ["m", "bound"] (defScope s_law_draw) := ⟨rfl, rfl, rfl, by decide +kernel, rfl, by decide +kernel, by decide +kernel⟩
def sp_law_draw (K : PySem.W.Frag) : Sp := spM K 1 (fun b : Nat => [mark, .int (b : Int)]) (fun b => 0 < b ∧ b < 2 ^ 30) fun b d => ∃ r : Nat, r < b ∧ d = .int (r : Int)
theorem ok_law_draw {f : Addr} {fd : FuncData} (T : Bt K mg) (D : Df K mg "_law_draw" s_law_draw ["m", "bound"] f fd) : Cal P w K mg base "_law_draw" s_law_draw ["m", "bound"] 1 (sp_law_draw K) f fd := by
  refine ok_A D sc_law_draw (fun _ => rfl) fun cdv A outer s H E hgd hr => ⟨_, (pss_cons (ps_if (pt_cmpR op_gt (pe_dget (hu_of hr) (pv 0) pe_str (fun _ _ => rfl)) pe_int (nomark _)) (pss_cons (ps_set (i := 2) sc_law_draw.nd rfl (Or.inl rfl) (pe_op op_modN (pe_callTy call_int1 (by rfl) T.int (by decide +kernel) (pa_cons (pe_dget (hu_of hr) (pv 0) pe_str (fun _ _ => rfl)) pa_nil)) (pv 1)))
        (pss_cons (ps_dput (hu_of hr) (pv 0) pe_str (pe_op op_fdivW (pe_dget (hu_of hr) (pv 0) pe_str (fun _ _ => rfl)) (pv 1)) rfl)
        (pss_one (ps_ret (pv 2))))) pss_nil)
        (pss_cons (ps_set (i := 3) sc_law_draw.nd rfl (Or.inl rfl) (pe_dget (hu_of hr) (pv 0) pe_str (fun _ _ => rfl)))
        (pss_cons (ps_dput (hu_of hr) (pv 0) pe_str (pe_op op_add (pv 3) pe_int) rfl)
        (pss_cons (ps_par (i := 4) (j := 5) rfl sc_law_draw.nd rfl rfl (by decide) rfl rfl (pa_cons (pe_dget (hu_of hr) (pv 0) pe_str (fun _ _ => rfl)) (pa_cons (pe_op op_add (pe_dget (hu_of hr) (pv 0) pe_str (fun _ _ => rfl)) (pe_op op_mul (pe_op op_mul pe_int (pv 3)) (pv 3))) pa_nil)) (by rfl))
        (pss_cons (ps_set (i := 6) sc_law_draw.nd rfl (Or.inl rfl) (pe_ix (ix_listK (K := K) rfl) (pv 4) (pe_op op_modN (pe_callTy call_int1 (by rfl) T.int (by decide +kernel) (pa_cons (pv 3) pa_nil)) (pe_callB call_len_seq (by rfl) T.len PySem.boot_len (pa_cons (pv 4) pa_nil))) (fun _ _ => rfl)))
        (pss_cons (ps_set (i := 7) sc_law_draw.nd rfl (Or.inl rfl) (pe_op op_modN (pe_callTy call_int1 (by rfl) T.int (by decide +kernel) (pa_cons (pe_op op_add (pe_op op_mul (pv 6) (pe_op op_add (pe_op op_mul pe_int (pv 3)) pe_int)) (pv 5)) pa_nil)) pe_int))
        (pss_cons (ps_set (i := 7) sc_law_draw.nd rfl (Or.inl rfl) (pe_op op_modN (pe_callTy call_int1 (by rfl) T.int (by decide +kernel) (pa_cons (pe_op op_add (pe_op op_add (pe_op op_mul (pv 7) (pv 7)) (pe_op op_mul pe_int (pv 3))) (pe_dget (hu_of hr) (pv 0) pe_str (fun _ _ => rfl))) pa_nil)) pe_int))
        (pss_one (ps_ret (pe_op op_modN (pe_op op_fdivW (pe_op op_modN (pe_callTy call_int1 (by rfl) T.int (by decide +kernel) (pa_cons (pe_op op_add (pe_op op_mul (pv 7) pe_int) (pv 3)) pa_nil)) pe_int) pe_int) (pv 1))))))))))), ?_⟩
  rintro L hK ⟨K', T', p, c, ns, hne, rfl⟩ b ⟨hb0, hb1⟩ A σ H hi he hg DD q1 q2
  have hK2 : K' = K := hK
  subst hK2
  obtain ⟨v0, hv0, d0⟩ := he.2 0 mark rfl
  obtain ⟨v1, hv1, d1⟩ := he.2 1 (.int (b : Int)) rfl
  obtain rfl := d1.int
  have hp0 : v0 = .ref p := by
    rcases d0 with ⟨_, h⟩ | h
    · exact h
    · cases h
  subst hp0
  have hl : σ.length = 8 := he.1
  obtain ⟨a0, a1, a2, a3, a4, a5, a6, a7, rfl⟩ : ∃ a0 a1 a2 a3 a4 a5 a6 a7, σ = [a0, a1, a2, a3, a4, a5, a6, a7] := by
    match σ, hl with
    | [a0, a1, a2, a3, a4, a5, a6, a7], _ => exact ⟨a0, a1, a2, a3, a4, a5, a6, a7, rfl⟩
  have e0 : a0 = some (.ref p) := Option.some.inj hv0
  have e1 : a1 = some (.int (b : Int)) := Option.some.inj hv1
  subst e0 e1
  clear hi he d0 d1 hv0 hv1 hl q1
  obtain ⟨⟨l, sd, s, hP, hC, hs0, hs1⟩, hTb⟩ := hg
  have hb : (b : Int) ≠ 0 := by omega
  have hbp : (0 : Int) < (b : Int) := by omega
  have mod_b : ∀ x : Int, ∃ r : Nat, r < b ∧ x.fmod (b : Int) = (r : Int) := fun x => by
    rw [Int.fmod_eq_emod_of_nonneg _ (by omega)]
    have h1 := Int.emod_nonneg x hb
    have h2 := Int.emod_lt_of_pos x hbp
    exact ⟨(x % (b : Int)).toNat, by omega, by omega⟩
  have hcd : ∀ x : Int, CDivW x (b : Int) := fun x => wide_div (b := 30) hbp (nb hb1) (by decide) (by decide)
  refine h_get rfl hP (v_left l sd c s) ⟨l, 0, rfl, rfl, _, rfl, ?_⟩
  by_cases hl0 : (0 : Int) < l
  · rw [decide_eq_true hl0]
    obtain ⟨r, hr1, hr2⟩ := mod_b l
    refine h_get rfl hP (v_left l sd c s) (.inl ⟨l, rfl, ⟨.int (b : Int), rfl, l, b, rfl, rfl, hb, ?_⟩⟩)
    refine h_get rfl hP (v_left l sd c s) ⟨.int (b : Int), rfl, l, b, rfl, rfl, hcd l, .ref p, rfl, p, _, rfl, DPut.k (k := .inr "left") hP (dct_len l sd c s), ?_⟩
    refine ⟨.int (l.fmod b), rfl, q2 _ (.int (r : Int)) _ ?_ (by rw [hr2]; exact .inr (.int _)) ⟨r, hr1, rfl⟩⟩
    rw [p_left]
    exact mR_put hP hTb (Int.le_refl _) (by omega)
  · rw [decide_eq_false hl0]
    have hs2 : s < 2 ^ 50 := by omega
    have hn0 : 0 < ns.length := List.length_pos_iff.mpr hne
    refine h_get rfl hP (v_spot l sd c s) ?_
    refine ⟨.int s, rfl, s, 1, rfl, rfl, .ref p, rfl, p, _, rfl, DPut.k (k := .inr "spot") hP (dct_len l sd c s), ?_⟩
    rw [p_spot]
    have hne2 : c ≠ p := fun z => by
      rw [z, hP] at hC
      cases hC
    generalize hH1 : upd H p (.dK (dct l sd c (s + 1))) = H1
    have hP1 : H1 p = some (.dK (dct l sd c (s + 1))) := by rw [← hH1]; exact upd_same
    have hC1 : H1 c = some (.lst (ns.map V.int)) := by rw [← hH1, upd_ne hne2]; exact hC
    have c1 : CMul 40503 s := cmul_l (by decide) (by decide)
    refine h_get rfl hP1 (v_cells l sd c _) (h_get rfl hP1 (v_seed l sd c _) ⟨.int s, rfl, 40503, s, rfl, rfl, c1, ⟨.int s, rfl, _, s, rfl, rfl, cmul_r hs0 (by omega), sd, _, rfl, rfl, _, _, rfl, ?_⟩⟩)
    refine ⟨.ref c, rfl, .int s, rfl, .inl ⟨s, rfl, .ref c, rfl, c, ns.map V.int, rfl, .inl (SqL.of hC1), s, _, rfl, rfl, by rw [List.length_map]; omega, ?_⟩⟩
    have hmod : ∀ (x y : Int), 0 < y → 0 ≤ x.fmod y ∧ x.fmod y < y := fun x y hy => by
      rw [Int.fmod_eq_emod_of_nonneg _ (by omega)]
      exact ⟨Int.emod_nonneg x (by omega), Int.emod_lt_of_pos x hy⟩
    obtain ⟨m1, m2⟩ := hmod s ((ns.map V.int).length : Nat) (by rw [List.length_map]; omega)
    generalize hk : s.fmod ((ns.map V.int).length : Nat) = k at m1 m2
    obtain ⟨cell, hcell⟩ : ∃ cell : Int, atI (ns.map V.int) k = some (.int cell) := by
      unfold atI ixN
      rw [if_pos m1, if_pos m2]
      have hkn : k.toNat < ns.length := by rw [List.length_map] at m2; omega
      refine ⟨ns[k.toNat], ?_⟩
      show (ns.map V.int)[k.toNat]? = _
      rw [List.getElem?_map, List.getElem?_eq_getElem hkn]
      rfl
    refine ⟨c, ns.map V.int, k, .int cell, rfl, congrArg V.int hk, SqL.of hC1, hcell, ?_⟩
    refine ⟨.int cell, rfl, .int s, rfl, 2, s, rfl, rfl, cmul_l (by decide) (by decide), 2 * s, 3, rfl, rfl, cell, 2 * s + 3, rfl, rfl, cmul_r (by omega) (by omega), V.int (sd + 40503 * s * s), rfl, cell * (2 * s + 3), sd + 40503 * s * s, rfl, rfl, .inl ⟨_, rfl, cell * (2 * s + 3) + (sd + 40503 * s * s), 2147483647, rfl, rfl, (show (2147483647 : Int) ≠ 0 by decide), ?_⟩⟩
    obtain ⟨b1, b2⟩ := hmod (cell * (2 * s + 3) + (sd + 40503 * s * s)) 2147483647 (by decide)
    generalize hbl : (cell * (2 * s + 3) + (sd + 40503 * s * s)).fmod 2147483647 = bl at b1 b2
    refine ⟨.int bl, congrArg (fun z => some (some (V.int z))) hbl, .int bl, congrArg (fun z => some (some (V.int z))) hbl, bl, bl, rfl, rfl, cmul_l b1 (by omega), .int s, rfl, 69621, s, rfl, rfl, cmul_l (by decide) (by decide), bl * bl, 69621 * s, rfl, rfl, ?_⟩
    refine h_get rfl hP1 (v_seed l sd c _) ⟨_, _, rfl, rfl, .inl ⟨_, rfl, bl * bl + 69621 * s + sd, 2147483629, rfl, rfl, (show (2147483629 : Int) ≠ 0 by decide), ?_⟩⟩
    obtain ⟨d1, d2⟩ := hmod (bl * bl + 69621 * s + sd) 2147483629 (by decide)
    generalize hbl2 : (bl * bl + 69621 * s + sd).fmod 2147483629 = bl2 at d1 d2
    have hcd11 : ∀ x : Int, CDivW x 11 := fun x => wide_div (b := 30) (by decide) (by decide) (by decide) (by decide)
    refine ⟨.int bl2, congrArg (fun z => some (some (V.int z))) hbl2, bl2, 48271, rfl, rfl, cmul_r (by decide) (by decide), .int s, rfl, bl2 * 48271, s, rfl, rfl, .inl ⟨_, rfl, bl2 * 48271 + s, 2147483647, rfl, rfl, (show (2147483647 : Int) ≠ 0 by decide), (bl2 * 48271 + s).fmod 2147483647, 11, rfl, rfl, hcd11 _, .int (b : Int), rfl, (bl2 * 48271 + s).fmod 2147483647 / 11, b, rfl, rfl, hb, ?_⟩⟩
    obtain ⟨r, hr1, hr2⟩ := mod_b ((bl2 * 48271 + s).fmod 2147483647 / 11)
    refine q2 _ (.int (r : Int)) _ ?_ (by show Dq _ A H1 (V.int (((bl2 * 48271 + s).fmod 2147483647 / 11).fmod (b : Int))) _; rw [hr2]; exact .inr (.int _)) ⟨r, hr1, rfl⟩
    rw [← hH1]
    exact mR_put hP hTb (by omega) (by omega)

abbrev s_law_begun : Stmt := top 27
abbrev n_law_begun : List Str := ["script", "k", "cells", "great", "seed", "cell"]
theorem sc_law_begun : FnScope n_law_begun ["script", "k"] (defScope s_law_begun) := ⟨rfl, rfl, rfl, by decide +kernel, rfl, by decide +kernel, by decide +kernel⟩
def sp_law_begun (K : PySem.W.Frag) : Sp := fun vs H Q _ => ∃ (T' : List (Addr × Str)) (a : Addr) (sc : List Int) (k : Nat), vs = [.ref a, .int (k : Int)] ∧ SqL K H a (sc.map V.int) ∧ LamX.Tabs T' H ∧ k ≤ 4 ∧ sc.length ≤ 63 ∧
  ∀ p c l sd ns H', (tabL K T').R 0 H H' → H p = none → ns ≠ [] → H' p = some (.dK (dct l sd c 0)) → H' c = some (.lst (ns.map V.int)) → Q (.ref p) H'
theorem len_law_begun : ∀ vs H Q E, sp_law_begun K vs H Q E → vs.length = (["script", "k"] : List Str).length := fun vs H Q E ⟨T', a, sc, k, e, _⟩ => by rw [e]; rfl
theorem tab_put {T : List (Addr × Str)} {p : Addr} {H H7 : Hp} {kvs kvs' : List (Key × V)} (r : (tabL K T).R 0 H H7) (hp : H p = none) (h7 : H7 p = some (.dK kvs)) : (tabL K T).R 0 H (upd H7 p (.dK kvs')) := by
  have ne : ∀ b u, H7 b = some u → (∀ kvs, u ≠ .dK kvs) → b ≠ p := fun b u e k z => by
    rw [z, h7] at e
    exact k _ (Option.some.inj e).symm
  refine ⟨fun b o e n => by rw [upd_ne (ne_of_none e hp)]; exact r.1 b o e n, fun b z => ?_, fun x hx => ?_⟩
  · rw [upd_ne (fun y => z (by rw [y]; exact hp))]
    exact r.2.1 b z
  · obtain ⟨ps, a1, a2, a3⟩ := r.2.2 x hx
    refine ⟨ps, by rw [upd_ne (ne _ _ a1 (fun kvs z => by cases z))]; exact a1, a2, fun pos cv hc => ?_⟩
    obtain ⟨c0, e1, e2⟩ := a3 pos cv hc
    refine ⟨c0, e1, ?_⟩
    rw [upd_ne (ne _ _ e2 (fun kvs z => by unfold LamX.CodeO at z; cases z))]
    exact e2
theorem ok_law_begun {f : Addr} {fd : FuncData} (T : Bt K mg) (D : Df K mg "_law_begun" s_law_begun ["script", "k"] f fd) : Cal P w K mg base "_law_begun" s_law_begun ["script", "k"] 1 (sp_law_begun K) f fd := by
  refine ⟨D.gm, D.F, D.b, okG D.F sc_law_begun len_law_begun (fun cdv A outer s H vs Q E hgd hr h => ⟨_, (pss_cons (ps_set (i := 2) sc_law_begun.nd rfl (Or.inl rfl) (pe_op op_cat (pe_slice sl_list (pv 0) (po_some (pv 1)) po_none) (pe_slice sl_list (pv 0) po_none (po_some (pv 1)))))
        (pss_cons (ps_setLc (i := 3) (own := [("cell", 5)]) (g := gName 5) rfl sc_law_begun.nd rfl rfl (sw_true rfl rfl rfl (by decide +kernel)) (pi_list (pv 2)) (blkOk_by (own := [("cell", 5)]) (N := n_law_begun) (sc := defScope s_law_begun) (by decide +kernel)) (fun _ _ _ _ _ => (pg_name (i := 5) sc_law_begun.nd rfl (Or.inl rfl))) (fun _ _ _ _ _ => (pts_one (pt_cmpR op_ge (pv 5) (pe_op op_pow pe_int pe_int) (nomark _)))) (fun _ _ _ _ _ => (pv 5)))
        (pss_cons (ps_set (i := 4) sc_law_begun.nd rfl (Or.inl rfl) (pe_op op_add pe_int (pv 1)))
        (pss_cons (ps_for PassesOwn.never rfl (pi_list (pv 2)) (pg_name (i := 5) sc_law_begun.nd rfl (Or.inl rfl))
        (pss_one (ps_set (i := 4) sc_law_begun.nd rfl (Or.inl rfl) (pe_op op_modN (pe_callTy call_int1 (by rfl) T.int (by decide +kernel) (pa_cons (pe_op op_add (pe_op op_mul (pv 4) pe_int) (pv 5)) pa_nil)) pe_int))))
        (pss_one (ps_ret (pe_disp (pps_cons pe_str (pe_ifExp (pt_cmpR (op_neD hr.units) (pv 3) (pe_lst pa_nil) (nomark _)) (pe_ix (ix_listK (K := K) rfl) (pv 3) pe_int (fun _ _ => rfl)) pe_int) (pps_cons pe_str (pv 4) (pps_cons pe_str (pe_op op_cat (pv 2) (pe_lst (pa_cons (pe_op op_add (pe_op op_mul pe_int (pv 1)) pe_int) pa_nil))) (pps_cons pe_str pe_int pps_nil)))) (by rfl) (by rfl) (fun z => by cases z) (by decide)))))))), ?_⟩)⟩
  obtain ⟨T', a, sc, k, rfl, hsc, hT, hk, hl, q⟩ := h
  have he : EnvOk (scL K T' a sc) (fun _ => False) (L2.start n_law_begun [V.ref a, .int (k : Int)]) H [some mark, some (.int (k : Int)), none, none, none, none] := ⟨rfl, fun i d e => by
    match i, e with
    | 0, e =>
      have e1 : mark = d := Option.some.inj (Option.some.inj e)
      subst e1
      exact ⟨_, rfl, .inl ⟨rfl, rfl⟩⟩
    | 1, e =>
      have e1 : PyData.int (k : Int) = d := Option.some.inj (Option.some.inj e)
      subst e1
      exact ⟨_, rfl, .inr (.int _)⟩
    | 2, e => cases e
    | 3, e => cases e
    | 4, e => cases e
    | 5, e => cases e
    | i + 6, e => cases e⟩
  have hi : Inn (fun _ => False) H := fun b z => z.elim
  refine (?run : SX (scL K T' a sc) (fun _ => False) H _ _ [some mark, some (.int (k : Int)), none, none, none, none]) _ H hi he ⟨hsc, hT⟩ ((tabL K T').same (H := H) hT (Same.refl H))
  case run =>
    refine sx_asgG (eg_catG (P1 := fun zs => zs.length ≤ sc.length) (P2 := fun zs => zs.length ≤ sc.length) (eg_slS (i := 0) rfl (eo_some (eg_var (i := 1) rfl)) eo_none) (eg_slS (i := 0) rfl eo_none (eo_some (eg_var (i := 1) rfl))) (fun xs ys h1 h2 => by omega)) ?_
    rintro d ⟨xs, ys, hx, hy, rfl⟩
    generalize hc : xs ++ ys = cs
    have hcl : cs.length ≤ 126 := by rw [← hc, List.length_append]; omega
    clear hc hx hy
    refine sx_asgG (eg_lcT (js := [5]) (vs := [5]) (items := cs.map .int) (Pt := fun r => ∃ z : Int, r = .int z) (wk_list (eg_var (i := 2) rfl)) (by simp) (by rw [List.length_map]; omega) (fun i d hd => ?_)) ?_
    · obtain ⟨n, _, _, rfl⟩ := map_at hd
      exact ⟨_, tg_name, ⟨_, et_test (eg_ge (eg_var rfl) (eg_pow eg_int eg_int (by unfold CPow; decide)))⟩, EvG.mono (eg_var rfl) (Nat.le_refl _) fun r e => by rw [e]; exact ⟨(fun z => by cases z), n, rfl⟩⟩
    rintro d ⟨rs, rfl, hrl, hrs⟩
    obtain ⟨gs, rfl, hgl, _⟩ := enc_of (enc := PyData.int) (P := fun _ : Int => True) (rs := rs) fun i d e => let ⟨z, hz⟩ := hrs i d e; ⟨z, trivial, hz⟩
    refine sx_asgG (EvG.mono (eg_add (eg_int (i := 91)) (eg_var (i := 1) rfl)) (Nat.le_refl _) fun d e => e) ?_
    rintro d rfl
    refine sx_sg (N := fun G => ∃ s x, G = [some mark, some (.int (k : Int)), some (lI cs), some (.list (gs.map .int)), some (.int s), x]) (sg_for (js := [5]) (fun i G => ∃ s x, G = [some mark, some (.int (k : Int)), some (lI cs), some (.list (gs.map .int)), some (.int s), x]) (wk_list (eg_var (i := 2) rfl)) ⟨_, none, rfl⟩ (fun i d G hd ⟨s, x, eG⟩ => by
      subst eG
      obtain ⟨n, hn, _, rfl⟩ := map_at hd
      exact ⟨_, tg_name (j := 5), sg_asg (i := 4) (eg_mod (eg_cb (ea_cons (eg_add (eg_mulN (C := CMul) (eg_var (i := 4) rfl) (eg_int (i := 48271)) (cmul_r (by decide) (by decide))) (eg_var (i := 5) rfl)) ea_nil) cs_int) (eg_int (i := 2147483647)) (by decide)) ⟨_, _, rfl⟩⟩) fun G hG => hG) ?_
    rintro G ⟨sd, x, rfl⟩ σ3 H3 hi3 he3 hg3 r3
    have r13 : (tabL K T').R 0 H H3 := r3
    -- the dict
    intro p hp
    have rp : Same H3 (upd H3 p (.dK [])) := fun b o z => by rw [upd_ne (ne_of_none z hp)]; exact z
    have he4 : EnvOk (scL K T' a sc) (fun _ => False) σ3 (upd H3 p (.dK [])) _ := he3.r (L := scL K T' a sc) (n := 0) ((tabL K T').same (H := H3) hg3.2 rp)
    have hP4 : (upd H3 p (.dK [])) p = some (.dK []) := upd_same
    have hg4 : (scL K T' a sc).G 0 (upd H3 p (.dK [])) := ⟨SqL.same hg3.1 rp, hg3.2.ext rp⟩
    have rp2 : (tabL K T').R 0 H3 (upd H3 p (.dK [])) := (tabL K T').same (H := H3) hg3.2 rp
    generalize upd H3 p (.dK []) = H4 at rp rp2 he4 hP4 hg4
    have left : EvG (scL K T' a sc) 0 (tIf (tTest (tOp (rNeD K) (tVar 3) (tLst tNil))) (tOp (rIxL K) (tVar 3) (tC (.int 0))) (tC (.int 0))) [some mark, some (.int (k : Int)), some (lI cs), some (.list (gs.map .int)), some (.int sd), x] (fun d => ∃ l : Int, d = .int l) := by
      cases gs with
      | nil => exact EvG.mono (eg_if (d := .int 0) (et_test (eg_neNil (zs := []) (eg_var (i := 3) rfl))) (fun z => by cases z) fun _ => eg_int) (Nat.le_refl _) fun d e => ⟨0, e⟩
      | cons g gs => exact EvG.mono (eg_if (d := .int g) (et_test (eg_neNil (zs := g :: gs) (eg_var (i := 3) rfl))) (fun _ => eg_ixL (eg_var (i := 3) rfl) eg_int (atI_zero _ _)) fun z => by cases z) (Nat.le_refl _) fun d e => ⟨g, e⟩
    show tIf _ _ _ σ3 H4 _
    refine left _ σ3 H4 (fun b z => z.elim) he4 hg4 _ fun v1 d H5 r5 hv1 ⟨l, e⟩ => ?_
    subst e
    obtain rfl := hv1.int
    have he5 := he4.r r5
    obtain ⟨v2, hs2, hv2⟩ := he5.2 4 (.int sd) rfl
    obtain rfl := hv2.int
    refine ⟨_, hs2, ?_⟩
    show tOp rCat _ _ σ3 H5 _
    refine eg_cat (L := scL K T' a sc) (ds := cs.map .int) (es := [.int (61 * (k : Int) + 17)]) (eg_var (i := 2) rfl) (eg_lst (ea_cons (eg_add (eg_mulN (C := CMul) (eg_int (i := 61)) (eg_var (i := 1) rfl) (cmul_l (by decide) (by decide))) (eg_int (i := 17))) ea_nil)) (by rw [List.length_map]; show _ + 1 ≤ _; omega) _ σ3 H5 (fun b z => z.elim) he5 ⟨SqL.ext hg4.1 r5.1, r5.2.2⟩ _ fun v3 d H7 r7 hv3 e => ?_
    subst e
    obtain ⟨c, xs7, rfl, _, e7, r7'⟩ := hv3.list
    have e8 : (cs.map PyData.int ++ [.int (61 * (k : Int) + 17)]) = (cs ++ [61 * (k : Int) + 17]).map .int := by rw [List.map_append]; rfl
    rw [e8] at r7'
    rw [r7'.ints] at e7
    have r47 : (tabL K T').R 0 H4 H7 := (tabL K T').tr (a := 0) (b := 0) r5 r7
    have hP7 := r47.1 _ _ hP4 (fun ps z => by cases z)
    refine ⟨hP7, [(.inr "left", .int l), (.inr "seed", .int sd), (.inr "cells", .ref c), (.inr "spot", .int 0)], rfl, (show 4 ≤ 15 by decide), ?_⟩
    have hcp : c ≠ p := fun z => by
      rw [z, hP7] at e7
      cases e7
    have r17 : (tabL K T').R 0 H H7 := (tabL K T').tr (a := 0) (b := 0) r13 ((tabL K T').tr (a := 0) (b := 0) rp2 r47)
    refine q p c l sd (cs ++ [61 * (k : Int) + 17]) _ (tab_put r17 ((tabL K T').free (a := 0) r13 hp) hP7) ((tabL K T').free (a := 0) r13 hp) (by simp) upd_same (by rw [upd_ne hcp]; exact e7)

abbrev s_law_like : Stmt := top 30
abbrev n_law_like : List Str := ["told", "due"]
theorem sc_law_like : FnScope n_law_like ["told", "due"] (defScope s_law_like) := ⟨rfl, rfl, rfl, by decide +kernel, rfl, by decide +kernel, by decide +kernel⟩
def sp_law_like (K : PySem.W.Frag) : Sp := spR K (fun d : PyData => [d, d]) Sh fun _ => .bool true
theorem ok_law_like {f : Addr} {fd : FuncData} (T : Bt K mg) (D : Df K mg "_law_like" s_law_like ["told", "due"] f fd) : Cal P w K mg base "_law_like" s_law_like ["told", "due"] 1 (sp_law_like K) f fd := by
  refine ok_R D sc_law_like (fun _ => rfl) fun cdv A outer s H E hgd hr => ⟨_, (pss_one (ps_ret (pe_cmpR op_eq (pe_callB (call_repr hgd hr.units) (by rfl) T.repr (by decide +kernel) (pa_cons (pv 0) pa_nil)) (pe_callB (call_repr hgd hr.units) (by rfl) T.repr (by decide +kernel) (pa_cons (pv 1) pa_nil)) (nomark _)))), ?_⟩
  rintro d ⟨h0, h1, h2, h3, h4⟩
  show SG (pureL K) 0 _ [some d, some d] _ _
  have e : PyData.bool (decide (d.shown = d.shown)) = .bool true := by rw [decide_eq_true rfl]
  rcases h0 with ⟨ds, rfl⟩ | ⟨ds, rfl⟩
  · exact sg_ret ((eg_eqS (eg_cb (ea_cons (eg_var rfl) ea_nil) (cs_reprL h1 h2 h3 h4)) (eg_cb (ea_cons (eg_var rfl) ea_nil) (cs_reprL h1 h2 h3 h4))).to e) rfl
  · exact sg_ret ((eg_eqS (eg_cb (ea_cons (eg_var rfl) ea_nil) (cs_reprT h1 h2 h3 h4)) (eg_cb (ea_cons (eg_var rfl) ea_nil) (cs_reprT h1 h2 h3 h4))).to e) rfl

section
variable {L : Rl} {Γ : List (Option PyData)} {t : TA} {te ta tb : TE} {E : XK} {a b c m n : Nat} {P1 P2 P3 P4 : PyData → Prop}
theorem eg_draw (hS : SM L) {b : Nat} (hb : 0 < b ∧ b < 2 ^ 30) (h0 : Γ[0]? = some (some mark)) : EvG L 1 (tCall (sp_law_draw L.K) [] E (tCons (tVar 0) (tCons (tC (.int (b : Int))) tNil))) Γ (fun d => ∃ z : Int, (0 ≤ z ∧ z < (b : Int)) ∧ d = .int z) :=
  EvG.mono (eg_callM hS b (ea_cons (eg_var h0) (ea_cons eg_int ea_nil)) hb) (Nat.le_refl _) fun d ⟨r, h1, e⟩ => ⟨(r : Int), ⟨by omega, by omega⟩, e⟩
end

end V1
set_option Elab.async false
set_option linter.all false
set_option maxRecDepth 100000
set_option maxHeartbeats 4000000
namespace V1
open PySem PySem.Spec PyProof.Rows L2
variable {P : Program} {w : World} {K : PySem.W.Frag} {mg : Str → Option Value} {base : Heap}
abbrev s_law_of : Stmt := top 29
abbrev n_law_of : List Str := ["m", "some"]
theorem sc_law_of : FnScope n_law_of ["m", "some"] (defScope s_law_of) := ⟨rfl, rfl, rfl, by decide +kernel, rfl, by decide +kernel, by decide +kernel⟩
def sp_law_of (K : PySem.W.Frag) : Sp := spM K 1 (fun ds : List PyData => [mark, .list ds]) (fun ds => ds ≠ [] ∧ ds.length ≤ 100) fun ds d => d ∈ ds
theorem ok_law_of {f : Addr} {fd : FuncData} (T : Bt K mg) (D : Df K mg "_law_of" s_law_of ["m", "some"] f fd)
    {f_law_draw : Addr} {d_law_draw : FuncData} (h_law_draw : Cal P w K mg base "_law_draw" s_law_draw ["m", "bound"] 1 (sp_law_draw K) f_law_draw d_law_draw) : Cal P w K mg base "_law_of" s_law_of ["m", "some"] 2 (sp_law_of K) f fd := by
  refine ok_A D sc_law_of (fun _ => rfl) fun cdv A outer s H E hgd hr => ⟨_, (pss_one (ps_ret (pe_ix (ix_listK (K := K) rfl) (pv 1) (pe_fn (E := E0) h_law_draw.G hgd (hr.mono (by decide)) (by rfl) h_law_draw.gm h_law_draw.kp h_law_draw.b (pa_cons (pv 0) (pa_cons (pe_callB call_len_seq (by rfl) T.len PySem.boot_len (pa_cons (pv 1) pa_nil)) pa_nil))) (fun _ _ => rfl)))), ?_⟩
  rintro L rfl hS ds ⟨h1, h2⟩
  show SG L 1 _ [some mark, some (.list ds)] _ _
  have hl : 0 < ds.length := List.length_pos_iff.mpr h1
  refine sg_retG (EvG.mono (a := 0 + 1) (eg_opG (P := fun d => d ∈ ds) (eg_var rfl) (EvG.mono (eg_callM hS ds.length (ea_cons (eg_var rfl) (ea_cons (eg_cb (ea_cons (eg_var rfl) ea_nil) cs_lenL) ea_nil)) ⟨hl, Nat.lt_of_le_of_lt h2 (by decide)⟩) (Nat.le_refl _) fun d h => h) ?_) (Nat.le_refl _) fun d h => h) fun d h => h
  rintro d1 d2 rfl ⟨r, hr, rfl⟩
  have hat : atI ds (r : Int) = some ds[r] := by
    unfold atI ixN
    rw [if_pos (by omega), if_pos (by omega)]
    show ds[(r : Int).toNat]? = _
    rw [Int.toNat_natCast, List.getElem?_eq_getElem hr]
  exact fun A H x y hi hg hx hy Q q => os_ixL hat A H x y hi hg hx hy Q fun v d H' r' hv e => q v d H' r' hv (by rw [e]; exact List.getElem_mem hr)

end V1
set_option Elab.async false
set_option linter.all false
set_option maxRecDepth 100000
set_option maxHeartbeats 4000000
namespace V1
open PySem PySem.Spec PyProof.Rows L2
variable {P : Program} {w : World} {K : PySem.W.Frag} {mg : Str → Option Value} {base : Heap}
theorem call_tupleK {X : Cx} {K : PySem.W.Frag} (h : X.K = K) : CallR X (.type "tuple") (fun xs H Q => ∃ p ys, xs = [.ref p] ∧ ((SqL K H p ys ∧ ∀ l, H l = none → Q (.ref l) (upd H l (.tup ys))) ∨ (SqT K H p ys ∧ Q (.ref p) H))) := h ▸ call_tuple_of
theorem call_lenK {X : Cx} {K : PySem.W.Frag} (h : X.K = K) : CallR X (.builtin "len") (fun xs H Q => ∃ p ys, xs = [.ref p] ∧ (SqL K H p ys ∨ SqT K H p ys) ∧ Q (.int ys.length) H) := h ▸ call_len_seq
section
variable {L : Rl} {Γ : List (Option PyData)} {t : TA} {te ta tb : TE} {tt tu : TT} {ts u z : TS} {E : XK} {a b c m n : Nat} {N : List (Option PyData) → Prop} {Rt : PyData → Prop}
/-- tuples, one behind the other; the left one isn't empty -/
theorem eg_catTG {P1 P2 : List PyData → Prop} (ha : EvG L a ta Γ (fun d => ∃ ds, d = .tuple ds ∧ P1 ds)) (hb : EvG L b tb Γ (fun d => ∃ ds, d = .tuple ds ∧ P2 ds)) (h1 : ∀ ds, P1 ds → ds ≠ [] ∧ ds.length ≤ 100000) (h2 : ∀ ds, P2 ds → ds.length ≤ 100000) : EvG L (a + b) (tOp (rCatT L.K) ta tb) Γ (fun d => ∃ ds es, d = .tuple (ds ++ es) ∧ P1 ds ∧ P2 es) :=
  eg_opG ha hb fun d1 d2 ⟨ds, e1, p1⟩ ⟨es, e2, p2⟩ => by
    subst e1 e2
    intro A H x y hi hg hx hy Q q
    obtain ⟨p, xs, rfl, e, r⟩ := hx.tuple
    obtain ⟨p2', ys, rfl, e2, r2⟩ := hy.tuple
    obtain ⟨n1, l1⟩ := h1 ds p1
    have l2 := h2 es p2
    have hxs : xs ≠ [] := fun z => n1 (List.length_eq_zero_iff.mp (by rw [← r.length, z]; rfl))
    refine ⟨p, p2', xs, ys, rfl, rfl, e.sq, e2.sq, hxs, Nat.le_trans (by rw [r.length, r2.length]; exact Nat.add_le_add l1 l2) (by decide), fun z => ?_, fun z l hl => ?_⟩
    · have e3 : es = [] := List.length_eq_zero_iff.mp (by rw [← r2.length, z]; rfl)
      subst e3
      exact q _ (.tuple ds) H (Rl.refl hg) (.inr (e.dv r)) ⟨ds, [], by rw [List.append_nil], p1, p2⟩
    · have rr := Rl.newR (o := .tup (xs ++ ys)) hg hl
      exact q _ (.tuple (ds ++ es)) _ rr (.inr (.tup (hi.no hl) upd_same ((r.app r2).r rr))) ⟨ds, es, rfl, p1, p2⟩
theorem eg_tupleG {P : List PyData → Prop} (h : EvG L a te Γ (fun d => ∃ ds, d = .list ds ∧ P ds)) : EvG L a (tCB (fun xs H Q => ∃ p ys, xs = [.ref p] ∧ ((SqL L.K H p ys ∧ ∀ l, H l = none → Q (.ref l) (upd H l (.tup ys))) ∨ (SqT L.K H p ys ∧ Q (.ref p) H))) (tCons te tNil)) Γ (fun d => ∃ ds, d = .tuple ds ∧ P ds) := fun A σ H hi he hg Q q =>
  h A σ H hi he hg _ fun v d H1 r1 hv ⟨ds, e, p⟩ => by
    subst e
    obtain ⟨b, xs, rfl, na, e, r⟩ := hv.list
    refine ⟨b, xs, rfl, .inl ⟨SqL.of e, fun l hl2 => ?_⟩⟩
    have rr := Rl.newR (o := .tup xs) (Rl.gR (b := 0) hg r1) hl2
    exact q _ _ _ (L.tr (b := 0) r1 rr) (.inr (.tup ((hi.r r1).no hl2) upd_same (r.r rr))) ⟨ds, rfl, p⟩
/-- a comprehension: things of one kind -/
theorem eg_lcP {P : PyData → Prop} {PI1 : List PyData → Prop} {wi : TI} {g : TG} {js vs : List Nat} (hP : ∀ d, P d → d ≠ mark) (hw : WkG L a wi Γ PI1) (hj : ∀ j ∈ js, j ∈ vs) (hlen : ∀ items, PI1 items → items.length ≤ b) (hb1 : b ≤ 1000)
    (hb : ∀ items, PI1 items → ∀ (i : Nat) d, items[i]? = some d → ∃ Γ', TgG L g js d (wipeD Γ vs) Γ' ∧ EvG L c te Γ' P) : EvG L (a + b * c) (tLc wi g tYes te vs) Γ (fun r => ∃ ds, r = .list ds ∧ ∃ items, PI1 items ∧ ds.length = items.length ∧ ∀ d ∈ ds, P d) :=
  EvG.mono (eg_lcG (a := a) (b := b) (c := c) (Pt := fun _ _ r => P r) hw hj (fun its e => ⟨hlen its e, hb1⟩) fun its e i d hd => by
    obtain ⟨Γ', h1, h2⟩ := hb its e i d hd
    exact ⟨Γ', h1, EvG.mono h2 (Nat.le_refl _) fun r h => ⟨hP r h, h⟩⟩) (Nat.le_refl _) fun r ⟨its, rs, e1, e2, e3, e4⟩ => ⟨rs, e2, its, e1, e3, fun d hd => by
    obtain ⟨i, hi⟩ := List.getElem?_of_mem hd
    exact e4 i d hi⟩
theorem inV_str (w : Str) (ws : List Str) : inV (.str w) (ws.map V.str) = decide (w ∈ ws) := by
  unfold inV
  induction ws with
  | nil => rfl
  | cons x r ih =>
    rw [List.map_cons, List.any_cons, ih]
    by_cases h : w = x
    · subst h
      have e : eqV (.str w) (.str w) = true := by simp [eqV]
      rw [e]
      simp
    · have e : eqV (.str x) (.str w) = false := by
        simp [eqV]
        exact fun z => h z.symm
      rw [e]
      simp [h]
theorem DvAll.strs {K : PySem.W.Frag} {A : Addr → Prop} {H : Hp} {xs : List V} {ws : List Str} (h : DvAll K A H xs (ws.map PyData.str)) : xs = ws.map V.str := by
  induction ws generalizing xs with
  | nil => cases h; rfl
  | cons n ns ih =>
    cases h with
    | cons a b =>
      cases a
      rw [ih b]
      rfl
theorem flat_strs (ws : List Str) : (ws.map V.str).all flatV = true := by
  induction ws with
  | nil => rfl
  | cons w r ih => rw [List.map_cons, List.all_cons, ih]; rfl
theorem eg_inS {w : Str} {ws : List Str} (ha : EvD L ta Γ (.str w)) (hb : EvD L tb Γ (.tuple (ws.map .str))) : EvD L (tOp (rIn L.K false) ta tb) Γ (.bool (decide (w ∈ ws))) := eg_op ha hb fun A H x y hi hg hx hy Q q => by
  obtain rfl := hx.str
  obtain ⟨p, xs, rfl, e, r⟩ := hy.tuple
  have ex := r.strs
  subst ex
  refine ⟨p, _, rfl, .inr e.sq, rfl, flat_strs ws, ?_⟩
  show Q (.bl (inV (.str w) (ws.map V.str))) H
  rw [inV_str]
  exact q _ _ H (Rl.refl hg) (.inr (.bl _)) rfl
theorem et_orD {k : Bool} {P : Bool → Prop} (h : EtD L tt Γ k) (h1 : k = true → P true) (h2 : k = false → EtG L a tu Γ P) : EtG L a (tOr tt tu) Γ P := fun A σ H hi he hg Q q => h A σ H hi he (L.g0 hg) _ fun H1 r1 => by
  cases k with
  | true => exact q true H1 (L.rle (Nat.zero_le _) r1) (h1 rfl)
  | false => exact h2 rfl A σ H1 (hi.r r1) (he.r r1) (Rl.gR (a := 0) (by rw [Nat.zero_add]; exact hg) r1) Q fun k H2 r2 p => q k H2 (L.rle (Nat.le_of_eq (Nat.zero_add _)) (L.tr r1 r2)) p
theorem et_testG {P : Bool → Prop} (h : EvG L a te Γ (fun d => ∃ k, d = .bool k ∧ P k)) : EtG L a (tTest te) Γ P := fun A σ H hi he hg Q q => h A σ H hi he hg _ fun v d H1 r1 hv ⟨k, e, p⟩ => by
  subst e
  obtain rfl := hv.bool
  exact ⟨k, rfl, q k H1 r1 p⟩
theorem eg_eqIG {P1 : Int → Prop} {j : Int} (ha : EvG L a ta Γ (fun d => ∃ i, P1 i ∧ d = .int i)) (hb : EvD L tb Γ (.int j)) : EvG L (a + 0) (tOp rEq ta tb) Γ (fun d => ∃ k, d = .bool k ∧ True) := eg_opG ha hb fun d1 d2 ⟨i, _, e1⟩ e2 => by
  subst e1 e2
  intro A H x y hi hg hx hy Q q
  obtain rfl := hx.int
  obtain rfl := hy.int
  exact ⟨rfl, q _ (.bool (decide (V.int i = V.int j))) H (Rl.refl hg) (.inr (.bl _)) ⟨_, rfl, trivial⟩⟩
theorem sq_ifG {P : Bool → Prop} (h : EtG L a tt Γ P) (h1 : P true → SG L b (tSeq ts z) Γ N Rt) (h2 : P false → SG L b (tSeq u z) Γ N Rt) : SG L (a + b) (tSeq (tIfS tt ts u) z) Γ N Rt := fun A σ H hi he hg D q1 q2 => h A σ H hi he (L.gle (Nat.le_add_right _ _) hg) _ fun k H1 r1 p => by
  have fin : ∀ {tx : TS}, SG L b tx Γ N Rt → tx D σ H1 := fun {tx} hx => hx A σ H1 (hi.r r1) (he.r r1) (Rl.gR hg r1) D
    (fun σ2 H2 Γ2 r2 e2 p2 => q1 σ2 H2 Γ2 (L.tr r1 r2) e2 p2) fun v d H2 r2 e2 p2 => q2 v d H2 (L.tr r1 r2) e2 p2
  cases k with
  | true => exact fin (h1 p)
  | false => exact fin (h2 p)
theorem sg_retqG {P : PyData → Prop} (h : EvG L a te Γ P) (k : ∀ d, P d → Rt d) : SG L a (tSeq (tRet te) z) Γ N Rt := fun A σ H hi he hg D q1 q2 => h A σ H hi he hg _ fun v d H1 r hv p => q2 v d H1 r hv (k d p)
end

end V1
set_option Elab.async false
set_option linter.all false
set_option maxRecDepth 100000
set_option maxHeartbeats 4000000
/-! (rules) tuple * int for any int, tuple + tuple, slices of tuples: by data. -/
namespace V1
open PySem PySem.Spec PyProof.Rows L2
theorem tmul_self (l : Addr) (items : Array Value) (n : Nat) (dd : Option Addr) (sl : Array (Option Value)) (x : Int) (u : Tok) (c0 : (decide (x < -(2 ^ 63)) || decide (x ≥ 2 ^ 63)) = false) (c1 : (items.isEmpty || x == 1) = true) :
    Meets (Builtin.«tuple.__mul__» ⟨[.ref l, .int x u], []⟩) (fun _ R s => s.heap.get? l = some { cls := .type "tuple", dict := dd, data := .seq items n, slots := sl } ∧ R (.ok (.ret (Value.ref l))) s) :=
  .of_wp fun prog w A R s h => by
    obtain ⟨hp, g, d, tk, os⟩ := s
    obtain ⟨hl, h⟩ := h
    have f1 := AutoSeq1.idx_int
    wp_walk using wpAny_loadPart' hl
    repeat (first
      | (refine wpAny_ite_false (decide_eq_false (by rw [c0]; exact Bool.false_ne_true)) ?_; wp_walk using wpAny_loadPart' hl)
      | (refine wpAny_ite_true (decide_eq_true c1) ?_; wp_walk using wpAny_loadPart' hl)
      | (refine wpAny_ite_true (by simpa using c1) ?_; wp_walk using wpAny_loadPart' hl))
    exact ⟨_, rfl, h⟩
theorem tmul_none (l : Addr) (items : Array Value) (n : Nat) (dd : Option Addr) (sl : Array (Option Value)) (x : Int) (u : Tok) (c0 : (decide (x < -(2 ^ 63)) || decide (x ≥ 2 ^ 63)) = false) (c1 : (items.isEmpty || x == 1) = false) (c2 : (decide (x ≤ 0) || items.isEmpty) = true) :
    Meets (Builtin.«tuple.__mul__» ⟨[.ref l, .int x u], []⟩) (fun _ R s => s.heap.get? l = some { cls := .type "tuple", dict := dd, data := .seq items n, slots := sl } ∧
      R (.ok (.ret (Value.ref s.heap.objs.size))) { s with heap := s.heap.push { cls := Value.type "tuple", data := Data.seq #[] }, toks := s.toks }) :=
  .of_wp fun prog w A R s h => by
    obtain ⟨hp, g, d, tk, os⟩ := s
    obtain ⟨hl, h⟩ := h
    have f1 := AutoSeq1.idx_int
    wp_walk using wpAny_loadPart' hl
    repeat (first
      | (refine wpAny_ite_false (decide_eq_false (by rw [c0]; exact Bool.false_ne_true)) ?_; wp_walk using wpAny_loadPart' hl)
      | (refine wpAny_ite_false (decide_eq_false (by rw [c1]; exact Bool.false_ne_true)) ?_; wp_walk using wpAny_loadPart' hl)
      | (refine wpAny_ite_true (decide_eq_true c2) ?_; wp_walk using wpAny_loadPart' hl))
    exact ⟨_, rfl, h⟩

/-- t * k -/
def rRepA (K : PySem.W.Frag) : R2 := fun x y H Q => ∃ l k xs, x = .ref l ∧ y = .int k ∧ SqT K H l xs ∧ 0 ≤ k ∧ k ≤ 1000 ∧ xs.length ≤ 1000 ∧ ((xs = [] ∨ k = 1) → Q (.ref l) H) ∧
  (xs ≠ [] → k ≠ 1 → ∀ p, H p = none → Q (.ref p) (upd H p (.tup (List.replicate k.toNat xs).flatten)))
theorem op_repA {X : Cx} : OpR X (binaryOp .Mult) (rRepA X.K) := by
  intro pins s σ H x y v u Q I rx ry h
  obtain ⟨l, k, xs, rfl, rfl, hT, h1, h2, hz, q0, q1⟩ := h
  by_cases hs : xs ≠ [] ∧ 2 ≤ k
  · exact op_repT pins s σ H _ _ v u Q I rx ry ⟨l, k, xs, rfl, rfl, hT, hs.1, hs.2, h2, hz, q1 hs.1 (by omega)⟩
  cases rx
  obtain ⟨t, rfl⟩ := ry
  obtain ⟨its, r, ⟨⟨cls, dd, data, sl⟩, ho, hc, n, hd⟩, hsz⟩ := I.tuple hT
  simp only at hc hd
  subst hc hd
  have hle : its.length = xs.length := r.length.symm
  have c0 : (decide (k < -(2 ^ 63)) || decide (k ≥ 2 ^ 63)) = false := by
    rw [decide_eq_false (by omega), decide_eq_false (by omega)] <;> rfl
  have ie : its.toArray.isEmpty = xs.isEmpty := by
    cases its with
    | nil =>
      have : xs = [] := List.length_eq_zero_iff.mp (by rw [← hle]; rfl)
      subst this
      rfl
    | cons a b =>
      cases xs with
      | nil => simp at hle
      | cons c d => rfl
  have go : ∀ {R : Result → Shared → Prop}, (codeAny (model X.prog X.w) X.A (.call (.builtin "tuple.__mul__") ⟨[.ref l, .int k t], []⟩) R s → codeAny (model X.prog X.w) X.A (.call (.builtin "tuple.__mul__") ⟨[.ref l, .int k t], []⟩) R s) := fun h => h
  by_cases hone : xs = [] ∨ k = 1
  · have c1 : (its.toArray.isEmpty || k == 1) = true := by
      rw [ie]
      rcases hone with z | z
      · rw [z]; rfl
      · rw [z]; simp
    exact wpAny_binaryOp_repeat_ref (T := "tuple") (U := "int") (by decide) ⟨_, ho, rfl⟩ (fun s' => typeIs_int s' k t) noFill_tuple_mul F.fills_int_mul F.slot_int_rmul repeat_tuple F.slot_int_index.lookup
      (call_meets F.slot_int_rmul (typeIs_int s k t) F.entry_int_rmul (F.args_int_rmul_2 _ _) (int_rmul_tuple k t l its.toArray n dd sl)
        ⟨ho, rfl, ⟨_, ho, rfl⟩, call_meets F.slot_tuple_mul ⟨_, ho, rfl⟩ F.entry_tuple_mul (F.args_tuple_mul_2 _ _) (tmul_self l its.toArray n dd sl k t c0 c1) ⟨ho, ⟨.ref l, H, I, rfl, q0 hone⟩⟩⟩)
  · have hx : xs ≠ [] := fun z => hone (.inl z)
    have hk1 : k ≠ 1 := fun z => hone (.inr z)
    have hk : k = 0 := by
      by_cases h2 : 2 ≤ k
      · exact absurd ⟨hx, h2⟩ hs
      · omega
    subst hk
    have xe : xs.isEmpty = false := by
      cases xs with
      | nil => exact absurd rfl hx
      | cons c d => rfl
    have c1 : (its.toArray.isEmpty || (0 : Int) == 1) = false := by rw [ie, xe]; rfl
    have c2 : (decide ((0 : Int) ≤ 0) || its.toArray.isEmpty) = true := by simp
    refine wpAny_binaryOp_repeat_ref (T := "tuple") (U := "int") (by decide) ⟨_, ho, rfl⟩ (fun s' => typeIs_int s' 0 t) noFill_tuple_mul F.fills_int_mul F.slot_int_rmul repeat_tuple F.slot_int_index.lookup
      (call_meets F.slot_int_rmul (typeIs_int s 0 t) F.entry_int_rmul (F.args_int_rmul_2 _ _) (int_rmul_tuple 0 t l its.toArray n dd sl)
        ⟨ho, rfl, ⟨_, ho, rfl⟩, call_meets F.slot_tuple_mul ⟨_, ho, rfl⟩ F.entry_tuple_mul (F.args_tuple_mul_2 _ _) (tmul_none l its.toArray n dd sl 0 t c0 c1 c2) ⟨ho, ?_⟩⟩)
    refine ⟨.ref s.heap.objs.size, _, I.laid (t' := s.toks) (o := .tup []) (fun b ob q => Heap.get?_push_of_some _ q) (Nat.le_refl _) ?_, rfl, q1 hx (by decide) _ (I.hok.fresh (Nat.le_refl _))⟩
    exact ⟨by rw [sizeLine_eq]; exact Nat.zero_le _, _, .nil, IsTup.new _ _⟩
section
variable {L : Rl} {Γ : List (Option PyData)} {t : TA} {te ta tb : TE} {tt tu : TT} {E : XK} {a b c m n : Nat}
theorem dv_tup0 {A : Addr → Prop} {H : Hp} {p : Addr} {xs : List V} {ds : List PyData} (h : TpAt L.K A H p xs) (r : DvAll L.K A H xs ds) : Dq L A H (.ref p) (.tuple ds) := .inr (h.dv r)
theorem eg_catA {ds es : List PyData} (ha : EvD L ta Γ (.tuple ds)) (hb : EvD L tb Γ (.tuple es)) (hl : ds.length + es.length ≤ 100000) : EvD L (tOp (rCatA L.K) ta tb) Γ (.tuple (ds ++ es)) := eg_op ha hb fun A H x y hi hg hx hy Q q => by
  obtain ⟨p, xs, rfl, e, r⟩ := hx.tuple
  obtain ⟨p2, ys, rfl, e2, r2⟩ := hy.tuple
  refine ⟨p, p2, xs, ys, rfl, rfl, e.sq, e2.sq, Nat.le_trans (by rw [r.length, r2.length]; exact hl) (by decide), fun z => ?_, fun _ z => ?_, fun _ _ l hl2 => ?_⟩
  · have e3 : ds = [] := List.length_eq_zero_iff.mp (by rw [← r.length, z]; rfl)
    subst e3
    exact q _ _ H (Rl.refl hg) (dv_tup0 e2 r2) (by rw [List.nil_append])
  · have e3 : es = [] := List.length_eq_zero_iff.mp (by rw [← r2.length, z]; rfl)
    subst e3
    exact q _ _ H (Rl.refl hg) (dv_tup0 e r) (by rw [List.append_nil])
  · have rr := Rl.newR (o := .tup (xs ++ ys)) hg hl2
    exact q _ _ _ rr (.inr (.tup (hi.no hl2) upd_same ((r.app r2).r rr))) rfl
theorem rep_one {α : Type} (xs : List α) : (List.replicate (1 : Int).toNat xs).flatten = xs := by
  show [xs].flatten = xs
  simp
theorem rep_nil {α : Type} (n : Nat) : (List.replicate n ([] : List α)).flatten = [] := by
  induction n with
  | zero => rfl
  | succ n ih => rw [List.replicate_succ, List.flatten_cons, ih]; rfl
theorem eg_repA {ds : List PyData} {k : Int} (ha : EvD L ta Γ (.tuple ds)) (hb : EvD L tb Γ (.int k)) (h0 : 0 ≤ k) (h1 : k ≤ 1000) (hl : ds.length ≤ 1000) : EvD L (tOp (rRepA L.K) ta tb) Γ (.tuple (List.replicate k.toNat ds).flatten) := eg_op ha hb fun A H x y hi hg hx hy Q q => by
  obtain ⟨p, xs, rfl, e, r⟩ := hx.tuple
  obtain rfl := hy.int
  refine ⟨p, k, xs, rfl, rfl, e.sq, h0, h1, by rw [r.length]; exact hl, fun z => ?_, fun _ _ l hl2 => ?_⟩
  · refine q _ _ H (Rl.refl hg) (dv_tup0 e r) ?_
    rcases z with z | z
    · have e3 : ds = [] := List.length_eq_zero_iff.mp (by rw [← r.length, z]; rfl)
      subst e3
      rw [rep_nil]
    · subst z
      rw [rep_one]
  · have rr := Rl.newR (o := .tup (List.replicate k.toNat xs).flatten) hg hl2
    exact q _ _ _ rr (.inr (.tup (hi.no hl2) upd_same ((r.rep _).r rr))) rfl
theorem cut_whole {ds : List PyData} {lo hi : Option Int} (h : HT.sIx ds.length 0 lo = 0 ∧ HT.sIx ds.length ds.length hi = ds.length) : cutD ds lo hi = ds := by
  unfold cutD
  rw [h.1, h.2]
  simp
theorem eg_slA {ds : List PyData} {tl th : TO} {lo0 hi0 : Option Int} (h : EvD L te Γ (.tuple ds)) (h1 : EoD L tl Γ lo0) (h2 : EoD L th Γ hi0) : EvD L (tSl (rSlA L.K) te tl th) Γ (.tuple (cutD ds lo0 hi0)) := fun A σ H hi he hg Q q => h A σ H hi he hg _ fun x d1 H1 r1 hx p => by
  subst p
  refine h1 A σ H1 (hi.r r1) (he.r r1) (Rl.gR (b := 0) hg r1) _ fun H2 r2 => h2 A σ H2 ((hi.r r1).r r2) ((he.r r1).r r2) (Rl.gR (b := 0) (Rl.gR (b := 0) hg r1) r2) _ fun H3 r3 => ?_
  have g3 : L.G 0 H3 := Rl.gR (b := 0) (Rl.gR (b := 0) (Rl.gR (b := 0) hg r1) r2) r3
  obtain ⟨p, xs, rfl, e, r⟩ := ((hx.r r2).r r3).tuple
  have r13 := L.tr (a := 0) (b := 0) (L.tr (a := 0) (b := 0) r1 r2) r3
  refine ⟨p, xs, rfl, e.sq, fun hw => ?_, fun hw q1 hq => ?_⟩
  · rw [r.length] at hw
    rw [cut_whole hw] at q
    exact q _ _ H3 r13 (dv_tup0 e r) rfl
  · have rr := Rl.newR (o := .tup (cutV xs lo0 hi0)) g3 hq
    exact q _ _ _ (L.tr (a := 0) (b := 0) r13 rr) (.inr (.tup ((((hi.r r1).r r2).r r3).no hq) upd_same ((r.cut lo0 hi0).r rr))) rfl
end
/-! ### equality of data, x in t -/
mutual
theorem nd_lay : ∀ d : PyData, d.canLay0 = true → d.hasDict = false
  | .none, _ => rfl
  | .bool _, _ => rfl
  | .int _, _ => rfl
  | .str _, _ => rfl
  | .list ds, h => by
    simp only [PyData.hasDict]
    exact nd_layA ds (by simpa only [PyData.canLay0] using h)
  | .tuple ds, h => by
    simp only [PyData.hasDict]
    exact nd_layA ds (by simpa only [PyData.canLay0] using h)
  | .dict _, h => by simp [PyData.canLay0] at h
theorem nd_layA : ∀ ds : List PyData, PyData.canLayAll0 ds = true → PyData.hasDictAll ds = false
  | [], _ => by simp only [PyData.hasDictAll]
  | d :: ds, h => by
    simp only [PyData.canLayAll0, Bool.and_eq_true] at h
    simp only [PyData.hasDictAll, nd_lay d h.1, nd_layA ds h.2, Bool.or_self]
end
theorem nd_shaped {d : PyData} (h : SeqAt.shaped d = true) : d.hasDict = false := nd_lay d (by
  unfold SeqAt.shaped at h
  rw [Bool.and_eq_true] at h
  exact h.1)
theorem dp_of {K : PySem.W.Frag} {L : Rl} {A : Addr → Prop} {H : Hp} {v : V} {d : PyData} (hK : L.K = K) (h : Dq L A H v d) (hd : d ≠ mark) (hs : SeqAt.shaped d = true) : Dp K H v d := hK ▸ (h.ne hd).dp (K := L.K) (nd_shaped hs)
def rInT (K : PySem.W.Frag) : R2 := fun x y H Q => ∃ d ds, Dp K H x d ∧ Dp K H y (.tuple ds) ∧ SeqAt.shaped d = true ∧ SeqAt.shaped (.tuple ds) = true ∧ Q (.bl (ds.any fun z => PyData.eqv z d)) H
theorem op_inT {X : Cx} (hu : X.A.units + 65 < cLine) : OpR X (compareOp .In) (rInT X.K) := by
  intro pins s σ H x y v u Q I rx ry h
  obtain ⟨d, ds, hd, he, sd, se, q⟩ := h
  obtain ⟨as, r1⟩ := Dp.reads I d x v hd rx
  obtain ⟨bs, r2⟩ := Dp.reads I (.tuple ds) y u he ry
  exact SeqAt.in_tuple_reads r2 r1 (SeqAt.canLay_of_shaped se) (SeqAt.canLay_of_shaped sd) (room_in_shaped sd hu) ⟨.bl _, H, I, rfl, q⟩
section
variable {L : Rl} {Γ : List (Option PyData)} {t : TA} {te ta tb : TE}
theorem eg_eqD {d e : PyData} (ha : EvD L ta Γ d) (hb : EvD L tb Γ e) (hd : d ≠ mark) (he : e ≠ mark) (h1 : SeqAt.shaped d = true) (h2 : SeqAt.shaped e = true) : EvD L (tOp (rEqD L.K) ta tb) Γ (.bool (PyData.eqv d e)) := eg_op ha hb fun A H x y hi hg hx hy Q q =>
  ⟨d, e, dp_of rfl hx hd h1, dp_of rfl hy he h2, h1, h2, q _ _ H (Rl.refl hg) (.inr (.bl _)) rfl⟩
theorem eg_neD {d e : PyData} (ha : EvD L ta Γ d) (hb : EvD L tb Γ e) (hd : d ≠ mark) (he : e ≠ mark) (h1 : SeqAt.shaped d = true) (h2 : SeqAt.shaped e = true) : EvD L (tOp (rNeD L.K) ta tb) Γ (.bool (!PyData.eqv d e)) := eg_op ha hb fun A H x y hi hg hx hy Q q =>
  ⟨d, e, dp_of rfl hx hd h1, dp_of rfl hy he h2, h1, h2, q _ _ H (Rl.refl hg) (.inr (.bl _)) rfl⟩
theorem eg_inT {d : PyData} {ds : List PyData} (ha : EvD L ta Γ d) (hb : EvD L tb Γ (.tuple ds)) (hd : d ≠ mark) (h1 : SeqAt.shaped d = true) (h2 : SeqAt.shaped (.tuple ds) = true) : EvD L (tOp (rInT L.K) ta tb) Γ (.bool (ds.any fun z => PyData.eqv z d)) := eg_op ha hb fun A H x y hi hg hx hy Q q =>
  ⟨d, ds, dp_of rfl hx hd h1, dp_of rfl hy (by intro z; cases z) h2, h1, h2, q _ _ H (Rl.refl hg) (.inr (.bl _)) rfl⟩
theorem eqv_tup0 (ds : List PyData) : PyData.eqv (.tuple ds) (.tuple []) = ds.isEmpty := by
  cases ds with
  | nil => rfl
  | cons d ds => rfl
theorem eqv_tup1 (y : PyData) (z : Str) : PyData.eqv (.tuple [.str z]) (.tuple [y]) = (match y with | .str x => z == x | _ => false) := by
  cases y <;> simp [PyData.eqv, PyData.eqvAll]
/-! ### isinstance by data -/
def isTup : PyData → Bool
  | .tuple _ => true
  | _ => false
def isStr : PyData → Bool
  | .str _ => true
  | _ => false
theorem kit_tup {d : PyData} (h : d.hasDict = false) : kitB (kindN d) "tuple" = some (isTup d) := by
  cases d with
  | dict k => simp [PyData.hasDict] at h
  | none => exact (show kitB "NoneType" "tuple" = some false by decide +kernel)
  | bool b => exact (show kitB "bool" "tuple" = some false by decide +kernel)
  | int b => exact (show kitB "int" "tuple" = some false by decide +kernel)
  | str b => exact (show kitB "str" "tuple" = some false by decide +kernel)
  | list b => exact (show kitB "list" "tuple" = some false by decide +kernel)
  | tuple b => exact (show kitB "tuple" "tuple" = some true by decide +kernel)
theorem kit_str {d : PyData} (h : d.hasDict = false) : kitB (kindN d) "str" = some (isStr d) := by
  cases d with
  | dict k => simp [PyData.hasDict] at h
  | none => exact (show kitB "NoneType" "str" = some false by decide +kernel)
  | bool b => exact (show kitB "bool" "str" = some false by decide +kernel)
  | int b => exact (show kitB "int" "str" = some false by decide +kernel)
  | str b => exact (show kitB "str" "str" = some true by decide +kernel)
  | list b => exact (show kitB "list" "str" = some false by decide +kernel)
  | tuple b => exact (show kitB "tuple" "str" = some false by decide +kernel)
theorem hd_nm {d : PyData} (h : d.hasDict = false) : d ≠ mark := fun z => by
  rw [z] at h
  simp [PyData.hasDict] at h
theorem eg_isT {d : PyData} (h : EvD L te Γ d) (hd : d.hasDict = false) : EvD L (tCB (rIsi L.K) (tCons te (tCons (tC (.ty "tuple")) tNil))) Γ (.bool (isTup d)) := eg_isi h (hd_nm hd) (kit_tup hd)
theorem eg_isS {d : PyData} (h : EvD L te Γ d) (hd : d.hasDict = false) : EvD L (tCB (rIsi L.K) (tCons te (tCons (tC (.ty "str")) tNil))) Γ (.bool (isStr d)) := eg_isi h (hd_nm hd) (kit_str hd)
/-! ### the signs of a text, chains, all -/
def signsD (z : Str) : List PyData := z.cps.toList.map fun c => PyData.str ⟨#[c]⟩
theorem wk_str {z : Str} (h : EvD L te Γ (.str z)) : WkD L (iStr te) Γ (signsD z) := fun A σ H hi he hg R q => h A σ H hi he hg _ fun x d1 H1 r1 hx p => by
  subst p
  obtain rfl := hx.str
  have hl : (signsD z).length = z.cps.size := by unfold signsD; rw [List.length_map, Array.length_toList]
  refine ⟨z, rfl, q _ H1 _ r1 rfl ⟨fun i H' k hi => ?_, fun i H' x H'' k hA y hi => ?_, fun H' k => ?_⟩⟩
  · show i < z.cps.size
    omega
  · obtain ⟨rfl, c, hc, rfl⟩ := y
    refine ⟨.str ⟨#[c]⟩, ?_, Same.refl _, fun A' _ _ => .str _⟩
    unfold signsD
    rw [List.getElem?_map, Array.getElem?_toList, hc]
    rfl
  · show z.cps.size ≤ (signsD z).length
    omega
theorem eg_chainI {i j k : Int} {tc : TE} {a b : Int → Int → Bool} (ha : EvD L ta Γ (.int i)) (hb : EvD L tb Γ (.int j)) (hc : EvD L tc Γ (.int k)) : EvD L (tChain (rI0 fun i j => .bl (a i j)) (rI0 fun i j => .bl (b i j)) ta tb tc) Γ (.bool (a i j && b j k)) := fun A σ H hi he hg Q q =>
  ha A σ H hi he hg _ fun x d1 H1 r1 hx e1 => hb A σ H1 (hi.r r1) (he.r r1) (Rl.gR (b := 0) hg r1) _ fun y d2 H2 r2 hy e2 => by
    subst e1 e2
    obtain rfl := hx.int
    obtain rfl := hy.int
    refine ⟨i, j, rfl, rfl, _, rfl, ?_⟩
    have r12 := L.tr (a := 0) (b := 0) r1 r2
    cases h : a i j with
    | true =>
      rw [if_pos rfl]
      refine hc A σ H2 ((hi.r r1).r r2) ((he.r r1).r r2) (Rl.gR (b := 0) hg r12) _ fun w d3 H3 r3 hw e3 => ?_
      subst e3
      obtain rfl := hw.int
      exact ⟨j, k, rfl, rfl, q _ _ H3 (L.tr (a := 0) (b := 0) r12 r3) (.inr (.bl _)) (by rw [h, Bool.true_and])⟩
    | false =>
      rw [if_neg (by decide)]
      exact q _ _ H2 r12 (.inr (.bl _)) (by rw [h]; rfl)
def rS2 (f : Str → Str → Bool) : R2 := fun x y H Q => ∃ i j, x = .str i ∧ y = .str j ∧ Q (.bl (f i j)) H
theorem eg_chainS {i j k : Str} {tc : TE} {a b : Str → Str → Bool} (ha : EvD L ta Γ (.str i)) (hb : EvD L tb Γ (.str j)) (hc : EvD L tc Γ (.str k)) : EvD L (tChain (rS2 a) (rS2 b) ta tb tc) Γ (.bool (a i j && b j k)) := fun A σ H hi he hg Q q =>
  ha A σ H hi he hg _ fun x d1 H1 r1 hx e1 => hb A σ H1 (hi.r r1) (he.r r1) (Rl.gR (b := 0) hg r1) _ fun y d2 H2 r2 hy e2 => by
    subst e1 e2
    obtain rfl := hx.str
    obtain rfl := hy.str
    refine ⟨i, j, rfl, rfl, _, rfl, ?_⟩
    have r12 := L.tr (a := 0) (b := 0) r1 r2
    cases h : a i j with
    | true =>
      rw [if_pos rfl]
      refine hc A σ H2 ((hi.r r1).r r2) ((he.r r1).r r2) (Rl.gR (b := 0) hg r12) _ fun w d3 H3 r3 hw e3 => ?_
      subst e3
      obtain rfl := hw.str
      exact ⟨j, k, rfl, rfl, q _ _ H3 (L.tr (a := 0) (b := 0) r12 r3) (.inr (.bl _)) (by rw [h, Bool.true_and])⟩
    | false =>
      rw [if_neg (by decide)]
      exact q _ _ H2 r12 (.inr (.bl _)) (by rw [h]; rfl)
theorem DvAll.bls {K : PySem.W.Frag} {A : Addr → Prop} {H : Hp} {xs : List V} {bs : List Bool} (h : DvAll K A H xs (bs.map PyData.bool)) : xs = bs.map V.bl := by
  induction bs generalizing xs with
  | nil => cases h; rfl
  | cons n ns ih =>
    cases h with
    | cons a b =>
      cases a
      rw [ih b]
      rfl
theorem eg_all {bs : List Bool} (h : EvD L te Γ (.list (bs.map .bool))) : EvD L (tCB (rAll L.K) (tCons te tNil)) Γ (.bool (bs.all id)) := fun A σ H hi he hg Q q => h A σ H hi he hg _ fun x d H1 r1 hx e => by
  subst e
  obtain ⟨p, xs, rfl, na, e, r⟩ := hx.list
  rw [r.bls] at e
  exact ⟨p, bs, rfl, SqL.of e, q _ _ H1 r1 (.inr (.bl _)) rfl⟩
end
end V1
set_option Elab.async false
set_option linter.all false
set_option maxRecDepth 100000
set_option maxHeartbeats 4000000
/-! k12: what the top has beside; shared. -/
namespace V1
open PySem PySem.Spec PyProof.Rows L2
abbrev wordsW : List Str := ["ge", "gt", "eq"]
structure Cst (K : PySem.W.Frag) (w : World) (mg : Str → Option Value) where
  gcd : mg "gcd" = some (.builtin "math.gcd")
  wd : Addr
  h_WORDS : mg "WORDS" = some (.ref wd)
  h_MOST_PAIRS : ∃ u, mg "MOST_PAIRS" = some u ∧ RelV (.int 60) u
  s_wd : ∀ H, SqT K H wd (wordsW.map V.str)
theorem call_isiK {X : Cx} {K : PySem.W.Frag} (h : X.K = K) : CallR X (.builtin "isinstance") (rIsi K) := h ▸ call_isi
theorem hd_ne {d : PyData} (h : d.hasDict = false) : d ≠ mark := fun z => by
  rw [z] at h
  simp [PyData.hasDict] at h
theorem hd_nomk {d : PyData} (h : d.hasDict = false) : nomk [d] = true := by
  cases d with
  | dict k => simp [PyData.hasDict] at h
  | _ => rfl
theorem hd_nomk2 {d e : PyData} (h : d.hasDict = false) (h2 : e.hasDict = false) : nomk [d, e] = true := by
  cases d with
  | dict k => simp [PyData.hasDict] at h
  | _ => cases e with
    | dict k => simp [PyData.hasDict] at h2
    | _ => rfl
theorem hd_mem {ds : List PyData} (h : (PyData.tuple ds).hasDict = false) : ∀ d ∈ ds, d.hasDict = false := by
  have h1 : PyData.hasDictAll ds = false := by simpa only [PyData.hasDict] using h
  clear h
  induction ds with
  | nil => intro d hd; simp at hd
  | cons x r ih =>
    simp only [PyData.hasDictAll, Bool.or_eq_false_iff] at h1
    intro d hd
    rcases List.mem_cons.mp hd with rfl | hd
    · exact h1.1
    · exact ih h1.2 d hd
theorem len_bulkA : ∀ (ds : List PyData), ds.length ≤ PyData.bulkAll ds
  | [] => Nat.zero_le _
  | d :: ds => by
    have := len_bulkA ds
    simp only [PyData.bulkAll, List.length_cons]
    omega
theorem len_bulk (ds : List PyData) : ds.length ≤ (PyData.tuple ds).bulk := by
  have := len_bulkA ds
  simpa only [PyData.bulk] using this
theorem pe_gc {X : Cx} {x : Str} {v : V} {pos : Pos} (hg : Gl X x) (h : ∃ u, X.mg x = some u ∧ RelV v u) (hdb : (x == ("__debug__" : Str)) = false := by decide) : PE X (.Name x pos) (tC v) := by
  obtain ⟨u, h1, h2⟩ := h
  exact pe_glob hg h1 h2 hdb
/-- isinstance(x, tuple), x data or {} -/
def okE (d : PyData) : Prop := d.hasDict = false ∨ d = emD
theorem okE_ne {d : PyData} (h : okE d) : d ≠ mark := h.elim hd_ne fun e => by rw [e]; intro z; injection z with z; cases z
theorem okE_nomk {d : PyData} (h : okE d) : nomk [d] = true := h.elim hd_nomk fun e => by rw [e]; rfl
theorem kit_tupE {d : PyData} (h : okE d) : kitB (kindN d) "tuple" = some (isTup d) := h.elim kit_tup fun e => by rw [e]; exact (show kitB "dict" "tuple" = some false by decide +kernel)
theorem eg_isTE {L : Rl} {Γ : List (Option PyData)} {te : TE} {d : PyData} (h : EvD L te Γ d) (hd : okE d) : EvD L (tCB (rIsi L.K) (tCons te (tCons (tC (.ty "tuple")) tNil))) Γ (.bool (isTup d)) := eg_isi h (okE_ne hd) (kit_tupE hd)
theorem eg_words {L : Rl} {w : World} {mg : Str → Option Value} {Γ : List (Option PyData)} (C : Cst L.K w mg) : EvD L (tC (.ref C.wd)) Γ (.tuple (wordsW.map .str)) := eg_gtup C.s_wd
theorem hu65 {k : Nat} {A : Around} (r : Room k A) : A.units + 65 < cLine := by have := r.un; omega
end V1
set_option Elab.async false
set_option linter.all false
set_option maxRecDepth 100000
set_option maxHeartbeats 4000000
namespace V1
open PySem PySem.Spec PyProof.Rows L2
variable {P : Program} {w : World} {K : PySem.W.Frag} {mg : Str → Option Value} {base : Heap}

abbrev s_is_int : Stmt := top 6
abbrev n_is_int : List Str := ["value"]
theorem sc_is_int : FnScope n_is_int ["value"] (defScope s_is_int) := ⟨rfl, rfl, rfl, by decide +kernel, rfl, by decide +kernel, by decide +kernel⟩
def isIntD : PyData → Bool
  | .int _ => true
  | _ => false
def sp_is_int (K : PySem.W.Frag) : Sp := spR K (fun d : PyData => [d]) (fun d => d.hasDict = false) fun d => .bool (isIntD d)
theorem ok_is_int {f : Addr} {fd : FuncData} (T : Bt K mg) (C : Cst K w mg) (D : Df K mg "is_int" s_is_int ["value"] f fd) : Cal P w K mg base "is_int" s_is_int ["value"] 1 (sp_is_int K) f fd := by
  refine ok_R D sc_is_int (fun _ => rfl) fun cdv A outer s H E hgd hr => ⟨_, (pss_one (ps_ret (pe_and (pe_callB (id := "isinstance") (x := "isinstance") call_isi (by rfl) T.isinstance (by decide +kernel) (pa_cons (pv 0) (pa_cons (pe_bltn (x := "int") (v := .ty "int") (by rfl) T.int (by decide +kernel) rfl) pa_nil))) (pe_one (pe_not (pe_callB (id := "isinstance") (x := "isinstance") call_isi (by rfl) T.isinstance (by decide +kernel) (pa_cons (pv 0) (pa_cons (pe_bltn (x := "bool") (v := .ty "bool") (by rfl) T.bool (by decide +kernel) rfl) pa_nil)))))))), ?_⟩
  intro d hd
  have hne := hd_ne hd
  have hnm := hd_nomk hd
  show SG (pureL K) 0 _ [some d] _ _
  cases d with
  | int i => exact sg_ret ((eg_andC (L := pureL K) (a := true) (b := true) (eg_isi (n := "int") (L := pureL K) (eg_var rfl) hne (by rfl)) fun _ => eg_not (a := false) (eg_isi (n := "bool") (L := pureL K) (eg_var rfl) hne (by rfl))).to (by rfl)) rfl
  | bool b => exact sg_ret ((eg_andC (L := pureL K) (a := true) (b := false) (eg_isi (n := "int") (L := pureL K) (eg_var rfl) hne (by rfl)) fun _ => eg_not (a := true) (eg_isi (n := "bool") (L := pureL K) (eg_var rfl) hne (by rfl))).to (by rfl)) rfl
  | dict k => simp [PyData.hasDict] at hd
  | none => exact sg_ret ((eg_andC (L := pureL K) (a := false) (b := false) (eg_isi (n := "int") (L := pureL K) (eg_var rfl) hne (by rfl)) fun z => by cases z).to (by rfl)) rfl
  | str z => exact sg_ret ((eg_andC (L := pureL K) (a := false) (b := false) (eg_isi (n := "int") (L := pureL K) (eg_var rfl) hne (by rfl)) fun z => by cases z).to (by rfl)) rfl
  | list z => exact sg_ret ((eg_andC (L := pureL K) (a := false) (b := false) (eg_isi (n := "int") (L := pureL K) (eg_var rfl) hne (by rfl)) fun z => by cases z).to (by rfl)) rfl
  | tuple z => exact sg_ret ((eg_andC (L := pureL K) (a := false) (b := false) (eg_isi (n := "int") (L := pureL K) (eg_var rfl) hne (by rfl)) fun z => by cases z).to (by rfl)) rfl

abbrev s_shared_divisor : Stmt := top 9
abbrev n_shared_divisor : List Str := ["integers", "shared", "integer"]
theorem sc_shared_divisor : FnScope n_shared_divisor ["integers"] (defScope s_shared_divisor) := ⟨rfl, rfl, rfl, by decide +kernel, rfl, by decide +kernel, by decide +kernel⟩
def sp_shared_divisor (K : PySem.W.Frag) : Sp := spR K (fun p : Bool × List Int => [sqD p.1 (p.2.map .int)]) (fun _ => True) fun p => .int (gcdl p.2)
theorem ok_shared_divisor {f : Addr} {fd : FuncData} (T : Bt K mg) (C : Cst K w mg) (D : Df K mg "shared_divisor" s_shared_divisor ["integers"] f fd) : Cal P w K mg base "shared_divisor" s_shared_divisor ["integers"] 1 (sp_shared_divisor K) f fd := by
  refine ok_R D sc_shared_divisor (fun _ => rfl) fun cdv A outer s H E hgd hr => ⟨_, (pss_cons (ps_set (i := 1) sc_shared_divisor.nd rfl (Or.inl rfl) pe_int)
        (pss_cons (ps_for PassesOwn.never rfl (pi_any (pv 0)) (pg_name (i := 2) sc_shared_divisor.nd rfl (Or.inl rfl))
        (pss_one (ps_set (i := 1) sc_shared_divisor.nd rfl (Or.inl rfl) (pe_callBfun cr_gcd (by rfl) C.gcd (pa_cons (pv 1) (pa_cons (pv 2) pa_nil))))))
        (pss_one (ps_ret (pv 1))))), ?_⟩
  rintro ⟨k, ns⟩ _
  show SG (pureL K) 0 _ [some (sqD k (ns.map .int)), none, none] _ _
  refine sq_asg eg_int ?_
  refine sg_seq (N1 := fun G => G[1]? = some (some (.int (gcdl ns)))) (sg_for (js := [2]) (fun i G => ∃ x, G = [some (sqD k (ns.map .int)), some (.int (gcdl (ns.take i))), x]) (wk_any (k := k) (eg_var rfl)) ⟨none, rfl⟩ ?_ ?_) fun G hG => ?_
  · rintro i d G hd ⟨x, rfl⟩
    rw [List.getElem?_map] at hd
    cases hn : ns[i]? with
    | none => rw [hn] at hd; cases hd
    | some n =>
      rw [hn] at hd
      have hd' : PyData.int n = d := Option.some.inj hd
      subst hd'
      refine ⟨_, tg_name, sg_asg (eg_cb (ea_cons (eg_var rfl) (ea_cons (eg_var rfl) ea_nil)) cs_gcd) ⟨some (.int n), ?_⟩⟩
      have e : (ns.take (i + 1)) = ns.take i ++ [n] := by
        rw [List.take_add_one, hn]
        rfl
      have e2 : gcdl (ns.take (i + 1)) = Nat.gcd (gcdl (ns.take i)) n.natAbs := by rw [e]; unfold gcdl; rw [List.foldl_append]; rfl
      rw [e2]
      rfl
  · rintro G ⟨x, rfl⟩
    show some (some (PyData.int _)) = _
    rw [List.length_map, List.take_length]
  · exact sg_ret (eg_var hG) rfl

def intD : PyData → Int
  | .int i => i
  | _ => 0
def oddIx (ds : List PyData) : Option Nat := ds.findIdx? fun d => !isIntD d
def lastI (ds : List PyData) : Int := intD (ds.getLastD .none)
def gcdD (ds : List PyData) : Nat := gcdl (ds.map intD)
def optI : Option Int → PyData
  | some i => .int i
  | none => .none
def oddD (c : Int) (d : PyData) : Option Int := match d with
  | .tuple ds => if (ds.length : Int) = c then (oddIx ds).map fun (i : Nat) => (i : Int) else some (-1)
  | _ => some (-1)
def faultD (c : Int) (d : PyData) : Option Int := match d with
  | .tuple ds => if (ds.length : Int) = c then (match oddIx ds with
    | some i => some (i : Int)
    | none => if lastI ds < 1 then some (c - 1) else if 1 < gcdD ds then some (-2) else none) else some (-1)
  | _ => some (-1)
def noTup (c : Int) : PyData → Bool
  | .tuple ds => !decide ((ds.length : Int) = c)
  | _ => true
theorem optI_ne (o : Option Int) : optI o ≠ mark := by
  cases o with
  | none => intro z; cases z
  | some p => intro z; cases z
theorem ints_of : ∀ {ds : List PyData}, (∀ d ∈ ds, isIntD d = true) → ds = (ds.map intD).map .int
  | [], _ => rfl
  | d :: ds, h => by
    rw [List.map_cons, List.map_cons, ← ints_of (ds := ds) fun x hx => h x (List.mem_cons_of_mem _ hx)]
    congr 1
    have h1 := h d List.mem_cons_self
    cases d with
    | int i => rfl
    | _ => cases h1
theorem oddIx_some {ds : List PyData} {i : Nat} {d : PyData} (hd : ds[i]? = some d) (h : isIntD d = false) (hb : ∀ (j : Nat) x, j < i → ds[j]? = some x → isIntD x = true) : oddIx ds = some i := by
  unfold oddIx
  rw [List.findIdx?_eq_some_iff_getElem]
  obtain ⟨hl, e⟩ := List.getElem?_eq_some_iff.mp hd
  refine ⟨hl, by rw [e, h]; rfl, fun j hj => ?_⟩
  rw [hb j _ hj (List.getElem?_eq_getElem (by omega))]
  decide
theorem oddIx_none {ds : List PyData} (h : ∀ d ∈ ds, isIntD d = true) : oddIx ds = none := by
  unfold oddIx
  rw [List.findIdx?_eq_none_iff]
  intro x hx
  rw [h x hx]
  rfl
theorem oddIx_ints {ds : List PyData} (h : oddIx ds = none) : ∀ d ∈ ds, isIntD d = true := by
  unfold oddIx at h
  rw [List.findIdx?_eq_none_iff] at h
  intro x hx
  simpa using h x hx
theorem intD_int (ns : List Int) : (ns.map PyData.int).map intD = ns := by
  rw [List.map_map]
  exact (List.map_congr_left fun n _ => rfl).trans (List.map_id ns)
theorem lastI_app (ms : List Int) (w : Int) : lastI ((ms ++ [w]).map PyData.int) = w := by
  unfold lastI
  rw [List.map_append, List.map_cons, List.map_nil, List.getLastD_concat]
  rfl
section
variable {L : Rl} {Γ : List (Option PyData)} {t : TA} {te ta tb : TE} {tt tu : TT}
theorem eg_notOI {o : Option Int} (h : EvD L te Γ (optI o)) : EvD L (tOp (fun x y H Q => y = V.non ∧ Q (.bl (!decide (x = .non))) H) te (tC .non)) Γ (.bool o.isSome) := fun A σ H hi he hg Q q => h A σ H hi he hg _ fun x d H1 r1 hx e => by
  subst e
  refine ⟨rfl, ?_⟩
  cases o with
  | none =>
    have h2 := hx.ne (optI_ne none)
    cases h2
    exact q _ _ H1 r1 (.inr (.bl _)) rfl
  | some p =>
    obtain rfl := hx.int
    exact q _ _ H1 r1 (.inr (.bl _)) rfl
/-- not isinstance(x, tuple) or len(x) != n -/
theorem et_noTup {d : PyData} {c : Int} (ha : EvD L ta Γ d) (hb : EvD L tb Γ (.int c)) (hd : d.hasDict = false) : EtD L (tOr (tNot (tB (tCB (rIsi L.K) (tCons ta (tCons (tC (.ty "tuple")) tNil))))) (tTest (tOp rNe (tCB (fun xs H Q => ∃ p ys, xs = [.ref p] ∧ (SqL L.K H p ys ∨ SqT L.K H p ys) ∧ Q (.int ys.length) H) (tCons ta tNil)) tb))) Γ (noTup c d) := by
  have h1 := et_not (et_B (eg_isT ha hd))
  cases d with
  | tuple ds => exact et_or0 h1 (et_test (eg_neI (eg_cb (ea_cons ha ea_nil) cs_lenT) hb))
  | _ => exact et_or1 h1
end

abbrev s_fault_in_integers : Stmt := top 10
abbrev n_fault_in_integers : List Str := ["count", "value", "place", "integer"]
theorem sc_fault_in_integers : FnScope n_fault_in_integers ["count", "value"] (defScope s_fault_in_integers) := ⟨rfl, rfl, rfl, by decide +kernel, rfl, by decide +kernel, by decide +kernel⟩
def sp_fault_in_integers (K : PySem.W.Frag) : Sp := spR K (fun a : Int × PyData => [.int a.1, a.2]) (fun a => 1 ≤ a.1 ∧ a.2.hasDict = false) fun a => optI (faultD a.1 a.2)
theorem ok_fault_in_integers {f : Addr} {fd : FuncData} (T : Bt K mg) (C : Cst K w mg) (D : Df K mg "fault_in_integers" s_fault_in_integers ["count", "value"] f fd)
    {f_is_int : Addr} {d_is_int : FuncData} (h_is_int : Cal P w K mg base "is_int" s_is_int ["value"] 1 (sp_is_int K) f_is_int d_is_int)
    {f_shared_divisor : Addr} {d_shared_divisor : FuncData} (h_shared_divisor : Cal P w K mg base "shared_divisor" s_shared_divisor ["integers"] 1 (sp_shared_divisor K) f_shared_divisor d_shared_divisor) : Cal P w K mg base "fault_in_integers" s_fault_in_integers ["count", "value"] 2 (sp_fault_in_integers K) f fd := by
  refine ok_R D sc_fault_in_integers (fun _ => rfl) fun cdv A outer s H E hgd hr => ⟨_, (pss_cons (ps_if (PW.pt (pw_or (pt_not (pt_val (pe_callB (id := "isinstance") (x := "isinstance") call_isi (by rfl) T.isinstance (by decide +kernel) (pa_cons (pv 1) (pa_cons (pe_bltn (x := "tuple") (v := .ty "tuple") (by rfl) T.tuple (by decide +kernel) rfl) pa_nil))))) (pw_or1 (pt_cmpR op_ne (pe_callB call_len_seq (by rfl) T.len PySem.boot_len (pa_cons (pv 1) pa_nil)) (pv 0) (nomark _))))) (pss_one (ps_ret (pe_un un_neg pe_int))) pss_nil)
        (pss_cons (ps_for PassesOwn.never rfl (pi_enumP false (by rfl) T.enumerate (pa_cons (pv 1) pa_nil)) (pg_tup rfl (pgs_cons (pg_name (i := 2) sc_fault_in_integers.nd rfl (Or.inl rfl)) (pgs_cons (pg_name (i := 3) sc_fault_in_integers.nd rfl (Or.inl rfl)) pgs_nil)))
        (pss_one (ps_if (pt_not (pt_val (pe_fn (E := E0) h_is_int.G hgd (hr.mono (by decide)) (by rfl) h_is_int.gm h_is_int.kp h_is_int.b (pa_cons (pv 3) pa_nil)))) (pss_one (ps_ret (pv 2))) pss_nil)))
        (pss_cons (ps_if (pt_cmpR op_lt (pe_ix (ix_tupK (K := K) rfl) (pv 1) (pe_un un_neg pe_int) (fun _ _ => rfl)) pe_int (nomark _)) (pss_one (ps_ret (pe_op op_sub (pv 0) pe_int))) pss_nil)
        (pss_cons (ps_if (pt_cmpR op_gt (pe_fn (E := E0) h_shared_divisor.G hgd (hr.mono (by decide)) (by rfl) h_shared_divisor.gm h_shared_divisor.kp h_shared_divisor.b (pa_cons (pv 1) pa_nil)) pe_int (nomark _)) (pss_one (ps_ret (pe_un un_neg pe_int))) pss_nil)
        (pss_one (ps_ret pe_non)))))), ?_⟩
  rintro ⟨c, d⟩ ⟨h0, hd⟩
  have h0 : 1 ≤ c := h0
  have hd : d.hasDict = false := hd
  show SG (pureL K) 0 _ [some (.int c), some d, none, none] _ (fun x => x = optI (faultD c d))
  refine sq_if (et_noTup (L := pureL K) (eg_var rfl) (eg_var rfl) hd) (fun hk => ?_) fun hk => ?_
  · refine sg_retq (eg_neg eg_int) ?_
    have e : faultD c d = some (-1) := by
      cases d with
      | tuple ds =>
        have h : ¬ ((ds.length : Int) = c) := by simpa [noTup] using hk
        unfold faultD
        exact if_neg h
      | _ => rfl
    rw [e]
    rfl
  cases d with
  | tuple ds =>
    have hl : (ds.length : Int) = c := by simpa [noTup] using hk
    have ef : faultD c (.tuple ds) = (match oddIx ds with
      | some i => some (i : Int)
      | none => if lastI ds < 1 then some (c - 1) else if 1 < gcdD ds then some (-2) else none) := by
      unfold faultD
      exact if_pos hl
    have hds : ∀ d ∈ ds, d.hasDict = false := hd_mem hd
    refine sq_next (sg_seq (N1 := fun G => (∃ x y, G = [some (.int c), some (.tuple ds), x, y]) ∧ ∀ d ∈ ds, isIntD d = true) (sg_for (js := [2, 3]) (fun i G => (∃ x y, G = [some (.int c), some (.tuple ds), x, y]) ∧ ∀ (j : Nat) x, j < i → ds[j]? = some x → isIntD x = true) (wk_enum (k := false) (ea_cons (eg_var rfl) ea_nil)) ⟨⟨none, none, rfl⟩, fun j x hj => by omega⟩ ?_ ?_) ?_)
    · rintro i d G hdi ⟨⟨x, y, rfl⟩, hb⟩
      rw [List.getElem?_mapIdx] at hdi
      cases hn : ds[i]? with
      | none => rw [hn] at hdi; cases hdi
      | some e =>
        rw [hn] at hdi
        have hd' : PyData.tuple [.int (i : Nat), e] = d := Option.some.inj hdi
        subst hd'
        refine ⟨_, tg_two, sg_if (et_not (et_B (eg_callR e (ea_cons (eg_var rfl) ea_nil) (hds e (List.mem_of_getElem? hn)) (hd_nomk (hds e (List.mem_of_getElem? hn)))))) (fun hk2 => ?_) fun hk2 => ?_⟩
        · have hz : isIntD e = false := by simpa using hk2
          refine sg_ret (eg_var rfl) ?_
          rw [ef, oddIx_some hn hz hb]
          rfl
        · have hz : isIntD e = true := by simpa using hk2
          refine sg_next ⟨⟨_, _, rfl⟩, fun j x hj hx => ?_⟩
          by_cases hji : j = i
          · subst hji
            rw [hn] at hx
            rw [← Option.some.inj hx]
            exact hz
          · exact hb j x (by omega) hx
    · rintro G ⟨hG, hb⟩
      refine ⟨hG, fun d hd => ?_⟩
      obtain ⟨j, hj⟩ := List.getElem?_of_mem hd
      exact hb j d (by rw [List.length_mapIdx]; exact (List.getElem?_eq_some_iff.mp hj).1) hj
    · rintro G ⟨⟨x, y, rfl⟩, hints⟩
      rw [ef, oddIx_none hints]
      have e1 := ints_of hints
      generalize ds.map intD = ns at e1
      subst e1
      have hg : gcdD (ns.map .int) = gcdl ns := by unfold gcdD; rw [intD_int]
      rw [hg]
      obtain ⟨ms, w, rfl, _⟩ := split_last (xs := ns) (n := ns.length - 1) (by rw [List.length_map] at hl; omega)
      have hlast : atI ((ms ++ [w]).map PyData.int) (-1) = some (.int w) := by
        rw [List.map_append]
        exact atI_last (ms.map PyData.int) (.int w)
      rw [lastI_app]
      show SG (pureL K) 0 _ _ _ (fun x => x = optI (if w < 1 then some (c - 1) else if 1 < gcdl (ms ++ [w]) then some (-2) else none))
      refine sq_if (et_test (eg_lt (eg_ixT (eg_var rfl) (eg_neg eg_int) hlast) eg_int)) (fun hk2 => ?_) fun hk2 => ?_
      · rw [if_pos (of_decide_eq_true hk2)]
        exact sg_ret (eg_sub (eg_var rfl) eg_int) rfl
      · rw [if_neg (of_decide_eq_false hk2)]
        refine sq_next (sq_if (et_test (eg_gt (eg_callR (false, ms ++ [w]) (ea_cons (eg_var rfl) ea_nil) trivial) eg_int)) (fun hk3 => ?_) fun hk3 => ?_)
        · have h3 : 1 < gcdl (ms ++ [w]) := Int.ofNat_lt.mp (of_decide_eq_true hk3)
          rw [if_pos h3]
          exact sg_ret (eg_neg eg_int) rfl
        · have h3 : ¬ (1 < gcdl (ms ++ [w])) := fun z => of_decide_eq_false hk3 (Int.ofNat_lt.mpr z)
          rw [if_neg h3]
          exact sq_next (sg_ret eg_non rfl)
  | _ => cases hk

abbrev s_law_common : Stmt := top 31
abbrev n_law_common : List Str := ["numbers", "found", "number", "remnant"]
theorem sc_law_common : FnScope n_law_common ["numbers"] (defScope s_law_common) := ⟨rfl, rfl, rfl, by decide +kernel, rfl, by decide +kernel, by decide +kernel⟩
def sp_law_common (K : PySem.W.Frag) : Sp := spR K (fun p : Bool × List Int => [sqD p.1 (p.2.map .int)]) (fun _ => True) fun p => .int (gcdl p.2)
theorem ok_law_common {f : Addr} {fd : FuncData} (T : Bt K mg) (C : Cst K w mg) (D : Df K mg "_law_common" s_law_common ["numbers"] f fd) : Cal P w K mg base "_law_common" s_law_common ["numbers"] 1 (sp_law_common K) f fd := by
  refine ok_R D sc_law_common (fun _ => rfl) fun cdv A outer s H E hgd hr => ⟨_, (pss_cons (ps_set (i := 1) sc_law_common.nd rfl (Or.inl rfl) pe_int)
        (pss_cons (ps_for PassesOwn.never rfl (pi_any (pv 0)) (pg_name (i := 2) sc_law_common.nd rfl (Or.inl rfl))
        (pss_cons (ps_set (i := 3) sc_law_common.nd rfl (Or.inl rfl) (pe_callB call_abs (by rfl) T.abs (by decide +kernel) (pa_cons (pv 2) pa_nil)))
        (pss_one (ps_while PassesOwn.never (pt_cmpR op_ne (pv 3) pe_int (nomark _))
        (pss_one (ps_par (i := 1) (j := 3) rfl sc_law_common.nd rfl rfl (by decide) rfl rfl (pa_cons (pv 3) (pa_cons (pe_op op_modN (pe_callTy call_int1 (by rfl) T.int (by decide +kernel) (pa_cons (pv 1) pa_nil)) (pv 3)) pa_nil)) (by rfl)))))))
        (pss_one (ps_ret (pv 1))))), ?_⟩
  rintro ⟨k, ns⟩ _
  show SG (pureL K) 0 _ [some (sqD k (ns.map .int)), none, none, none] _ _
  refine sq_asg eg_int ?_
  refine sg_seq (N1 := fun G => G[1]? = some (some (.int (gcdl ns)))) (sg_for (js := [2]) (fun i G => ∃ x y, G = [some (sqD k (ns.map .int)), some (.int (gcdl (ns.take i))), x, y]) (wk_any (k := k) (eg_var rfl)) ⟨none, none, rfl⟩ ?_ ?_) fun G hG => sg_ret (eg_var hG) rfl
  · rintro i d G hd ⟨x, y, rfl⟩
    obtain ⟨n, hn, _, rfl⟩ := map_at hd
    have e2 : gcdl (ns.take (i + 1)) = Nat.gcd (gcdl (ns.take i)) n.natAbs := by rw [take_next hn]; unfold gcdl; rw [List.foldl_append]; rfl
    refine ⟨_, tg_name, sq_asg (eg_cb (ea_cons (eg_var rfl) ea_nil) cs_abs) ?_⟩
    refine sg_while (fun G => ∃ f r : Nat, G = [some (sqD k (ns.map .int)), some (.int (f : Int)), some (.int n), some (.int (r : Int))] ∧ Nat.gcd f r = gcdl (ns.take (i + 1))) (fun G => match G with | [_, _, _, some (.int r)] => r.toNat | _ => 0) ⟨gcdl (ns.take i), n.natAbs, rfl, e2.symm⟩ ?_
    rintro G ⟨f, r, rfl, hg⟩
    refine ⟨!decide ((r : Int) = 0), et_test (eg_neI (eg_var rfl) eg_int), fun hk => ?_, fun hk => ?_⟩
    · have hr : (r : Int) ≠ 0 := by simpa using hk
      refine sg_par (ea_cons (eg_var rfl) (ea_cons (eg_mod (eg_cb (ea_cons (eg_var rfl) ea_nil) cs_int) (eg_var rfl) hr) ea_nil)) ⟨⟨r, f % r, ?_, ?_⟩, ?_⟩
      · have e3 : (f : Int).fmod (r : Int) = ((f % r : Nat) : Int) := by rw [Int.fmod_eq_emod_of_nonneg _ (by omega)]; rfl
        rw [e3]
        rfl
      · rw [← hg, Nat.gcd_comm f r, Nat.gcd_rec r f, Nat.gcd_comm]
      · show ((f : Int).fmod (r : Int)).toNat < (r : Int).toNat
        have e3 : (f : Int).fmod (r : Int) = ((f % r : Nat) : Int) := by rw [Int.fmod_eq_emod_of_nonneg _ (by omega)]; rfl
        rw [e3]
        have := Nat.mod_lt f (show 0 < r by omega)
        show ((f % r : Nat) : Int).toNat < (r : Int).toNat
        rw [Int.toNat_natCast, Int.toNat_natCast]
        exact this
    · have hr : (r : Int) = 0 := by simpa using hk
      have hr0 : r = 0 := by omega
      subst hr0
      rw [Nat.gcd_zero_right] at hg
      subst hg
      exact ⟨_, _, rfl⟩
  · rintro G ⟨x, y, rfl⟩
    show some (some (PyData.int _)) = _
    rw [List.length_map, List.take_length]

abbrev s_law_lowered : Stmt := top 32
abbrev n_law_lowered : List Str := ["numbers", "whole", "number"]
theorem sc_law_lowered : FnScope n_law_lowered ["numbers"] (defScope s_law_lowered) := ⟨rfl, rfl, rfl, by decide +kernel, rfl, by decide +kernel, by decide +kernel⟩
def sp_law_lowered (K : PySem.W.Frag) : Sp := spR K (fun p : List Int × Nat => [lI (p.1 ++ [(p.2 : Int)])]) (fun p => 0 < p.2 ∧ p.2 < 2 ^ 8000 ∧ p.1.length ≤ 100) fun p => tI (prim (p.1 ++ [(p.2 : Int)]))
theorem ok_law_lowered {f : Addr} {fd : FuncData} (T : Bt K mg) (C : Cst K w mg) (D : Df K mg "_law_lowered" s_law_lowered ["numbers"] f fd)
    {f_law_common : Addr} {d_law_common : FuncData} (h_law_common : Cal P w K mg base "_law_common" s_law_common ["numbers"] 1 (sp_law_common K) f_law_common d_law_common) : Cal P w K mg base "_law_lowered" s_law_lowered ["numbers"] 2 (sp_law_lowered K) f fd := by
  refine ok_R D sc_law_lowered (fun _ => rfl) fun cdv A outer s H E hgd hr => ⟨_, (pss_cons (ps_set (i := 1) sc_law_lowered.nd rfl (Or.inr rfl) (pe_fn (E := E0) h_law_common.G hgd (hr.mono (by decide)) (by rfl) h_law_common.gm h_law_common.kp h_law_common.b (pa_cons (pv 0) pa_nil)))
        (pss_one (ps_ret (pe_ifExp (pt_cmpR op_gt (pv 1) pe_int (nomark _)) (pe_callTy call_tuple_of (by rfl) T.tuple (by decide +kernel) (pa_cons (pe_lc (own := [("number", 2)]) (g := gName 2) (tt := tYes) rfl sc_law_lowered.nd (pi_list (pv 0)) (blkOk_by (own := [("number", 2)]) (N := n_law_lowered) (sc := defScope s_law_lowered) (by decide +kernel)) (fun _ _ _ _ _ => (pg_name (i := 2) sc_law_lowered.nd rfl (Or.inl rfl))) (fun _ _ _ _ _ => pts_nil) (fun _ _ _ _ _ => (pe_op op_fdivW (pv 2) (pv 1)))) pa_nil)) (pe_callTy call_tuple_of (by rfl) T.tuple (by decide +kernel) (pa_cons (pv 0) pa_nil)))))), ?_⟩
  rintro ⟨ns, w⟩ ⟨h0, h1, h2⟩
  have h0' : 0 < w := h0
  show SG (pureL K) 0 _ _ _ (fun x => x = tI (prim (ns ++ [(w : Int)])))
  generalize hms : ns ++ [(w : Int)] = ms
  show SG (pureL K) 0 _ [some (lI ms), none, none] _ _
  have hg : 0 < gcdl ms := by rw [← hms]; exact gcdl_pos (n := (w : Int)) (by simp) (by omega)
  have hgw : gcdl ms ≤ w := Nat.le_of_dvd h0' (Int.natCast_dvd_natCast.mp (by rw [← hms]; exact gcdl_dvd _ (by simp)))
  have hv : tI (prim ms) = .tuple ((ms.map fun n => n / (gcdl ms : Int)).map .int) := rfl
  rw [hv]
  have hcd : ∀ n : Int, CDivW n ((gcdl ms : Nat) : Int) := fun n => wide_div (b := 8000) (by omega) (by rw [Int.natAbs_natCast]; exact Nat.lt_of_le_of_lt hgw h1) (by decide) (by decide)
  refine sq_asg (eg_callR (true, ms) (ea_cons (eg_var rfl) ea_nil) trivial) ?_
  have hml : ms.length ≤ 1000 := by rw [← hms, List.length_append]; have : ns.length ≤ 100 := h2; show _ + 1 ≤ _; omega
  refine sg_ret (eg_if (et_test (eg_gt (eg_var rfl) eg_int)) (fun hk => ?_) fun hk => ?_) rfl
  · refine eg_cb (ea_cons ?_ ea_nil) cs_tuple
    rw [List.map_map]
    exact eg_lcm (js := [2]) (xs := ms) (enc := PyData.int) (wk_list (eg_var rfl)) (by simp) hml fun n _ => ⟨(fun z => by cases z), _, tg_name, eg_div (eg_var rfl) (eg_var rfl) (hcd n)⟩
  · have hk' : ¬ ((1 : Int) < (gcdl ms : Int)) := of_decide_eq_false hk
    have e1 : gcdl ms = 1 := by omega
    refine (eg_cb (ea_cons (eg_var rfl) ea_nil) cs_tuple).to ?_
    rw [e1]
    congr 1
    rw [List.map_map]
    refine List.map_congr_left fun n _ => ?_
    show PyData.int n = .int (n / 1)
    rw [Int.ediv_one]

abbrev s_law_point : Stmt := top 33
abbrev n_law_point : List Str := ["numbers", "bottom", "sign", "number"]
theorem sc_law_point : FnScope n_law_point ["numbers", "bottom"] (defScope s_law_point) := ⟨rfl, rfl, rfl, by decide +kernel, rfl, by decide +kernel, by decide +kernel⟩
def sp_law_point (K : PySem.W.Frag) : Sp := spR K (fun p : List Int × Nat => [lI p.1, .int (p.2 : Int)]) (fun p => 0 < p.2 ∧ p.2 < 2 ^ 8000 ∧ p.1.length ≤ 100 ∧ Bn 9000 p.1) fun p => tI (prim (p.1 ++ [(p.2 : Int)]))
theorem ok_law_point {f : Addr} {fd : FuncData} (T : Bt K mg) (C : Cst K w mg) (D : Df K mg "_law_point" s_law_point ["numbers", "bottom"] f fd)
    {f_law_lowered : Addr} {d_law_lowered : FuncData} (h_law_lowered : Cal P w K mg base "_law_lowered" s_law_lowered ["numbers"] 2 (sp_law_lowered K) f_law_lowered d_law_lowered) : Cal P w K mg base "_law_point" s_law_point ["numbers", "bottom"] 3 (sp_law_point K) f fd := by
  refine ok_R D sc_law_point (fun _ => rfl) fun cdv A outer s H E hgd hr => ⟨_, (pss_cons (ps_set (i := 2) sc_law_point.nd rfl (Or.inr rfl) (pe_ifExp (pt_cmpR op_gt (pv 1) pe_int (nomark _)) pe_int (pe_un un_neg pe_int)))
        (pss_one (ps_ret (pe_fn (E := E0) h_law_lowered.G hgd (hr.mono (by decide)) (by rfl) h_law_lowered.gm h_law_lowered.kp h_law_lowered.b (pa_cons (pe_op op_cat (pe_lc (own := [("number", 3)]) (g := gName 3) (tt := tYes) rfl sc_law_point.nd (pi_list (pv 0)) (blkOk_by (own := [("number", 3)]) (N := n_law_point) (sc := defScope s_law_point) (by decide +kernel)) (fun _ _ _ _ _ => (pg_name (i := 3) sc_law_point.nd rfl (Or.inl rfl))) (fun _ _ _ _ _ => pts_nil) (fun _ _ _ _ _ => (pe_op op_mulW (pv 2) (pv 3)))) (pe_lst (pa_cons (pe_op op_mulW (pv 2) (pv 1)) pa_nil))) pa_nil))))), ?_⟩
  rintro ⟨ns, w⟩ ⟨h0, h1, h2, h3⟩
  have h0' : 0 < w := h0
  have h2' : ns.length ≤ 100 := h2
  show SG (pureL K) 0 _ [some (lI ns), some (.int (w : Int)), none, none] _ _
  refine sq_asg (eg_if (d := .int 1) (et_test (eg_gt (eg_var rfl) eg_int)) (fun _ => eg_int) fun hk => ?_) ?_
  · have hk' : ¬ ((0 : Int) < (w : Int)) := of_decide_eq_false hk
    omega
  refine sg_ret (eg_callR (ns, w) (ea_cons ((eg_cat (eg_lcm (js := [3]) (xs := ns) (enc := PyData.int) (res := fun n => .int (1 * n)) (wk_list (eg_var rfl)) (by simp) (by omega) fun n hn => ⟨(fun z => by cases z), _, tg_name, eg_mul (eg_var rfl) (eg_var rfl) (mw (a := 1) (b := 9000) (by decide) (h3 n hn))⟩)
    (eg_lst (ea_cons (eg_mul (eg_var rfl) (eg_var rfl) (mw (a := 1) (b := 8000) (by decide) (nb h1))) ea_nil)) (by rw [List.length_map]; show _ + 1 ≤ _; omega)).to ?_) ea_nil) ⟨h0, h1, h2⟩) rfl
  unfold lI
  rw [List.map_append, Int.one_mul]
  congr 2
  exact List.map_congr_left fun n _ => by rw [Int.one_mul]

abbrev s_law_rowed : Stmt := top 34
abbrev n_law_rowed : List Str := ["numbers", "bottom", "sign", "number"]
theorem sc_law_rowed : FnScope n_law_rowed ["numbers", "bottom"] (defScope s_law_rowed) := ⟨rfl, rfl, rfl, by decide +kernel, rfl, by decide +kernel, by decide +kernel⟩
def sp_law_rowed (K : PySem.W.Frag) : Sp := spR K (fun p : List Int × Nat => [lI p.1, .int (p.2 : Int)]) (fun p => 0 < p.2 ∧ p.2 < 2 ^ 8000 ∧ p.1.length ≤ 100 ∧ Bn 9000 p.1) fun p => tI (prim (p.1 ++ [(p.2 : Int)]))
theorem ok_law_rowed {f : Addr} {fd : FuncData} (T : Bt K mg) (C : Cst K w mg) (D : Df K mg "_law_rowed" s_law_rowed ["numbers", "bottom"] f fd)
    {f_law_lowered : Addr} {d_law_lowered : FuncData} (h_law_lowered : Cal P w K mg base "_law_lowered" s_law_lowered ["numbers"] 2 (sp_law_lowered K) f_law_lowered d_law_lowered) : Cal P w K mg base "_law_rowed" s_law_rowed ["numbers", "bottom"] 3 (sp_law_rowed K) f fd := by
  refine ok_R D sc_law_rowed (fun _ => rfl) fun cdv A outer s H E hgd hr => ⟨_, (pss_cons (ps_set (i := 2) sc_law_rowed.nd rfl (Or.inr rfl) (pe_ifExp (pt_cmpR op_gt (pv 1) pe_int (nomark _)) pe_int (pe_un un_neg pe_int)))
        (pss_one (ps_ret (pe_fn (E := E0) h_law_lowered.G hgd (hr.mono (by decide)) (by rfl) h_law_lowered.gm h_law_lowered.kp h_law_lowered.b (pa_cons (pe_op op_cat (pe_lc (own := [("number", 3)]) (g := gName 3) (tt := tYes) rfl sc_law_rowed.nd (pi_list (pv 0)) (blkOk_by (own := [("number", 3)]) (N := n_law_rowed) (sc := defScope s_law_rowed) (by decide +kernel)) (fun _ _ _ _ _ => (pg_name (i := 3) sc_law_rowed.nd rfl (Or.inl rfl))) (fun _ _ _ _ _ => pts_nil) (fun _ _ _ _ _ => (pe_op op_mulW (pv 2) (pv 3)))) (pe_lst (pa_cons (pe_op op_mulW (pv 2) (pv 1)) pa_nil))) pa_nil))))), ?_⟩
  rintro ⟨ns, w⟩ ⟨h0, h1, h2, h3⟩
  have h0' : 0 < w := h0
  have h2' : ns.length ≤ 100 := h2
  show SG (pureL K) 0 _ [some (lI ns), some (.int (w : Int)), none, none] _ _
  refine sq_asg (eg_if (d := .int 1) (et_test (eg_gt (eg_var rfl) eg_int)) (fun _ => eg_int) fun hk => ?_) ?_
  · have hk' : ¬ ((0 : Int) < (w : Int)) := of_decide_eq_false hk
    omega
  refine sg_ret (eg_callR (ns, w) (ea_cons ((eg_cat (eg_lcm (js := [3]) (xs := ns) (enc := PyData.int) (res := fun n => .int (1 * n)) (wk_list (eg_var rfl)) (by simp) (by omega) fun n hn => ⟨(fun z => by cases z), _, tg_name, eg_mul (eg_var rfl) (eg_var rfl) (mw (a := 1) (b := 9000) (by decide) (h3 n hn))⟩)
    (eg_lst (ea_cons (eg_mul (eg_var rfl) (eg_var rfl) (mw (a := 1) (b := 8000) (by decide) (nb h1))) ea_nil)) (by rw [List.length_map]; show _ + 1 ≤ _; omega)).to ?_) ea_nil) ⟨h0, h1, h2⟩) rfl
  unfold lI
  rw [List.map_append, Int.one_mul]
  congr 2
  exact List.map_congr_left fun n _ => by rw [Int.one_mul]

end V1
set_option Elab.async false
set_option linter.all false
set_option maxRecDepth 100000
set_option maxHeartbeats 4000000
/-! Defs that raise, with the guards told; an own error with a field. -/
namespace V1
open PySem PySem.Spec PyProof.Rows L2
/-- as FnG, for a def that may raise -/
structure FnX (P : Program) (w : World) (K : PySem.W.Frag) (mg : Str → Option Value) (base : Heap) (k : Nat) (f : Addr) (fd : FuncData) (ps : List Str) (sp : Sp) : Prop where
  len : ∀ vs H Q E, sp vs H Q E → vs.length = ps.length
  run : ∀ (A : Around) (outer : List Env) (s : Shared) (H : Hp) (args : Args) (us : List Value) (vs : List V) (Q : VK) (E : XK), A.guards = some [] → Room k A →
    Env0 P w K mg base A outer s H → BindsTo s fd args (ps.zip us) → Vals vs us → sp vs H Q E → codeAny (model P w) A (.call (.ref f) args) (CR (L2.CX P w) outer P w H s Q E) s
section
variable {P : Program} {w : World} {K : PySem.W.Frag} {mg : Str → Option Value} {base : Heap}
theorem okX {x qual : Str} {st : Stmt} {f : Addr} {fd : FuncData} {N ps : List Str} {k : Nat} {sp : Sp} (F : Fun K x qual st f fd) (S : FnScope N ps (defScope st)) (hlen : ∀ vs H Q E, sp vs H Q E → vs.length = ps.length)
    (bd : ∀ (cdv : Value) (A : Around) (outer : List Env) (s : Shared) (H : Hp) (vs : List V) (Q : VK) (E : XK), A.guards = some [] → Room k (A.deeper (envOfC qual (defScope st) s.heap.objs.size f cdv)) → sp vs H Q E →
      ∃ t, PSs (cxOf (L2.CX P w) P w K mg base N qual (defScope st) f cdv A outer s H E) (defBody st) t ∧ t { nx := fun _ H' => Q .non H', rt := Q } (start N vs) H) : FnX P w K mg base (k + 1) f fd ps sp := by
  obtain ⟨oc, od, kV, doc, pm, an, cdv, ct, osl, rfl, lk, hcd⟩ := F.ex
  refine ⟨hlen, fun A outer s H args us vs Q E hgd hr e0 hb r hs0 => ?_⟩
  have ll := hlen _ _ _ _ hs0
  have kin : K.In s.heap := e0.mod.kin.keeps (fun b o z => (e0.bs b o z).1)
  have nl : s.heap.NoLimit := e0.mod.nolimit.keeps (fun b o z => (e0.bs b o z).1)
  refine codeAny_call_function hr.depth (kin _ _ lk) rfl S.co S.gen rfl (PySem.W.codeRec_of kin hcd) (hb _ _ _ _ ?_)
  refine wpAny_newFunctionEnv_cells S.kind (fun ⟨n, v⟩ hy => ?_) (fun env he s1 x => ?_)
  · rcases S.par n (List.of_mem_zip hy).1 with q | q
    · exact Or.inl q
    · exact Or.inr ⟨q, PySem.W.cellsFrom_some _ _ _ (Or.inl q)⟩
  subst he
  refine ⟨nl.keeps x.toInCall.keep, codeAny_func ?_⟩
  obtain ⟨t, ht, hq⟩ := bd cdv A outer s H vs Q E hgd (hr.deeper _) hs0
  have I := inv_start (CX := L2.CX P w) (E := E) S hr.hd e0 ll r x
  refine wpAny_mono (ht.run [] s1 (start N vs) H _ I hq) (fun fl s2 z => ?_) (fun e s2 z => z)
  cases fl with
  | ret u =>
    obtain ⟨v, σ2, H2, J, rv, q⟩ := z
    exact ⟨v, H2, J.os, J.bare, J.base, J.hok, rv, q⟩
  | next =>
    obtain ⟨σ2, H2, J, q⟩ := z
    exact ⟨V.non, H2, J.os, J.bare, J.base, J.hok, rfl, q⟩
  | brk =>
    obtain ⟨_, _, _, q⟩ := z
    exact q.elim
  | cont =>
    obtain ⟨_, _, _, q⟩ := z
    exact q.elim
end
section
variable {X : Cx} {k : Nat} {f : Addr} {fd : FuncData} {ps ks : List Str} {sp : Sp} {x : Str} {p pos : Pos} {e : Expr} {es : List Expr} {kws : List Keyword} {t tk : TA} {g : List Value → List Value → List Value} {gV : List V → List V → List V}
theorem runX {E : L2.St → XK} {pins : List (Addr × Obj)} {σ : L2.St} {H : Hp} {s : Shared} {Q : VK} {us : List Value} {vs : List V} (F : FnX X.prog X.w X.K X.mg X.base k f fd ps sp) (hgd : X.A.guards = some []) (hr : Room k X.A) (hb : Binds X.K fd ps []) (hx : PassesAt (L2.CX X.prog X.w) X σ (E σ))
    (I : L2.Inv X pins σ H s) (r : Vals vs us) (h : sp vs H Q (E σ)) : wpAny (model X.prog X.w) X.A (call (.ref f) us) (EP X pins σ Q) X.xe s := by
  have hl : us.length = ps.length := by rw [← r.length]; exact F.len _ _ _ _ h
  have b := hb s us I.kIn (by rw [List.append_nil]; exact hl)
  rw [List.append_nil] at b
  refine wpAny_call (codeAny_mono (F.run X.A X.stack s H ⟨us, []⟩ us vs Q (E σ) hgd hr I.env0 b r h) fun r s' hq => ?_)
  cases r with
  | error e => exact hx pins H s e s' I hq
  | ok fl =>
    cases fl with
    | ret u => exact I.after hq
    | next => exact False.elim hq
    | brk => exact False.elim hq
    | cont => exact False.elim hq
theorem pe_callX {E : L2.St → XK} (F : FnX X.prog X.w X.K X.mg X.base k f fd ps sp) (hgd : X.A.guards = some []) (hr : Room k X.A) (hg : Gl X x) (hm : X.mg x = some (.ref f)) (hk : PySem.W.keepIn X.K (.ref f) = true) (hb : Binds X.K fd ps []) (hx : ∀ σ, PassesAt (L2.CX X.prog X.w) X σ (E σ))
    (ha : PA X (e :: es) t) (hdb : (x == ("__debug__" : Str)) = false := by decide) (he : starEach (e :: es) X.env = (false, eval e X.env) :: starEach es X.env := by rfl) (hpl : (backTo pos (starEach es X.env)).any (·.1) = false := by rfl) :
    PE X (.Call (.Name x p) (e :: es) [] pos) (tCallS sp E t) := by
  refine ⟨fun pins s σ H Q I h => ?_⟩
  refine wpAny_Call_Name_kw (ld_glob I hg hm ?_ hdb)
  refine PySem.W.callWith_K (h₀ := X.base) I.ok.mod.kin hk (thn (ha.run pos pins s σ H _ I h) fun us s1 ⟨vs, H1, I1, r, q⟩ => ⟨I1.kIn, ?_⟩) he hpl
  exact runX F hgd hr hb (hx σ) I1 r q
/-- f(k = v, ..), keywords alone, of a def that does not raise there -/
theorem pe_callXk (F : FnX X.prog X.w X.K X.mg X.base k f fd ps sp) (hgd : X.A.guards = some []) (hr : Room k X.A) (hg : Gl X x) (hm : X.mg x = some (.ref f)) (hk : PySem.W.keepIn X.K (.ref f) = true) (hb : KBinds X.K fd ps ks g gV)
    (hkw : PK X kws tk) (hall : (backToKw pos (keywordEach kws X.env)).all (·.1.isSome) = true := by rfl) (hks : (backToKw pos (keywordEach kws X.env)).filterMap (·.1) = ks := by rfl)
    (hdb : (x == ("__debug__" : Str)) = false := by decide)
    (hpl : ((backTo pos (starEach [] X.env)).any (·.1) || (backToKw pos (keywordEach kws X.env)).any (·.1.isNone)) = false := by rfl) :
    PE X (.Call (.Name x p) [] kws pos) (tCallK sp gV E0 tNil tk) := by
  refine ⟨fun pins s σ H Q I h => ?_⟩
  refine wpAny_Call_Name_kw (ld_glob I hg hm ?_ hdb)
  refine PySem.W.callWith_KW0 (h₀ := X.base) I.ok.mod.kin hk hall ?_ hpl
  refine thn (hkw.run pos pins s σ H _ I h) fun ws s2 ⟨zs, H2, I2, rz, q2⟩ => ⟨I2.kIn, ?_⟩
  rw [hks]
  have q3 : sp (gV [] zs) H2 Q E0 := q2
  have r2 := hb.rel (us := []) (vs := []) .nil rz
  have hl : (g [] ws).length = ps.length := by rw [← r2.length]; exact F.len _ _ _ _ q3
  refine wpAny_call (codeAny_mono (F.run X.A X.stack s2 H2 ⟨[], ks.zip ws⟩ (g [] ws) (gV [] zs) Q E0 hgd hr I2.env0 (hb.to s2 [] ws I2.kIn hl) r2 q3) fun r3 s' hq => ?_)
  cases r3 with
  | error e =>
    obtain ⟨_, _, _, _, _, _, _, _, _, _, _, _, z⟩ := hq
    exact z.elim
  | ok fl =>
    cases fl with
    | ret u => exact I2.after hq
    | next => exact False.elim hq
    | brk => exact False.elim hq
    | cont => exact False.elim hq
end
/-! ### the error classes -/
def initAt (i : Nat) : Stmt := match top i with
  | .ClassDef _ _ _ (st :: _) _ _ _ _ _ _ _ => st
  | _ => .Pass ⟨0, 0, 0, 0⟩
def sp_init (K : PySem.W.Frag) (fld : Str) : Sp := fun vs H Q _ => ∃ (a C : Addr) (v : V), vs = [.ref a, v] ∧ OexC K C ∧ PySem.W.findIn K (.ref C) fld = some none ∧ H a = some (exo a C none) ∧
  ∀ dx, H dx = none → dx ≠ a → Q .non (upd (upd H dx (exd dx [(fld, v)])) a (exo a C (some dx)))
theorem sc_init3 : FnScope ["self", "place"] ["self", "place"] (defScope (initAt 3)) := ⟨rfl, rfl, rfl, by decide +kernel, rfl, by decide +kernel, by decide +kernel⟩
theorem ok_init3 {P : Program} {w : World} {K : PySem.W.Frag} {mg : Str → Option Value} {base : Heap} {fI : Addr} {fd : FuncData} (F : Fun K "__init__" "NotPoint.__init__" (initAt 3) fI fd) : FnOk P w K mg base CX0 1 fI fd ["self", "place"] (sp_init K "place") := by
  refine F.ok sc_init3 (fun vs H Q E h => ?_) fun cdv A outer s H vs Q E hr h => ⟨_, pss_one (ps_ost (pv 0) (pv 1)), ?_⟩
  · obtain ⟨a, C, v, rfl, _⟩ := h
    rfl
  · obtain ⟨a, C', v, rfl, h1, h2, h3, q⟩ := h
    exact ⟨v, rfl, .ref a, rfl, a, C', rfl, h1, h2, .inl ⟨h3, q⟩⟩
theorem sc_init4 : FnScope ["self", "number"] ["self", "number"] (defScope (initAt 4)) := ⟨rfl, rfl, rfl, by decide +kernel, rfl, by decide +kernel, by decide +kernel⟩
theorem ok_init4 {P : Program} {w : World} {K : PySem.W.Frag} {mg : Str → Option Value} {base : Heap} {fI : Addr} {fd : FuncData} (F : Fun K "__init__" "NotSystem.__init__" (initAt 4) fI fd) : FnOk P w K mg base CX0 1 fI fd ["self", "number"] (sp_init K "number") := by
  refine F.ok sc_init4 (fun vs H Q E h => ?_) fun cdv A outer s H vs Q E hr h => ⟨_, pss_one (ps_ost (pv 0) (pv 1)), ?_⟩
  · obtain ⟨a, C, v, rfl, _⟩ := h
    rfl
  · obtain ⟨a, C', v, rfl, h1, h2, h3, q⟩ := h
    exact ⟨v, rfl, .ref a, rfl, a, C', rfl, h1, h2, .inl ⟨h3, q⟩⟩
structure ExN (K : PySem.W.Frag) (mg : Str → Option Value) (cn fld : Str) (C fI : Addr) (fd : FuncData) : Prop where
  gC : mg cn = some (.ref C)
  T : OexC K C
  iC : PySem.W.findIn K (.ref C) "__init__" = some (some (.ref fI))
  tI : PySem.W.typeIn K (.ref fI) = some (.type "function")
  no : PySem.W.findIn K (.ref C) fld = some none
  X : XfC K C
  te : PySem.W.exmOne K (.ref C) (.ref C) = some true
  I : ∀ (P : Program) (w : World) (base : Heap), FnOk P w K mg base CX0 1 fI fd ["self", fld] (sp_init K fld)
  b : Binds K fd ["self", fld] []
/-- raise the class: the error's own dict holds the value -/
def tRz (K : PySem.W.Frag) (C : Addr) (fld : Str) (W : WX) (ta : TA) : TS := fun _ σ H => tMkO C (sp_init K fld) [] ta σ H fun cls d H' => W cls d σ H'
theorem ps_rz {X : Cx} {C fI : Addr} {fd : FuncData} {W : WX} {e : Expr} {ta : TA} {p pos pos2 : Pos} (hc : X.calm = true) {cn fld : Str} (T : ExN X.K X.mg cn fld C fI fd) (hr : Room 2 X.A) (tk : Takes X W) (ha : PA X [e] ta) (hg : Gl X cn := by rfl) (hdb : (cn == ("__debug__" : Str)) = false := by decide)
    (he : starEach (e :: []) X.env = (false, eval e X.env) :: starEach [] X.env := by rfl) (hpl : (backTo pos (starEach [] X.env)).any (·.1) = false := by rfl) :
    PS X (.Raise (some (.Call (.Name cn p) [e] [] pos)) none pos2) (tRz X.K C fld W ta) :=
  ps_raise hc tk (pmk_oex (CX := CX0) (k := 1) (dvs := []) (ds := []) T.T T.iC T.tI (T.I _ _ _) hr T.b .nil (fun _ _ _ _ _ _ _ h => h.elim) hg T.gC ha hdb he hpl)
theorem ev_rz {L : Rl} {C : Addr} {fld : Str} {Γ : List (Option PyData)} {te : TE} {d : PyData} {A : Addr → Prop} {σ : L2.St} {H : Hp} {W : WX} (T : OexC L.K C) (no : PySem.W.findIn L.K (.ref C) fld = some none) (h : EvD L te Γ d) (hd : d ≠ mark) (hi : Inn A H) (he : EnvOk L A σ H Γ) (hg : L.G 0 H)
    (q : ∀ v dd H', L.R 0 H H' → H' dd = some (.xd [(fld, v)]) → Dv L.K A H' v d → W (.ref C) (some dd) σ H') : ∀ D : Ends, tRz L.K C fld W (tCons te tNil) D σ H := fun D => by
  show tMkO C (sp_init L.K fld) [] (tCons te tNil) σ H fun cls dd H' => W cls dd σ H'
  refine h A σ H hi he hg _ fun v d1 H1 r1 hv e1 => ?_
  subst e1
  refine ⟨(show 1 ≤ 1000 by decide), fun a ha => ?_⟩
  have hv1 := hv.ne hd
  refine ⟨a, C, v, rfl, T, no, upd_same, fun dx hdx hne => ?_⟩
  have h1 : H1 dx = none := by rwa [upd_ne hne] at hdx
  refine ⟨rfl, dx, [(fld, v)], upd_same, by rw [upd_ne hne, upd_same], h1, ?_⟩
  have sm : Same H1 (upd (del (upd (upd (upd H1 a (exo a C none)) dx (exd dx [(fld, v)])) a (exo a C (some dx))) a) dx (.xd [(fld, v)])) := fun b o e => by
    have n1 : b ≠ a := ne_of_none e ha
    have n2 : b ≠ dx := ne_of_none e h1
    rw [upd_ne n2, del_ne n1, upd_ne n1, upd_ne n2, upd_ne n1]
    exact e
  exact q v dx _ (L.tr (a := 0) (b := 0) r1 (L.same (Rl.gR (b := 0) hg r1) sm)) upd_same (hv1.map fun b o na e k => ⟨na, sm b o e⟩)

structure CalX (P : Program) (w : World) (K : PySem.W.Frag) (mg : Str → Option Value) (base : Heap) (x : Str) (st : Stmt) (ps : List Str) (k : Nat) (sp : Sp) (f : Addr) (fd : FuncData) : Prop where
  gm : mg x = some (.ref f)
  F : Fun K x x st f fd
  b : Binds K fd ps []
  G : FnX P w K mg base k f fd ps sp
theorem CalX.kp {P : Program} {w : World} {K : PySem.W.Frag} {mg : Str → Option Value} {base : Heap} {x : Str} {st : Stmt} {ps : List Str} {k : Nat} {sp : Sp} {f : Addr} {fd : FuncData} (c : CalX P w K mg base x st ps k sp f fd) : PySem.W.keepIn K (.ref f) = true := c.F.kp
/-- nothing changes of what there was at H0 -/
def memL (K : PySem.W.Frag) (H0 : Hp) : Rl := { pureL K with G := fun _ H => Same H0 H, gle := fun _ h => h, gr := fun g r => Same.trans g r, same := fun _ s => s, fresh := (pureL K).fresh, keep := (pureL K).keep, free := (pureL K).free, mref := (pureL K).mref, rle := (pureL K).rle, tr := (pureL K).tr }
/-- a statement that raises, where its error is let out -/
theorem sg_rz {K : PySem.W.Frag} {H0 : Hp} {C : Addr} {fld : Str} {Γ : List (Option PyData)} {te : TE} {d : PyData} {W : WX} {N : List (Option PyData) → Prop} {Rt : PyData → Prop} (T : OexC K C) (no : PySem.W.findIn K (.ref C) fld = some none) (h : EvD (memL K H0) te Γ d) (hd : d ≠ mark)
    (q : ∀ A v dd σ H', Same H0 H' → H' dd = some (.xd [(fld, v)]) → Dv K A H' v d → W (.ref C) (some dd) σ H') : SG (memL K H0) 0 (tRz K C fld W (tCons te tNil)) Γ N Rt := fun A σ H hi he hg D _ _ => ev_rz (L := memL K H0) T no h hd hi he hg (fun v dd H' r hx hv => q A v dd σ H' (Same.trans hg r) hx hv) D
theorem sg_drop {L : Rl} {te : TE} {Γ : List (Option PyData)} {d : PyData} {N : List (Option PyData) → Prop} {Rt : PyData → Prop} (h : EvD L te Γ d) (k : N Γ) : SG L 0 (tDrop te) Γ N Rt := fun A σ H hi he hg D q1 _ => h A σ H hi he hg _ fun v d1 H1 r1 _ _ => q1 σ H1 Γ r1 (he.r r1) k
end V1
set_option Elab.async false
set_option linter.all false
set_option maxRecDepth 100000
set_option maxHeartbeats 4000000
namespace V1
open PySem PySem.Spec PyProof.Rows L2
variable {P : Program} {w : World} {K : PySem.W.Frag} {mg : Str → Option Value} {base : Heap}

abbrev s_sign_of : Stmt := top 7
abbrev n_sign_of : List Str := ["number"]
theorem sc_sign_of : FnScope n_sign_of ["number"] (defScope s_sign_of) := ⟨rfl, rfl, rfl, by decide +kernel, rfl, by decide +kernel, by decide +kernel⟩
def sp_sign_of (K : PySem.W.Frag) : Sp := spR K (fun i : Int => [.int i]) (fun _ => True) fun i => .int i.sign
theorem ok_sign_of {f : Addr} {fd : FuncData} (T : Bt K mg) (C : Cst K w mg) (D : Df K mg "sign_of" s_sign_of ["number"] f fd) : Cal P w K mg base "sign_of" s_sign_of ["number"] 1 (sp_sign_of K) f fd := by
  refine ok_R D sc_sign_of (fun _ => rfl) fun cdv A outer s H E hgd hr => ⟨_, (pss_cons (ps_if (pt_cmpR op_lt (pv 0) pe_int (nomark _)) (pss_one (ps_ret (pe_un un_neg pe_int))) pss_nil)
        (pss_one (ps_ret (pe_ifExp (pt_cmpR op_gt (pv 0) pe_int (nomark _)) pe_int pe_int)))), ?_⟩
  intro i _
  show SG (pureL K) 0 _ [some (.int i)] _ _
  refine sq_if (et_test (eg_lt (eg_var rfl) eg_int)) (fun h => ?_) fun h => ?_
  · refine sg_retq (eg_neg eg_int) ?_
    rw [Int.sign_eq_neg_one_of_neg (of_decide_eq_true h)]
  · have h0 := of_decide_eq_false h
    refine sq_next (sg_ret (eg_if (et_test (eg_gt (eg_var rfl) eg_int)) (fun h1 => ?_) fun h1 => ?_) rfl)
    · rw [Int.sign_eq_one_of_pos (of_decide_eq_true h1)]
      exact eg_int
    · have h2 := of_decide_eq_false h1
      have e : i = 0 := by omega
      rw [e]
      exact eg_int

section
variable {L : Rl} {Γ : List (Option PyData)} {te : TE}
theorem eg_isOI {o : Option Int} (h : EvD L te Γ (optI o)) : EvD L (tOp (fun x y H Q => y = V.non ∧ Q (.bl (decide (x = .non))) H) te (tC .non)) Γ (.bool o.isNone) := fun A σ H hi he hg Q q => h A σ H hi he hg _ fun x d H1 r1 hx e => by
  subst e
  refine ⟨rfl, ?_⟩
  cases o with
  | none =>
    have h2 := hx.ne (optI_ne none)
    cases h2
    exact q _ _ H1 r1 (.inr (.bl _)) rfl
  | some p =>
    obtain rfl := hx.int
    exact q _ _ H1 r1 (.inr (.bl _)) rfl
end
theorem hd_pair {x r : PyData} (h : (PyData.tuple [x, r]).hasDict = false) : x.hasDict = false ∧ r.hasDict = false := ⟨hd_mem h x (by simp), hd_mem h r (by simp)⟩
theorem lay_mem {ds : List PyData} (h : PyData.canLayAll0 ds = true) : ∀ d ∈ ds, d.canLay0 = true := by
  induction ds with
  | nil => intro d hd; simp at hd
  | cons x r ih =>
    simp only [PyData.canLayAll0, Bool.and_eq_true] at h
    intro d hd
    rcases List.mem_cons.mp hd with rfl | hd
    · exact h.1
    · exact ih h.2 d hd
theorem dep_mem {ds : List PyData} : ∀ d ∈ ds, d.depth ≤ PyData.depthAll ds := by
  induction ds with
  | nil => intro d hd; simp at hd
  | cons x r ih =>
    intro d hd
    simp only [PyData.depthAll]
    rcases List.mem_cons.mp hd with rfl | hd
    · omega
    · have := ih d hd
      omega
theorem shp_mem {ds : List PyData} (h : SeqAt.shaped (.tuple ds) = true) : ∀ d ∈ ds, SeqAt.shaped d = true := fun d hd => by
  unfold SeqAt.shaped at h ⊢
  rw [Bool.and_eq_true] at h ⊢
  have h1 : PyData.canLayAll0 ds = true := by simpa only [PyData.canLay0] using h.1
  have h2 := of_decide_eq_true h.2
  simp only [PyData.depth] at h2
  have h3 := dep_mem d hd
  exact ⟨lay_mem h1 d hd, decide_eq_true (by omega)⟩
abbrev wordsD : List PyData := wordsW.map .str
def pairB (c : Int) (d : PyData) : Bool := match d with
  | .tuple [x, r] => (wordsD.any fun z => PyData.eqv z x) && (faultD (c + 2) r).isNone
  | _ => false

abbrev s_is_row : Stmt := top 13
abbrev n_is_row : List Str := ["size", "value"]
theorem sc_is_row : FnScope n_is_row ["size", "value"] (defScope s_is_row) := ⟨rfl, rfl, rfl, by decide +kernel, rfl, by decide +kernel, by decide +kernel⟩
def sp_is_row (K : PySem.W.Frag) : Sp := spR K (fun a : Int × PyData => [.int a.1, a.2]) (fun a => 0 ≤ a.1 ∧ a.2.hasDict = false) fun a => .bool (faultD (a.1 + 2) a.2).isNone
theorem ok_is_row {f : Addr} {fd : FuncData} (T : Bt K mg) (C : Cst K w mg) (D : Df K mg "is_row" s_is_row ["size", "value"] f fd)
    {f_fault_in_integers : Addr} {d_fault_in_integers : FuncData} (h_fault_in_integers : Cal P w K mg base "fault_in_integers" s_fault_in_integers ["count", "value"] 2 (sp_fault_in_integers K) f_fault_in_integers d_fault_in_integers) : Cal P w K mg base "is_row" s_is_row ["size", "value"] 3 (sp_is_row K) f fd := by
  refine ok_R D sc_is_row (fun _ => rfl) fun cdv A outer s H E hgd hr => ⟨_, (pss_one (ps_ret (pe_cmpR op_isN (pe_fn (E := E0) h_fault_in_integers.G hgd (hr.mono (by decide)) (by rfl) h_fault_in_integers.gm h_fault_in_integers.kp h_fault_in_integers.b (pa_cons (pe_op op_add (pv 0) pe_int) (pa_cons (pv 1) pa_nil))) pe_non (nomark _)))), ?_⟩
  rintro ⟨c, d⟩ ⟨h0, hd⟩
  have h0 : 0 ≤ c := h0
  have hd : d.hasDict = false := hd
  show SG (pureL K) 0 _ [some (.int c), some d] _ _
  exact sg_ret (eg_isOI (eg_callR (L := pureL K) (args := fun a : Int × PyData => [.int a.1, a.2]) (ok := fun a => 1 ≤ a.1 ∧ a.2.hasDict = false) (val := fun a => optI (faultD a.1 a.2)) (c + 2, d) (ea_cons (eg_add (eg_var (i := 0) rfl) eg_int) (ea_cons (eg_var (i := 1) rfl) ea_nil)) ⟨show (1 : Int) ≤ c + 2 by omega, hd⟩ (hd_nomk2 rfl hd))) rfl

abbrev s_is_pair : Stmt := top 19
abbrev n_is_pair : List Str := ["count", "value"]
theorem sc_is_pair : FnScope n_is_pair ["count", "value"] (defScope s_is_pair) := ⟨rfl, rfl, rfl, by decide +kernel, rfl, by decide +kernel, by decide +kernel⟩
def sp_is_pair (K : PySem.W.Frag) : Sp := spR K (fun a : Int × PyData => [.int a.1, a.2]) (fun a => 0 ≤ a.1 ∧ SeqAt.shaped a.2 = true) fun a => .bool (pairB a.1 a.2)
theorem ok_is_pair {f : Addr} {fd : FuncData} (T : Bt K mg) (C : Cst K w mg) (D : Df K mg "is_pair" s_is_pair ["count", "value"] f fd)
    {f_is_row : Addr} {d_is_row : FuncData} (h_is_row : Cal P w K mg base "is_row" s_is_row ["size", "value"] 3 (sp_is_row K) f_is_row d_is_row) : Cal P w K mg base "is_pair" s_is_pair ["count", "value"] 4 (sp_is_pair K) f fd := by
  refine ok_R D sc_is_pair (fun _ => rfl) fun cdv A outer s H E hgd hr => ⟨_, (pss_one (ps_ret (pe_and (pe_callB (id := "isinstance") (x := "isinstance") call_isi (by rfl) T.isinstance (by decide +kernel) (pa_cons (pv 1) (pa_cons (pe_bltn (x := "tuple") (v := .ty "tuple") (by rfl) T.tuple (by decide +kernel) rfl) pa_nil))) (pe_and (pe_cmpR op_eq (pe_callB call_len_seq (by rfl) T.len PySem.boot_len (pa_cons (pv 1) pa_nil)) pe_int (nomark _)) (pe_and (pe_cmpR (op_inT (hu65 hr)) (pe_ix (ix_tupK (K := K) rfl) (pv 1) pe_int (fun _ _ => rfl)) (pe_glob (v := .ref C.wd) (by rfl) C.h_WORDS rfl) (by rfl)) (pe_one (pe_fn (E := E0) h_is_row.G hgd (hr.mono (by decide)) (by rfl) h_is_row.gm h_is_row.kp h_is_row.b (pa_cons (pv 0) (pa_cons (pe_ix (ix_tupK (K := K) rfl) (pv 1) pe_int (fun _ _ => rfl)) pa_nil))))))))), ?_⟩
  rintro ⟨c, d⟩ ⟨h0, hs⟩
  have h0 : 0 ≤ c := h0
  have hs : SeqAt.shaped d = true := hs
  have hd := nd_shaped hs
  show SG (pureL K) 0 _ [some (.int c), some d] _ (fun x => x = .bool (pairB c d))
  have t1 : EvD (pureL K) _ [some (.int c), some d] (.bool (isTup d)) := eg_isT (L := pureL K) (eg_var (i := 1) rfl) hd
  by_cases hp : ∃ x r, d = .tuple [x, r]
  · obtain ⟨x, r, rfl⟩ := hp
    obtain ⟨hx, hr⟩ := hd_pair hd
    have sx := shp_mem hs x (by simp)
    have e : pairB c (.tuple [x, r]) = (true && (true && ((wordsD.any fun z => PyData.eqv z x) && (faultD (c + 2) r).isNone))) := rfl
    rw [e]
    refine sg_ret (eg_and (a := true) t1 (eg_and (a := true) ((eg_eqI (eg_cb (ea_cons (eg_var (i := 1) rfl) ea_nil) cs_lenT) eg_int).to rfl) (eg_andC (eg_inT (eg_ixT (eg_var (i := 1) rfl) eg_int (by rfl)) (eg_words (L := pureL K) C) (hd_ne hx) sx (by decide +kernel)) fun _ => ?_))) rfl
    exact eg_callR (L := pureL K) (args := fun a : Int × PyData => [.int a.1, a.2]) (ok := fun a => 0 ≤ a.1 ∧ a.2.hasDict = false) (val := fun a => .bool (faultD (a.1 + 2) a.2).isNone) (c, r) (ea_cons (eg_var (i := 0) rfl) (ea_cons (eg_ixT (eg_var (i := 1) rfl) eg_int (by rfl)) ea_nil)) ⟨h0, hr⟩ (hd_nomk2 rfl hr)
  · have e : pairB c d = false := by
      unfold pairB
      split
      · exact absurd ⟨_, _, rfl⟩ hp
      · rfl
    rw [e]
    cases d with
    | tuple ds =>
      have hl : decide ((ds.length : Int) = 2) = false := decide_eq_false fun z => hp (by
        match ds, z with
        | [x, r], _ => exact ⟨x, r, rfl⟩
        | [], z => cases z
        | [_], z => cases z
        | _ :: _ :: _ :: _, z => simp at z; omega)
      exact sg_ret ((eg_andC (a := true) (b := false) t1 fun _ => (eg_andC (a := false) (b := false) ((eg_eqI (eg_cb (ea_cons (eg_var (i := 1) rfl) ea_nil) cs_lenT) eg_int).to (by rw [hl])) fun z => by cases z).to rfl).to rfl) rfl
    | _ => exact sg_ret ((eg_andC (a := false) (b := false) t1 fun z => by cases z).to rfl) rfl

abbrev s_check_pairs : Stmt := top 20
abbrev n_check_pairs : List Str := ["count", "most", "value", "number", "pair"]
theorem sc_check_pairs : FnScope n_check_pairs ["count", "most", "value"] (defScope s_check_pairs) := ⟨rfl, rfl, rfl, by decide +kernel, rfl, by decide +kernel, by decide +kernel⟩
def sysE (c most : Int) (d : PyData) : Option PyData := match d with
  | .tuple ds => if most < (ds.length : Int) then some .none else (ds.findIdx? fun x => !pairB c x).map fun (i : Nat) => .int i
  | _ => some .none
def sysX (c most : Int) (d : PyData) : Except PyData PyData := match sysE c most d with
  | none => .ok d
  | some q => .error q
def okS (d : PyData) : Prop := SeqAt.shaped d = true ∨ d = emD
theorem okS.e {d : PyData} (h : okS d) : okE d := h.imp nd_shaped id
structure CP where
  c : Int
  most : Int
  d : PyData
def okCP (a : CP) : Prop := 0 ≤ a.c ∧ okS a.d
def sp_check_pairs (K : PySem.W.Frag) (Ce : Addr) : Sp := spX K Ce "number" (fun a : CP => [.int a.c, .int a.most, a.d]) okCP fun a => sysX a.c a.most a.d
theorem len_check_pairs (Ce : Addr) : ∀ vs H Q E, sp_check_pairs K Ce vs H Q E → vs.length = (["count", "most", "value"] : List Str).length := fun vs H Q E ⟨a, A, _, _, hl, _⟩ => hl
theorem ok_check_pairs {f : Addr} {fd : FuncData} (T : Bt K mg) (C : Cst K w mg) {Ce fIe : Addr} {fde : FuncData} (TN : ExN K mg "NotSystem" "number" Ce fIe fde) (D : Df K mg "check_pairs" s_check_pairs ["count", "most", "value"] f fd)
    {f_is_pair : Addr} {d_is_pair : FuncData} (h_is_pair : Cal P w K mg base "is_pair" s_is_pair ["count", "value"] 4 (sp_is_pair K) f_is_pair d_is_pair) : CalX P w K mg base "check_pairs" s_check_pairs ["count", "most", "value"] 5 (sp_check_pairs K Ce) f fd := by
  refine ⟨D.gm, D.F, D.b, okX D.F sc_check_pairs (len_check_pairs Ce) (fun cdv A outer s H vs Q E hgd hr h => ⟨_, (pss_cons (ps_if (PW.pt (pw_or (pt_not (pt_val (pe_callB (id := "isinstance") (x := "isinstance") call_isi (by rfl) T.isinstance (by decide +kernel) (pa_cons (pv 2) (pa_cons (pe_bltn (x := "tuple") (v := .ty "tuple") (by rfl) T.tuple (by decide +kernel) rfl) pa_nil))))) (pw_or1 (pt_cmpR op_gt (pe_callB call_len_seq (by rfl) T.len PySem.boot_len (pa_cons (pv 2) pa_nil)) (pv 1) (nomark _))))) (pss_one (ps_rz rfl TN (hr.mono (by decide)) (takes_of rfl rfl rfl rfl) (pa_cons pe_non pa_nil))) pss_nil)
        (pss_cons (ps_for (passes_of rfl) rfl (pi_enumP false (by rfl) T.enumerate (pa_cons (pv 2) pa_nil)) (pg_tup rfl (pgs_cons (pg_name (i := 3) sc_check_pairs.nd rfl (Or.inl rfl)) (pgs_cons (pg_name (i := 4) sc_check_pairs.nd rfl (Or.inl rfl)) pgs_nil)))
        (pss_one (ps_if (pt_not (pt_val (pe_fn (E := E0) h_is_pair.G hgd (hr.mono (by decide)) (by rfl) h_is_pair.gm h_is_pair.kp h_is_pair.b (pa_cons (pv 0) (pa_cons (pv 4) pa_nil))))) (pss_one (ps_rz rfl TN (hr.mono (by decide)) (takes_of rfl rfl rfl rfl) (pa_cons (pv 3) pa_nil))) pss_nil)))
        (pss_one (ps_ret (pv 2))))), ?_⟩)⟩
  obtain ⟨⟨c, most, d⟩, A', ⟨h0, hs⟩, hi, hl, hv, q1, q2⟩ := h
  have h0 : 0 ≤ c := h0
  have hs : okS d := hs
  have he0 : EnvOk (memL K H) A' (L2.start n_check_pairs vs) H [some (.int c), some (.int most), some d, none, none] := start_ok (L := memL K H) (Nm := n_check_pairs) (vs := vs) (ds := [.int c, .int most, d]) hl fun i d' e => let ⟨v, e1, e2⟩ := hv i d' e; ⟨v, e1, .inr e2⟩
  have ho := hs.e
  have bad : ∀ (q : PyData) {te : TE} {Γ : List (Option PyData)} {N : List (Option PyData) → Prop} {Rt : PyData → Prop}, (q = .none ∨ ∃ i, q = .int i) → sysE c most d = some q → EvD (memL K H) te Γ q → SG (memL K H) 0 (tRz K Ce "number" (fun cls dd _ H' => E cls dd H') (tCons te tNil)) Γ N Rt := fun q te Γ N Rt hq hx hte => sg_rz TN.T TN.no hte (by rcases hq with rfl | ⟨i, rfl⟩ <;> intro z <;> cases z) fun A v dd σ H' sm hxd hdv => by
    have hx2 : sysX c most d = .error q := by unfold sysX; simp only [hx]
    refine q2 q hx2 v dd H' sm hxd ?_
    rcases hq with rfl | ⟨i, rfl⟩
    · cases hdv; exact .non
    · cases hdv; exact .int i
  refine (?run : SG (memL K H) 0 _ [some (.int c), some (.int most), some d, none, none] (fun _ => False) (fun x => x = d ∧ sysE c most d = none)) A' _ H hi he0 (Same.refl H) _ (fun σ' H' G r e z => z.elim) fun v dd H' r hd e => ?_
  case run =>
    cases d with
    | tuple ds =>
      have hsh : SeqAt.shaped (.tuple ds) = true := hs.elim id fun z => by cases z
      have t1 : EtD (memL K H) _ [some (.int c), some (.int most), some (.tuple ds), none, none] false := et_is (et_not (et_B (eg_isTE (L := memL K H) (eg_var (i := 2) rfl) ho))) rfl
      refine sq_if (et_or0 t1 (et_test (eg_gt (eg_cb (ea_cons (eg_var (i := 2) rfl) ea_nil) cs_lenT) (eg_var (i := 1) rfl)))) (fun hk => ?_) fun hk => ?_
      · exact bad .none (.inl rfl) (by unfold sysE; exact if_pos (of_decide_eq_true hk)) eg_non
      · have hm : ¬ (most < (ds.length : Int)) := of_decide_eq_false hk
        have es : sysE c most (.tuple ds) = (ds.findIdx? fun x => !pairB c x).map fun (i : Nat) => .int i := by unfold sysE; exact if_neg hm
        refine sq_next (sg_seq (N1 := fun G => (∃ x y, G = [some (.int c), some (.int most), some (.tuple ds), x, y]) ∧ ∀ d ∈ ds, pairB c d = true) (sg_for (js := [3, 4]) (fun i G => (∃ x y, G = [some (.int c), some (.int most), some (.tuple ds), x, y]) ∧ ∀ (j : Nat) x, j < i → ds[j]? = some x → pairB c x = true) (wk_enum (k := false) (ea_cons (eg_var (i := 2) rfl) ea_nil)) ⟨⟨none, none, rfl⟩, fun j x hj => by omega⟩ ?_ ?_) ?_)
        · rintro i d G hdi ⟨⟨x, y, rfl⟩, hb⟩
          rw [List.getElem?_mapIdx] at hdi
          cases hn : ds[i]? with
          | none => rw [hn] at hdi; cases hdi
          | some e =>
            rw [hn] at hdi
            have hd' : PyData.tuple [.int (i : Nat), e] = d := Option.some.inj hdi
            subst hd'
            have hse := shp_mem hsh e (List.mem_of_getElem? hn)
            refine ⟨_, tg_two, sg_if (et_not (et_B (eg_callR (L := memL K H) (args := fun a : Int × PyData => [.int a.1, a.2]) (ok := fun a => 0 ≤ a.1 ∧ SeqAt.shaped a.2 = true) (val := fun a => .bool (pairB a.1 a.2)) (c, e) (ea_cons (eg_var (i := 0) rfl) (ea_cons (eg_var (i := 4) rfl) ea_nil)) ⟨h0, hse⟩ (hd_nomk2 rfl (nd_shaped hse))))) (fun hk2 => ?_) fun hk2 => ?_⟩
            · have hz : pairB c e = false := by simpa using hk2
              refine bad (.int (i : Nat)) (.inr ⟨_, rfl⟩) ?_ (eg_var (i := 3) rfl)
              rw [es]
              have : (ds.findIdx? fun x => !pairB c x) = some i := by
                rw [List.findIdx?_eq_some_iff_getElem]
                obtain ⟨hl, e1⟩ := List.getElem?_eq_some_iff.mp hn
                refine ⟨hl, by rw [e1, hz]; rfl, fun j hj => ?_⟩
                rw [hb j _ hj (List.getElem?_eq_getElem (by omega))]
                decide
              rw [this]
              rfl
            · have hz : pairB c e = true := by simpa using hk2
              refine sg_next ⟨⟨_, _, rfl⟩, fun j x hj hx => ?_⟩
              by_cases hji : j = i
              · subst hji
                rw [hn] at hx
                rw [← Option.some.inj hx]
                exact hz
              · exact hb j x (by omega) hx
        · rintro G ⟨hG, hb⟩
          refine ⟨hG, fun d hd => ?_⟩
          obtain ⟨j, hj⟩ := List.getElem?_of_mem hd
          exact hb j d (by rw [List.length_mapIdx]; exact (List.getElem?_eq_some_iff.mp hj).1) hj
        · rintro G ⟨⟨x, y, rfl⟩, hall⟩
          refine sg_ret (eg_var (i := 2) rfl) ⟨rfl, ?_⟩
          rw [es]
          have : (ds.findIdx? fun x => !pairB c x) = none := by
            rw [List.findIdx?_eq_none_iff]
            intro x hx
            rw [hall x hx]
            rfl
          rw [this]
          rfl
    | _ =>
      refine sq_if (et_or1 (et_is (et_not (et_B (eg_isTE (L := memL K H) (eg_var (i := 2) rfl) ho))) rfl)) (fun _ => ?_) fun hk => by cases hk
      exact bad .none (.inl rfl) rfl eg_non
  · obtain ⟨rfl, hx⟩ := e
    exact q1 dd (by unfold sysX; simp only [hx]) v H' r (hd.ne (okE_ne ho))

end V1
set_option Elab.async false
set_option linter.all false
set_option maxRecDepth 100000
set_option maxHeartbeats 4000000
namespace V1
open PySem PySem.Spec PyProof.Rows L2
variable {P : Program} {w : World} {K : PySem.W.Frag} {mg : Str → Option Value} {base : Heap}

abbrev s_check_point : Stmt := top 11
abbrev n_check_point : List Str := ["size", "value", "place"]
theorem sc_check_point : FnScope n_check_point ["size", "value"] (defScope s_check_point) := ⟨rfl, rfl, rfl, by decide +kernel, rfl, by decide +kernel, by decide +kernel⟩
def judX (k : Int) (a : Int × PyData) : Except PyData PyData := match faultD (a.1 + k) a.2 with
  | none => .ok a.2
  | some i => .error (.int i)
def okJ (a : Int × PyData) : Prop := 0 ≤ a.1 ∧ a.2.hasDict = false
def sp_check_point (K : PySem.W.Frag) (Ce : Addr) : Sp := spX K Ce "place" (fun a : Int × PyData => [.int a.1, a.2]) okJ (judX 1)
theorem len_check_point (Ce : Addr) : ∀ vs H Q E, sp_check_point K Ce vs H Q E → vs.length = (["size", "value"] : List Str).length := fun vs H Q E ⟨a, A, _, _, hl, _⟩ => hl
theorem ok_check_point {f : Addr} {fd : FuncData} (T : Bt K mg) (C : Cst K w mg) {Ce fIe : Addr} {fde : FuncData} (TN : ExN K mg "NotPoint" "place" Ce fIe fde) (D : Df K mg "check_point" s_check_point ["size", "value"] f fd)
    {f_fault_in_integers : Addr} {d_fault_in_integers : FuncData} (h_fault_in_integers : Cal P w K mg base "fault_in_integers" s_fault_in_integers ["count", "value"] 2 (sp_fault_in_integers K) f_fault_in_integers d_fault_in_integers) : CalX P w K mg base "check_point" s_check_point ["size", "value"] 3 (sp_check_point K Ce) f fd := by
  refine ⟨D.gm, D.F, D.b, okX D.F sc_check_point (len_check_point Ce) (fun cdv A outer s H vs Q E hgd hr h => ⟨_, (pss_cons (ps_set (i := 2) sc_check_point.nd rfl (Or.inl rfl) (pe_fn (E := E0) h_fault_in_integers.G hgd (hr.mono (by decide)) (by rfl) h_fault_in_integers.gm h_fault_in_integers.kp h_fault_in_integers.b (pa_cons (pe_op op_add (pv 0) pe_int) (pa_cons (pv 1) pa_nil))))
        (pss_cons (ps_if (pt_cmpR op_notN (pv 2) pe_non (nomark _)) (pss_one (ps_rz rfl TN (hr.mono (by decide)) (takes_of rfl rfl rfl rfl) (pa_cons (pv 2) pa_nil))) pss_nil)
        (pss_one (ps_ret (pv 1))))), ?_⟩)⟩
  obtain ⟨⟨c, d⟩, A', ⟨ho, hnd⟩, hi, hl, hv, q1, q2⟩ := h
  have ho : 0 ≤ c := ho
  have hnd : d.hasDict = false := hnd
  have he0 : EnvOk (pureL K) A' (L2.start n_check_point vs) H [some (.int c), some d, none] := start_ok (L := pureL K) (Nm := n_check_point) (vs := vs) (ds := [.int c, d]) hl fun i d' e => let ⟨v, e1, e2⟩ := hv i d' e; ⟨v, e1, .inr e2⟩
  refine (eg_callR (L := pureL K) (args := fun a : Int × PyData => [.int a.1, a.2]) (ok := fun a => 1 ≤ a.1 ∧ a.2.hasDict = false) (val := fun a => optI (faultD a.1 a.2)) ((c + 1, d) : Int × PyData) (ea_cons (eg_add (eg_var (i := 0) rfl) eg_int) (ea_cons (eg_var (i := 1) rfl) ea_nil)) ⟨show (1 : Int) ≤ c + 1 by omega, hnd⟩ (hd_nomk2 (d := .int (c + 1)) rfl hnd) : EvD (pureL K) _ [some (.int c), some d, none] (optI (faultD (c + 1) d))) A' _ H hi he0 trivial _ fun v1 d1 H1 r1 hv1 e1 => ?_
  subst e1
  have s1 : Same H H1 := r1
  have he1 := (he0.r (L := pureL K) (n := 0) r1).set hv1 2
  have hi1 := hi.r (L := pureL K) (n := 0) r1
  refine (et_test (eg_notOI (o := faultD (c + 1) d) (eg_var (i := 2) rfl)) : EtD (pureL K) _ [some (.int c), some d, some (optI (faultD (c + 1) d))] _) A' _ H1 hi1 he1 trivial _ fun H2 r2 => ?_
  have s2 : Same H H2 := s1.trans r2
  have he2 : EnvOk (pureL K) A' _ H2 [some (.int c), some d, some (optI (faultD (c + 1) d))] := he1.r (L := pureL K) (n := 0) r2
  have hi2 := hi1.r (L := pureL K) (n := 0) r2
  cases hf : faultD (c + 1) d with
  | some q =>
    have hc : judX 1 (c, d) = .error (.int q) := by unfold judX; simp only [hf]
    refine ev_rz (L := pureL K) (W := fun cls d _ H => E cls d H) (Γ := [some (.int c), some d, some (.int q)]) (d := .int q) TN.T TN.no (eg_var (i := 2) rfl) (by intro z; cases z) hi2 (by rw [hf] at he2; exact he2) trivial (fun v' dd H' sm hdd hv' => ?_) { nx := fun _ _ => True, rt := fun _ _ => True }
    exact q2 _ hc v' dd H' (s2.trans sm) hdd hv'
  | none =>
    have hc : judX 1 (c, d) = .ok d := by unfold judX; simp only [hf]
    obtain ⟨v, e3, hv3⟩ := he2.2 1 d rfl
    exact ⟨v, e3, q1 _ hc v H2 s2 (hv3.ne (hd_ne hnd))⟩

abbrev s_check_system : Stmt := top 21
abbrev n_check_system : List Str := ["count", "system"]
theorem sc_check_system : FnScope n_check_system ["count", "system"] (defScope s_check_system) := ⟨rfl, rfl, rfl, by decide +kernel, rfl, by decide +kernel, by decide +kernel⟩
def okSy (a : Int × PyData) : Prop := 0 ≤ a.1 ∧ okS a.2
def sp_check_system (K : PySem.W.Frag) (Ce : Addr) : Sp := spX K Ce "number" (fun a : Int × PyData => [.int a.1, a.2]) okSy fun a => sysX a.1 60 a.2
theorem len_check_system (Ce : Addr) : ∀ vs H Q E, sp_check_system K Ce vs H Q E → vs.length = (["count", "system"] : List Str).length := fun vs H Q E ⟨a, A, _, _, hl, _⟩ => hl
theorem nm2 {i : Int} {d : PyData} (h : okE d) : nomk [.int i, d] = true := okE_nomk h
theorem nm3 {i j : Int} {d : PyData} (h : okE d) : nomk [.int i, .int j, d] = true := okE_nomk h
theorem ok_check_system {f : Addr} {fd : FuncData} (T : Bt K mg) (C : Cst K w mg) {Ce fIe : Addr} {fde : FuncData} (TN : ExN K mg "NotSystem" "number" Ce fIe fde) (D : Df K mg "check_system" s_check_system ["count", "system"] f fd)
    {f_check_pairs : Addr} {d_check_pairs : FuncData} (h_check_pairs : CalX P w K mg base "check_pairs" s_check_pairs ["count", "most", "value"] 5 (sp_check_pairs K Ce) f_check_pairs d_check_pairs) : CalX P w K mg base "check_system" s_check_system ["count", "system"] 6 (sp_check_system K Ce) f fd := by
  refine ⟨D.gm, D.F, D.b, okX D.F sc_check_system (len_check_system Ce) (fun cdv A outer s H vs Q E hgd hr h => ⟨_, (pss_one (ps_ret (pe_callX (E := fun _ => E) h_check_pairs.G hgd (hr.mono (by decide)) (by rfl) h_check_pairs.gm h_check_pairs.kp h_check_pairs.b (fun σ => passAt (takes_of rfl rfl rfl rfl) σ) (pa_cons (pv 0) (pa_cons (pe_gc (v := .int 60) (by rfl) (C.h_MOST_PAIRS)) (pa_cons (pv 1) pa_nil)))))), ?_⟩)⟩
  obtain ⟨⟨c, d⟩, A', ⟨h0, hs⟩, hi, hl, hv, q1, q2⟩ := h
  have h0 : 0 ≤ c := h0
  have hs : okS d := hs
  have he0 : EnvOk (pureL K) A' (L2.start n_check_system vs) H [some (.int c), some d] := start_ok (L := pureL K) (Nm := n_check_system) (vs := vs) (ds := [.int c, d]) hl fun i d' e => let ⟨v, e1, e2⟩ := hv i d' e; ⟨v, e1, .inr e2⟩
  have ea : EaD (pureL K) (tCons (tVar 0) (tCons (tC (.int 60)) (tCons (tVar 1) tNil))) [some (.int c), some d] [.int c, .int 60, d] := ea_cons (eg_var (i := 0) rfl) (ea_cons eg_int (ea_cons (eg_var (i := 1) rfl) ea_nil))
  cases hx : sysX c 60 d with
  | ok y =>
    have hy : y = d := by
      unfold sysX at hx
      cases hz : sysE c 60 d with
      | none => rw [hz] at hx; exact (Except.ok.inj hx).symm
      | some q => rw [hz] at hx; cases hx
    subst hy
    refine (eg_callXv (L := pureL K) (C := Ce) (fld := "number") (args := fun a : CP => [.int a.c, .int a.most, a.d]) (ok := okCP) (res := fun a => sysX a.c a.most a.d) (⟨c, 60, y⟩ : CP) ea ⟨h0, hs⟩ hx (nm3 hs.e) : EvD (pureL K) _ [some (.int c), some y] y) A' _ H hi he0 trivial _ fun v dd H' rr hvv e => ?_
    subst e
    exact q1 _ hx v H' rr (hvv.ne (okE_ne hs.e))
  | error q => exact rz_callX (L := pureL K) (C := Ce) (fld := "number") (args := fun a : CP => [.int a.c, .int a.most, a.d]) (ok := okCP) (res := fun a => sysX a.c a.most a.d) (⟨c, 60, d⟩ : CP) ea ⟨h0, hs⟩ hx (nm3 hs.e) E A' _ H hi he0 trivial (fun v dd H' sm hx2 hv2 => q2 _ hx v dd H' sm hx2 hv2) _

def dotL (a b : List Int) : Int := ((a.zip b).map fun p => p.1 * p.2).sum
structure RZ where
  cs : List Int
  c : Int
  w : Int
  xs : List Int
  b : Int
def RZ.r (a : RZ) : PyData := tI (a.cs ++ [a.c, a.w])
def RZ.x (a : RZ) : PyData := tI (a.xs ++ [a.b])
def RZ.v (a : RZ) : Int := a.c * a.b + dotL a.cs a.xs
structure RZ.Ok (a : RZ) : Prop where
  l : a.cs.length = a.xs.length
  m : a.xs.length ≤ 50
  b1 : Bn 400 a.cs
  b2 : Bn 400 a.xs
  b3 : a.c.natAbs < 2 ^ 400
  b4 : a.b.natAbs < 2 ^ 400
section
variable {L : Rl} {Γ : List (Option PyData)} {t : TA} {te ta tb : TE}
theorem eg_orC {a b : Bool} (ha : EvD L ta Γ (.bool a)) (hb : a = false → EvD L tb Γ (.bool b)) : EvD L (tOrV ta tb) Γ (.bool (a || b)) := fun A σ H hi he hg Q q => ha A σ H hi he hg _ fun x d H1 r1 hx p => by
  subst p
  obtain rfl := hx.bool
  refine ⟨a, rfl, ?_⟩
  cases a with
  | false => exact hb rfl A σ H1 (hi.r r1) (he.r r1) (Rl.gR (b := 0) hg r1) _ fun y d H2 r2 hy p => q y d H2 (L.tr (a := 0) (b := 0) r1 r2) hy p
  | true => exact q _ _ H1 r1 (.inr (.bl true)) rfl
theorem wk_zipI {as bs : List Int} (h : EaD L t Γ [tI as, tI bs]) : WkD L (iZipP L.K false false t) Γ ((as.zip bs).map fun p => PyData.tuple [.int p.1, .int p.2]) := by
  have h2 : WkD L (iZipP L.K false false t) Γ (zipD (as.map .int) (bs.map .int)) := wk_zip (k1 := false) (k2 := false) h
  rwa [zipD_map] at h2
end
theorem dot_app {cs xs : List Int} {c b : Int} (h : cs.length = xs.length) : dotL (cs ++ [c]) (xs ++ [b]) = c * b + dotL cs xs := by
  unfold dotL
  rw [List.zip_append h, List.map_append, List.sum_append]
  show _ + (c * b + 0) = _
  omega

abbrev s_top_at : Stmt := top 14
abbrev n_top_at : List Str := ["row", "point", "weight", "top"]
theorem sc_top_at : FnScope n_top_at ["row", "point"] (defScope s_top_at) := ⟨rfl, rfl, rfl, by decide +kernel, rfl, by decide +kernel, by decide +kernel⟩
def sp_top_at (K : PySem.W.Frag) : Sp := spR K (fun a : RZ => [a.r, a.x]) RZ.Ok fun a => .int a.v
theorem ok_top_at {f : Addr} {fd : FuncData} (T : Bt K mg) (C : Cst K w mg) (D : Df K mg "top_at" s_top_at ["row", "point"] f fd) : Cal P w K mg base "top_at" s_top_at ["row", "point"] 1 (sp_top_at K) f fd := by
  refine ok_R D sc_top_at (fun _ => rfl) fun cdv A outer s H E hgd hr => ⟨_, (pss_one (ps_ret (pe_op op_add (pe_op op_mulW (pe_ix (ix_tupK (K := K) rfl) (pv 0) (pe_un un_neg pe_int) (fun _ _ => rfl)) (pe_ix (ix_tupK (K := K) rfl) (pv 1) (pe_un un_neg pe_int) (fun _ _ => rfl))) (pe_callB (cr_sum rfl) (by rfl) T.sum (by decide +kernel) (pa_cons (pe_lc (own := [("weight", 2), ("top", 3)]) (g := gTup K 2 (gCons (gName 2) (gCons (gName 3) gNil))) (tt := tYes) rfl sc_top_at.nd (pi_zipP false false (by rfl) T.zip (pa_cons (pe_slice sl_tup (pv 0) po_none (po_some (pe_un un_neg pe_int))) (pa_cons (pe_slice sl_tup (pv 1) po_none (po_some (pe_un un_neg pe_int))) pa_nil))) (blkOk_by (own := [("weight", 2), ("top", 3)]) (N := n_top_at) (sc := defScope s_top_at) (by decide +kernel)) (fun _ _ _ _ _ => (pg_tup rfl (pgs_cons (pg_name (i := 2) sc_top_at.nd rfl (Or.inl rfl)) (pgs_cons (pg_name (i := 3) sc_top_at.nd rfl (Or.inl rfl)) pgs_nil)))) (fun _ _ _ _ _ => pts_nil) (fun _ _ _ _ _ => (pe_op op_mulW (pv 2) (pv 3)))) pa_nil))))), ?_⟩
  rintro ⟨cs, c, w, xs, b⟩ ho
  have hA : Bn 400 cs := ho.b1
  have hB : Bn 400 xs := ho.b2
  have hl : cs.length = xs.length := ho.l
  have hm : xs.length ≤ 50 := ho.m
  show SG (pureL K) 0 _ [some (.tuple ((cs ++ [c, w]).map .int)), some (.tuple ((xs ++ [b]).map .int)), none, none] _ (fun z => z = .int (c * b + dotL cs xs))
  have e1 : (cs ++ [c, w]).map PyData.int = cs.map .int ++ [.int c, .int w] := by rw [List.map_append]; rfl
  have e2 : (xs ++ [b]).map PyData.int = xs.map .int ++ [.int b] := by rw [List.map_append]; rfl
  rw [e1, e2]
  refine sg_ret (eg_add (eg_mul (eg_ixT (eg_var (i := 0) rfl) (eg_neg eg_int) (at_last3 _ _ _)) (eg_ixT (eg_var (i := 1) rfl) (eg_neg eg_int) (atI_last _ _)) (mw (a := 400) (b := 400) ho.b3 ho.b4)) (eg_cb (ea_cons ?_ ea_nil) (cs_sum (ns := (cs.zip xs).map fun p => p.1 * p.2)))) rfl
  rw [List.map_map]
  refine eg_lcm (js := [2, 3]) (wk_zipI (L := pureL K) (as := cs) (bs := xs) (ea_cons (eg_init2 (L := pureL K) (eg_var (i := 0) rfl)) (ea_cons (eg_init1 (L := pureL K) (eg_var (i := 1) rfl)) ea_nil))) (by simp) (by rw [List.length_zip]; omega) fun p hp => ⟨(fun z => by cases z), _, tg_two, eg_mul (eg_var rfl) (eg_var rfl) (mw (a := 400) (b := 400) (hA _ (List.of_mem_zip hp).1) (hB _ (List.of_mem_zip hp).2))⟩

abbrev s_law_total : Stmt := top 35
abbrev n_law_total : List Str := ["row", "point_so", "one", "other"]
theorem sc_law_total : FnScope n_law_total ["row", "point_so"] (defScope s_law_total) := ⟨rfl, rfl, rfl, by decide +kernel, rfl, by decide +kernel, by decide +kernel⟩
def sp_law_total (K : PySem.W.Frag) : Sp := spR K (fun a : RZ => [a.r, a.x]) RZ.Ok fun a => .int a.v
theorem ok_law_total {f : Addr} {fd : FuncData} (T : Bt K mg) (C : Cst K w mg) (D : Df K mg "_law_total" s_law_total ["row", "point_so"] f fd) : Cal P w K mg base "_law_total" s_law_total ["row", "point_so"] 1 (sp_law_total K) f fd := by
  refine ok_R D sc_law_total (fun _ => rfl) fun cdv A outer s H E hgd hr => ⟨_, (pss_one (ps_ret (pe_callB (cr_sum rfl) (by rfl) T.sum (by decide +kernel) (pa_cons (pe_lc (own := [("one", 2), ("other", 3)]) (g := gTup K 2 (gCons (gName 2) (gCons (gName 3) gNil))) (tt := tYes) rfl sc_law_total.nd (pi_zipP false false (by rfl) T.zip (pa_cons (pe_slice sl_tup (pv 0) po_none (po_some (pe_un un_neg pe_int))) (pa_cons (pv 1) pa_nil))) (blkOk_by (own := [("one", 2), ("other", 3)]) (N := n_law_total) (sc := defScope s_law_total) (by decide +kernel)) (fun _ _ _ _ _ => (pg_tup rfl (pgs_cons (pg_name (i := 2) sc_law_total.nd rfl (Or.inl rfl)) (pgs_cons (pg_name (i := 3) sc_law_total.nd rfl (Or.inl rfl)) pgs_nil)))) (fun _ _ _ _ _ => pts_nil) (fun _ _ _ _ _ => (pe_op op_mulW (pv 2) (pv 3)))) pa_nil)))), ?_⟩
  rintro ⟨cs, c, w, xs, b⟩ ho
  have hA : Bn 400 (cs ++ [c]) := fun z hz => by
    rcases List.mem_append.mp hz with h | h
    · exact ho.b1 z h
    · rw [List.mem_singleton.mp h]; exact ho.b3
  have hB : Bn 400 (xs ++ [b]) := fun z hz => by
    rcases List.mem_append.mp hz with h | h
    · exact ho.b2 z h
    · rw [List.mem_singleton.mp h]; exact ho.b4
  have hl : cs.length = xs.length := ho.l
  have hm : xs.length ≤ 50 := ho.m
  show SG (pureL K) 0 _ [some (.tuple ((cs ++ [c, w]).map .int)), some (tI (xs ++ [b])), none, none] _ (fun z => z = .int (c * b + dotL cs xs))
  have e1 : (cs ++ [c, w]).map PyData.int = (cs ++ [c]).map .int ++ [.int w] := by rw [List.map_append, List.map_append, List.append_assoc]; rfl
  rw [e1, ← dot_app hl]
  refine sg_ret (eg_cb (ea_cons ?_ ea_nil) (cs_sum (ns := ((cs ++ [c]).zip (xs ++ [b])).map fun p => p.1 * p.2))) rfl
  rw [List.map_map]
  refine eg_lcm (js := [2, 3]) (wk_zipI (L := pureL K) (as := cs ++ [c]) (bs := xs ++ [b]) (ea_cons (eg_init1 (L := pureL K) (eg_var (i := 0) rfl)) (ea_cons (eg_var (i := 1) rfl) ea_nil))) (by simp) (by rw [List.length_zip, List.length_append]; show min (_ + 1) _ ≤ _; omega) fun p hp => ⟨(fun z => by cases z), _, tg_two, eg_mul (eg_var rfl) (eg_var rfl) (mw (a := 400) (b := 400) (hA _ (List.of_mem_zip hp).1) (hB _ (List.of_mem_zip hp).2))⟩

abbrev s_row_sign : Stmt := top 15
abbrev n_row_sign : List Str := ["row", "point"]
theorem sc_row_sign : FnScope n_row_sign ["row", "point"] (defScope s_row_sign) := ⟨rfl, rfl, rfl, by decide +kernel, rfl, by decide +kernel, by decide +kernel⟩
def sp_row_sign (K : PySem.W.Frag) : Sp := spR K (fun a : RZ => [a.r, a.x]) RZ.Ok fun a => .int a.v.sign
theorem ok_row_sign {f : Addr} {fd : FuncData} (T : Bt K mg) (C : Cst K w mg) (D : Df K mg "row_sign" s_row_sign ["row", "point"] f fd)
    {f_sign_of : Addr} {d_sign_of : FuncData} (h_sign_of : Cal P w K mg base "sign_of" s_sign_of ["number"] 1 (sp_sign_of K) f_sign_of d_sign_of)
    {f_top_at : Addr} {d_top_at : FuncData} (h_top_at : Cal P w K mg base "top_at" s_top_at ["row", "point"] 1 (sp_top_at K) f_top_at d_top_at) : Cal P w K mg base "row_sign" s_row_sign ["row", "point"] 2 (sp_row_sign K) f fd := by
  refine ok_R D sc_row_sign (fun _ => rfl) fun cdv A outer s H E hgd hr => ⟨_, (pss_one (ps_ret (pe_fn (E := E0) h_sign_of.G hgd (hr.mono (by decide)) (by rfl) h_sign_of.gm h_sign_of.kp h_sign_of.b (pa_cons (pe_fn (E := E0) h_top_at.G hgd (hr.mono (by decide)) (by rfl) h_top_at.gm h_top_at.kp h_top_at.b (pa_cons (pv 0) (pa_cons (pv 1) pa_nil))) pa_nil)))), ?_⟩
  rintro a ho
  show SG (pureL K) 0 _ [some a.r, some a.x] _ _
  exact sg_ret (eg_callR (L := pureL K) (args := fun i : Int => [.int i]) (ok := fun _ => True) (val := fun i => .int i.sign) a.v (ea_cons (eg_callR (L := pureL K) (args := fun a : RZ => [a.r, a.x]) (ok := RZ.Ok) (val := fun a => .int a.v) a (ea_cons (eg_var (i := 0) rfl) (ea_cons (eg_var (i := 1) rfl) ea_nil)) ho) ea_nil) trivial) rfl

abbrev s_law_stands : Stmt := top 38
abbrev n_law_stands : List Str := ["word", "number"]
theorem sc_law_stands : FnScope n_law_stands ["word", "number"] (defScope s_law_stands) := ⟨rfl, rfl, rfl, by decide +kernel, rfl, by decide +kernel, by decide +kernel⟩
def stB (w : Str) (n : Int) : Bool := if w = "eq" then decide (n = 0) else if w = "gt" then decide (0 < n) else decide (0 ≤ n)
def sp_law_stands (K : PySem.W.Frag) : Sp := spR K (fun a : Str × Int => [.str a.1, .int a.2]) (fun _ => True) fun a => .bool (stB a.1 a.2)
theorem ok_law_stands {f : Addr} {fd : FuncData} (T : Bt K mg) (C : Cst K w mg) (D : Df K mg "_law_stands" s_law_stands ["word", "number"] f fd) : Cal P w K mg base "_law_stands" s_law_stands ["word", "number"] 1 (sp_law_stands K) f fd := by
  refine ok_R D sc_law_stands (fun _ => rfl) fun cdv A outer s H E hgd hr => ⟨_, (pss_one (ps_ret (pe_ifExp (pt_cmpR op_eq (pv 0) pe_str (nomark _)) (pe_cmpR op_eq (pv 1) pe_int (nomark _)) (pe_ifExp (pt_cmpR op_eq (pv 0) pe_str (nomark _)) (pe_cmpR op_gt (pv 1) pe_int (nomark _)) (pe_cmpR op_ge (pv 1) pe_int (nomark _)))))), ?_⟩
  rintro ⟨w, n⟩ _
  show SG (pureL K) 0 _ [some (.str w), some (.int n)] _ (fun x => x = .bool (stB w n))
  refine sg_ret (eg_if (et_test (eg_eqS (eg_var (i := 0) rfl) eg_str)) (fun h => ?_) fun h => eg_if (et_test (eg_eqS (eg_var (i := 0) rfl) eg_str)) (fun h2 => ?_) fun h2 => ?_) rfl
  · have e : stB w n = decide (n = 0) := by unfold stB; rw [if_pos (of_decide_eq_true h)]
    rw [e]
    exact eg_eqI (eg_var (i := 1) rfl) eg_int
  · have e : stB w n = decide (0 < n) := by unfold stB; rw [if_neg (of_decide_eq_false h), if_pos (of_decide_eq_true h2)]
    rw [e]
    exact eg_gt (eg_var (i := 1) rfl) eg_int
  · have e : stB w n = decide (0 ≤ n) := by unfold stB; rw [if_neg (of_decide_eq_false h), if_neg (of_decide_eq_false h2)]
    rw [e]
    exact eg_ge (eg_var (i := 1) rfl) eg_int

abbrev s_pair_holds : Stmt := top 22
abbrev n_pair_holds : List Str := ["pair", "point", "word", "row", "sign"]
theorem sc_pair_holds : FnScope n_pair_holds ["pair", "point"] (defScope s_pair_holds) := ⟨rfl, rfl, rfl, by decide +kernel, rfl, by decide +kernel, by decide +kernel⟩
structure PZ where
  w : Str
  cs : List Int
  c : Int
  b : Int
def pD (p : PZ) : PyData := .tuple [.str p.w, tI (p.cs ++ [p.c, p.b])]
structure PA where
  p : PZ
  xs : List Int
  b : Int
def PA.z (a : PA) : RZ := ⟨a.p.cs, a.p.c, a.p.b, a.xs, a.b⟩
def okPA (a : PA) : Prop := a.p.w ∈ wordsW ∧ a.z.Ok
def sp_pair_holds (K : PySem.W.Frag) : Sp := spR K (fun a : PA => [pD a.p, tI (a.xs ++ [a.b])]) okPA fun a => .bool (stB a.p.w a.z.v)
theorem ok_pair_holds {f : Addr} {fd : FuncData} (T : Bt K mg) (C : Cst K w mg) (D : Df K mg "pair_holds" s_pair_holds ["pair", "point"] f fd)
    {f_row_sign : Addr} {d_row_sign : FuncData} (h_row_sign : Cal P w K mg base "row_sign" s_row_sign ["row", "point"] 2 (sp_row_sign K) f_row_sign d_row_sign) : Cal P w K mg base "pair_holds" s_pair_holds ["pair", "point"] 3 (sp_pair_holds K) f fd := by
  refine ok_R D sc_pair_holds (fun _ => rfl) fun cdv A outer s H E hgd hr => ⟨_, (pss_cons (ps_asg (pv 0) (pg_tup rfl (pgs_cons (pg_name (i := 2) sc_pair_holds.nd rfl (Or.inl rfl)) (pgs_cons (pg_name (i := 3) sc_pair_holds.nd rfl (Or.inl rfl)) pgs_nil))))
        (pss_cons (ps_set (i := 4) sc_pair_holds.nd rfl (Or.inl rfl) (pe_fn (E := E0) h_row_sign.G hgd (hr.mono (by decide)) (by rfl) h_row_sign.gm h_row_sign.kp h_row_sign.b (pa_cons (pv 3) (pa_cons (pv 1) pa_nil))))
        (pss_cons (ps_if (pt_cmpR op_eq (pv 2) pe_str (nomark _)) (pss_one (ps_ret (pe_cmpR op_eq (pv 4) pe_int (nomark _)))) pss_nil)
        (pss_one (ps_ret (pe_or (pe_cmpR op_gt (pv 4) pe_int (nomark _)) (pe_one (pe_and (pe_cmpR op_eq (pv 4) pe_int (nomark _)) (pe_one (pe_cmpR op_eq (pv 2) pe_str (nomark _))))))))))), ?_⟩
  rintro ⟨⟨w, cs, c, pb⟩, xs, b⟩ ⟨hw, ho⟩
  have hw : w ∈ wordsW := hw
  obtain ⟨z, hz⟩ : ∃ z : RZ, z = PA.z ⟨⟨w, cs, c, pb⟩, xs, b⟩ := ⟨_, rfl⟩
  have ho : z.Ok := by rw [hz]; exact ho
  show SG (pureL K) 0 _ [some (.tuple [.str w, tI (cs ++ [c, pb])]), some (tI (xs ++ [b])), none, none, none] _ (fun x => x = .bool (stB w (PA.z ⟨⟨w, cs, c, pb⟩, xs, b⟩).v))
  have er : tI (cs ++ [c, pb]) = z.r := by rw [hz]; rfl
  have ex : tI (xs ++ [b]) = z.x := by rw [hz]; rfl
  rw [← hz, er, ex]
  refine sq_tgG (a := 0) (b := 0) (P := fun d => d = .tuple [.str w, z.r]) (js := [2, 3]) (EvG.mono (eg_var (i := 0) rfl) (Nat.le_refl _) fun d e => e) (fun d e => by rw [e]; intro z; cases z) fun d e => ?_
  subst e
  refine ⟨_, tg_two, ?_⟩
  show SG (pureL K) 0 _ [some (.tuple [.str w, z.r]), some z.x, some (.str w), some z.r, none] _ _
  refine sq_asg (d := .int z.v.sign) (eg_callR (L := pureL K) (args := fun a : RZ => [a.r, a.x]) (ok := RZ.Ok) (val := fun a => .int a.v.sign) z (ea_cons (eg_var (i := 3) rfl) (ea_cons (eg_var (i := 1) rfl) ea_nil)) ho) ?_
  have sg : (z.v.sign = 0 ↔ z.v = 0) ∧ (0 < z.v.sign ↔ 0 < z.v) := by
    rcases Int.lt_trichotomy z.v 0 with h | h | h
    · rw [Int.sign_eq_neg_one_of_neg h]; omega
    · rw [h]; decide
    · rw [Int.sign_eq_one_of_pos h]; omega
  refine sq_if (et_test (eg_eqS (eg_var (i := 2) rfl) eg_str)) (fun h => ?_) fun h => ?_
  · refine sg_retq (eg_eqI (eg_var (i := 4) rfl) eg_int) ?_
    unfold stB
    rw [if_pos (of_decide_eq_true h)]
    congr 1
    exact decide_eq_decide.mpr sg.1
  · refine sq_next (sg_ret (eg_orC (eg_gt (eg_var (i := 4) rfl) eg_int) fun _ => eg_and (eg_eqI (eg_var (i := 4) rfl) eg_int) (eg_eqS (eg_var (i := 2) rfl) eg_str)) ?_)
    unfold stB
    rw [if_neg (of_decide_eq_false h)]
    have h1 : w ≠ "eq" := of_decide_eq_false h
    simp only [wordsW, List.mem_cons, List.not_mem_nil, or_false] at hw
    congr 1
    rcases hw with rfl | rfl | rfl
    · rw [if_neg (by decide)]
      rcases Int.lt_trichotomy z.v 0 with h | h | h
      · rw [Int.sign_eq_neg_one_of_neg h, decide_eq_false (show ¬ (0 ≤ z.v) by omega)]; decide
      · rw [h]; decide
      · rw [Int.sign_eq_one_of_pos h, decide_eq_true (show 0 ≤ z.v by omega)]; decide
    · rw [if_pos rfl]
      rcases Int.lt_trichotomy z.v 0 with h | h | h
      · rw [Int.sign_eq_neg_one_of_neg h, decide_eq_false (show ¬ (0 < z.v) by omega)]; decide
      · rw [h]; decide
      · rw [Int.sign_eq_one_of_pos h, decide_eq_true h]; decide
    · exact absurd rfl h1

abbrev s_first_false : Stmt := top 23
abbrev n_first_false : List Str := ["system", "point", "number", "pair"]
theorem sc_first_false : FnScope n_first_false ["system", "point"] (defScope s_first_false) := ⟨rfl, rfl, rfl, by decide +kernel, rfl, by decide +kernel, by decide +kernel⟩
structure SA where
  ps : List PZ
  xs : List Int
  b : Int
def sysD (ps : List PZ) : PyData := .tuple (ps.map pD)
def okSA (a : SA) : Prop := ∀ p ∈ a.ps, okPA ⟨p, a.xs, a.b⟩
def brk (ps : List PZ) (xs : List Int) (b : Int) : Option Nat := ps.findIdx? fun p => !stB p.w (PA.z ⟨p, xs, b⟩).v
def sp_first_false (K : PySem.W.Frag) : Sp := spR K (fun a : SA => [sysD a.ps, tI (a.xs ++ [a.b])]) okSA fun a => optI ((brk a.ps a.xs a.b).map fun (i : Nat) => (i : Int))
theorem ok_first_false {f : Addr} {fd : FuncData} (T : Bt K mg) (C : Cst K w mg) (D : Df K mg "first_false" s_first_false ["system", "point"] f fd)
    {f_pair_holds : Addr} {d_pair_holds : FuncData} (h_pair_holds : Cal P w K mg base "pair_holds" s_pair_holds ["pair", "point"] 3 (sp_pair_holds K) f_pair_holds d_pair_holds) : Cal P w K mg base "first_false" s_first_false ["system", "point"] 4 (sp_first_false K) f fd := by
  refine ok_R D sc_first_false (fun _ => rfl) fun cdv A outer s H E hgd hr => ⟨_, (pss_cons (ps_for PassesOwn.never rfl (pi_enumP false (by rfl) T.enumerate (pa_cons (pv 0) pa_nil)) (pg_tup rfl (pgs_cons (pg_name (i := 2) sc_first_false.nd rfl (Or.inl rfl)) (pgs_cons (pg_name (i := 3) sc_first_false.nd rfl (Or.inl rfl)) pgs_nil)))
        (pss_one (ps_if (pt_not (pt_val (pe_fn (E := E0) h_pair_holds.G hgd (hr.mono (by decide)) (by rfl) h_pair_holds.gm h_pair_holds.kp h_pair_holds.b (pa_cons (pv 3) (pa_cons (pv 1) pa_nil))))) (pss_one (ps_ret (pv 2))) pss_nil)))
        (pss_one (ps_ret pe_non))), ?_⟩
  rintro ⟨ps, xs, b⟩ ho
  have ho : ∀ p ∈ ps, okPA ⟨p, xs, b⟩ := ho
  show SG (pureL K) 0 _ [some (.tuple (ps.map pD)), some (tI (xs ++ [b])), none, none] _ (fun x => x = optI ((brk ps xs b).map fun (i : Nat) => (i : Int)))
  refine sg_seq (N1 := fun _ => brk ps xs b = none) (sg_for (js := [2, 3]) (fun i G => (∃ x y, G = [some (.tuple (ps.map pD)), some (tI (xs ++ [b])), x, y]) ∧ ∀ (j : Nat) p, j < i → ps[j]? = some p → stB p.w (PA.z ⟨p, xs, b⟩).v = true) (wk_enum (k := false) (ea_cons (eg_var (i := 0) rfl) ea_nil)) ⟨⟨none, none, rfl⟩, fun j x hj => by omega⟩ ?_ ?_) ?_
  · rintro i d G hdi ⟨⟨x, y, rfl⟩, hb⟩
    rw [List.getElem?_mapIdx] at hdi
    cases hn : (ps.map pD)[i]? with
    | none => rw [hn] at hdi; cases hdi
    | some e =>
      rw [hn] at hdi
      have hd' : PyData.tuple [.int (i : Nat), e] = d := Option.some.inj hdi
      subst hd'
      obtain ⟨p, hp, hpm, rfl⟩ := map_at hn
      refine ⟨_, tg_two, sg_if (et_not (et_B (eg_callR (L := pureL K) (args := fun a : PA => [pD a.p, tI (a.xs ++ [a.b])]) (ok := okPA) (val := fun a => .bool (stB a.p.w a.z.v)) ⟨p, xs, b⟩ (ea_cons (eg_var (i := 3) rfl) (ea_cons (eg_var (i := 1) rfl) ea_nil)) (ho p hpm)))) (fun hk2 => ?_) fun hk2 => ?_⟩
      · have hz : stB p.w (PA.z ⟨p, xs, b⟩).v = false := by simpa using hk2
        refine sg_ret (eg_var (i := 2) rfl) ?_
        have : brk ps xs b = some i := by
          unfold brk
          rw [List.findIdx?_eq_some_iff_getElem]
          obtain ⟨hl, e1⟩ := List.getElem?_eq_some_iff.mp hp
          refine ⟨hl, by rw [e1, hz]; rfl, fun j hj => ?_⟩
          rw [hb j _ hj (List.getElem?_eq_getElem (by omega))]
          decide
        rw [this]
        rfl
      · have hz : stB p.w (PA.z ⟨p, xs, b⟩).v = true := by simpa using hk2
        refine sg_next ⟨⟨_, _, rfl⟩, fun j q hj hx => ?_⟩
        by_cases hji : j = i
        · subst hji
          rw [hp] at hx
          rw [← Option.some.inj hx]
          exact hz
        · exact hb j q (by omega) hx
  · rintro G ⟨_, hb⟩
    unfold brk
    rw [List.findIdx?_eq_none_iff]
    intro p hp
    obtain ⟨j, hj⟩ := List.getElem?_of_mem hp
    rw [hb j p (by rw [List.length_mapIdx, List.length_map]; exact (List.getElem?_eq_some_iff.mp hj).1) hj]
    rfl
  · intro G hG
    rw [hG]
    exact sg_ret eg_non rfl

end V1
set_option Elab.async false
set_option linter.all false
set_option maxRecDepth 100000
set_option maxHeartbeats 4000000
namespace V1
open PySem PySem.Spec PyProof.Rows L2
variable {P : Program} {w : World} {K : PySem.W.Frag} {mg : Str → Option Value} {base : Heap}

/-- a def that leaves all, and answers or raises one of two -/
def spX2 (K : PySem.W.Frag) (C1 : Addr) (f1 : Str) (C2 : Addr) (f2 : Str) {α : Type} (args : α → List PyData) (ok : α → Prop) (res : α → Except (Bool × PyData) PyData) : Sp := fun vs H Q E => ∃ (a : α) (A : Addr → Prop), ok a ∧ Inn A H ∧ vs.length = (args a).length ∧ (∀ (i : Nat) d, (args a)[i]? = some d → ∃ v, vs[i]? = some v ∧ Dv K A H v d) ∧
  (∀ d, res a = .ok d → ∀ v G, Same H G → Dv K A G v d → Q v G) ∧ (∀ q, res a = .error (true, q) → ∀ v dd G, Same H G → G dd = some (.xd [(f1, v)]) → Dv K A G v q → E (.ref C1) (some dd) G) ∧ ∀ q, res a = .error (false, q) → ∀ v dd G, Same H G → G dd = some (.xd [(f2, v)]) → Dv K A G v q → E (.ref C2) (some dd) G
section
variable {L : Rl} {Γ : List (Option PyData)} {C1 C2 : Addr} {f1 f2 : Str} {α : Type} {args : α → List PyData} {ok : α → Prop} {res : α → Except (Bool × PyData) PyData} {ta tk : TA} {d dq : PyData} {gV : List V → List V → List V}
theorem x2_core (a : α) {A : Addr → Prop} {H H1 : Hp} {vs : List V} {Q : VK} {E : XK} (hi : Inn A H) (hg : L.G 0 H) (r1 : L.R 0 H H1) (ho : ok a) (hl : vs.length = (args a).length) (hv : ∀ (i : Nat) d, (args a)[i]? = some d → ∃ v, vs[i]? = some v ∧ Dq L A H1 v d) (hn : nomk (args a) = true)
    (q0 : ∀ d, res a = .ok d → ∀ v G, L.R 0 H G → Dv L.K A G v d → Q v G) (q1 : ∀ q, res a = .error (true, q) → ∀ v dd G, L.R 0 H G → G dd = some (.xd [(f1, v)]) → Dv L.K A G v q → E (.ref C1) (some dd) G) (q2 : ∀ q, res a = .error (false, q) → ∀ v dd G, L.R 0 H G → G dd = some (.xd [(f2, v)]) → Dv L.K A G v q → E (.ref C2) (some dd) G) : spX2 L.K C1 f1 C2 f2 args ok res vs H1 Q E := by
  have k : ∀ {G : Hp}, Same H1 G → L.R 0 H G := fun sm => L.tr (a := 0) (b := 0) r1 (L.same (Rl.gR (b := 0) hg r1) sm)
  exact ⟨a, A, ho, hi.r r1, hl, fun i d e => let ⟨v, e1, e2⟩ := hv i d e; ⟨v, e1, e2.ne (nomk_ne hn i d e)⟩, fun d e v G sm hd => q0 d e v G (k sm) hd, fun q e v dd G sm hx hd => q1 q e v dd G (k sm) hx hd, fun q e v dd G sm hx hd => q2 q e v dd G (k sm) hx hd⟩
theorem eg_callX2v {E : L2.St → XK} (a : α) (ha : EaD L ta Γ (args a)) (ho : ok a) (hr : res a = .ok d) (hn : nomk (args a) = true := by rfl) : EvD L (tCallS (spX2 L.K C1 f1 C2 f2 args ok res) E ta) Γ d := fun A σ H hi he hg Q q => ha A σ H hi he hg _ fun vs ds H1 r1 l hv p => by
  subst p
  exact x2_core a hi hg r1 ho l hv hn (fun d2 e v G r hd => by rw [hr] at e; cases e; exact q v _ G r (.inr hd) rfl) (fun q2 e => by rw [hr] at e; cases e) fun q2 e => by rw [hr] at e; cases e
theorem rz_callX2a (a : α) (ha : EaD L ta Γ (args a)) (ho : ok a) (hr : res a = .error (true, dq)) (hn : nomk (args a) = true := by rfl) : RzD L C1 f1 (fun E => tCallS (spX2 L.K C1 f1 C2 f2 args ok res) (fun _ => E) ta) Γ dq := fun E A σ H hi he hg hE Q => ha A σ H hi he hg _ fun vs ds H1 r1 l hv p => by
  subst p
  exact x2_core a hi hg r1 ho l hv hn (fun d2 e => by rw [hr] at e; cases e) (fun q2 e v dd G r hx hd => by rw [hr] at e; cases e; exact hE v dd G r hx hd) fun q2 e => by rw [hr] at e; cases e
theorem rz_callX2b (a : α) (ha : EaD L ta Γ (args a)) (ho : ok a) (hr : res a = .error (false, dq)) (hn : nomk (args a) = true := by rfl) : RzD L C2 f2 (fun E => tCallS (spX2 L.K C1 f1 C2 f2 args ok res) (fun _ => E) ta) Γ dq := fun E A σ H hi he hg hE Q => ha A σ H hi he hg _ fun vs ds H1 r1 l hv p => by
  subst p
  exact x2_core a hi hg r1 ho l hv hn (fun d2 e => by rw [hr] at e; cases e) (fun q2 e => by rw [hr] at e; cases e) fun q2 e v dd G r hx hd => by rw [hr] at e; cases e; exact hE v dd G r hx hd
theorem eg_callX2K (a : α) {E : XK} {ds : List PyData} (ha : EaD L tk Γ ds) (hg2 : ∀ zs : List V, zs.length = ds.length → (gV [] zs).length = (args a).length ∧ ∀ (i : Nat) d, (args a)[i]? = some d → ∃ j : Nat, ds[j]? = some d ∧ (gV [] zs)[i]? = zs[j]?) (ho : ok a) (hr : res a = .ok d) (hn : nomk (args a) = true := by rfl) : EvD L (tCallK (spX2 L.K C1 f1 C2 f2 args ok res) gV E tNil tk) Γ d := fun A σ H hi he hg Q q => ha A σ H hi he hg _ fun vs ds' H1 r1 l hv p => by
  subst p
  obtain ⟨l1, l2⟩ := hg2 vs l
  exact x2_core a hi hg r1 ho l1 (fun i d e => let ⟨j, e1, e2⟩ := l2 i d e; let ⟨v, e3, e4⟩ := hv j d e1; ⟨v, by rw [e2]; exact e3, e4⟩) hn (fun d2 e v G r hd => by rw [hr] at e; cases e; exact q v _ G r (.inr hd) rfl) (fun q2 e => by rw [hr] at e; cases e) fun q2 e => by rw [hr] at e; cases e
end
structure FB where
  c : Int
  d : PyData
  x : PyData
  ps : List PZ
  xs : List Int
  b : Int
structure FB.Ok (a : FB) : Prop where
  h0 : 0 ≤ a.c
  hs : okS a.d
  hx : a.x.hasDict = false
  hk : sysE a.c 60 a.d = none → faultD (a.c + 1) a.x = none → a.d = sysD a.ps ∧ a.x = tI (a.xs ++ [a.b]) ∧ okSA ⟨a.ps, a.xs, a.b⟩
def fbX (f : Option Int → PyData) (a : FB) : Except (Bool × PyData) PyData := match sysE a.c 60 a.d with
  | some q => .error (true, q)
  | none => match faultD (a.c + 1) a.x with
    | some i => .error (false, .int i)
    | none => .ok (f ((brk a.ps a.xs a.b).map fun (i : Nat) => (i : Int)))
theorem fb_sys {f : Option Int → PyData} {a : FB} {q : PyData} (h : sysE a.c 60 a.d = some q) : fbX f a = .error (true, q) := by unfold fbX; rw [h]
theorem fb_pt {f : Option Int → PyData} {a : FB} {i : Int} (h : sysE a.c 60 a.d = none) (h2 : faultD (a.c + 1) a.x = some i) : fbX f a = .error (false, .int i) := by unfold fbX; simp only [h, h2]
theorem fb_ok {f : Option Int → PyData} {a : FB} (h : sysE a.c 60 a.d = none) (h2 : faultD (a.c + 1) a.x = none) : fbX f a = .ok (f ((brk a.ps a.xs a.b).map fun (i : Nat) => (i : Int))) := by unfold fbX; simp only [h, h2]
def fbArgs (a : FB) : List PyData := [.int a.c, a.d, a.x]
theorem fb_nm {a : FB} (h : a.Ok) : nomk (fbArgs a) = true := by
  have h1 := okE_nomk h.hs.e
  have h2 := hd_nomk h.hx
  unfold fbArgs
  cases hd : a.d with
  | dict k => cases k with
    | nil => rw [hd] at h1; cases h1
    | cons y r => exact h2
  | _ => exact h2

abbrev s_first_broken : Stmt := top 24
abbrev n_first_broken : List Str := ["count", "system", "point"]
theorem sc_first_broken : FnScope n_first_broken ["count", "system", "point"] (defScope s_first_broken) := ⟨rfl, rfl, rfl, by decide +kernel, rfl, by decide +kernel, by decide +kernel⟩
def sp_first_broken (K : PySem.W.Frag) (Cs Cp : Addr) : Sp := spX2 K Cs "number" Cp "place" fbArgs FB.Ok (fbX optI)
theorem len_first_broken (Cs Cp : Addr) : ∀ vs H Q E, sp_first_broken K Cs Cp vs H Q E → vs.length = (["count", "system", "point"] : List Str).length := fun vs H Q E ⟨a, A, _, _, hl, _⟩ => hl
theorem ok_first_broken {f : Addr} {fd : FuncData} (T : Bt K mg) (C : Cst K w mg) {Cs Cp : Addr} (D : Df K mg "first_broken" s_first_broken ["count", "system", "point"] f fd)
    {f_check_system : Addr} {d_check_system : FuncData} (h_check_system : CalX P w K mg base "check_system" s_check_system ["count", "system"] 6 (sp_check_system K Cs) f_check_system d_check_system)
    {f_first_false : Addr} {d_first_false : FuncData} (h_first_false : Cal P w K mg base "first_false" s_first_false ["system", "point"] 4 (sp_first_false K) f_first_false d_first_false)
    {f_check_point : Addr} {d_check_point : FuncData} (h_check_point : CalX P w K mg base "check_point" s_check_point ["size", "value"] 3 (sp_check_point K Cp) f_check_point d_check_point) : CalX P w K mg base "first_broken" s_first_broken ["count", "system", "point"] 7 (sp_first_broken K Cs Cp) f fd := by
  refine ⟨D.gm, D.F, D.b, okX D.F sc_first_broken (len_first_broken Cs Cp) (fun cdv A outer s H vs Q E hgd hr h => ⟨_, (pss_cons (ps_expr (pe_callX (E := fun _ => E) h_check_system.G hgd (hr.mono (by decide)) (by rfl) h_check_system.gm h_check_system.kp h_check_system.b (fun σ => passAt (takes_of rfl rfl rfl rfl) σ) (pa_cons (pv 0) (pa_cons (pv 1) pa_nil))))
        (pss_one (ps_ret (pe_fn (E := E0) h_first_false.G hgd (hr.mono (by decide)) (by rfl) h_first_false.gm h_first_false.kp h_first_false.b (pa_cons (pv 1) (pa_cons (pe_callX (E := fun _ => E) h_check_point.G hgd (hr.mono (by decide)) (by rfl) h_check_point.gm h_check_point.kp h_check_point.b (fun σ => passAt (takes_of rfl rfl rfl rfl) σ) (pa_cons (pv 0) (pa_cons (pv 2) pa_nil))) pa_nil)))))), ?_⟩)⟩
  obtain ⟨a, A', ho, hi, hl, hv, q0, q1, q2⟩ := h
  have he0 : EnvOk (pureL K) A' (L2.start n_first_broken vs) H [some (.int a.c), some a.d, some a.x] := start_ok (L := pureL K) (Nm := n_first_broken) (vs := vs) (ds := [.int a.c, a.d, a.x]) hl fun i d' e => let ⟨v, e1, e2⟩ := hv i d' e; ⟨v, e1, .inr e2⟩
  have es : EaD (pureL K) (tCons (tVar 0) (tCons (tVar 1) tNil)) [some (.int a.c), some a.d, some a.x] [.int a.c, a.d] := ea_cons (eg_var (i := 0) rfl) (ea_cons (eg_var (i := 1) rfl) ea_nil)
  have ep : EaD (pureL K) (tCons (tVar 0) (tCons (tVar 2) tNil)) [some (.int a.c), some a.d, some a.x] [.int a.c, a.x] := ea_cons (eg_var (i := 0) rfl) (ea_cons (eg_var (i := 2) rfl) ea_nil)
  cases hs : sysE a.c 60 a.d with
  | some q =>
    have hx : sysX a.c 60 a.d = .error q := by unfold sysX; rw [hs]
    exact rz_callX (L := pureL K) (C := Cs) (fld := "number") (args := fun a : Int × PyData => [.int a.1, a.2]) (ok := okSy) (res := fun a => sysX a.1 60 a.2) (a.c, a.d) es ⟨ho.h0, ho.hs⟩ hx (nm2 ho.hs.e) E A' _ H hi he0 trivial (fun v dd G sm hx2 hv2 => q1 _ (fb_sys hs) v dd G sm hx2 hv2) _
  | none =>
    have hx : sysX a.c 60 a.d = .ok a.d := by unfold sysX; rw [hs]
    have ev1 : EvD (pureL K) (tCallS (sp_check_system K Cs) (fun _ => E) (tCons (tVar 0) (tCons (tVar 1) tNil))) [some (.int a.c), some a.d, some a.x] a.d := eg_callXv (L := pureL K) (args := fun a : Int × PyData => [.int a.1, a.2]) (ok := okSy) (res := fun a => sysX a.1 60 a.2) (a.c, a.d) es ⟨ho.h0, ho.hs⟩ hx (nm2 ho.hs.e)
    cases hp : faultD (a.c + 1) a.x with
    | some i =>
      refine ev1 A' _ H hi he0 trivial _ fun v1 d1 H1 r1 hv1 e1 => ?_
      have he1 := he0.r (L := pureL K) (n := 0) r1
      obtain ⟨v, hs1, hv⟩ := he1.2 1 a.d rfl
      refine ⟨v, hs1, ?_⟩
      exact rz_callX (L := pureL K) (C := Cp) (fld := "place") (args := fun a : Int × PyData => [.int a.1, a.2]) (ok := okJ) (res := judX 1) (a.c, a.x) ep ⟨ho.h0, ho.hx⟩ (by unfold judX; simp only [hp]) (hd_nomk2 rfl ho.hx) E A' _ H1 (hi.r (L := pureL K) (n := 0) r1) he1 trivial (fun v dd G sm hx2 hv2 => q2 _ (fb_pt hs hp) v dd G (Same.trans r1 sm) hx2 hv2) _
    | none =>
      obtain ⟨h1, h2, h3⟩ := ho.hk hs hp
      have ev2 : EvD (pureL K) (tCallS (sp_check_point K Cp) (fun _ => E) (tCons (tVar 0) (tCons (tVar 2) tNil))) [some (.int a.c), some a.d, some a.x] (tI (a.xs ++ [a.b])) := EvD.to (d := a.x) (eg_callXv (L := pureL K) (args := fun a : Int × PyData => [.int a.1, a.2]) (ok := okJ) (res := judX 1) (a.c, a.x) ep ⟨ho.h0, ho.hx⟩ (by unfold judX; simp only [hp]) (hd_nomk2 rfl ho.hx)) h2
      refine (?run : SG (pureL K) 0 _ [some (.int a.c), some a.d, some a.x] (fun _ => False) (fun d => d = optI ((brk a.ps a.xs a.b).map fun (i : Nat) => (i : Int)))) A' _ H hi he0 trivial _ (fun σ' H' G r e z => z.elim) fun v dd G r hd e => ?_
      case run =>
        refine sg_seq (N1 := fun G => G = [some (.int a.c), some a.d, some a.x]) (sg_drop ev1 rfl) fun G hG => ?_
        subst hG
        exact sg_ret (eg_callR (L := pureL K) (args := fun a : SA => [sysD a.ps, tI (a.xs ++ [a.b])]) (ok := okSA) (val := fun a => optI ((brk a.ps a.xs a.b).map fun (i : Nat) => (i : Int))) ⟨a.ps, a.xs, a.b⟩ (ea_cons ((eg_var (i := 1) rfl).to h1) (ea_cons ev2 ea_nil)) h3) rfl
      · subst e
        exact q0 _ (fb_ok hs hp) v G r (hd.ne (optI_ne _))

abbrev s_holds_all : Stmt := top 25
abbrev n_holds_all : List Str := ["count", "system", "point"]
theorem sc_holds_all : FnScope n_holds_all ["count", "system", "point"] (defScope s_holds_all) := ⟨rfl, rfl, rfl, by decide +kernel, rfl, by decide +kernel, by decide +kernel⟩
def bN (o : Option Int) : PyData := .bool o.isNone
def sp_holds_all (K : PySem.W.Frag) (Cs Cp : Addr) : Sp := spX2 K Cs "number" Cp "place" fbArgs FB.Ok (fbX bN)
theorem len_holds_all (Cs Cp : Addr) : ∀ vs H Q E, sp_holds_all K Cs Cp vs H Q E → vs.length = (["count", "system", "point"] : List Str).length := fun vs H Q E ⟨a, A, _, _, hl, _⟩ => hl
theorem ok_holds_all {f : Addr} {fd : FuncData} (T : Bt K mg) (C : Cst K w mg) {Cs Cp : Addr} (D : Df K mg "holds_all" s_holds_all ["count", "system", "point"] f fd)
    {f_first_broken : Addr} {d_first_broken : FuncData} (h_first_broken : CalX P w K mg base "first_broken" s_first_broken ["count", "system", "point"] 7 (sp_first_broken K Cs Cp) f_first_broken d_first_broken) : CalX P w K mg base "holds_all" s_holds_all ["count", "system", "point"] 8 (sp_holds_all K Cs Cp) f fd := by
  refine ⟨D.gm, D.F, D.b, okX D.F sc_holds_all (len_holds_all Cs Cp) (fun cdv A outer s H vs Q E hgd hr h => ⟨_, (pss_one (ps_ret (pe_cmpR op_isN (pe_callX (E := fun _ => E) h_first_broken.G hgd (hr.mono (by decide)) (by rfl) h_first_broken.gm h_first_broken.kp h_first_broken.b (fun σ => passAt (takes_of rfl rfl rfl rfl) σ) (pa_cons (pv 0) (pa_cons (pv 1) (pa_cons (pv 2) pa_nil)))) pe_non (nomark _)))), ?_⟩)⟩
  obtain ⟨a, A', ho, hi, hl, hv, q0, q1, q2⟩ := h
  have he0 : EnvOk (pureL K) A' (L2.start n_holds_all vs) H [some (.int a.c), some a.d, some a.x] := start_ok (L := pureL K) (Nm := n_holds_all) (vs := vs) (ds := [.int a.c, a.d, a.x]) hl fun i d' e => let ⟨v, e1, e2⟩ := hv i d' e; ⟨v, e1, .inr e2⟩
  have ea : EaD (pureL K) (tCons (tVar 0) (tCons (tVar 1) (tCons (tVar 2) tNil))) [some (.int a.c), some a.d, some a.x] (fbArgs a) := ea_cons (eg_var (i := 0) rfl) (ea_cons (eg_var (i := 1) rfl) (ea_cons (eg_var (i := 2) rfl) ea_nil))
  cases hs : sysE a.c 60 a.d with
  | some q => exact rz_callX2a (L := pureL K) (C1 := Cs) (f1 := "number") (C2 := Cp) (f2 := "place") (args := fbArgs) (ok := FB.Ok) (res := fbX optI) a ea ho (fb_sys hs) (fb_nm ho) E A' _ H hi he0 trivial (fun v dd G sm hx2 hv2 => q1 _ (fb_sys hs) v dd G sm hx2 hv2) _
  | none =>
    cases hp : faultD (a.c + 1) a.x with
    | some i => exact rz_callX2b (L := pureL K) (C1 := Cs) (f1 := "number") (C2 := Cp) (f2 := "place") (args := fbArgs) (ok := FB.Ok) (res := fbX optI) a ea ho (fb_pt hs hp) (fb_nm ho) E A' _ H hi he0 trivial (fun v dd G sm hx2 hv2 => q2 _ (fb_pt hs hp) v dd G sm hx2 hv2) _
    | none =>
      refine (eg_isOI (eg_callX2v (L := pureL K) (C1 := Cs) (f1 := "number") (C2 := Cp) (f2 := "place") (args := fbArgs) (ok := FB.Ok) (res := fbX optI) a ea ho (fb_ok hs hp) (fb_nm ho)) : EvD (pureL K) _ [some (.int a.c), some a.d, some a.x] (bN ((brk a.ps a.xs a.b).map fun (i : Nat) => (i : Int)))) A' _ H hi he0 trivial _ fun v dd G r hd e => ?_
      subst e
      exact q0 _ (fb_ok hs hp) v G r (hd.ne (by intro z; cases z))

end V1
set_option Elab.async false
set_option linter.all false
set_option maxRecDepth 100000
set_option maxHeartbeats 4000000
/-! try with several clauses, each of which names what it caught. -/
namespace V1
open PySem PySem.Spec PyProof.Rows L2
/-- the ends behind a clause: the name is gone -/
def clrE (i : Nat) (D : Ends) : Ends := { nx := fun τ G => D.nx (τ.set i none) G, rt := D.rt, bk := fun τ G => D.bk (τ.set i none) G, ct := fun τ G => D.ct (τ.set i none) G }
abbrev ClA : Type := List (Value × (Addr → Value → Option Addr → TS))
def wAl (K : PySem.W.Frag) (i : Nat) (Wo : WX) (D : Ends) : ClA → WX
  | [] => Wo
  | c :: r => fun cls d τ G => ∃ b, PySem.W.exmOne K cls c.1 = some b ∧ (b = true → ∀ q, G q = none → c.2 q cls d (clrE i D) (τ.set i (some (.ref q))) G) ∧ (b = false → wAl K i Wo D r cls d τ G)
inductive HdA (X : Cx) (n : Str) : List ExceptHandler → ClA → Prop
  | nil : HdA X n [] []
  | cons {x : Str} {c : Value} {ts : Addr → Value → Option Addr → TS} {b0 : Stmt} {sb : List Stmt} {p1 p2 : Pos} {hds : List ExceptHandler} {l : ClA} (hc : Names X x c)
      (hsu : ∀ (q : Addr) (o : Obj) (cls : Value) (d : Option Addr) (pn : List (Addr × Obj)), Zc cls d o → (∃ vs, o.data = .fields vs) → PSs (X.suite q ((q, o) :: pn)) (b0 :: sb) (ts q cls d)) (r : HdA X n hds l) :
      HdA X n (.ExceptHandler (some (.Name x p1)) (some n) (b0 :: sb) p2 :: hds) ((c, ts) :: l)
theorem ps_try_al {X : Cx} {n : Str} {i : Nat} {body : List Stmt} {h0 : ExceptHandler} {hds : List ExceptHandler} {l : ClA} {pos : Pos} {tb : WX → TS} {Wo : WX} (hst : X.stack = X.env :: X.outer) (hfr0 : X.env.frame = some X.env.locals) (hN : X.N.Nodup) (hi : X.N[i]? = some n) (hln : X.env.kindOf n = some .local)
    (tk : Takes X Wo) (hb : ∀ (W : WX) (pn : List (Addr × Obj)) (xe : Value → Shared → Prop), Takes (X.tr pn xe) W → PassesOwn (model X.prog X.w) X.A X.env xe → PSs (X.tr pn xe) body (tb W)) (hh : HdA X n (h0 :: hds) l) :
    PS X (.Try body (h0 :: hds) [] [] pos) (fun D σ H => tb (wAl X.K i Wo D l) D σ H) := by
  constructor
  intro pins s σ H D I h
  have okI := I.ok
  have fr2 : X.A.frames = some (X.env :: X.outer) := hst ▸ okI.frames
  have loc : Loc X.env.scope n := Or.inl hln
  apply wpAny_Try_except
  have look : Takes (X.tr (X.pn ++ pins) (fun (e : Value) (t1 : Shared) => wpAny (model X.prog X.w) X.A (noteFrame e X.env) (fun _ t2 => wpAny (model X.prog X.w) X.A (setFlight e none) (fun _ t3 => wpAny (model X.prog X.w) X.A (handleBy e X.env (h0 :: hds)) (SP X pins D) X.xe t3) X.xe t2) X.xe t1)) (wAl X.K i Wo D l) := by
    intro u sz hx
    obtain ⟨q, B, sJ, pj, τ, G, cls, d, rfl, J0, nb, up, sky, na, eos, ebr, wal⟩ := hx
    have J : Inv X pins τ G sJ := J0.ofTry okI
    have sky2 : Sky B (X.env :: X.outer) q (Zc cls d) X.env.locals sz.heap := hst ▸ sky
    show wpAny (model X.prog X.w) X.A (noteFrame (.ref q) X.env) _ _ _
    refine Sky.land Zc.steady fr2 hfr0 sky2 fun hp fl upL => ?_
    have JL : Inv X pins τ G { sz with heap := hp } := J.landed nb fl.1 (up.trans upL) eos ebr
    obtain ⟨o3, v3, g3, z3, d3⟩ := fl.there
    have notIn : q ∉ frs (X.env :: X.outer) := fun hm => by
      obtain ⟨_, o', e', hnf⟩ := fl.2.2.1.mem hm
      rw [g3] at e'
      cases e'
      exact hnf _ d3
    have nLoc : q ≠ X.env.locals := fun z => notIn (List.mem_filterMap.mpr ⟨X.env, List.mem_cons_self, by rw [hfr0, z]⟩)
    have nFs : q ∉ X.fs := fun hm => let ⟨e, he, w⟩ := List.mem_filterMap.mp hm; notIn (List.mem_filterMap.mpr ⟨e, List.mem_cons_of_mem _ he, w⟩)
    have S3 := JL.suite g3 d3 na nLoc nFs
    have go : ∀ {hs2 : List ExceptHandler} {l2 : ClA}, HdA X n hs2 l2 → wAl X.K i Wo D l2 cls d τ G → wpAny (model X.prog X.w) X.A (handleBy (.ref q) X.env hs2) (SP X pins D) X.xe { sz with heap := hp } := by
      intro hs2 l2 hk
      induction hk with
      | nil =>
        intro w
        apply wpAny_handleBy_nil
        obtain ⟨_, _, _, oe, vs, Tb, oT, ts', he, hz, hd, h1, hr⟩ := id fl
        unfold PySem.passOn
        apply wpAny_bind
        refine wpAny_field he hd h1 ?_
        rw [if_neg (by simp : ¬ ((Value.ref Tb == Value.none) = true))]
        have fin : wpAny (model X.prog X.w) X.A (setFlight (.ref q) X.env.frame) (fun _ t4 => wpAny (model X.prog X.w) X.A (throw (.ref q) : Sem Flow) (SP X pins D) X.xe t4) X.xe { sz with heap := hp } := by
          rw [hfr0]
          exact HandSPX.setFlight_upZ fl fun h4 sk4 up4 => wpAny_throw (tk _ _ ⟨q, B, sJ, pins, τ, G, cls, d, rfl, J, nb, (up.trans upL).trans up4, .inr (.inr (hst ▸ sk4)), na, eos, ebr, w⟩)
        first
          | exact wpAny_bind (wpAny_pure (wpAny_bind fin))
          | exact wpAny_bind fin
      | @cons x c ts b0 sb p1 p2 hd2 l3 hc hsu r ih =>
        intro w
        obtain ⟨b, hb1, yes, no⟩ := w
        refine wpAny_handleBy_cons (codeAny_handlers_test ?_) (fun z => by cases z)
        have lk : PySem.W.Looks (model X.prog X.w) hp (typeOf (.ref q)) cls := fun A Q E t kq w2 => wpAny_typeOf_ref (kq _ _ g3) (z3.1 ▸ w2)
        have lm := PySem.W.exm_one (M := model X.prog X.w) JL.kIn lk hb1
        have named : ∀ {Q E : Value → Shared → Prop}, Q c { sz with heap := hp } → wpAny (model X.prog X.w) (X.A.mark (some (.ref q))) (eval (.Name x p1) X.env) Q E { sz with heap := hp } := by
          intro Q E w2
          obtain ⟨hg, hdb, hm⟩ := hc
          rcases hm with hm | ⟨hm, hv, hnn⟩
          · exact ld_glob (X := X.suite q ((q, o3) :: (X.pn ++ pins))) S3 hg hm w2 hdb
          · exact ld_blt (X := X.suite q ((q, o3) :: (X.pn ++ pins))) S3 hg hm hv w2 hnn hdb
        refine named (lm.here ?_)
        cases b with
        | false => exact ih (no rfl)
        | true =>
          apply codeAny_handlers_suite_as
          refine HandSPX.lands_againZ fl fun h4 fl4 up4 => ?_
          have J4 : Inv X pins τ G { sz with heap := h4 } := J.landed nb fl4.1 ((up.trans upL).trans up4) eos ebr
          obtain ⟨o4, v4, g4, z4, d4⟩ := fl4.there
          have S4 := J4.suite g4 d4 na nLoc nFs
          refine store_ok (X := X.suite q ((q, o4) :: (X.pn ++ pins))) (v := .ref q) S4 hN hi loc rfl (fun s5 S5 => ?_) (.inr hln)
          refine wpAny_mono ((hsu q o4 cls d (X.pn ++ pins) z4 ⟨_, d4⟩).run [] s5 _ G _ S5 (yes rfl q na)) (fun fw s6 hsp => ?_) (fun _ _ z => z.elim)
          have gone : ∀ {τ6 : L2.St} {G6 : Hp} {Q : Shared → Prop}, Inv (X.suite q ((q, o4) :: (X.pn ++ pins))) [] τ6 G6 s6 → (∀ s7, Inv X pins (τ6.set i none) G6 s7 → Q s7) →
              wpAny (model X.prog X.w) X.A (do bindName X.env n .none; unbindBehindTheSuite X.env n p2) (fun _ s7 => Q s7) X.xe s6 := fun S6 hq => gone_ok (S6.unsuite okI) hN hi hln hq
          match fw, hsp with
          | .next, ⟨_, _, S6, w6⟩ => exact gone S6 fun s7 J7 => ⟨_, _, J7, w6⟩
          | .brk, ⟨_, _, S6, w6⟩ => exact gone S6 fun s7 J7 => ⟨_, _, J7, w6⟩
          | .cont, ⟨_, _, S6, w6⟩ => exact gone S6 fun s7 J7 => ⟨_, _, J7, w6⟩
          | .ret u, ⟨_, _, _, S6, r6, w6⟩ => exact gone S6 fun s7 J7 => ⟨_, _, _, J7, r6, w6⟩
    exact go hh wal
  refine wpAny_mono ((hb (wAl X.K i Wo D l) (X.pn ++ pins) _ look PassesOwn.looking).run [] s σ H D (I.toTry _) h) (fun fw t1 hsp => ?_) fun e t1 he => he
  match fw, hsp with
  | .next, ⟨τ, G, J, w⟩ => exact wpAny_execs_nil ⟨τ, G, J.ofTry okI, w⟩
  | .brk, ⟨τ, G, J, w⟩ => exact ⟨τ, G, J.ofTry okI, w⟩
  | .cont, ⟨τ, G, J, w⟩ => exact ⟨τ, G, J.ofTry okI, w⟩
  | .ret u, ⟨v, τ, G, J, r, w⟩ => exact ⟨v, τ, G, J.ofTry okI, r, w⟩
end V1
set_option Elab.async false
set_option linter.all false
set_option maxRecDepth 100000
set_option maxHeartbeats 4000000
/-! try: return [call()] / except C1 as caught: return (w1, caught.field) / except C2 as caught: return (w2, caught.field) -/
namespace V1
open PySem PySem.Spec PySem.Calls PyProof.Rows L2 LamX
def TT2 (C1 C2 : Addr) (w1 w2 f1 f2 : Str) : HT := fun tl H Q => ∀ (E : XK) (Q' : VK),
  (∀ (dd : Addr) (fs : List (Str × V)) (v : V) (G : Hp), G dd = some (.xd fs) → fs.lookup f1 = some v → (∀ p, G p = none → Q (.ref p) (upd G p (.tup [.str w1, v]))) → E (.ref C1) (some dd) G) →
  (∀ (dd : Addr) (fs : List (Str × V)) (v : V) (G : Hp), G dd = some (.xd fs) → fs.lookup f2 = some v → (∀ p, G p = none → Q (.ref p) (upd G p (.tup [.str w2, v]))) → E (.ref C2) (some dd) G) →
  (∀ (v : V) (G : Hp), (∀ p, G p = none → Q (.ref p) (upd G p (.lst [v]))) → Q' v G) → tl E H Q'
abbrev s_law_told : Stmt := top 40
abbrev n_law_told : List Str := ["call", "found", "error"]
theorem sc_law_told : FnScope n_law_told ["call"] (defScope s_law_told) := ⟨rfl, rfl, rfl, by decide +kernel, rfl, by decide +kernel, by decide +kernel⟩
theorem told_ok {X : Cx} {Cs Is Cp Ip : Addr} {fs fp : FuncData} (Tsy : ExN X.K X.mg "NotSystem" "number" Cs Is fs) (TP : ExN X.K X.mg "NotPoint" "place" Cp Ip fp) (ne : PySem.W.exmOne X.K (.ref Cp) (.ref Cs) = some false) (g : Addr) (cdv : Value) (q : Str) :
    Hears X n_law_told "_law_told" (defScope s_law_told) g cdv (defBody s_law_told) "call" q (TT2 Cs Cp "system" "point" "number" "place") := by
  intro f c' s H Q tl act hc h
  let Y : Cx := (cxOf CX0 X.prog X.w X.K X.mg X.base n_law_told "_law_told" (defScope s_law_told) g cdv X.A X.stack s H E0).nox
  let σ0 : L2.St := [some (.ref f), some .non, none]
  let tb : WX → TS := fun W D σ G => σ = σ0 ∧ G c' = some (CodeO c' q) ∧ tl (WE W σ) G fun v G1 => (1 ≤ sizeLine ∧ ∀ p, G1 p = none → D.nx (σ.set 1 (some (.ref p))) (upd G1 p (.lst [v])))
  let ts : Addr → Str → Str → Addr → Value → Option Addr → TS := fun C wd fl a' cls d => tAsg (tTup (tCons (tC (.str wd)) (tCons (tXf a' cls d C fl (tVar 2)) tNil))) (gName 1)
  refine ⟨_, pss_cons (ps_set (i := 1) sc_law_told.nd rfl (Or.inl rfl) pe_non) (pss_cons (ps_try_al (X := Y) (i := 2) (n := "error") (Wo := fun _ _ _ _ => False) (tb := tb) (l := [(.ref Cs, ts Cs "system" "number"), (.ref Cp, ts Cp "point" "place")])
      rfl rfl sc_law_told.nd rfl rfl L2.takes0 (fun W pn xe tk _ => ?_)
      (.cons ⟨rfl, (by decide), .inl Tsy.gC⟩ (fun a' oe cls d pn hz hf => pss_one (ps_set (i := 1) sc_law_told.nd rfl (Or.inl rfl) (pe_tup (pa_cons pe_str (pa_cons (pe_xf (X := Y) Tsy.X Tsy.no hz hf (pv 2)) pa_nil)))))
      (.cons ⟨rfl, (by decide), .inl TP.gC⟩ (fun a' oe cls d pn hz hf => pss_one (ps_set (i := 1) sc_law_told.nd rfl (Or.inl rfl) (pe_tup (pa_cons pe_str (pa_cons (pe_xf (X := Y) TP.X TP.no hz hf (pv 2)) pa_nil))))) .nil)))
      (pss_one (ps_ret (pv 1)))), ?_⟩
  · refine ⟨fun pins s' σ H' D I ⟨h1, h2, h3⟩ => ?_⟩
    refine PSs.run (X := Y.tr pn xe) (t := tAsg (tLst (tCons (fun σZ HZ Q => σZ[0]? = some (some (.ref f)) ∧ HZ c' = some (CodeO c' q) ∧ tl (WE W σZ) HZ Q) tNil)) (gName 1)) ?a pins s' σ H' D I ?b
    case a => exact pss_one (ps_set (X := Y.tr pn xe) (i := 1) sc_law_told.nd rfl (Or.inl rfl) (pe_lst (pa_cons (act W pn xe _ _ tk) pa_nil)))
    case b => exact ⟨by rw [h1]; rfl, h2, h3⟩
  · refine ⟨rfl, hc, h _ _ (fun dd fs v G e1 e2 e3 => ?_) (fun dd fs v G e1 e2 e3 => ?_) fun v G hq => ⟨(show 1 ≤ sizeLine by decide), fun p hp => ⟨_, rfl, hq p hp⟩⟩⟩
    · exact ⟨true, Tsy.te, fun _ a' ha => ⟨.ref a', rfl, rfl, rfl, dd, fs, v, rfl, e1, e2, (show 2 ≤ sizeLine by decide), fun p hp => ⟨_, rfl, e3 p hp⟩⟩, fun z => by cases z⟩
    · exact ⟨false, ne, (fun z => by cases z), fun _ => ⟨true, TP.te, fun _ a' ha => ⟨.ref a', rfl, rfl, rfl, dd, fs, v, rfl, e1, e2, (show 2 ≤ sizeLine by decide), fun p hp => ⟨_, rfl, e3 p hp⟩⟩, fun z => by cases z⟩⟩
section
variable {L : Rl} {Γ : List (Option PyData)} {T : List (Addr × Str)} {C1 C2 : Addr} {w1 w2 f1 f2 : Str} {t : XK → TE} {d dq : PyData}
theorem eg_h2V (LL : LamL L T) (hd : d ≠ mark) (h : ∀ E : XK, EvD L (t E) Γ d) : EvD L (tHd T (TT2 C1 C2 w1 w2 f1 f2) t) Γ (.list [d]) := fun A σ H hi he hg Q q => by
  refine ⟨LL.tb hg, fun H1 e nn tb E Q' hE hE2 hQ => ?_⟩
  have r1 : L.R 0 H H1 := LL.of hg e tb nn
  refine h E A σ H1 (hi.r r1) (he.r r1) (Rl.gR (b := 0) hg r1) Q' fun v d' H2 r2 hv ed => hQ v H2 fun p hp => ?_
  subst ed
  have r12 := L.tr (a := 0) (b := 0) r1 r2
  have sm := laid_same (o := .lst [v]) hp
  have hi2 := hi.r r12
  exact q _ _ _ (L.tr (a := 0) (b := 0) r12 (L.same (Rl.gR (b := 0) hg r12) sm)) (.inr (.lst (hi2.no hp) upd_same (.cons ((hv.ne hd).map fun b o na e k => ⟨na, sm b o e⟩) .nil))) rfl
theorem h2_tup {A : Addr → Prop} {σ : L2.St} {H H1 : Hp} {Q : VK} {wd : Str} (hi : Inn A H) (hg : L.G 0 H) (r1 : L.R 0 H H1) (q : ∀ v d H', L.R 0 H H' → Dq L A H' v d → d = .tuple [.str wd, dq] → Q v H')
    (v : V) (dd : Addr) (H2 : Hp) (r2 : L.R 0 H1 H2) (hv : Dv L.K A H2 v dq) (p : Addr) (hp : H2 p = none) : Q (.ref p) (upd H2 p (.tup [.str wd, v])) := by
  have r12 := L.tr (a := 0) (b := 0) r1 r2
  have sm := laid_same (o := .tup [.str wd, v]) hp
  have hi2 := hi.r r12
  exact q _ _ _ (L.tr (a := 0) (b := 0) r12 (L.same (Rl.gR (b := 0) hg r12) sm)) (.inr (.tup (hi2.no hp) upd_same (.cons (.str wd) (.cons (hv.map fun b o na e k => ⟨na, sm b o e⟩) .nil)))) rfl
theorem eg_h2A (LL : LamL L T) (h : RzD L C1 f1 t Γ dq) : EvD L (tHd T (TT2 C1 C2 w1 w2 f1 f2) t) Γ (.tuple [.str w1, dq]) := fun A σ H hi he hg Q q => by
  refine ⟨LL.tb hg, fun H1 e nn tb E Q' hE _ hQ => ?_⟩
  have r1 : L.R 0 H H1 := LL.of hg e tb nn
  exact h E A σ H1 (hi.r r1) (he.r r1) (Rl.gR (b := 0) hg r1) (fun v dd H2 r2 hx hv => hE dd _ v H2 hx (by simp [List.lookup]) fun p hp => h2_tup (σ := σ) hi hg r1 q v dd H2 r2 hv p hp) Q'
theorem eg_h2B (LL : LamL L T) (h : RzD L C2 f2 t Γ dq) : EvD L (tHd T (TT2 C1 C2 w1 w2 f1 f2) t) Γ (.tuple [.str w2, dq]) := fun A σ H hi he hg Q q => by
  refine ⟨LL.tb hg, fun H1 e nn tb E Q' _ hE hQ => ?_⟩
  have r1 : L.R 0 H H1 := LL.of hg e tb nn
  exact h E A σ H1 (hi.r r1) (he.r r1) (Rl.gR (b := 0) hg r1) (fun v dd H2 r2 hx hv => hE dd _ v H2 hx (by simp [List.lookup]) fun p hp => h2_tup (σ := σ) hi hg r1 q v dd H2 r2 hv p hp) Q'
end
end V1
set_option Elab.async false
set_option linter.all false
set_option maxRecDepth 100000
set_option maxHeartbeats 4000000
/-! k01: rules for what is drawn and bent. -/
namespace V1
open PySem PySem.Spec PyProof.Rows L2
section
variable {L : Rl} {Γ : List (Option PyData)} {t : TA} {te ta tb : TE} {tt tu : TT} {a b : Nat}
/-- list(t) -/
theorem cs_listT {ds : List PyData} : CaS L (fun xs H Q => ∃ p ys, xs = [.ref p] ∧ (SqL L.K H p ys ∨ SqT L.K H p ys) ∧ ∀ l, H l = none → Q (.ref l) (upd H l (.lst ys))) [.tuple ds] (.list ds) := fun A H vs hi hg hl h Q q => by
  obtain ⟨v, rfl, hv⟩ := one_of hl h
  obtain ⟨p, xs, rfl, e, r⟩ := hv.tuple
  refine ⟨p, xs, rfl, .inr e.sq, fun l hl2 => ?_⟩
  have rr := Rl.newR (o := .lst xs) hg hl2
  exact q _ _ rr (.inr (.lst (hi.no hl2) upd_same (r.r rr)))
theorem eg_drawV {E : XK} (hS : SM L) {b : Nat} (hb : 0 < b ∧ b < 2 ^ 30) (h0 : Γ[0]? = some (some mark)) (h1 : EvD L te Γ (.int (b : Int))) : EvG L 1 (tCall (sp_law_draw L.K) [] E (tCons (tVar 0) (tCons te tNil))) Γ (fun d => ∃ z : Int, (0 ≤ z ∧ z < (b : Int)) ∧ d = .int z) :=
  EvG.mono (eg_callM hS b (ea_cons (eg_var h0) (ea_cons h1 ea_nil)) hb) (Nat.le_refl _) fun d ⟨r, h1, e⟩ => ⟨(r : Int), ⟨by omega, by omega⟩, e⟩
theorem os_catA {ds es : List PyData} (hl : ds.length + es.length ≤ 100000) : OpS L (rCatA L.K) (.tuple ds) (.tuple es) (fun x => x = .tuple (ds ++ es)) := fun A H x y hi hg hx hy Q q => by
  obtain ⟨p, xs, rfl, e, r⟩ := hx.tuple
  obtain ⟨p2, ys, rfl, e2, r2⟩ := hy.tuple
  refine ⟨p, p2, xs, ys, rfl, rfl, e.sq, e2.sq, Nat.le_trans (by rw [r.length, r2.length]; exact hl) (by decide), fun z => ?_, fun _ z => ?_, fun _ _ l hl2 => ?_⟩
  · have e3 : ds = [] := List.length_eq_zero_iff.mp (by rw [← r.length, z]; rfl)
    subst e3
    exact q _ _ H (Rl.refl hg) (dv_tup0 e2 r2) (by rw [List.nil_append])
  · have e3 : es = [] := List.length_eq_zero_iff.mp (by rw [← r2.length, z]; rfl)
    subst e3
    exact q _ _ H (Rl.refl hg) (dv_tup0 e r) (by rw [List.append_nil])
  · have rr := Rl.newR (o := .tup (xs ++ ys)) hg hl2
    exact q _ _ _ rr (.inr (.tup (hi.no hl2) upd_same ((r.app r2).r rr))) rfl
theorem sq_as {ts u z : TS} {N : List (Option PyData) → Prop} {Rt : PyData → Prop} (h : SG L a (tSeq ts (tSeq u z)) Γ N Rt) : SG L a (tSeq (tSeq ts u) z) Γ N Rt := h
end
theorem cut_mem {ds : List PyData} {lo hi : Option Int} {x : PyData} (h : x ∈ cutD ds lo hi) : x ∈ ds := List.mem_of_mem_drop (List.mem_of_mem_take h)
theorem cut_len (ds : List PyData) (lo hi : Option Int) : (cutD ds lo hi).length ≤ ds.length := by
  unfold cutD
  rw [List.length_take, List.length_drop]
  omega
theorem cut_at {ds : List PyData} {i : Nat} (h : i < ds.length) : cutD ds none (some (i : Int)) = ds.take i ∧ cutD ds (some ((i : Int) + 1)) none = ds.drop (i + 1) := by
  have e : ∀ (n d : Nat) (j : Nat), j ≤ n → HT.sIx n d (some (j : Int)) = j := fun n d j hj => by
    show (if ((j : Nat) : Int) < 0 then (((j : Nat) : Int) + (n : Int)).toNat else min ((j : Nat) : Int).toNat n) = j
    rw [if_neg (by omega)]
    omega
  have e1 : ((i : Nat) : Int) + 1 = ((i + 1 : Nat) : Int) := by omega
  have n0 : ∀ n : Nat, HT.sIx n 0 none = 0 := fun _ => rfl
  have nn : ∀ n : Nat, HT.sIx n n none = n := fun _ => rfl
  constructor
  · unfold cutD
    rw [n0, e _ _ i (by omega)]
    simp
  · unfold cutD
    rw [e1, e _ _ (i + 1) (by omega), nn]
    exact List.take_of_length_le (by rw [List.length_drop]; omega)
theorem cut_init {ds : List PyData} {x : PyData} : cutD (ds ++ [x]) none (some (-1)) = ds := by
  have h := cut_neg (ds := ds ++ [x]) (k := 1) (by decide) (by simp)
  rw [show (-1 : Int) = -((1 : Nat) : Int) from rfl, h]
  simp
theorem prim_lt {ms : List Int} {n : Nat} (h : ∀ z ∈ ms, z.natAbs < 2 ^ n) : ∀ z ∈ prim ms, z.natAbs < 2 ^ n := fun z hz => by
  unfold prim at hz
  obtain ⟨y, hy, rfl⟩ := List.mem_map.mp hz
  refine Nat.lt_of_le_of_lt ?_ (h y hy)
  exact Int.natAbs_ediv_le_natAbs _ _
end V1
set_option Elab.async false
set_option linter.all false
set_option maxRecDepth 100000
set_option maxHeartbeats 4000000
/-! A list made here to which things are appended: in a loop, once. -/
namespace V1
open PySem PySem.Spec PyProof.Rows L2
section
variable {L : Rl} {Γ : List (Option PyData)} {t : TA} {te te2 : TE} {u : TS} {j : Nat} {N : List (Option PyData) → Prop} {Rt : PyData → Prop}
theorem held_env {A : Addr → Prop} {σ : L2.St} {H H1 : Hp} {p : Addr} (he : EnvOk L A σ H Γ) (r1 : L.R 0 H H1) (hp0 : H p = none) (hj : j < Γ.length) : EnvOk L (fun b => A b ∨ b = p) (σ.set j (some (V.ref p))) H1 (Γ.set j none) := by
  refine ⟨by rw [List.length_set, List.length_set]; exact he.1, fun i d e => ?_⟩
  by_cases hij : j = i
  · subst hij
    rw [List.getElem?_set_self hj] at e
    cases e
  · rw [List.getElem?_set_ne hij] at e
    obtain ⟨v, e1, e2⟩ := he.2 i d e
    exact ⟨v, by rw [List.getElem?_set_ne hij]; exact e1, e2.imp (fun z => z) fun z => z.map fun b o na eb k => ⟨fun w => w.elim na (ne_of_none eb hp0), L.keep r1 eb k⟩⟩
theorem held_back {A : Addr → Prop} {σ : L2.St} {H : Hp} {p : Addr} {xs : List V} {acc : List PyData} (e4 : EnvOk L A σ H Γ) (nAp : ¬ A p) (eP : H p = some (.lst xs)) (dA : DvAll L.K A H xs acc) (s3 : σ[j]? = some (some (V.ref p))) : EnvOk L A σ H (Γ.set j (some (.list acc))) := by
  have hlj : j < σ.length := (List.getElem?_eq_some_iff.mp s3).1
  have h5 := e4.set (d := .list acc) (v := V.ref p) (.inr (.lst nAp eP dA)) j
  have hs : σ.set j (some (V.ref p)) = σ := by
    refine List.ext_getElem? fun i => ?_
    by_cases hij : j = i
    · subst hij
      rw [List.getElem?_set_self hlj, s3]
    · rw [List.getElem?_set_ne hij]
  rwa [hs] at h5
/-- xs = [..]; for ..: xs.append(e) -/
theorem sg_growP {wi : TI} {g : TG} {js : List Nat} {items ds0 : List PyData} {acc : Nat → List PyData} (I : Nat → List (Option PyData) → Prop) (hj : j < Γ.length) (hjs : j ∉ js) (h1 : EvL L te Γ ds0) (ha0 : acc 0 = ds0) (hlen : ∀ i, (acc i).length ≤ 100000)
    (hw : WkD L wi (Γ.set j none) items) (h0 : I 0 (Γ.set j none))
    (hb : ∀ (i : Nat) d Γi, items[i]? = some d → I i Γi → ∃ Γ', TgG L g js d Γi Γ' ∧ ∃ e, EvD L te2 Γ' e ∧ e ≠ mark ∧ acc (i + 1) = acc i ++ [e] ∧ I (i + 1) Γ')
    (hN : ∀ Γe, I items.length Γe → SG L 0 u (Γe.set j (some (.list (acc items.length)))) N Rt) :
    SG L 0 (tSeq (tAsg te (gName j)) (tSeq (tFor wi g (tDrop (tBM L.K "list" rAppend (tVar j) (tCons te2 tNil)))) u)) Γ N Rt := fun A σ H hi he hg D q1 q2 => h1 A σ H hi he hg _ fun p xs0 H1 r1 hp0 eP dv0 => by
  have nAp : ¬ A p := fun z => hi p z hp0
  have g1 : L.G 0 H1 := Rl.gR (b := 0) hg r1
  have hi1 : Inn (fun b => A b ∨ b = p) H1 := fun b z y => z.elim (fun z => (hi.r r1) b z y) fun z => by rw [z, eP] at y; cases y
  have sj : (σ.set j (some (V.ref p)))[j]? = some (some (V.ref p)) := List.getElem?_set_self (by rw [he.1]; exact hj)
  have he1 := held_env (p := p) (j := j) he r1 hp0 hj
  refine hw (fun b => A b ∨ b = p) _ H1 hi1 he1 g1 _ fun J H2 its r2 hits jk => ?_
  subst hits
  have eP2 : H2 p = some (.lst xs0) := L.keep r2 eP fxLst
  refine ⟨fun i m σ3 H3 => m = its.length - i ∧ i ≤ its.length ∧ L.R 0 H H3 ∧ Kp (fun b => A b ∨ b = p) H2 H3 ∧ σ3[j]? = some (some (V.ref p)) ∧ (∃ xs, H3 p = some (.lst xs) ∧ DvAll L.K (fun b => A b ∨ b = p) H3 xs (acc i)) ∧ ∃ Γi, EnvOk L (fun b => A b ∨ b = p) σ3 H3 Γi ∧ I i Γi, ⟨its.length, ?_⟩, ?_⟩
  · exact ⟨by omega, Nat.zero_le _, L.tr (a := 0) (b := 0) r1 r2, fun b o _ e _ => e, sj, ⟨xs0, eP2, by rw [ha0]; exact dv0.r r2⟩, _, he1.r r2, h0⟩
  · rintro i m σ3 H3 ⟨rfl, hle, r3, k3, s3, ⟨xs, eP3, dv3⟩, Γi, e3, p3⟩
    have g3 : L.G 0 H3 := Rl.gR (b := 0) hg r3
    have hi3 : Inn (fun b => A b ∨ b = p) H3 := fun b z y => z.elim (fun z => (hi.r r3) b z y) fun z => by rw [z, eP3] at y; cases y
    by_cases hlt : i < its.length
    · refine .inr ⟨jk.go i H3 k3 hlt, fun σ4 H4 => i + 1 ≤ its.length ∧ L.R 0 H H4 ∧ Kp (fun b => A b ∨ b = p) H2 H4 ∧ σ4[j]? = some (some (V.ref p)) ∧ (∃ xs, H4 p = some (.lst xs) ∧ DvAll L.K (fun b => A b ∨ b = p) H4 xs (acc (i + 1))) ∧ ∃ Γi, EnvOk L (fun b => A b ∨ b = p) σ4 H4 Γi ∧ I (i + 1) Γi, fun σ4 H4 h4 => ⟨its.length - (i + 1), by omega, rfl, h4⟩, fun x H4 y => ?_⟩
      obtain ⟨d, hd, sm, hdv⟩ := jk.yld i H3 x H4 k3 hi3 y hlt
      obtain ⟨Γ', htg, ee, he2, hne, hacc, hI⟩ := hb i d Γi hd p3
      have r34 : L.R 0 H3 H4 := L.same g3 sm
      have dx : Dv L.K (fun b => A b ∨ b = p) H4 x d := hdv _ hi3 fun b o na e _ => na
      refine htg _ x σ3 H4 dx (e3.r r34) _ fun σ5 e5 w5 => ?_
      have s5 : σ5[j]? = some (some (V.ref p)) := by
        have hw5 := w5 js fun k hk => hk
        rw [← wipe_get hjs, hw5, wipe_get hjs]
        exact s3
      have g4 : L.G 0 H4 := Rl.gR (b := 0) g3 r34
      have eP4 : H4 p = some (.lst xs) := L.keep r34 eP3 fxLst
      refine ⟨V.ref p, s5, .inl ⟨rfl, xs, SqL.of eP4⟩, ?_⟩
      refine he2 _ σ5 H4 (hi3.r r34) e5 g4 _ fun v d7 H7 r7 hv7 ed => ?_
      subst ed
      have hv8 := hv7.ne hne
      have r37 : L.R 0 H3 H7 := L.tr (a := 0) (b := 0) r34 r7
      have eP7 : H7 p = some (.lst xs) := L.keep r37 eP3 fxLst
      have dv7 := dv3.r r37
      refine ⟨p, xs, v, rfl, rfl, eP7, ?_, ?_⟩
      · rw [dv7.length]
        exact Nat.lt_of_le_of_lt (hlen i) (by decide)
      · refine ⟨hlt, L.fresh (L.tr (a := 0) (b := 0) r3 r37) hp0 (.inr ⟨_, eP7⟩), fun b o na e k => ?_, s5, ⟨xs ++ [v], upd_same, ?_⟩, Γ', (e5.r r7).off, hI⟩
        · rw [upd_ne (fun z => na (.inr z))]
          exact L.keep r37 (k3 b o na e k) k
        · rw [hacc]
          exact (dv7.app (.cons hv8 .nil)).off
    · have e : i = its.length := by omega
      subst e
      refine .inl ⟨jk.stop H3 k3, ?_⟩
      have dA : DvAll L.K A H3 xs (acc its.length) := dv3.map fun b o na e k => ⟨fun z => na (.inl z), e⟩
      exact hN Γi p3 A σ3 H3 (hi.r r3) (held_back (e3.less fun b z => .inl z) nAp eP3 dA s3) g3 D (fun σ6 H6 G6 r6 e6 p6 => q1 σ6 H6 G6 (L.tr (a := 0) (b := 0) r3 r6) e6 p6) fun v d H6 r6 e6 p6 => q2 v d H6 (L.tr (a := 0) (b := 0) r3 r6) e6 p6
/-- xs = [..]; xs.append(e) -/
theorem sg_app1 {ds0 : List PyData} {e : PyData} (hj : j < Γ.length) (h1 : EvL L te Γ ds0) (hlen : ds0.length ≤ 100000) (h2 : EvD L te2 (Γ.set j none) e) (hne : e ≠ mark) (h3 : SG L 0 u (Γ.set j (some (.list (ds0 ++ [e])))) N Rt) :
    SG L 0 (tSeq (tAsg te (gName j)) (tSeq (tDrop (tBM L.K "list" rAppend (tVar j) (tCons te2 tNil))) u)) Γ N Rt := fun A σ H hi he hg D q1 q2 => h1 A σ H hi he hg _ fun p xs0 H1 r1 hp0 eP dv0 => by
  have nAp : ¬ A p := fun z => hi p z hp0
  have g1 : L.G 0 H1 := Rl.gR (b := 0) hg r1
  have hi1 : Inn (fun b => A b ∨ b = p) H1 := fun b z y => z.elim (fun z => (hi.r r1) b z y) fun z => by rw [z, eP] at y; cases y
  have sj : (σ.set j (some (V.ref p)))[j]? = some (some (V.ref p)) := List.getElem?_set_self (by rw [he.1]; exact hj)
  have he1 := held_env (p := p) (j := j) he r1 hp0 hj
  refine ⟨V.ref p, sj, .inl ⟨rfl, xs0, SqL.of eP⟩, ?_⟩
  refine h2 _ _ H1 hi1 he1 g1 _ fun v d7 H7 r7 hv7 ed => ?_
  subst ed
  have hv8 := hv7.ne hne
  have r17 : L.R 0 H H7 := L.tr (a := 0) (b := 0) r1 r7
  have eP7 : H7 p = some (.lst xs0) := L.keep r7 eP fxLst
  have dv7 := dv0.r r7
  refine ⟨p, xs0, v, rfl, rfl, eP7, ?_, ?_⟩
  · rw [dv7.length]
    exact Nat.lt_of_le_of_lt hlen (by decide)
  · have r8 := L.fresh r17 hp0 (.inr ⟨_, eP7⟩) (o := .lst (xs0 ++ [v]))
    have e8 : EnvOk L (fun b => A b ∨ b = p) (σ.set j (some (V.ref p))) (upd H7 p (.lst (xs0 ++ [v]))) (Γ.set j none) := (he1.r r7).off
    have dA : DvAll L.K A (upd H7 p (.lst (xs0 ++ [v]))) (xs0 ++ [v]) (ds0 ++ [d7]) := (dv7.app (.cons hv8 .nil)).off.map fun b o na e k => ⟨fun z => na (.inl z), e⟩
    have hb := held_back (e8.less fun b z => .inl z) nAp upd_same dA sj
    have hs : (Γ.set j none).set j (some (.list (ds0 ++ [d7]))) = Γ.set j (some (.list (ds0 ++ [d7]))) := by rw [List.set_set]
    rw [hs] at hb
    exact h3 A _ _ (hi.r r8) hb (Rl.gR (b := 0) hg r8) D (fun σ6 H6 G6 r6 e6 p6 => q1 σ6 H6 G6 (L.tr (a := 0) (b := 0) r8 r6) e6 p6) fun v d H6 r6 e6 p6 => q2 v d H6 (L.tr (a := 0) (b := 0) r8 r6) e6 p6
end
end V1
set_option Elab.async false
set_option linter.all false
set_option maxRecDepth 100000
set_option maxHeartbeats 4000000
/-! A list made here that is read, and written, while things are drawn. -/
namespace V1
open PySem PySem.Spec PyProof.Rows L2
mutual
def noL : PyData → Bool
  | .list _ => false
  | .tuple ds => noLA ds
  | _ => true
def noLA : List PyData → Bool
  | [] => true
  | d :: ds => noL d && noLA ds
end
theorem noLA_mem {ds : List PyData} (h : ∀ d ∈ ds, noL d = true) : noLA ds = true := by
  induction ds with
  | nil => simp only [noLA]
  | cons d ds ih => simp only [noLA, h d List.mem_cons_self, ih fun x hx => h x (List.mem_cons_of_mem _ hx), Bool.and_self]
theorem noL_ints (zs : List Int) : noL (tI zs) = true := by
  unfold tI
  simp only [noL]
  exact noLA_mem fun d hd => by
    obtain ⟨z, _, rfl⟩ := List.mem_map.mp hd
    simp only [noL]
mutual
theorem Dv.away {K : PySem.W.Frag} {A A' : Addr → Prop} {H H' : Hp} {p : Addr} {xs : List V} (hp : H p = some (.lst xs)) (f : ∀ b o, ¬ A b → H b = some o → b ≠ p → Fx o → ¬ A' b ∧ H' b = some o) : ∀ {d : PyData} {v : V}, noL d = true → Dv K A H v d → Dv K A' H' v d
  | .none, _, _, h => by cases h; exact .non
  | .bool b, _, _, h => by cases h; exact .bl b
  | .int i, _, _, h => by cases h; exact .int i
  | .str x, _, _, h => by cases h; exact .str x
  | .list ds, _, n, h => by simp [noL] at n
  | .tuple ds, _, n, h => by
    have n2 : noLA ds = true := by simpa only [noL] using n
    cases h with
    | tup na e r =>
      obtain ⟨n3, e2⟩ := f _ _ na e (fun z => by rw [z, hp] at e; cases e) fxTup
      exact .tup n3 e2 (DvAll.away hp f n2 r)
    | ktup e r => exact .ktup e (DvAll.away hp f n2 r)
  | .dict _, _, _, h => by
    cases h with
    | emp na e =>
      obtain ⟨n3, e2⟩ := f _ _ na e (fun z => by rw [z, hp] at e; cases e) fxFrz
      exact .emp n3 e2
theorem DvAll.away {K : PySem.W.Frag} {A A' : Addr → Prop} {H H' : Hp} {p : Addr} {xs : List V} (hp : H p = some (.lst xs)) (f : ∀ b o, ¬ A b → H b = some o → b ≠ p → Fx o → ¬ A' b ∧ H' b = some o) : ∀ {ds : List PyData} {vs : List V}, noLA ds = true → DvAll K A H vs ds → DvAll K A' H' vs ds
  | [], _, _, h => by cases h; exact .nil
  | d :: ds, _, n, h => by
    simp only [noLA, Bool.and_eq_true] at n
    cases h with
    | cons h1 h2 => exact .cons (Dv.away hp f n.1 h1) (DvAll.away hp f n.2 h2)
end
/-- the list at slot j; all else has no list in it -/
structure Flat (j : Nat) (acc : List PyData) (Γ : List (Option PyData)) : Prop where
  at_ : Γ[j]? = some (some (.list acc))
  acc : noLA acc = true
  oth : ∀ (i : Nat) d, i ≠ j → Γ[i]? = some (some d) → d = mark ∨ noL d = true
def KX (p : Addr) (H H' : Hp) : Prop := ∀ b o, b ≠ p → H b = some o → Fx o → H' b = some o
def SQ (L : Rl) (j n : Nat) (ts : TS) (Γ : List (Option PyData)) (N : List (Option PyData) → Prop) : Prop := ∀ (p : Addr) (H0 : Hp) (m : Nat) A σ H, Inn A H0 → L.G (m + n) H0 → L.R m H0 H → EnvOk L A σ H Γ → σ[j]? = some (some (V.ref p)) → H0 p = none → ∀ D : Ends,
  (∀ σ' H' Γ', L.R (m + n) H0 H' → KX p H H' → EnvOk L A σ' H' Γ' → σ'[j]? = some (some (V.ref p)) → N Γ' → D.nx σ' H') → ts D σ H
section
variable {L : Rl} {Γ : List (Option PyData)} {t : TA} {te ti : TE} {u ts : TS} {a b c j n : Nat} {N N1 : List (Option PyData) → Prop} {P : PyData → Prop} {Rt : PyData → Prop}
theorem sq_SK (h : ∀ v0, SK L j v0 n ts Γ N) : SQ L j n ts Γ N := fun p H0 m A σ H hi hg r he hs h0 D q => h (.ref p) A σ H (hi.r r) he (Rl.gR (a := m) hg r) hs D fun σ2 H2 Γ2 r2 e2 s2 p2 => q σ2 H2 Γ2 (L.tr r r2) (fun b o _ e k => L.keep r2 e k) e2 s2 p2
theorem SQ.mono (h : SQ L j a ts Γ N) (hab : a ≤ b) : SQ L j b ts Γ N := fun p H0 m A σ H hi hg r he hs h0 D q => h p H0 m A σ H hi (L.gle (by omega) hg) r he hs h0 D fun σ2 H2 Γ2 r2 k2 e2 s2 p2 => q σ2 H2 Γ2 (L.rle (by omega) r2) k2 e2 s2 p2
theorem sq_seqQ (h : SQ L j a ts Γ N1) (k : ∀ G, N1 G → SQ L j b u G N) : SQ L j (a + b) (tSeq ts u) Γ N := fun p H0 m A σ H hi hg r he hs h0 D q =>
  h p H0 m A σ H hi (L.gle (by omega) hg) r he hs h0 { D with nx := u D } fun σ1 H1 G r1 k1 e1 s1 p1 => k G p1 p H0 (m + a) A σ1 H1 hi (by rw [Nat.add_assoc]; exact hg) r1 e1 s1 h0 D fun σ2 H2 Γ2 r2 k2 e2 s2 p2 => q σ2 H2 Γ2 (by rw [Nat.add_assoc] at r2; exact r2) (fun b o nb e f => k2 b o nb (k1 b o nb e f) f) e2 s2 p2
theorem slot_list {A : Addr → Prop} {σ : L2.St} {H : Hp} {p : Addr} {acc : List PyData} (he : EnvOk L A σ H Γ) (ha : Γ[j]? = some (some (.list acc))) (hs : σ[j]? = some (some (V.ref p))) : ¬ A p ∧ ∃ xs, H p = some (.lst xs) ∧ DvAll L.K A H xs acc := by
  obtain ⟨v, e1, e2⟩ := he.2 j _ ha
  rw [hs] at e1
  have ev : V.ref p = v := Option.some.inj (Option.some.inj e1)
  subst ev
  obtain ⟨p', xs, ep, na, eH, rr⟩ := e2.list
  have ep' : p = p' := by injection ep
  subst ep'
  exact ⟨na, xs, eH, rr⟩
/-- the list at slot j is written: the rest goes on -/
theorem write_env {A : Addr → Prop} {σ : L2.St} {H : Hp} {p : Addr} {xs ys : List V} {acc bcc : List PyData} (he : EnvOk L A σ H Γ) (fl : Flat j acc Γ) (hs : σ[j]? = some (some (V.ref p))) (na : ¬ A p) (hp : H p = some (.lst xs)) (hy : DvAll L.K A (upd H p (.lst ys)) ys bcc) : EnvOk L A σ (upd H p (.lst ys)) (Γ.set j (some (.list bcc))) := by
  refine ⟨by rw [List.length_set]; exact he.1, fun i d e => ?_⟩
  by_cases hij : j = i
  · subst hij
    have hj : j < Γ.length := (List.getElem?_eq_some_iff.mp fl.at_).1
    rw [List.getElem?_set_self hj] at e
    have ed : PyData.list bcc = d := Option.some.inj (Option.some.inj e)
    subst ed
    exact ⟨_, hs, .inr (.lst na upd_same hy)⟩
  · rw [List.getElem?_set_ne hij] at e
    obtain ⟨v, e1, e2⟩ := he.2 i d e
    refine ⟨v, e1, ?_⟩
    rcases fl.oth i d (Ne.symm hij) e with z | z
    · subst z
      exact e2.imp id fun z => by cases z
    · exact e2.imp id fun h => h.away hp (fun b o nb eb hb _ => ⟨nb, by rw [upd_ne hb]; exact eb⟩) z
theorem sq_appQ {acc : List PyData} (fl : Flat j acc Γ) (hl : acc.length ≤ 100000) (he2 : EvG L a te Γ P) (hP : ∀ e, P e → noL e = true ∧ e ≠ mark) (k : ∀ e, P e → N (Γ.set j (some (.list (acc ++ [e]))))) : SQ L j a (tDrop (tBM L.K "list" rAppend (tVar j) (tCons te tNil))) Γ N := fun p H0 m A σ H hi hg r he hs h0 D q => by
  obtain ⟨na, xs, eH, dv⟩ := slot_list he fl.at_ hs
  refine ⟨V.ref p, hs, .inl ⟨rfl, xs, SqL.of eH⟩, ?_⟩
  refine he2 A σ H (hi.r r) he (Rl.gR (a := m) hg r) _ fun v d7 H7 r7 hv7 ed => ?_
  obtain ⟨n7, ne7⟩ := hP d7 ed
  have hv8 := hv7.ne ne7
  have eH7 : H7 p = some (.lst xs) := L.keep r7 eH fxLst
  have dv7 := dv.r r7
  refine ⟨p, xs, v, rfl, rfl, eH7, ?_, ?_⟩
  · rw [dv7.length]
    exact Nat.lt_of_le_of_lt hl (by decide)
  · have f : ∀ b o, ¬ A b → H7 b = some o → b ≠ p → Fx o → ¬ A b ∧ upd H7 p (.lst (xs ++ [v])) b = some o := fun b o nb eb hb _ => ⟨nb, by rw [upd_ne hb]; exact eb⟩
    refine q σ _ _ (L.fresh (L.tr r r7) h0 (.inr ⟨_, eH7⟩)) (fun b o nb e kx => ?_) (write_env (he.r r7) fl hs na eH7 ((dv7.away eH7 f fl.acc).app (.cons (hv8.away eH7 f n7) .nil))) hs (k d7 ed)
    rw [upd_ne nb]
    exact L.keep r7 e kx
/-- xs[i] = v, a list of ints -/
theorem sq_putQ {zs : List Int} {x : Int} (fl : Flat j (zs.map .int) Γ) (hx : EvD L te Γ (.int x)) (hi2 : EvG L a ti Γ (fun d => ∃ i : Nat, i < zs.length ∧ d = .int (i : Int))) (k : ∀ i, i < zs.length → N (Γ.set j (some (lI (zs.set i x))))) : SQ L j a (tAsg te (gSub (tVar j) ti rSetL)) Γ N := fun p H0 m A σ H hi hg r he hs h0 D q => by
  obtain ⟨na, xs, eH, dv⟩ := slot_list he fl.at_ hs
  refine hx A σ H (hi.r r) he (L.g0 (Rl.gR (a := m) hg r)) _ fun vx dx Hx rx hvx ex => ?_
  subst ex
  obtain rfl := hvx.int
  refine ⟨V.ref p, hs, ?_⟩
  refine hi2 A σ Hx ((hi.r r).r rx) (he.r rx) (Rl.gR (a := 0) (by rw [Nat.zero_add]; exact Rl.gR (a := m) hg r) rx) _ fun v d7 H7 r7 hv7 ⟨i, hil, ed⟩ => ?_
  subst ed
  obtain rfl := hv7.int
  have r07 : L.R a H H7 := L.rle (Nat.le_of_eq (Nat.zero_add _)) (L.tr rx r7)
  have eH7 : H7 p = some (.lst xs) := L.keep r07 eH fxLst
  have dv7 := dv.r r07
  have hlx : xs.length = zs.length := by rw [dv7.length, List.length_map]
  refine ⟨p, xs, (i : Int), i, rfl, rfl, eH7, ?_, ?_⟩
  · unfold ixN
    rw [if_pos (by omega), if_pos (by omega)]
    rfl
  · have ei : (zs.map PyData.int).set i (.int x) = (zs.set i x).map .int := by rw [List.map_set]
    have fi : DvAll L.K A (upd H7 p (.lst (xs.set i (.int x)))) (xs.set i (.int x)) ((zs.set i x).map .int) := by
      have h1 := dv7.set (i := i) (x := .int x) (d := .int x) (.int x)
      rw [ei] at h1
      have h2 := h1.ints
      rw [h2]
      exact .ofInts _
    refine q σ _ _ (L.fresh (L.tr r r07) h0 (.inr ⟨_, eH7⟩)) (fun b o nb e kx => ?_) (write_env (bcc := (zs.set i x).map .int) (he.r r07) fl hs na eH7 fi) hs (k i hil)
    rw [upd_ne nb]
    exact L.keep r07 e kx
theorem sq_forQ {wi : TI} {g : TG} {js : List Nat} {items : List PyData} (I : Nat → List (Option PyData) → Prop) (hjs : j ∉ js) (hw : WkD L wi (Γ.set j none) items) (hlen : items.length ≤ b) (hfl : ∀ i Γi, I i Γi → ∃ acc, Flat j acc Γi) (h0 : I 0 Γ)
    (hb : ∀ (i : Nat) d Γi, items[i]? = some d → I i Γi → ∃ Γ', TgG L g js d Γi Γ' ∧ SQ L j c ts Γ' (I (i + 1))) (hN : ∀ Γe, I items.length Γe → N Γe) : SQ L j (b * c) (tFor wi g ts) Γ N := fun p H0 m A σ H hi hg r he hs h00 D q => by
  obtain ⟨acc, fl⟩ := hfl 0 Γ h0
  obtain ⟨na, xs, eH, dv⟩ := slot_list he fl.at_ hs
  have hi0 : Inn (fun b => A b ∨ b = p) H := fun b z y => z.elim (fun z => (hi.r r) b z y) fun z => by rw [z, eH] at y; cases y
  have hj : j < Γ.length := (List.getElem?_eq_some_iff.mp fl.at_).1
  have he1 : EnvOk L (fun b => A b ∨ b = p) σ H (Γ.set j none) := by
    refine ⟨by rw [List.length_set]; exact he.1, fun i d e => ?_⟩
    by_cases hij : j = i
    · subst hij
      rw [List.getElem?_set_self hj] at e
      cases e
    · rw [List.getElem?_set_ne hij] at e
      obtain ⟨v, e1, e2⟩ := he.2 i d e
      refine ⟨v, e1, ?_⟩
      rcases fl.oth i d (Ne.symm hij) e with z | z
      · subst z
        exact e2.imp id fun z => by cases z
      · exact e2.imp id fun h => h.away eH (fun b o nb eb hb _ => ⟨fun w => w.elim nb hb, eb⟩) z
  refine hw (fun b => A b ∨ b = p) σ H hi0 he1 (L.g0 (Rl.gR (a := m) hg r)) _ fun J H1 its r1 hp jk => ?_
  subst hp
  refine ⟨fun i mm σ2 H2 => mm = its.length - i ∧ i ≤ its.length ∧ L.R (m + i * c) H0 H2 ∧ KX p H1 H2 ∧ KX p H H2 ∧ σ2[j]? = some (some (V.ref p)) ∧ ∃ Γi, EnvOk L A σ2 H2 Γi ∧ I i Γi, ⟨its.length, ?_⟩, ?_⟩
  · refine ⟨by omega, Nat.zero_le _, ?_, fun b o _ e _ => e, fun b o _ e f => L.keep r1 e f, hs, Γ, he.r r1, h0⟩
    rw [Nat.zero_mul]
    exact L.tr r r1
  · rintro i mm σ2 H2 ⟨rfl, hle, r2, k2, kH, s2, Γi, e2, p2⟩
    have kp : Kp (fun b => A b ∨ b = p) H1 H2 := fun b o nb e f => k2 b o (fun z => nb (.inr z)) e f
    by_cases hlt : i < its.length
    · obtain ⟨acc2, fl2⟩ := hfl i Γi p2
      obtain ⟨na2, xs2, eH2, dv2⟩ := slot_list e2 fl2.at_ s2
      have inn2 : ∀ b, (A b ∨ b = p) → H2 b ≠ none := fun b z y => z.elim (fun z => (hi.r r2) b z y) fun z => by rw [z, eH2] at y; cases y
      refine .inr ⟨jk.go i H2 kp hlt, fun σ3 H3 => i + 1 ≤ its.length ∧ L.R (m + (i + 1) * c) H0 H3 ∧ KX p H1 H3 ∧ KX p H H3 ∧ σ3[j]? = some (some (V.ref p)) ∧ ∃ Γi, EnvOk L A σ3 H3 Γi ∧ I (i + 1) Γi, fun σ3 H3 h3 => ⟨its.length - (i + 1), by omega, rfl, h3⟩, fun x H3 y => ?_⟩
      obtain ⟨d, hd, sm, hdv⟩ := jk.yld i H2 x H3 kp inn2 y hlt
      obtain ⟨Γ', htg, hs'⟩ := hb i d Γi hd p2
      have e5 : m + i * c + 0 + c = m + (i + 1) * c := by rw [Nat.succ_mul]; omega
      have hbc : m + (i + 1) * c ≤ m + b * c := Nat.add_le_add_left (Nat.mul_le_mul_right _ (by omega)) _
      have g2 : L.G 0 H2 := Rl.gR (a := m + i * c) (L.gle (by have h2 : (i + 1) * c = i * c + c := Nat.succ_mul _ _; omega) hg) r2
      have r3 : L.R 0 H2 H3 := L.same g2 sm
      have dx : Dv L.K A H3 x d := hdv A (fun b z => inn2 b (.inl z)) fun b o nb e _ => fun z => nb (.inl z)
      refine htg A x σ2 H3 dx (e2.r r3) _ fun σ4 e4 w4 => ?_
      have s4 : σ4[j]? = some (some (V.ref p)) := by
        have hw4 := w4 js fun k hk => hk
        rw [← wipe_get hjs, hw4, wipe_get hjs]
        exact s2
      refine hs' p H0 (m + i * c + 0) A σ4 H3 hi (L.gle (by rw [e5]; exact hbc) hg) (L.tr r2 r3) e4 s4 h00 { D with nx := _, ct := _, bk := D.nx } fun σ5 H5 Γ5 r5 k5 e6 s5 p5 => ?_
      have kk : ∀ {Hx : Hp}, KX p Hx H2 → KX p Hx H5 := fun kx b o nb e f => k5 b o nb (sm _ _ (kx b o nb e f)) f
      exact ⟨hlt, by rw [← e5]; exact r5, kk k2, kk kH, s5, Γ5, e6, p5⟩
    · have e : i = its.length := by omega
      subst e
      exact .inl ⟨jk.stop H2 kp, q σ2 H2 Γi (L.rle (Nat.add_le_add_left (Nat.mul_le_mul_right c hlen) _) r2) kH e2 s2 (hN Γi p2)⟩
/-- xs = [..]; what writes it; and on -/
theorem sg_Q {ds : List PyData} (hj : j < Γ.length) (h1 : EvL L te Γ ds) (hq : SQ L j a ts (Γ.set j (some (.list ds))) N1) (h3 : ∀ G, N1 G → SG L b u G N Rt) : SG L (a + b) (tSeq (tAsg te (gName j)) (tSeq ts u)) Γ N Rt := fun A σ H hi he hg D q1 q2 => h1 A σ H hi he (L.g0 hg) _ fun p xs0 H1 r1 hp0 eP dv0 => by
  have nAp : ¬ A p := fun z => hi p z hp0
  have sj : (σ.set j (some (V.ref p)))[j]? = some (some (V.ref p)) := List.getElem?_set_self (by rw [he.1]; exact hj)
  have dA : DvAll L.K A H1 xs0 ds := dv0.map fun b o na e k => ⟨fun z => na (.inl z), e⟩
  have he1 : EnvOk L A (σ.set j (some (V.ref p))) H1 (Γ.set j (some (.list ds))) := (he.r r1).set (.inr (.lst nAp eP dA)) j
  refine hq p H 0 A _ H1 hi (L.gle (by omega) hg) r1 he1 sj hp0 { D with nx := u D } fun σ2 H2 Γ2 r2 _ e2 s2 p2 => ?_
  have r2' : L.R a H H2 := L.rle (Nat.le_of_eq (Nat.zero_add _)) r2
  exact h3 Γ2 p2 A σ2 H2 (hi.r r2') e2 (Rl.gR hg r2') D (fun σ6 H6 G6 r6 e6 p6 => q1 σ6 H6 G6 (L.tr r2' r6) e6 p6) fun v d H6 r6 e6 p6 => q2 v d H6 (L.tr r2' r6) e6 p6
/-- an if whose test is known, where one slot stays -/
theorem sk_ifK {k : Bool} {tt : TT} {v0 : V} (h : EtD L tt Γ k) (h1 : k = true → SK L j v0 n ts Γ N) (h2 : k = false → SK L j v0 n u Γ N) : SK L j v0 n (tIfS tt ts u) Γ N := fun A σ H hi he hg hs D q => h A σ H hi he (L.g0 hg) _ fun H1 r1 => by
  have fin : ∀ {tx : TS}, SK L j v0 n tx Γ N → tx D σ H1 := fun {tx} hx => hx A σ H1 (hi.r r1) (he.r r1) (Rl.gR (a := 0) (by rw [Nat.zero_add]; exact hg) r1) hs D fun σ2 H2 Γ2 r2 e2 s2 p2 => q σ2 H2 Γ2 (L.rle (Nat.le_of_eq (Nat.zero_add _)) (L.tr r1 r2)) e2 s2 p2
  cases k with
  | true => exact fin (h1 rfl)
  | false => exact fin (h2 rfl)
theorem sk_nextK {v0 : V} (k : N Γ) : SK L j v0 0 tNext Γ N := fun A σ H hi he hg hs D q => q σ H Γ (Rl.refl hg) he hs k
theorem sk_asgE {i : Nat} {v0 : V} (hij : i ≠ j) (h : EvG L a te Γ P) (k : ∀ d, P d → N (Γ.set i (some d))) : SK L j v0 a (tAsg te (gName i)) Γ N := fun A σ H hi he hg hs D q => h A σ H hi he hg _ fun v d H1 r hv p => q _ H1 _ r ((he.r r).set hv i) (by rw [List.getElem?_set_ne hij]; exact hs) (k d p)
theorem sg_QF {a0 : Nat} (hj : j < Γ.length) (h1 : EvF L a0 te Γ P) (hP : ∀ d, P d → SQ L j a ts (Γ.set j (some d)) N1) (h3 : ∀ G, N1 G → SG L b u G N Rt) : SG L (a0 + (a + b)) (tSeq (tAsg te (gName j)) (tSeq ts u)) Γ N Rt := fun A σ H hi he hg D q1 q2 => h1 A σ H hi he (L.gle (by omega) hg) _ fun p d H1 r1 hp0 hv pd => by
  have sj : (σ.set j (some (V.ref p)))[j]? = some (some (V.ref p)) := List.getElem?_set_self (by rw [he.1]; exact hj)
  refine hP d pd p H a0 A _ H1 hi (L.gle (by omega) hg) r1 ((he.r r1).set hv j) sj hp0 { D with nx := u D } fun σ2 H2 Γ2 r2 _ e2 s2 p2 => ?_
  exact h3 Γ2 p2 A σ2 H2 (hi.r r2) e2 (Rl.gR (a := a0 + a) (by rw [Nat.add_assoc]; exact hg) r2) D (fun σ6 H6 G6 r6 e6 p6 => q1 σ6 H6 G6 (L.rle (by omega) (L.tr r2 r6)) e6 p6) fun v d H6 r6 e6 p6 => q2 v d H6 (L.rle (by omega) (L.tr r2 r6)) e6 p6
theorem sq_ifQ {k : Bool} {tt : TT} (h : EtD L tt Γ k) (h1 : k = true → SQ L j n ts Γ N) (h2 : k = false → SQ L j n u Γ N) : SQ L j n (tIfS tt ts u) Γ N := fun p H0 m A σ H hi hg r he hs h0 D q => h A σ H (hi.r r) he (L.g0 (Rl.gR (a := m) hg r)) _ fun H1 r1 => by
  have r01 : L.R m H0 H1 := L.tr (b := 0) r r1
  have fin : ∀ {tx : TS}, SQ L j n tx Γ N → tx D σ H1 := fun {tx} hx => hx p H0 m A σ H1 hi hg r01 (he.r r1) hs h0 D fun σ2 H2 Γ2 r2 k2 e2 s2 p2 => q σ2 H2 Γ2 r2 (fun b o nb e f => k2 b o nb (L.keep r1 e f) f) e2 s2 p2
  cases k with
  | true => exact fin (h1 rfl)
  | false => exact fin (h2 rfl)
theorem sq_nextQ (k : N Γ) : SQ L j 0 tNext Γ N := fun p H0 m A σ H hi hg r he hs h0 D q => q σ H Γ r (fun b o _ e _ => e) he hs k
end
end V1
set_option Elab.async false
set_option linter.all false
set_option maxRecDepth 100000
set_option maxHeartbeats 4000000
namespace V1
open PySem PySem.Spec PyProof.Rows L2
variable {P : Program} {w : World} {K : PySem.W.Frag} {mg : Str → Option Value} {base : Heap}

structure RowOk (n k : Nat) (cs : List Int) (c b : Int) : Prop where
  l : cs.length = n
  b1 : 1 ≤ b
  g : gcdl (cs ++ [c, b]) = 1
  bn : Bn k (cs ++ [c, b])
theorem RowOk.mono {n k k' : Nat} {cs : List Int} {c b : Int} (h : RowOk n k cs c b) (hk : k ≤ k') : RowOk n k' cs c b := ⟨h.l, h.b1, h.g, h.bn.mono hk⟩
theorem rowOk_prim {n k : Nat} {ns : List Int} {w : Nat} (hl : ns.length = n + 1) (hw : 0 < w) (hb : Bn k ns) (hwb : w < 2 ^ k) : ∃ cs c b, prim (ns ++ [(w : Int)]) = cs ++ [c, b] ∧ RowOk n k cs c b := by
  obtain ⟨ms, c0, rfl, hml⟩ := split_last (xs := ns) (n := n) hl
  generalize hg : gcdl ((ms ++ [c0]) ++ [(w : Int)]) = g
  have hgp : 0 < g := by rw [← hg]; exact gcdl_pos (n := (w : Int)) (by simp) (by omega)
  have hgw : g ∣ w := Int.natCast_dvd_natCast.mp (by rw [← hg]; exact gcdl_dvd _ (by simp))
  have e : prim ((ms ++ [c0]) ++ [(w : Int)]) = (ms.map fun z => z / (g : Int)) ++ [c0 / (g : Int), (w : Int) / (g : Int)] := by
    unfold prim
    rw [hg, List.map_append, List.map_append, List.append_assoc]
    rfl
  refine ⟨_, _, _, e, ?_, ?_, ?_, ?_⟩
  · rw [List.length_map]
    exact hml
  · have : (w : Int) / (g : Int) = ((w / g : Nat) : Int) := rfl
    rw [this]
    have := Nat.div_pos (Nat.le_of_dvd hw hgw) hgp
    omega
  · rw [← e, prim_over _ hw]
    exact gcdl_rowQ _
  · rw [← e]
    exact prim_lt fun z hz => by
      rcases List.mem_append.mp hz with h | h
      · exact hb z h
      · rw [List.mem_singleton.mp h, Int.natAbs_natCast]
        exact hwb

abbrev s_law_drawn_row : Stmt := top 36
abbrev n_law_drawn_row : List Str := ["m", "size", "span", "numbers", "k", "number"]
theorem sc_law_drawn_row : FnScope n_law_drawn_row ["m", "size", "span"] (defScope s_law_drawn_row) := ⟨rfl, rfl, rfl, by decide +kernel, rfl, by decide +kernel, by decide +kernel⟩
def sp_law_drawn_row (K : PySem.W.Frag) : Sp := spM K 10 (fun n : Nat => [mark, .int (n : Int), .int 2]) (fun n => 1 ≤ n ∧ n ≤ 6) fun n d => ∃ cs c b, d = tI (cs ++ [c, b]) ∧ RowOk n 3 cs c b
theorem ok_law_drawn_row {f : Addr} {fd : FuncData} (T : Bt K mg) (C : Cst K w mg) (D : Df K mg "_law_drawn_row" s_law_drawn_row ["m", "size", "span"] f fd)
    {f_law_draw : Addr} {d_law_draw : FuncData} (h_law_draw : Cal P w K mg base "_law_draw" s_law_draw ["m", "bound"] 1 (sp_law_draw K) f_law_draw d_law_draw)
    {f_law_rowed : Addr} {d_law_rowed : FuncData} (h_law_rowed : Cal P w K mg base "_law_rowed" s_law_rowed ["numbers", "bottom"] 3 (sp_law_rowed K) f_law_rowed d_law_rowed)
    {f_law_of : Addr} {d_law_of : FuncData} (h_law_of : Cal P w K mg base "_law_of" s_law_of ["m", "some"] 2 (sp_law_of K) f_law_of d_law_of) : Cal P w K mg base "_law_drawn_row" s_law_drawn_row ["m", "size", "span"] 4 (sp_law_drawn_row K) f fd := by
  refine ok_A D sc_law_drawn_row (fun _ => rfl) fun cdv A outer s H E hgd hr => ⟨_, (pss_cons (ps_setLc (i := 3) (own := [("k", 4)]) (g := gName 4) (tt := tYes) rfl sc_law_drawn_row.nd rfl rfl (sw_true rfl rfl rfl (by decide +kernel)) (pi_range1 (by rfl) T.range (pa_cons (pe_op op_add (pv 1) pe_int) pa_nil)) (blkOk_by (own := [("k", 4)]) (N := n_law_drawn_row) (sc := defScope s_law_drawn_row) (by decide +kernel)) (fun _ _ _ _ _ => (pg_name (i := 4) sc_law_drawn_row.nd rfl (Or.inl rfl))) (fun _ _ _ _ _ => pts_nil) (fun _ _ _ _ _ => (pe_op op_sub (pe_fn (E := E0) h_law_draw.G hgd (hr.mono (by decide)) (by rfl) h_law_draw.gm h_law_draw.kp h_law_draw.b (pa_cons (pv 0) (pa_cons (pe_op op_add (pe_op op_mulW pe_int (pv 2)) pe_int) pa_nil))) (pv 2))))
        (pss_cons (ps_if (pt_cmpR (op_eqD hr.units) (pe_lc (own := [("number", 5)]) (g := gName 5) rfl sc_law_drawn_row.nd (pi_list (pe_slice sl_list (pv 3) po_none (po_some (pe_un un_neg pe_int)))) (blkOk_by (own := [("number", 5)]) (N := n_law_drawn_row) (sc := defScope s_law_drawn_row) (by decide +kernel)) (fun _ _ _ _ _ => (pg_name (i := 5) sc_law_drawn_row.nd rfl (Or.inl rfl))) (fun _ _ _ _ _ => (pts_one (pt_cmpR op_ne (pv 5) pe_int (nomark _)))) (fun _ _ _ _ _ => (pv 5))) (pe_lst pa_nil) (nomark _)) (pss_one (ps_asg pe_int (pg_sub (pv 3) (pe_fn (E := E0) h_law_draw.G hgd (hr.mono (by decide)) (by rfl) h_law_draw.gm h_law_draw.kp h_law_draw.b (pa_cons (pv 0) (pa_cons (pv 1) pa_nil))) set_list))) pss_nil)
        (pss_one (ps_ret (pe_fn (E := E0) h_law_rowed.G hgd (hr.mono (by decide)) (by rfl) h_law_rowed.gm h_law_rowed.kp h_law_rowed.b (pa_cons (pv 3) (pa_cons (pe_fn (E := E0) h_law_of.G hgd (hr.mono (by decide)) (by rfl) h_law_of.gm h_law_of.kp h_law_of.b (pa_cons (pv 0) (pa_cons (pe_lst (pa_cons pe_int (pa_cons pe_int (pa_cons pe_int (pa_cons pe_int (pa_cons pe_int pa_nil)))))) pa_nil))) pa_nil))))))), ?_⟩
  rintro L rfl hS n ⟨hn1, hn2⟩
  show SG L 10 _ [some mark, some (.int (n : Int)), some (.int 2), none, none, none] _ (fun d => ∃ cs c b, d = tI (cs ++ [c, b]) ∧ RowOk n 3 cs c b)
  refine SG.mono (a := (0 + 7 * (1 + 0)) + (1 + 1)) (sg_QF (P := fun d => ∃ ns : List Int, d = lI ns ∧ ns.length = n + 1 ∧ ∀ z ∈ ns, z.natAbs ≤ 2) (N1 := fun G => ∃ ns : List Int, ∃ x4 x5, G = [some mark, some (.int (n : Int)), some (.int 2), some (lI ns), x4, x5] ∧ ns.length = n + 1 ∧ ∀ z ∈ ns, z.natAbs ≤ 2) (show 3 < 6 by decide) ?_ ?_ ?_) (by decide) (fun _ h => h) fun _ h => h
  · have h := eg_lcGF (L := L) (Γ := [some mark, some (.int (n : Int)), some (.int 2), none, none, none]) (a := 0) (b := 7) (c := 1 + 0) (PI1 := fun its => its = rngD 0 ((n : Int) + 1).toNat) (Pt := fun _ _ r => ∃ z : Int, z.natAbs ≤ 2 ∧ r = .int z) (js := [4]) (vs := [4]) (wk_rng1 (j := (n : Int) + 1) (ea_cons (eg_add (eg_var (i := 1) rfl) eg_int) ea_nil) (by omega)) (by simp) (fun its e => by rw [e, rng_len]; exact ⟨by omega, by decide⟩) (fun its e i d hd => ⟨_, tg_name, EvG.mono (eg_subG (eg_drawV (E := E0) (b := 5) hS (by decide) rfl ((eg_add (eg_mul (i := 2) (j := 2) eg_int (eg_var (i := 2) rfl) (mw (a := 2) (b := 2) (by decide) (by decide))) (eg_int (i := 1))).to rfl)) (EvG.mono (eg_var (i := 2) rfl) (Nat.le_refl _) fun d e => (⟨2, rfl, e⟩ : ∃ i : Int, i = 2 ∧ d = .int i))) (Nat.le_refl _) fun r ⟨z, ⟨x, y, hx, hy, hz⟩, e⟩ => ⟨(by rw [e]; intro z; cases z), z, by omega, e⟩⟩)
    refine fun A σ H hi he hg Q q => h A σ H hi he hg Q fun p d H' r hp hv ⟨its, rs, e1, e2, e3, e4⟩ => q p d H' r hp hv ?_
    obtain ⟨ns, f1, f2, f3⟩ := enc_of (enc := PyData.int) (P := fun z : Int => z.natAbs ≤ 2) (rs := rs) e4
    refine ⟨ns, by rw [e2, f1]; rfl, ?_, f3⟩
    rw [f2, e3, e1, rng_len]
    omega
  · rintro d ⟨ns, rfl, hl, hz⟩
    show SQ L 3 1 _ [some mark, some (.int (n : Int)), some (.int 2), some (lI ns), none, none] _
    obtain ⟨ms, w0, rfl, hml⟩ := split_last (xs := ns) (n := n) hl
    have ts : EvD L _ [some mark, some (.int (n : Int)), some (.int 2), some (lI (ms ++ [w0])), none, none] (lI (((List.range ms.length).filter fun i => !decide (ms.getD i 0 = 0)).map fun i => ms.getD i 0)) :=
      (eg_lcTD (L := L) (js := [5]) (vs := [5]) (items := ms.map .int) (keep := fun i => !decide (ms.getD i 0 = 0)) (res := fun i => .int (ms.getD i 0)) (wk_list ((eg_slL (ds := (ms ++ [w0]).map .int) (lo0 := none) (hi0 := some (-1)) (eg_var (i := 3) rfl) eo_none (eo_some (eg_neg eg_int))).to (by rw [List.map_append, List.map_cons, List.map_nil, cut_init]))) (by simp) (by rw [List.length_map]; omega) fun i d hd => by
        obtain ⟨x, hx, _, rfl⟩ := map_at hd
        have ex : ms.getD i 0 = x := by rw [List.getD_eq_getElem?_getD, hx]; rfl
        rw [ex]
        exact ⟨_, tg_name, et_test (eg_neI (eg_var (i := 5) rfl) eg_int), fun _ => ⟨eg_var (i := 5) rfl, by intro z; cases z⟩⟩).to (by unfold fil lI; rw [List.length_map, List.map_map]; rfl)
    refine sq_ifQ (et_test (eg_eqD ts (eg_lst ea_nil) (by unfold lI; intro z; cases z) (by intro z; cases z) (shaped_ints _) (by rfl))) (fun _ => ?_) fun _ => SQ.mono (sq_nextQ ⟨ms ++ [w0], none, none, rfl, hl, hz⟩) (by decide)
    refine sq_putQ (zs := ms ++ [w0]) (x := 1) ⟨rfl, noLA_mem fun d hd => by obtain ⟨z, _, rfl⟩ := List.mem_map.mp hd; simp only [noL], fun i d hi e => ?_⟩ eg_int (EvG.mono (eg_drawV (b := n) hS ⟨hn1, by omega⟩ rfl (eg_var (i := 1) rfl)) (Nat.le_refl _) fun d ⟨z, hz, e⟩ => ⟨z.toNat, by omega, by rw [e]; congr 1; omega⟩) fun i hi => ⟨(ms ++ [w0]).set i 1, none, none, rfl, by rw [List.length_set]; exact hl, fun z hzm => ?_⟩
    · match i, hi, e with
      | 0, _, e => exact .inl (Option.some.inj (Option.some.inj e)).symm
      | 1, _, e => exact .inr (by rw [← Option.some.inj (Option.some.inj e)]; simp only [noL])
      | 2, _, e => exact .inr (by rw [← Option.some.inj (Option.some.inj e)]; simp only [noL])
      | 3, hi, _ => exact absurd rfl hi
      | 4, _, e => cases e
      | 5, _, e => cases e
      | i + 6, _, e => cases e
    · rcases List.mem_or_eq_of_mem_set hzm with h | h
      · exact hz z h
      · rw [h]; decide
  · rintro G ⟨ns, x4, x5, rfl, hl, hz⟩
    refine sg_retG (EvG.mono (a := 0 + (1 + 0)) (eg_callRG (args := fun p : List Int × Nat => [lI p.1, .int (p.2 : Int)]) (ok := fun p => 0 < p.2 ∧ p.2 < 2 ^ 8000 ∧ p.1.length ≤ 100 ∧ Bn 9000 p.1) (val := fun p => tI (prim (p.1 ++ [(p.2 : Int)]))) (PA := fun ds => ∃ d1 d2, ds = [d1, d2] ∧ d1 = lI ns ∧ d2 ∈ [PyData.int 1, .int 1, .int 1, .int 2, .int 3]) (ea2G (eg_var (i := 3) rfl) (eg_callM (L := L) (args := fun ds : List PyData => [mark, .list ds]) (ok := fun ds => ds ≠ [] ∧ ds.length ≤ 100) (post := fun ds d => d ∈ ds) hS [.int 1, .int 1, .int 1, .int 2, .int 3] (ea_cons (eg_var (i := 0) rfl) (ea_cons (eg_lst (ea_cons eg_int (ea_cons eg_int (ea_cons eg_int (ea_cons eg_int (ea_cons eg_int ea_nil)))))) ea_nil)) ⟨by decide, by decide⟩)) ?_) (by decide) fun d h => h) ?_
    · rintro ds ⟨d1, d2, rfl, rfl, h2⟩
      have h3 : ∃ k : Nat, 0 < k ∧ k ≤ 3 ∧ d2 = .int (k : Int) := by
        simp only [List.mem_cons, List.not_mem_nil, or_false] at h2
        rcases h2 with rfl | rfl | rfl | rfl | rfl
        · exact ⟨1, by decide, by decide, rfl⟩
        · exact ⟨1, by decide, by decide, rfl⟩
        · exact ⟨1, by decide, by decide, rfl⟩
        · exact ⟨2, by decide, by decide, rfl⟩
        · exact ⟨3, by decide, by decide, rfl⟩
      obtain ⟨k, hk0, hk3, rfl⟩ := h3
      refine ⟨rfl, (ns, k), ⟨hk0, Nat.lt_of_lt_of_le (show k < 2 ^ 3 by omega) (Nat.pow_le_pow_right (by decide) (by decide)), by show ns.length ≤ 100; omega, fun z hzm => Nat.lt_of_lt_of_le (show z.natAbs < 2 ^ 2 by have := hz z hzm; omega) (Nat.pow_le_pow_right (by decide) (by decide))⟩, rfl⟩
    · rintro d ⟨⟨ns2, k⟩, ⟨d1, d2, e1, e2, h2⟩, ⟨hk0, _⟩, rfl⟩
      injection e1 with a1 a2
      injection a2 with a3 _
      have e4 : lI ns2 = lI ns := a1.trans e2
      have e5 : ns2 = ns := by
        unfold lI at e4
        injection e4 with e4
        exact (List.map_inj_right (fun a b h => by injection h)).mp e4
      subst e5
      have hk3 : k ≤ 3 := by
        have h3 : PyData.int (k : Int) ∈ [PyData.int 1, .int 1, .int 1, .int 2, .int 3] := by rw [show PyData.int (k : Int) = d2 from a3]; exact h2
        simp only [List.mem_cons, List.not_mem_nil, or_false, PyData.int.injEq] at h3
        omega
      obtain ⟨cs, c, b, e6, ho⟩ := rowOk_prim (n := n) (k := 3) (ns := ns2) (w := k) hl hk0 (fun z hzm => by have := hz z hzm; show z.natAbs < 8; omega) (show k < 8 by omega)
      exact ⟨cs, c, b, by show tI (prim (ns2 ++ [(k : Int)])) = _; rw [e6], ho⟩

end V1
set_option Elab.async false
set_option linter.all false
set_option maxRecDepth 100000
set_option maxHeartbeats 4000000
/-! k12: systems as data; what a turn of their making wants. -/
namespace V1
open PySem PySem.Spec PyProof.Rows L2
section
variable {L : Rl} {Γ : List (Option PyData)} {t : TA} {te ta tb : TE} {tt tu : TT} {a b i i2 j n : Nat} {v0 : V} {N : List (Option PyData) → Prop} {P : PyData → Prop}
theorem sk_parE {PP : List PyData → Prop} (h1 : i ≠ j) (h2 : i2 ≠ j) (h : EaG L a t Γ PP) (k : ∀ ds, PP ds → ∃ d1 d2, ds = [d1, d2] ∧ N ((Γ.set i (some d1)).set i2 (some d2))) : SK L j v0 a (tPar i i2 t) Γ N := fun A σ H hi he hg hs D q =>
  h A σ H hi he hg _ fun vs ds H1 r hl hv p => by
    obtain ⟨d1, d2, rfl, k⟩ := k ds p
    obtain ⟨v, w, rfl, h3, h4⟩ := two_of hl hv
    exact ⟨v, w, rfl, q _ H1 _ r (((he.r r).set h3 i).set h4 i2) (by rw [List.getElem?_set_ne h2, List.getElem?_set_ne h1]; exact hs) k⟩
theorem et_andK {k k2 : Bool} (h : EtD L tt Γ k) (h2 : k = true → EtD L tu Γ k2) : EtD L (tAnd tt tu) Γ (k && k2) := fun A σ H hi he hg Q q => h A σ H hi he hg _ fun H1 r1 => by
  cases k with
  | false => exact q H1 r1
  | true => exact h2 rfl A σ H1 (hi.r r1) (he.r r1) (Rl.gR (b := 0) hg r1) Q fun H2 r2 => q H2 (L.tr (a := 0) (b := 0) r1 r2)
theorem eg_lstG {PA : List PyData → Prop} (h : EaG L a t Γ PA) (hn : ∀ ds, PA ds → nomk ds = true ∧ ds.length ≤ 1000) : EvG L a (tLst t) Γ (fun d => ∃ ds, PA ds ∧ d = .list ds) := fun A σ H hi he hg Q q => h A σ H hi he hg _ fun vs ds' H1 r1 l hv p => by
  obtain ⟨h1, h2⟩ := hn ds' p
  refine ⟨Nat.le_trans (by rw [l]; exact h2) (by decide), fun p1 hp => ?_⟩
  have rr := Rl.newR (o := .lst vs) (Rl.gR (b := 0) hg r1) hp
  exact q _ _ _ (L.tr (b := 0) r1 rr) (.inr (.lst ((hi.r r1).no hp) upd_same ((all_of l hv h1).r rr))) ⟨ds', p, rfl⟩
end
structure PzOk (n k : Nat) (p : PZ) : Prop where
  w : p.w ∈ wordsW
  r : RowOk n k p.cs p.c p.b
theorem PzOk.mono {n k k' : Nat} {p : PZ} (h : PzOk n k p) (hk : k ≤ k') : PzOk n k' p := ⟨h.w, h.r.mono hk⟩
theorem words_ok : (wordsW.all fun w => (PyData.str w).canLay0 && ((PyData.str w).showable && ((PyData.str w).leavesShort 1921 && decide ((PyData.str w).bulk ≤ 4)))) = true := by decide +kernel
theorem word_lay {w : Str} (h : w ∈ wordsW) : (PyData.str w).canLay0 = true ∧ (PyData.str w).showable = true ∧ (PyData.str w).leavesShort 1921 = true ∧ (PyData.str w).bulk ≤ 4 := by
  have h1 := List.all_eq_true.mp words_ok w h
  simp only [Bool.and_eq_true, decide_eq_true_eq] at h1
  exact ⟨h1.1, h1.2.1, h1.2.2.1, h1.2.2.2⟩
theorem noL_pD (p : PZ) : noL (pD p) = true := by
  unfold pD
  simp only [noL, noLA, noL_ints, Bool.and_self]
theorem noL_sys (ps : List PZ) : noLA (ps.map pD) = true := noLA_mem fun d hd => by
  obtain ⟨p, _, rfl⟩ := List.mem_map.mp hd
  exact noL_pD p
theorem lay_all : ∀ {ds : List PyData}, (∀ d ∈ ds, d.canLay0 = true) → PyData.canLayAll0 ds = true
  | [], _ => by simp only [PyData.canLayAll0]
  | d :: ds, h => by simp only [PyData.canLayAll0, h d List.mem_cons_self, lay_all fun x hx => h x (List.mem_cons_of_mem _ hx), Bool.and_self]
theorem dep_all {k : Nat} : ∀ {ds : List PyData}, (∀ d ∈ ds, d.depth ≤ k) → PyData.depthAll ds ≤ k
  | [], _ => by simp only [PyData.depthAll]; omega
  | d :: ds, h => by
    simp only [PyData.depthAll]
    have h1 := h d List.mem_cons_self
    have h2 := dep_all (ds := ds) fun x hx => h x (List.mem_cons_of_mem _ hx)
    omega
theorem ints_lay (zs : List Int) : (tI zs).canLay0 = true ∧ (tI zs).depth ≤ 1 := by
  unfold tI
  constructor
  · simp only [PyData.canLay0]
    exact lay_all fun d hd => by obtain ⟨z, _, rfl⟩ := List.mem_map.mp hd; simp only [PyData.canLay0]
  · simp only [PyData.depth]
    have : PyData.depthAll (zs.map .int) ≤ 0 := dep_all fun d hd => by obtain ⟨z, _, rfl⟩ := List.mem_map.mp hd; simp only [PyData.depth]; omega
    omega
theorem pD_lay {p : PZ} (h : p.w ∈ wordsW) : (pD p).canLay0 = true ∧ (pD p).depth ≤ 2 := by
  have h1 := ints_lay (p.cs ++ [p.c, p.b])
  have h2 := word_lay h
  unfold pD
  constructor
  · simp only [PyData.canLay0] at h2 ⊢
    simp only [PyData.canLayAll0, PyData.canLay0, h1.1, h2.1, Bool.and_self]
  · simp only [PyData.depth, PyData.depthAll]
    have := h1.2
    omega
theorem sys_lay {ps : List PZ} (h : ∀ p ∈ ps, p.w ∈ wordsW) : PyData.canLayAll0 (ps.map pD) = true ∧ PyData.depthAll (ps.map pD) ≤ 2 :=
  ⟨lay_all fun d hd => by obtain ⟨p, hp, rfl⟩ := List.mem_map.mp hd; exact (pD_lay (h p hp)).1, dep_all fun d hd => by obtain ⟨p, hp, rfl⟩ := List.mem_map.mp hd; exact (pD_lay (h p hp)).2⟩
theorem sys_shT {ps : List PZ} (h : ∀ p ∈ ps, p.w ∈ wordsW) : SeqAt.shaped (sysD ps) = true := by
  obtain ⟨h1, h2⟩ := sys_lay h
  unfold sysD SeqAt.shaped
  rw [Bool.and_eq_true]
  refine ⟨by simp only [PyData.canLay0]; exact h1, decide_eq_true ?_⟩
  simp only [PyData.depth]
  omega
theorem sys_shL {ps : List PZ} (h : ∀ p ∈ ps, p.w ∈ wordsW) : SeqAt.shaped (.list (ps.map pD)) = true := by
  obtain ⟨h1, h2⟩ := sys_lay h
  unfold SeqAt.shaped
  rw [Bool.and_eq_true]
  refine ⟨by simp only [PyData.canLay0]; exact h1, decide_eq_true ?_⟩
  simp only [PyData.depth]
  omega
def FlO (x : Option PyData) : Prop := ∀ d, x = some d → noL d = true
theorem FlO.none : FlO Option.none := fun d e => by cases e
theorem FlO.some {d : PyData} (h : noL d = true) : FlO (Option.some d) := fun d' e => by rw [← Option.some.inj e]; exact h
theorem flat12 {n many : Int} {ps : List PZ} {x4 x5 x6 x7 x8 : Option PyData} (h4 : FlO x4) (h5 : FlO x5) (h6 : FlO x6) (h7 : FlO x7) (h8 : FlO x8) : Flat 3 (ps.map pD) [some mark, some (.int n), some (.int many), some (.list (ps.map pD)), x4, x5, x6, x7, x8, none, none, none] := by
  refine ⟨rfl, noL_sys ps, fun i d hi e => ?_⟩
  have in_ : ∀ {z : Int}, noL (.int z) = true := by intro z; simp only [noL]
  match i, hi, e with
  | 0, _, e => exact .inl (Option.some.inj (Option.some.inj e)).symm
  | 1, _, e => exact .inr (by rw [← Option.some.inj (Option.some.inj e)]; exact in_)
  | 2, _, e => exact .inr (by rw [← Option.some.inj (Option.some.inj e)]; exact in_)
  | 3, hi, _ => exact absurd rfl hi
  | 4, _, e => exact .inr (h4 d (Option.some.inj e))
  | 5, _, e => exact .inr (h5 d (Option.some.inj e))
  | 6, _, e => exact .inr (h6 d (Option.some.inj e))
  | 7, _, e => exact .inr (h7 d (Option.some.inj e))
  | 8, _, e => exact .inr (h8 d (Option.some.inj e))
  | 9, _, e => cases e
  | 10, _, e => cases e
  | 11, _, e => cases e
  | i + 12, _, e => cases e
end V1
set_option Elab.async false
set_option linter.all false
set_option maxRecDepth 100000
set_option maxHeartbeats 4000000
namespace V1
open PySem PySem.Spec PyProof.Rows L2
variable {P : Program} {w : World} {K : PySem.W.Frag} {mg : Str → Option Value} {base : Heap}

abbrev s_law_system : Stmt := top 37
abbrev n_law_system : List Str := ["m", "count_so", "many", "found", "k", "row", "way", "near", "far", "number", "a", "b"]
theorem sc_law_system : FnScope n_law_system ["m", "count_so", "many"] (defScope s_law_system) := ⟨rfl, rfl, rfl, by decide +kernel, rfl, by decide +kernel, by decide +kernel⟩
def sp_law_system (K : PySem.W.Frag) : Sp := spM K 200 (fun a : Nat × Nat => [mark, .int (a.1 : Int), .int (a.2 : Int)]) (fun a => (1 ≤ a.1 ∧ a.1 ≤ 6) ∧ a.2 ≤ 8) fun a d => ∃ ps : List PZ, d = sysD ps ∧ ps.length = a.2 ∧ ∀ p ∈ ps, PzOk a.1 40 p
theorem ok_law_system {f : Addr} {fd : FuncData} (T : Bt K mg) (C : Cst K w mg) (D : Df K mg "_law_system" s_law_system ["m", "count_so", "many"] f fd)
    {f_law_draw : Addr} {d_law_draw : FuncData} (h_law_draw : Cal P w K mg base "_law_draw" s_law_draw ["m", "bound"] 1 (sp_law_draw K) f_law_draw d_law_draw)
    {f_law_drawn_row : Addr} {d_law_drawn_row : FuncData} (h_law_drawn_row : Cal P w K mg base "_law_drawn_row" s_law_drawn_row ["m", "size", "span"] 4 (sp_law_drawn_row K) f_law_drawn_row d_law_drawn_row)
    {f_law_of : Addr} {d_law_of : FuncData} (h_law_of : Cal P w K mg base "_law_of" s_law_of ["m", "some"] 2 (sp_law_of K) f_law_of d_law_of)
    {f_law_rowed : Addr} {d_law_rowed : FuncData} (h_law_rowed : Cal P w K mg base "_law_rowed" s_law_rowed ["numbers", "bottom"] 3 (sp_law_rowed K) f_law_rowed d_law_rowed) : Cal P w K mg base "_law_system" s_law_system ["m", "count_so", "many"] 5 (sp_law_system K) f fd := by
  refine ok_A D sc_law_system (fun _ => rfl) fun cdv A outer s H E hgd hr => ⟨_, (pss_cons (ps_set (i := 3) sc_law_system.nd rfl (Or.inl rfl) (pe_lst pa_nil))
        (pss_cons (ps_for PassesOwn.never rfl (pi_range1 (by rfl) T.range (pa_cons (pv 2) pa_nil)) (pg_name (i := 4) sc_law_system.nd rfl (Or.inl rfl))
        (pss_cons (ps_par (i := 5) (j := 6) rfl sc_law_system.nd rfl rfl (by decide) rfl rfl (pa_cons (pe_fn (E := E0) h_law_drawn_row.G hgd (hr.mono (by decide)) (by rfl) h_law_drawn_row.gm h_law_drawn_row.kp h_law_drawn_row.b (pa_cons (pv 0) (pa_cons (pv 1) (pa_cons pe_int pa_nil)))) (pa_cons (pe_fn (E := E0) h_law_draw.G hgd (hr.mono (by decide)) (by rfl) h_law_draw.gm h_law_draw.kp h_law_draw.b (pa_cons (pv 0) (pa_cons pe_int pa_nil))) pa_nil)) (by rfl))
        (pss_cons (ps_if (PW.pt (pw_and (pt_cmpR op_eq (pv 6) pe_int (nomark _)) (pw_and1 (pt_cmpR (op_neD hr.units) (pv 3) (pe_lst pa_nil) (nomark _))))) (pss_cons (ps_set (i := 5) sc_law_system.nd rfl (Or.inl rfl) (pe_ix (ix_tupK (K := K) rfl) (pe_fn (E := E0) h_law_of.G hgd (hr.mono (by decide)) (by rfl) h_law_of.gm h_law_of.kp h_law_of.b (pa_cons (pv 0) (pa_cons (pv 3) pa_nil))) pe_int (fun _ _ => rfl)))
        (pss_one (ps_set (i := 5) sc_law_system.nd rfl (Or.inl rfl) (pe_fn (E := E0) h_law_rowed.G hgd (hr.mono (by decide)) (by rfl) h_law_rowed.gm h_law_rowed.kp h_law_rowed.b (pa_cons (pe_op op_cat (pe_lc (own := [("number", 9)]) (g := gName 9) (tt := tYes) rfl sc_law_system.nd (pi_tup (pe_slice sl_tup (pv 5) po_none (po_some (pe_un un_neg pe_int)))) (blkOk_by (own := [("number", 9)]) (N := n_law_system) (sc := defScope s_law_system) (by decide +kernel)) (fun _ _ _ _ _ => (pg_name (i := 9) sc_law_system.nd rfl (Or.inl rfl))) (fun _ _ _ _ _ => pts_nil) (fun _ _ _ _ _ => (pe_un un_neg (pv 9)))) (pe_lst (pa_cons (pe_op op_sub (pe_fn (E := E0) h_law_draw.G hgd (hr.mono (by decide)) (by rfl) h_law_draw.gm h_law_draw.kp h_law_draw.b (pa_cons (pv 0) (pa_cons pe_int pa_nil))) pe_int) pa_nil))) (pa_cons pe_int pa_nil)))))) pss_nil)
        (pss_cons (ps_if (PW.pt (pw_and (pt_cmpR op_eq (pv 6) pe_int (nomark _)) (pw_and1 (pt_cmpR (op_neD hr.units) (pv 3) (pe_lst pa_nil) (nomark _))))) (pss_cons (ps_par (i := 7) (j := 8) rfl sc_law_system.nd rfl rfl (by decide) rfl rfl (pa_cons (pe_ix (ix_tupK (K := K) rfl) (pe_fn (E := E0) h_law_of.G hgd (hr.mono (by decide)) (by rfl) h_law_of.gm h_law_of.kp h_law_of.b (pa_cons (pv 0) (pa_cons (pv 3) pa_nil))) pe_int (fun _ _ => rfl)) (pa_cons (pe_ix (ix_tupK (K := K) rfl) (pe_fn (E := E0) h_law_of.G hgd (hr.mono (by decide)) (by rfl) h_law_of.gm h_law_of.kp h_law_of.b (pa_cons (pv 0) (pa_cons (pv 3) pa_nil))) pe_int (fun _ _ => rfl)) pa_nil)) (by rfl))
        (pss_one (ps_set (i := 5) sc_law_system.nd rfl (Or.inl rfl) (pe_fn (E := E0) h_law_rowed.G hgd (hr.mono (by decide)) (by rfl) h_law_rowed.gm h_law_rowed.kp h_law_rowed.b (pa_cons (pe_lc (own := [("a", 10), ("b", 11)]) (g := gTup K 2 (gCons (gName 10) (gCons (gName 11) gNil))) (tt := tYes) rfl sc_law_system.nd (pi_zipP false false (by rfl) T.zip (pa_cons (pe_slice sl_tup (pv 7) po_none (po_some (pe_un un_neg pe_int))) (pa_cons (pe_slice sl_tup (pv 8) po_none (po_some (pe_un un_neg pe_int))) pa_nil))) (blkOk_by (own := [("a", 10), ("b", 11)]) (N := n_law_system) (sc := defScope s_law_system) (by decide +kernel)) (fun _ _ _ _ _ => (pg_tup rfl (pgs_cons (pg_name (i := 10) sc_law_system.nd rfl (Or.inl rfl)) (pgs_cons (pg_name (i := 11) sc_law_system.nd rfl (Or.inl rfl)) pgs_nil)))) (fun _ _ _ _ _ => pts_nil) (fun _ _ _ _ _ => (pe_op op_add (pv 10) (pe_op op_mulW (pe_fn (E := E0) h_law_of.G hgd (hr.mono (by decide)) (by rfl) h_law_of.gm h_law_of.kp h_law_of.b (pa_cons (pv 0) (pa_cons (pe_lst (pa_cons (pe_un un_neg pe_int) (pa_cons pe_int (pa_cons pe_int pa_nil)))) pa_nil))) (pv 11))))) (pa_cons pe_int pa_nil)))))) pss_nil)
        (pss_cons (ps_if (pt_cmpR op_eq (pv 6) pe_int (nomark _)) (pss_one (ps_set (i := 5) sc_law_system.nd rfl (Or.inl rfl) (pe_fn (E := E0) h_law_rowed.G hgd (hr.mono (by decide)) (by rfl) h_law_rowed.gm h_law_rowed.kp h_law_rowed.b (pa_cons (pe_op op_cat (pe_op op_rep (pe_lst (pa_cons pe_int pa_nil)) (pv 1)) (pe_lst (pa_cons (pe_op op_sub (pe_fn (E := E0) h_law_draw.G hgd (hr.mono (by decide)) (by rfl) h_law_draw.gm h_law_draw.kp h_law_draw.b (pa_cons (pv 0) (pa_cons pe_int pa_nil))) pe_int) pa_nil))) (pa_cons pe_int pa_nil))))) pss_nil)
        (pss_one (ps_expr (pe_bm PySem.F.plainAttrs_list PySem.F.slot_list_append PySem.F.type_list_append mt_append (pv 3) (pa_cons (pe_tup (pa_cons (pe_fn (E := E0) h_law_of.G hgd (hr.mono (by decide)) (by rfl) h_law_of.gm h_law_of.kp h_law_of.b (pa_cons (pv 0) (pa_cons (pe_lst (pa_cons pe_str (pa_cons pe_str (pa_cons pe_str (pa_cons pe_str (pa_cons pe_str pa_nil)))))) pa_nil))) (pa_cons (pv 5) pa_nil))) pa_nil)))))))))
        (pss_one (ps_ret (pe_callTy call_tuple_of (by rfl) T.tuple (by decide +kernel) (pa_cons (pv 3) pa_nil)))))), ?_⟩
  rintro L rfl hS ⟨n, many⟩ ⟨⟨hn1, hn2⟩, hm⟩
  have hn1 : 1 ≤ n := hn1
  have hn2 : n ≤ 6 := hn2
  have hm : many ≤ 8 := hm
  show SG L 200 _ [some mark, some (.int (n : Int)), some (.int (many : Int)), none, none, none, none, none, none, none, none, none] _ (fun d => ∃ ps : List PZ, d = sysD ps ∧ ps.length = many ∧ ∀ p ∈ ps, PzOk n 40 p)
  let I : Nat → List (Option PyData) → Prop := fun i G => ∃ (ps : List PZ) (x4 x5 x6 x7 x8 : Option PyData), G = [some mark, some (.int (n : Int)), some (.int (many : Int)), some (.list (ps.map pD)), x4, x5, x6, x7, x8, none, none, none] ∧ ps.length = i ∧ (∀ p ∈ ps, PzOk n (4 + 3 * i) p) ∧ FlO x4 ∧ FlO x5 ∧ FlO x6 ∧ FlO x7 ∧ FlO x8
  refine SG.mono (a := 8 * 25 + 0) (sg_Q (N1 := fun G => ∃ ps : List PZ, G[3]? = some (some (.list (ps.map pD))) ∧ ps.length = many ∧ ∀ p ∈ ps, PzOk n 40 p) (show 3 < 12 by decide) (evl_lst ea_nil) (sq_forQ (L := L) (js := [4]) (c := 25) I (by decide) (wk_rng1 (j := (many : Int)) (ea_cons (eg_var (i := 2) rfl) ea_nil) (by omega)) (by rw [rng_len]; omega) (fun i G ⟨ps, x4, x5, x6, x7, x8, e, _, _, h4, h5, h6, h7, h8⟩ => ⟨ps.map pD, by rw [e]; exact flat12 h4 h5 h6 h7 h8⟩) ⟨[], none, none, none, none, none, rfl, rfl, fun p hp => by simp at hp, .none, .none, .none, .none, .none⟩ ?_ ?_) ?_) (by decide) (fun _ h => h) fun _ h => h
  · rintro i e G hd ⟨ps, x4, x5, x6, x7, x8, rfl, hl, hps, h4, h5, h6, h7, h8⟩
    have hi8 : i < 8 := by
      have h1 := (List.getElem?_eq_some_iff.mp hd).1
      rw [rng_len] at h1
      omega
    have he4 : FlO (some e) := by
      unfold rngD at hd
      obtain ⟨y, _, rfl⟩ := List.mem_map.mp (List.mem_of_getElem? hd)
      exact .some (by simp only [noL])
    have hw : ∀ p ∈ ps, p.w ∈ wordsW := fun p hp => (hps p hp).w
    have hps100 : ps.length ≤ 100 := by omega
    refine ⟨_, tg_name, ?_⟩
    show SQ L 3 25 _ [some mark, some (.int (n : Int)), some (.int (many : Int)), some (.list (ps.map pD)), some e, x5, x6, x7, x8, none, none, none] _
    -- a row as drawn or made; what stands beside
    let St : List (Option PyData) → Prop := fun G => ∃ (cs : List Int) (c b : Int) (way : Int) (x7 x8 : Option PyData), G = [some mark, some (.int (n : Int)), some (.int (many : Int)), some (.list (ps.map pD)), some e, some (tI (cs ++ [c, b])), some (.int way), x7, x8, none, none, none] ∧ RowOk n (4 + 3 * (i + 1)) cs c b ∧ FlO x7 ∧ FlO x8
    have big : ∀ {k : Nat}, 1 ≤ k → (3 : Nat) < 2 ^ (k + 2) := fun {k} hk => Nat.lt_of_lt_of_le (show 3 < 2 ^ 2 by decide) (Nat.pow_le_pow_right (by decide) (by omega))
    refine SQ.mono (a := 11 + (2 + (10 + (1 + 1)))) (sq_seqQ (N1 := St) (sq_SK fun v0 => sk_parE (i := 5) (i2 := 6) (by decide) (by decide) (PP := fun es => ∃ d1 d2, es = [d1, d2] ∧ (∃ cs c b, d1 = tI (cs ++ [c, b]) ∧ RowOk n 3 cs c b) ∧ ∃ z : Int, (0 ≤ z ∧ z < 8) ∧ d2 = .int z) (EaG.mono (ea2G (eg_callM (L := L) (args := fun n : Nat => [mark, .int (n : Int), .int 2]) (ok := fun n => 1 ≤ n ∧ n ≤ 6) (post := fun n d => ∃ cs c b, d = tI (cs ++ [c, b]) ∧ RowOk n 3 cs c b) hS n (ea_cons (eg_var (i := 0) rfl) (ea_cons (eg_var (i := 1) rfl) (ea_cons eg_int ea_nil))) ⟨hn1, hn2⟩) (eg_drawV (E := E0) (b := 8) hS (by decide) rfl eg_int)) (by decide) fun es h => h) fun es ⟨d1, d2, e1, ⟨cs, c, b, e2, hr⟩, z, _, e3⟩ => ⟨d1, d2, e1, cs, c, b, z, x7, x8, by rw [e2, e3]; rfl, hr.mono (by omega), h7, h8⟩) fun G hG => ?_) (by decide)
    obtain ⟨cs, c, b, way, x7, x8, rfl, hr, h7, h8⟩ := hG
    have t2 : ∀ (y5 y6 y7 y8 : Option PyData) (te : TE), EvD L te [some mark, some (.int (n : Int)), some (.int (many : Int)), some (.list (ps.map pD)), some e, y5, y6, y7, y8, none, none, none] (.list (ps.map pD)) → EvD L (tOp (rNeD L.K) te (tLst tNil)) [some mark, some (.int (n : Int)), some (.int (many : Int)), some (.list (ps.map pD)), some e, y5, y6, y7, y8, none, none, none] (.bool (!PyData.eqv (.list (ps.map pD)) (.list []))) := fun y5 y6 y7 y8 te h => eg_neD h (eg_lst ea_nil) (by intro z; cases z) (by intro z; cases z) (sys_shL hw) (by rfl)
    have ne_of : (!PyData.eqv (.list (ps.map pD)) (.list [])) = true → ps.map pD ≠ [] := fun h z => by rw [z] at h; revert h; decide
    have pick : ∀ (y5 y6 y7 y8 : Option PyData), ps.map pD ≠ [] → EvG L 1 (tOp (rIxT L.K) (tCall (sp_law_of L.K) [] E0 (tCons (tVar 0) (tCons (tVar 3) tNil))) (tC (.int 1))) [some mark, some (.int (n : Int)), some (.int (many : Int)), some (.list (ps.map pD)), some e, y5, y6, y7, y8, none, none, none] (fun d => ∃ p ∈ ps, d = tI (p.cs ++ [p.c, p.b])) := fun y5 y6 y7 y8 hne => EvG.mono (a := 1 + 0) (eg_opG (eg_callM (L := L) (args := fun ds : List PyData => [mark, .list ds]) (ok := fun ds => ds ≠ [] ∧ ds.length ≤ 100) (post := fun ds d => d ∈ ds) hS (ps.map pD) (ea_cons (eg_var (i := 0) rfl) (ea_cons (eg_var (i := 3) rfl) ea_nil)) ⟨hne, by rw [List.length_map]; exact hps100⟩) eg_int fun d1 d2 h1 h2 => by
      obtain ⟨p, hp, rfl⟩ := List.mem_map.mp h1
      subst h2
      intro A H x y hi hg hx hy Q q
      exact os_ixT (ds := [.str p.w, tI (p.cs ++ [p.c, p.b])]) (i := 1) (d := tI (p.cs ++ [p.c, p.b])) (by rfl) A H x y hi hg hx hy Q fun v d' H' r hv e => q v d' H' r hv ⟨p, hp, e⟩) (Nat.le_refl _) fun d h => h
    have row1 : ∀ {ns : List Int} {w : Nat}, ns.length = n + 1 → 0 < w → w ≤ 3 → Bn (4 + 3 * i + 2) ns → ∃ cs c b, prim (ns ++ [(w : Int)]) = cs ++ [c, b] ∧ RowOk n (4 + 3 * (i + 1)) cs c b := fun {ns w} h1 h2 h3 h4 => by
      obtain ⟨cs, c, b, e1, e2⟩ := rowOk_prim (n := n) (k := 4 + 3 * i + 2) h1 h2 h4 (Nat.lt_of_le_of_lt h3 (big (by omega)))
      exact ⟨cs, c, b, e1, e2.mono (by omega)⟩
    have okR : ∀ {ns : List Int} {w : Nat}, ns.length = n + 1 → 0 < w → w ≤ 3 → Bn (4 + 3 * i + 2) ns → (0 < w ∧ w < 2 ^ 8000 ∧ ns.length ≤ 100 ∧ Bn 9000 ns) := fun {ns w} h1 h2 h3 h4 => ⟨h2, Nat.lt_of_lt_of_le (show w < 2 ^ 3 by omega) (Nat.pow_le_pow_right (by decide) (by decide)), by omega, h4.mono (by omega)⟩
    -- rowed of drawn numbers, w written
    have rowed : ∀ {a : Nat} {Γ : List (Option PyData)} {te : TE} {w : Nat}, 0 < w → w ≤ 3 → EvG L a te Γ (fun d => ∃ ns : List Int, d = lI ns ∧ ns.length = n + 1 ∧ Bn (4 + 3 * i + 2) ns) → EvG L (a + 0) (tCall (sp_law_rowed L.K) [] E0 (tCons te (tCons (tC (.int (w : Int))) tNil))) Γ (fun d => ∃ cs c b, d = tI (cs ++ [c, b]) ∧ RowOk n (4 + 3 * (i + 1)) cs c b) := fun {a Γ te w} hw0 hw3 h => EvG.mono (a := a + (0 + 0)) (eg_callRG (args := fun p : List Int × Nat => [lI p.1, .int (p.2 : Int)]) (ok := fun p => 0 < p.2 ∧ p.2 < 2 ^ 8000 ∧ p.1.length ≤ 100 ∧ Bn 9000 p.1) (val := fun p => tI (prim (p.1 ++ [(p.2 : Int)]))) (PA := fun ds => ∃ d1 d2, ds = [d1, d2] ∧ (∃ ns : List Int, d1 = lI ns ∧ ns.length = n + 1 ∧ Bn (4 + 3 * i + 2) ns) ∧ d2 = .int (w : Int)) (ea2G h eg_int) fun ds ⟨d1, d2, e1, ⟨ns, e2, h2, h3⟩, e3⟩ => ⟨by rw [e1, e2, e3]; rfl, (ns, w), okR h2 hw0 hw3 h3, by rw [e1, e2, e3]⟩) (by omega) fun d ⟨⟨ns2, w2⟩, ⟨d1, d2, e1, ⟨ns, e2, h2, h3⟩, e3⟩, _, e4⟩ => by
        injection e1 with a1 a2
        injection a2 with a3 _
        have e5 : lI ns2 = lI ns := a1.trans e2
        have e6 : ns2 = ns := by
          unfold lI at e5
          injection e5 with e5
          exact (List.map_inj_right (fun a b h => by injection h)).mp e5
        have e7 : PyData.int (w2 : Int) = .int (w : Int) := a3.trans e3
        injection e7 with e7
        have e8 : w2 = w := by omega
        subst e6 e8
        obtain ⟨cs, c, b, e9, ho⟩ := row1 h2 hw0 hw3 h3
        exact ⟨cs, c, b, by rw [e4]; show tI (prim (ns2 ++ [(w2 : Int)])) = _; rw [e9], ho⟩
    have rowK : ∀ p ∈ ps, RowOk n (4 + 3 * i) p.cs p.c p.b := fun p hp => (hps p hp).r
    have pow4 : (4 : Nat) ≤ 2 ^ (4 + 3 * i + 2) := Nat.le_trans (show 4 ≤ 2 ^ 2 by decide) (Nat.pow_le_pow_right (by decide) (by omega))
    refine sq_seqQ (N1 := St) (sq_ifQ (et_andK (et_test (eg_eqI (eg_var (i := 6) rfl) eg_int)) fun _ => et_test (t2 _ _ _ _ _ (eg_var (i := 3) rfl))) (fun hk => ?_) fun _ => SQ.mono (sq_nextQ ⟨cs, c, b, way, x7, x8, rfl, hr, h7, h8⟩) (by decide)) fun G hG => ?_
    · have hne := ne_of (by rw [Bool.and_eq_true] at hk; exact hk.2)
      refine sq_SK fun v0 => sk_asgG (a := 1) (b := 1) (by decide) (pick _ _ _ _ hne) fun d ⟨p, hp, e1⟩ => ?_
      subst e1
      show SK L 3 v0 1 _ [some mark, some (.int (n : Int)), some (.int (many : Int)), some (.list (ps.map pD)), some e, some (tI (p.cs ++ [p.c, p.b])), some (.int way), x7, x8, none, none, none] _
      have hrp := rowK p hp
      refine sk_asgE (a := 1) (P := fun d => ∃ cs c b, d = tI (cs ++ [c, b]) ∧ RowOk n (4 + 3 * (i + 1)) cs c b) (by decide) (EvG.mono (a := (0 + ((1 + 0) + 0)) + 0) (rowed (w := 1) (by decide) (by decide) (EvG.mono (a := 0 + ((1 + 0) + 0)) (eg_opG (P := fun d => ∃ ns : List Int, d = lI ns ∧ ns.length = n + 1 ∧ Bn (4 + 3 * i + 2) ns) (EvG.mono (eg_lcm (js := [9]) (xs := p.cs) (enc := PyData.int) (res := fun z => .int (-z)) (wk_tup (eg_init2 (L := L) (xs := p.cs.map .int) (a := .int p.c) (b := .int p.b) ((eg_var (i := 5) rfl).to (by unfold tI; rw [List.map_append]; rfl)))) (by simp) (by rw [hrp.l]; omega) fun z hz => ⟨(fun y => by cases y), _, tg_name, eg_neg (eg_var (i := 9) rfl)⟩) (Nat.le_refl _) fun d h => h) (eg_lstG (EaG.mono (ea1G (eg_subG (eg_drawV (E := E0) (b := 5) hS (by decide) rfl eg_int) eg_intG)) (Nat.le_refl _) fun es h => h) fun es ⟨y, e1, z, _, e2⟩ => ⟨by rw [e1, e2]; rfl, by rw [e1]; show 1 ≤ 1000; decide⟩) fun d1 d2 h1 h2 => ?_) (by decide) fun d h => h)) (by decide) fun d h => h) fun d ⟨cs, c, b, e1, ho⟩ => ⟨cs, c, b, way, x7, x8, by rw [e1]; rfl, ho, h7, h8⟩
      subst h1
      obtain ⟨es, ⟨y, rfl, z, ⟨u1, u2, hu1, hu2, hz⟩, rfl⟩, rfl⟩ := h2
      intro A H x y' hi hg hx hy Q q
      refine os_cat (ds := p.cs.map fun z => .int (-z)) (es := [.int z]) (by rw [List.length_map, hrp.l]; show _ + 1 ≤ _; omega) A H x y' hi hg hx hy Q fun v d' H' r hv e => q v d' H' r hv ⟨(p.cs.map fun z => -z) ++ [z], ?_, ?_, fun w hw => ?_⟩
      · rw [e]
        unfold lI
        rw [List.map_append, List.map_map]
        rfl
      · rw [List.length_append, List.length_map, hrp.l]
        rfl
      · rcases List.mem_append.mp hw with h | h
        · obtain ⟨u, hu, rfl⟩ := List.mem_map.mp h
          have := hrp.bn u (List.mem_append_left _ hu)
          rw [Int.natAbs_neg]
          exact Nat.lt_of_lt_of_le this (Nat.pow_le_pow_right (by decide) (by omega))
        · rw [List.mem_singleton.mp h]
          have : z.natAbs < 4 := by omega
          omega
    obtain ⟨cs, c, b, way, x7, x8, rfl, hr, h7, h8⟩ := hG
    refine sq_seqQ (N1 := St) (sq_ifQ (et_andK (et_test (eg_eqI (eg_var (i := 6) rfl) eg_int)) fun _ => et_test (t2 _ _ _ _ _ (eg_var (i := 3) rfl))) (fun hk => ?_) fun _ => SQ.mono (sq_nextQ ⟨cs, c, b, way, x7, x8, rfl, hr, h7, h8⟩) (by decide)) fun G hG => ?_
    · have hne := ne_of (by rw [Bool.and_eq_true] at hk; exact hk.2)
      refine SQ.mono (a := 2 + 8) (sq_SK fun v0 => sk_parG (a := 2) (b := 8) (by decide) (by decide) (PP := fun es => ∃ d1 d2, es = [d1, d2] ∧ (∃ p ∈ ps, d1 = tI (p.cs ++ [p.c, p.b])) ∧ ∃ p ∈ ps, d2 = tI (p.cs ++ [p.c, p.b])) (EaG.mono (ea2G (pick _ _ _ _ hne) (pick _ _ _ _ hne)) (by decide) fun es h => h) fun es ⟨d1, d2, e0, ⟨p, hp, e1⟩, p2, hp2, e2⟩ => ⟨d1, d2, e0, ?_⟩) (by decide)
      subst e1 e2
      show SK L 3 v0 8 _ [some mark, some (.int (n : Int)), some (.int (many : Int)), some (.list (ps.map pD)), some e, some (tI (cs ++ [c, b])), some (.int way), some (tI (p.cs ++ [p.c, p.b])), some (tI (p2.cs ++ [p2.c, p2.b])), none, none, none] _
      have hrp := rowK p hp
      have hrp2 := rowK p2 hp2
      have ez : ∀ q : PZ, tI (q.cs ++ [q.c, q.b]) = .tuple ((q.cs ++ [q.c]).map .int ++ [.int q.b]) := fun q => by unfold tI; rw [List.map_append, List.map_append, List.append_assoc]; rfl
      have hbn : ∀ q : PZ, RowOk n (4 + 3 * i) q.cs q.c q.b → ∀ z ∈ q.cs ++ [q.c], z.natAbs < 2 ^ (4 + 3 * i) := fun q hq z hz => hq.bn z (by
        rcases List.mem_append.mp hz with h | h
        · exact List.mem_append_left _ h
        · rw [List.mem_singleton.mp h]; simp)
      have hzl : ((p.cs ++ [p.c]).zip (p2.cs ++ [p2.c])).length = n + 1 := by
        rw [List.length_zip, List.length_append, List.length_append, hrp.l, hrp2.l]
        exact Nat.min_self _
      refine sk_asgE (a := 8) (P := fun d => ∃ cs c b, d = tI (cs ++ [c, b]) ∧ RowOk n (4 + 3 * (i + 1)) cs c b) (by decide) (EvG.mono (a := (0 + 7 * (0 + (1 + 0))) + 0) (rowed (w := 1) (by decide) (by decide) (EvG.mono (eg_lcX (b := 7) (c := 0 + (1 + 0)) (js := [10, 11]) (α := Int) (enc := PyData.int) (P := fun z => z.natAbs < 2 ^ (4 + 3 * i + 2)) (items := ((p.cs ++ [p.c]).zip (p2.cs ++ [p2.c])).map fun q => PyData.tuple [.int q.1, .int q.2]) (fun x z => by cases z) (wk_zipI (L := L) (as := p.cs ++ [p.c]) (bs := p2.cs ++ [p2.c]) (ea_cons (eg_init1 (L := L) ((eg_var (i := 7) rfl).to (ez p))) (ea_cons (eg_init1 (L := L) ((eg_var (i := 8) rfl).to (ez p2))) ea_nil))) (by simp) (by rw [List.length_map, hzl]; omega) (by decide) fun i2 d hd2 => ?_) (Nat.le_refl _) fun d ⟨ns, e1, e2, e3⟩ => ⟨ns, e1, by rw [e2, List.length_map, hzl], e3⟩)) (by decide) fun d h => h) fun d ⟨cs, c, b, e1, ho⟩ => ⟨cs, c, b, way, some (tI (p.cs ++ [p.c, p.b])), some (tI (p2.cs ++ [p2.c, p2.b])), by rw [e1]; rfl, ho, .some (noL_ints _), .some (noL_ints _)⟩
      rw [List.getElem?_map] at hd2
      cases hq : ((p.cs ++ [p.c]).zip (p2.cs ++ [p2.c]))[i2]? with
      | none => rw [hq] at hd2; cases hd2
      | some q =>
        rw [hq] at hd2
        have ed : PyData.tuple [.int q.1, .int q.2] = d := Option.some.inj hd2
        subst ed
        have hm1 := List.of_mem_zip (List.mem_of_getElem? hq)
        have b1 := hbn p hrp q.1 hm1.1
        have b2 := hbn p2 hrp2 q.2 hm1.2
        refine ⟨_, tg_two, EvG.mono (a := 0 + (1 + 0)) (eg_opG (P := fun r => ∃ x : Int, x.natAbs < 2 ^ (4 + 3 * i + 2) ∧ r = .int x) (EvG.mono (eg_var (i := 10) rfl) (Nat.le_refl _) fun d h => h) (eg_opG (P := fun r => ∃ x : Int, x.natAbs ≤ 2 * q.2.natAbs ∧ r = .int x) (eg_callM (L := L) (args := fun ds : List PyData => [mark, .list ds]) (ok := fun ds => ds ≠ [] ∧ ds.length ≤ 100) (post := fun ds d => d ∈ ds) hS [.int (-1), .int 1, .int 2] (ea_cons (eg_var (i := 0) rfl) (ea_cons (eg_lst (ea_cons (eg_neg eg_int) (ea_cons eg_int (ea_cons eg_int ea_nil)))) ea_nil)) ⟨by decide, by decide⟩) (EvG.mono (eg_var (i := 11) rfl) (Nat.le_refl _) fun d h => h) fun d1 d2 h1 h2 => ?_) fun d1 d2 h1 h2 => ?_) (Nat.le_refl _) fun d h => h⟩
        · have h3 : ∃ k : Int, k.natAbs ≤ 2 ∧ d1 = .int k := by
            simp only [List.mem_cons, List.not_mem_nil, or_false] at h1
            rcases h1 with rfl | rfl | rfl
            · exact ⟨-1, by decide, rfl⟩
            · exact ⟨1, by decide, rfl⟩
            · exact ⟨2, by decide, rfl⟩
          obtain ⟨k, hk2, rfl⟩ := h3
          have h2 : d2 = .int q.2 := h2
          subst h2
          intro A H x y hi hg hx hy Q q'
          obtain rfl := hx.int
          obtain rfl := hy.int
          refine ⟨_, _, rfl, rfl, mw (a := 3) (b := 4 + 3 * i) (show k.natAbs < 2 ^ 3 by omega) b2 (by decide) (by omega) (by omega), q' _ (.int (k * q.2)) H (Rl.refl hg) (.inr (.int _)) ⟨_, ?_, rfl⟩⟩
          rw [Int.natAbs_mul]
          exact Nat.mul_le_mul_right _ hk2
        · have h1 : d1 = .int q.1 := h1
          subst h1
          obtain ⟨x2, hx2, rfl⟩ := h2
          intro A H x y hi hg hx hy Q q'
          obtain rfl := hx.int
          obtain rfl := hy.int
          refine ⟨_, _, rfl, rfl, q' _ (.int (q.1 + x2)) H (Rl.refl hg) (.inr (.int _)) ⟨_, ?_, rfl⟩⟩
          have e4 : (2 : Nat) ^ (4 + 3 * i + 2) = 2 ^ (4 + 3 * i) * 4 := by rw [Nat.pow_add]
          have := Int.natAbs_add_le q.1 x2
          omega
    obtain ⟨cs, c, b, way, x7, x8, rfl, hr, h7, h8⟩ := hG
    refine sq_seqQ (N1 := St) (sq_ifQ (et_test (eg_eqI (eg_var (i := 6) rfl) eg_int)) (fun _ => ?_) fun _ => SQ.mono (sq_nextQ ⟨cs, c, b, way, x7, x8, rfl, hr, h7, h8⟩) (by decide)) fun G hG => ?_
    · refine sq_SK fun v0 => sk_asgE (a := 1) (P := fun d => ∃ cs c b, d = tI (cs ++ [c, b]) ∧ RowOk n (4 + 3 * (i + 1)) cs c b) (by decide) (EvG.mono (a := (0 + ((1 + 0) + 0)) + 0) (rowed (w := 2) (by decide) (by decide) (EvG.mono (a := 0 + ((1 + 0) + 0)) (eg_opG (P := fun d => ∃ ns : List Int, d = lI ns ∧ ns.length = n + 1 ∧ Bn (4 + 3 * i + 2) ns) (EvG.mono (eg_rep (ds := [.int 0]) (i := (n : Int)) (eg_lst (ea_cons eg_int ea_nil)) (eg_var (i := 1) rfl) (by omega) (by omega) (by decide)) (Nat.le_refl _) fun d h => h) (eg_lstG (EaG.mono (ea1G (eg_subG (eg_drawV (E := E0) (b := 4) hS (by decide) rfl eg_int) eg_intG)) (Nat.le_refl _) fun es h => h) fun es ⟨y, e1, z, _, e2⟩ => ⟨by rw [e1, e2]; rfl, by rw [e1]; show 1 ≤ 1000; decide⟩) fun d1 d2 h1 h2 => ?_) (by decide) fun d h => h)) (by decide) fun d h => h) fun d ⟨cs, c, b, e1, ho⟩ => ⟨cs, c, b, way, x7, x8, by rw [e1]; rfl, ho, h7, h8⟩
      have e0 : (List.replicate (n : Int).toNat [PyData.int 0]).flatten = (List.replicate n (0 : Int)).map .int := by
        rw [Int.toNat_natCast]
        generalize n = k
        induction k with
        | zero => rfl
        | succ k ih => rw [List.replicate_succ, List.flatten_cons, ih, List.replicate_succ]; rfl
      have h1 : d1 = .list ((List.replicate n (0 : Int)).map .int) := by rw [← e0]; exact h1
      subst h1
      obtain ⟨es, ⟨y, rfl, z, ⟨u1, u2, hu1, hu2, hz⟩, rfl⟩, rfl⟩ := h2
      intro A H x y' hi hg hx hy Q q
      refine os_cat (ds := (List.replicate n (0 : Int)).map .int) (es := [.int z]) (by rw [List.length_map, List.length_replicate]; show _ + 1 ≤ _; omega) A H x y' hi hg hx hy Q fun v d' H' r hv e => q v d' H' r hv ⟨List.replicate n 0 ++ [z], ?_, ?_, fun w hw => ?_⟩
      · rw [e]
        unfold lI
        rw [List.map_append]
        rfl
      · rw [List.length_append, List.length_replicate]
        rfl
      · rcases List.mem_append.mp hw with h | h
        · rw [(List.mem_replicate.mp h).2]
          show 0 < _
          omega
        · rw [List.mem_singleton.mp h]
          have : z.natAbs < 4 := by omega
          omega
    obtain ⟨cs, c, b, way, x7, x8, rfl, hr, h7, h8⟩ := hG
    have hin : FlO (some (.int way)) := .some (by simp only [noL])
    refine sq_appQ (a := 1) (P := fun d => ∃ p : PZ, d = pD p ∧ PzOk n (4 + 3 * (i + 1)) p) (flat12 he4 (.some (noL_ints _)) hin h7 h8) (by rw [List.length_map]; omega) (EvG.mono (a := 1 + (0 + 0)) (eg_tupG (ea2G (eg_callM (L := L) (args := fun ds : List PyData => [mark, .list ds]) (ok := fun ds => ds ≠ [] ∧ ds.length ≤ 100) (post := fun ds d => d ∈ ds) hS [.str "ge", .str "ge", .str "gt", .str "gt", .str "eq"] (ea_cons (eg_var (i := 0) rfl) (ea_cons (eg_lst (ea_cons eg_str (ea_cons eg_str (ea_cons eg_str (ea_cons eg_str (ea_cons eg_str ea_nil)))))) ea_nil)) ⟨by decide, by decide⟩) (eg_var (i := 5) rfl)) fun es ⟨d1, d2, e1, h1, e2⟩ => ?_) (by decide) fun d ⟨es, ⟨d1, d2, e1, h1, e2⟩, e3⟩ => ?_) (fun d ⟨p, e1, _⟩ => by rw [e1]; exact ⟨noL_pD p, by unfold pD; intro z; cases z⟩) fun d ⟨p, e1, ho⟩ => ?_
    · rw [e1, e2]
      simp only [List.mem_cons, List.not_mem_nil, or_false] at h1
      rcases h1 with rfl | rfl | rfl | rfl | rfl <;> exact ⟨rfl, by show 2 ≤ 1000; decide⟩
    · have hw : ∃ w : Str, w ∈ wordsW ∧ d1 = .str w := by
        simp only [List.mem_cons, List.not_mem_nil, or_false] at h1
        rcases h1 with rfl | rfl | rfl | rfl | rfl
        · exact ⟨"ge", by decide, rfl⟩
        · exact ⟨"ge", by decide, rfl⟩
        · exact ⟨"gt", by decide, rfl⟩
        · exact ⟨"gt", by decide, rfl⟩
        · exact ⟨"eq", by decide, rfl⟩
      obtain ⟨w, hw, rfl⟩ := hw
      exact ⟨⟨w, cs, c, b⟩, by rw [e3, e1, e2]; rfl, hw, hr⟩
    · refine ⟨ps ++ [p], some e, some (tI (cs ++ [c, b])), some (.int way), x7, x8, ?_, by rw [List.length_append, hl]; rfl, fun q hq => ?_, he4, .some (noL_ints _), hin, h7, h8⟩
      · rw [e1, List.map_append]
        rfl
      · rcases List.mem_append.mp hq with h | h
        · exact (hps q h).mono (by omega)
        · rw [List.mem_singleton.mp h]
          exact ho
  · rintro G ⟨ps, x4, x5, x6, x7, x8, rfl, hl, hps, _⟩
    rw [rng_len] at hl
    exact ⟨ps, rfl, by omega, fun p hp => (hps p hp).mono (by rw [rng_len]; omega)⟩
  · rintro G ⟨ps, hG, hl, hps⟩
    exact sg_ret (eg_cb (ea_cons (eg_var hG) ea_nil) cs_tuple) ⟨ps, rfl, hl, hps⟩

end V1
set_option Elab.async false
set_option linter.all false
set_option maxRecDepth 100000
set_option maxHeartbeats 4000000
/-! k12: {}; lists put together; what is near a system. -/
namespace V1
open PySem PySem.Spec PyProof.Rows L2
/-- {} -/
def tEmp : TE := fun _ H Q => ∀ p o, H p = none → Q (.ref p) (upd H p (.frz o (.dK [])))
theorem pe_emp {X : Cx} {pos : Pos} : PE X (.Dict [] [] pos) tEmp := by
  constructor
  intro pins s σ H Q I h
  refine wpAny_mono (pe_dnewK.run pins s σ H (fun v G => ∃ p, v = .ref p ∧ H p = none ∧ G = upd H p (.dK [])) I fun p hp => ⟨p, rfl, hp, rfl⟩) (fun u s1 ⟨x, G, J, rx, p, ex, hp, eG⟩ => ?_) fun e s1 z => z
  subst ex eG
  obtain ⟨od, J2⟩ := J.lock (d := p) (u := .dK []) upd_same trivial
  have e : upd (upd H p (.dK [])) p (.frz od (.dK [])) = upd H p (.frz od (.dK [])) := funext fun b => by
    by_cases hb : b = p
    · subst hb
      rw [upd_same, upd_same]
    · rw [upd_ne hb, upd_ne hb, upd_ne hb]
  rw [e] at J2
  exact ⟨.ref p, _, J2, rx, h p od hp⟩
section
variable {L : Rl} {Γ : List (Option PyData)} {t : TA} {te ta tb : TE} {tt tu : TT} {a b j n : Nat} {P : PyData → Prop}
theorem eg_emp : EvD L tEmp Γ emD := fun A σ H hi he hg Q q p o hp => q (.ref p) _ _ (Rl.newR hg hp) (.inr (.emp (hi.no hp) upd_same)) rfl
theorem evl_cat {ds es : List PyData} (ha : EvD L ta Γ (.list ds)) (hb : EvD L tb Γ (.list es)) (hl : ds.length + es.length ≤ 100000) : EvL L (tOp rCat ta tb) Γ (ds ++ es) := fun A σ H hi he hg Q q => ha A σ H hi he hg _ fun x d1 H1 r1 hx e1 => hb A σ H1 (hi.r r1) (he.r r1) (Rl.gR (b := 0) hg r1) _ fun y d2 H2 r2 hy e2 => by
  subst e1 e2
  obtain ⟨p, xs, rfl, na, e, r⟩ := (hx.r r2).list
  obtain ⟨p2, ys, rfl, na2, e2, r2'⟩ := hy.list
  have r12 := L.tr (a := 0) (b := 0) r1 r2
  refine ⟨p, p2, xs, ys, rfl, rfl, e, e2, Nat.le_trans (by rw [r.length, r2'.length]; exact hl) (by decide), fun l hl2 => ?_⟩
  have rr := Rl.newR (o := .lst (xs ++ ys)) (Rl.gR (b := 0) hg r12) hl2
  refine q l _ _ (L.tr (a := 0) (b := 0) r12 rr) (L.free r12 hl2) upd_same ((r.app r2').map fun b o nb eb k => ⟨fun z => z.elim nb (ne_of_none eb hl2), ?_⟩)
  rw [upd_ne (ne_of_none eb hl2)]
  exact eb
theorem eg_ifK {k : Bool} (h : EtD L tt Γ k) (h1 : k = true → EvG L a ta Γ P) (h2 : k = false → EvG L a tb Γ P) : EvG L a (tIf tt ta tb) Γ P := fun A σ H hi he hg Q q => h A σ H hi he (L.g0 hg) _ fun H1 r1 => by
  have g1 : L.G a H1 := Rl.gR (a := 0) (by rw [Nat.zero_add]; exact hg) r1
  cases k with
  | true => exact h1 rfl A σ H1 (hi.r r1) (he.r r1) g1 Q fun v d H' r hv p => q v d H' (L.rle (Nat.le_of_eq (Nat.zero_add _)) (L.tr r1 r)) hv p
  | false => exact h2 rfl A σ H1 (hi.r r1) (he.r r1) g1 Q fun v d H' r hv p => q v d H' (L.rle (Nat.le_of_eq (Nat.zero_add _)) (L.tr r1 r)) hv p
end
theorem cut_to {ds : List PyData} {i : Nat} (h : i ≤ ds.length) : cutD ds none (some (i : Int)) = ds.take i ∧ cutD ds (some (i : Int)) none = ds.drop i := by
  have e : ∀ (n d : Nat) (j : Nat), j ≤ n → HT.sIx n d (some (j : Int)) = j := fun n d j hj => by
    show (if ((j : Nat) : Int) < 0 then (((j : Nat) : Int) + (n : Int)).toNat else min ((j : Nat) : Int).toNat n) = j
    rw [if_neg (by omega)]
    omega
  have n0 : ∀ n : Nat, HT.sIx n 0 none = 0 := fun _ => rfl
  have nn : ∀ n : Nat, HT.sIx n n none = n := fun _ => rfl
  constructor
  · unfold cutD
    rw [n0, e _ _ i h]
    simp
  · unfold cutD
    rw [e _ _ i h, nn]
    exact List.take_of_length_le (by rw [List.length_drop]; omega)
/-! ### what is near a system -/
def nnL (n : Nat) : List PyData := (List.replicate (n : Int).toNat [PyData.int 0]).flatten ++ [.int 1, .int 1]
abbrev cutI (n : Nat) : List PyData := cutD (nnL n) none (some (-1))
abbrev cutT1 (n : Nat) : List PyData := cutD (nnL n) (some 1) none
def odd0 (n : Nat) : List PyData := [.none, .tuple [], .tuple [.str "ge"], .tuple [.str "lt", .tuple (nnL n)], .list [.str "ge", .tuple (nnL n)], .tuple [.str "ge", .tuple (cutT1 n)], .tuple [.str "eq", .list (nnL n)], .tuple [.int 5, .tuple (nnL n)], .tuple [.str "gt", .none]]
def odd1 (n : Nat) : List PyData := [.tuple [.str "ge", .tuple ([.bool true] ++ cutT1 n)], .tuple [.str "ge", .tuple (cutI n ++ [.int 0])], .tuple [.str "ge", .tuple (cutI n ++ [.int (-1)])]]
def odd2 (n : Nat) : PyData := .tuple [.str "gt", .tuple (cutD (nnL n) none (some (-2)) ++ [.int 2, .int 2])]
def odd3 (n : Nat) : List PyData := [.tuple [.str "ge", .tuple (cutI n ++ [.str "1"])], .tuple [.str "ge", .tuple (nnL n), .tuple (nnL n)], .tuple [.list [.str "ge"], .tuple (nnL n)]]
def oddL (n : Nat) : List PyData := ((odd0 n ++ odd1 n) ++ [odd2 n]) ++ odd3 n
theorem odd_chk : ([1, 2, 3, 4, 5, 6].all fun n => (oddL n).all fun d => !pairB (n : Nat) d && (d.canLay0 && decide (d.depth ≤ 4))) = true := by decide +kernel
theorem odd_bad {n : Nat} (h1 : 1 ≤ n) (h6 : n ≤ 6) : ∀ d ∈ oddL n, pairB n d = false ∧ d.canLay0 = true ∧ d.depth ≤ 4 := fun d hd => by
  have hm : n ∈ [1, 2, 3, 4, 5, 6] := by
    have : n = 1 ∨ n = 2 ∨ n = 3 ∨ n = 4 ∨ n = 5 ∨ n = 6 := by omega
    rcases this with rfl | rfl | rfl | rfl | rfl | rfl <;> decide
  have h := List.all_eq_true.mp (List.all_eq_true.mp odd_chk n hm) d hd
  simp only [Bool.and_eq_true, decide_eq_true_eq, Bool.not_eq_true'] at h
  exact ⟨h.1, h.2.1, h.2.2⟩
theorem nn_len {n : Nat} (h6 : n ≤ 6) : (nnL n).length ≤ 8 := by
  unfold nnL
  rw [List.length_append, List.length_flatten]
  have : ((List.replicate (n : Int).toNat [PyData.int 0]).map List.length).sum = n := by
    rw [Int.toNat_natCast]
    clear h6
    induction n with
    | zero => rfl
    | succ m ih => rw [List.replicate_succ, List.map_cons, List.sum_cons, ih]; show 1 + m = m + 1; omega
  rw [this]
  show n + 2 ≤ 8
  omega
theorem pz_pair {n k : Nat} {p : PZ} (h : PzOk n k p) : pairB n (pD p) = true := by
  have hr := h.r
  have e : pairB n (pD p) = ((wordsD.any fun z => PyData.eqv z (.str p.w)) && (faultD ((n : Int) + 2) (tI (p.cs ++ [p.c, p.b]))).isNone) := rfl
  rw [e, Bool.and_eq_true]
  constructor
  · have hw := h.w
    simp only [wordsW, List.mem_cons, List.not_mem_nil, or_false] at hw
    rcases hw with h | h | h <;> rw [h] <;> decide +kernel
  · have ef : faultD ((n : Int) + 2) (tI (p.cs ++ [p.c, p.b])) = none := by
      unfold faultD tI
      have hl : (((p.cs ++ [p.c, p.b]).map PyData.int).length : Int) = (n : Int) + 2 := by
        rw [List.length_map, List.length_append, hr.l]
        show ((n + 2 : Nat) : Int) = _
        omega
      show (if _ = _ then _ else _) = _
      rw [if_pos hl, oddIx_none (fun d hd => by obtain ⟨z, _, rfl⟩ := List.mem_map.mp hd; rfl)]
      have e1 : p.cs ++ [p.c, p.b] = (p.cs ++ [p.c]) ++ [p.b] := by rw [List.append_assoc]; rfl
      have e2 : lastI ((p.cs ++ [p.c, p.b]).map PyData.int) = p.b := by rw [e1]; exact lastI_app _ _
      have e3 : gcdD ((p.cs ++ [p.c, p.b]).map PyData.int) = 1 := by unfold gcdD; rw [intD_int]; exact hr.g
      show (if lastI _ < 1 then _ else if 1 < gcdD _ then _ else _) = none
      rw [e2, e3, if_neg (by have := hr.b1; omega), if_neg (by decide)]
    rw [ef]
    rfl
theorem find_at {q : PyData → Bool} {pre post : List PyData} {o : PyData} (h : ∀ x ∈ pre, q x = false) (ho : q o = true) : (pre ++ [o] ++ post).findIdx? q = some pre.length := by
  rw [List.findIdx?_eq_some_iff_getElem]
  refine ⟨by simp, ?_, fun j hj => ?_⟩
  · rw [List.getElem_append_left (by simp), List.getElem_append_right (by omega)]
    simpa using ho
  · rw [List.getElem_append_left (by simp; omega), List.getElem_append_left hj]
    rw [h _ (List.getElem_mem hj)]
    decide
def NearOk (n : Nat) (x num : PyData) : Prop := sysE n 60 x = some num ∧ okS x ∧ (num = .none ∨ ∃ i : Nat, i ≤ 10 ∧ num = .int (i : Int))
theorem near_tup {n : Nat} {ps : List PZ} {i : Nat} {o : PyData} {post : List PyData} (h1 : 1 ≤ n) (h6 : n ≤ 6) (hps : ∀ p ∈ ps, PzOk n 40 p) (hl : ps.length ≤ 8) (hi : i ≤ ps.length) (ho : o ∈ oddL n) (hpl : post.length ≤ 10) (hpost : ∀ d ∈ post, d.canLay0 = true ∧ d.depth ≤ 4) :
    NearOk n (.tuple ((ps.map pD).take i ++ [o] ++ post)) (.int (i : Int)) := by
  obtain ⟨o1, o2, o3⟩ := odd_bad h1 h6 o ho
  have hlen : ((ps.map pD).take i).length = i := by rw [List.length_take, List.length_map]; omega
  have hpre : ∀ x ∈ (ps.map pD).take i, ∃ p ∈ ps, x = pD p := fun x hx => by
    obtain ⟨p, hp, rfl⟩ := List.mem_map.mp (List.mem_of_mem_take hx)
    exact ⟨p, hp, rfl⟩
  refine ⟨?_, .inl ?_, .inr ⟨i, by omega, rfl⟩⟩
  · unfold sysE
    have hm : ¬ ((60 : Int) < (((ps.map pD).take i ++ [o] ++ post).length : Int)) := by
      rw [List.length_append, List.length_append, hlen]
      show ¬ ((60 : Int) < ((i + 1 + post.length : Nat) : Int))
      omega
    show (if _ then _ else _) = _
    rw [if_neg hm, find_at (q := fun x => !pairB n x) (fun x hx => by
      obtain ⟨p, hp, rfl⟩ := hpre x hx
      rw [pz_pair (hps p hp)]
      rfl) (by rw [o1]; rfl), hlen]
    rfl
  · have all : ∀ d ∈ (ps.map pD).take i ++ [o] ++ post, d.canLay0 = true ∧ d.depth ≤ 4 := fun d hd => by
      rcases List.mem_append.mp hd with h | h
      · rcases List.mem_append.mp h with h | h
        · obtain ⟨p, hp, rfl⟩ := hpre d h
          have := pD_lay (hps p hp).w
          exact ⟨this.1, by omega⟩
        · rw [List.mem_singleton.mp h]
          exact ⟨o2, o3⟩
      · exact hpost d h
    unfold SeqAt.shaped
    rw [Bool.and_eq_true]
    refine ⟨by simp only [PyData.canLay0]; exact lay_all fun d hd => (all d hd).1, decide_eq_true ?_⟩
    simp only [PyData.depth]
    have := dep_all (k := 4) fun d hd => (all d hd).2
    omega
end V1
set_option Elab.async false
set_option linter.all false
set_option maxRecDepth 100000
set_option maxHeartbeats 4000000
/-! k12: tuples put together with what is drawn; a system bent. -/
namespace V1
open PySem PySem.Spec PyProof.Rows L2
section
variable {L : Rl} {Γ : List (Option PyData)} {t : TA} {te te2 ta tb : TE} {u : TS} {j : Nat} {N : List (Option PyData) → Prop} {Rt : PyData → Prop}
/-- xs = [..]; xs.append(e) -/
theorem sg_app1G {b : Nat} {ds0 : List PyData} {e : PyData} (hj : j < Γ.length) (h1 : EvL L te Γ ds0) (hlen : ds0.length ≤ 100000) (h2 : EvD L te2 (Γ.set j none) e) (hne : e ≠ mark) (h3 : SG L b u (Γ.set j (some (.list (ds0 ++ [e])))) N Rt) :
    SG L b (tSeq (tAsg te (gName j)) (tSeq (tDrop (tBM L.K "list" rAppend (tVar j) (tCons te2 tNil))) u)) Γ N Rt := fun A σ H hi he hg D q1 q2 => h1 A σ H hi he (L.g0 hg) _ fun p xs0 H1 r1 hp0 eP dv0 => by
  have hg0 : L.G (0 + b) H := by rw [Nat.zero_add]; exact hg
  have nAp : ¬ A p := fun z => hi p z hp0
  have g1 : L.G 0 H1 := L.g0 (Rl.gR (a := 0) (b := b) hg0 r1)
  have hi1 : Inn (fun b => A b ∨ b = p) H1 := fun b z y => z.elim (fun z => (hi.r r1) b z y) fun z => by rw [z, eP] at y; cases y
  have sj : (σ.set j (some (V.ref p)))[j]? = some (some (V.ref p)) := List.getElem?_set_self (by rw [he.1]; exact hj)
  have he1 := held_env (p := p) (j := j) he r1 hp0 hj
  refine ⟨V.ref p, sj, .inl ⟨rfl, xs0, SqL.of eP⟩, ?_⟩
  refine h2 _ _ H1 hi1 he1 g1 _ fun v d7 H7 r7 hv7 ed => ?_
  subst ed
  have hv8 := hv7.ne hne
  have r17 : L.R 0 H H7 := L.tr (a := 0) (b := 0) r1 r7
  have eP7 : H7 p = some (.lst xs0) := L.keep r7 eP fxLst
  have dv7 := dv0.r r7
  refine ⟨p, xs0, v, rfl, rfl, eP7, ?_, ?_⟩
  · rw [dv7.length]
    exact Nat.lt_of_le_of_lt hlen (by decide)
  · have r8 := L.fresh r17 hp0 (.inr ⟨_, eP7⟩) (o := .lst (xs0 ++ [v]))
    have e8 : EnvOk L (fun b => A b ∨ b = p) (σ.set j (some (V.ref p))) (upd H7 p (.lst (xs0 ++ [v]))) (Γ.set j none) := (he1.r r7).off
    have dA : DvAll L.K A (upd H7 p (.lst (xs0 ++ [v]))) (xs0 ++ [v]) (ds0 ++ [d7]) := (dv7.app (.cons hv8 .nil)).off.map fun b o na e k => ⟨fun z => na (.inl z), e⟩
    have hb := held_back (e8.less fun b z => .inl z) nAp upd_same dA sj
    have hs : (Γ.set j none).set j (some (.list (ds0 ++ [d7]))) = Γ.set j (some (.list (ds0 ++ [d7]))) := by rw [List.set_set]
    rw [hs] at hb
    exact h3 A _ _ (hi.r r8) hb (Rl.gR (a := 0) (b := b) hg0 r8) D (fun σ6 H6 G6 r6 e6 p6 => q1 σ6 H6 G6 (L.rle (Nat.le_of_eq (Nat.zero_add _)) (L.tr r8 r6)) e6 p6) fun v d H6 r6 e6 p6 => q2 v d H6 (L.rle (Nat.le_of_eq (Nat.zero_add _)) (L.tr r8 r6)) e6 p6
variable {a b : Nat}
theorem eg_catAG {P1 P2 : List PyData → Prop} (ha : EvG L a ta Γ (fun d => ∃ ds, d = .tuple ds ∧ P1 ds)) (hb : EvG L b tb Γ (fun d => ∃ ds, d = .tuple ds ∧ P2 ds)) (h1 : ∀ ds, P1 ds → ds.length ≤ 1000) (h2 : ∀ ds, P2 ds → ds.length ≤ 1000) : EvG L (a + b) (tOp (rCatA L.K) ta tb) Γ (fun d => ∃ ds, d = .tuple ds ∧ ∃ es fs, ds = es ++ fs ∧ P1 es ∧ P2 fs) :=
  eg_opG ha hb fun d1 d2 ⟨ds, e1, p1⟩ ⟨es, e2, p2⟩ => by
    subst e1 e2
    intro A H x y' hi hg hx hy Q q
    have := h1 _ p1
    have := h2 _ p2
    exact os_catA (ds := ds) (es := es) (by omega) A H x y' hi hg hx hy Q fun v d' H' r hv e => q v d' H' r hv ⟨_, e, ds, es, rfl, p1, p2⟩
theorem eg_tup1G {P : PyData → Prop} (h : EvG L a te Γ P) (hn : ∀ d, P d → d ≠ mark) : EvG L (a + 0) (tTup (tCons te tNil)) Γ (fun d => ∃ ds, d = .tuple ds ∧ ∃ x, ds = [x] ∧ P x) :=
  EvG.mono (eg_tupG (ea1G h) fun es ⟨x, e, p⟩ => by
    subst e
    refine ⟨?_, by show 1 ≤ 1000; decide⟩
    have := hn x p
    cases x with
    | dict k => cases k with
      | nil => exact absurd rfl this
      | cons _ _ => rfl
    | _ => rfl) (Nat.le_refl _) fun d ⟨es, ⟨x, e, p⟩, e2⟩ => ⟨es, e2, x, e, p⟩
end
def big61 (n : Nat) : List PyData := (List.replicate (61 : Int).toNat [PyData.tuple [.str "ge", .tuple (nnL n)]]).flatten
def notL (n : Nat) (ps : List PZ) : List PyData := [.none, .list (ps.map pD), emD, .str "ge", .tuple (big61 n)]
theorem big_chk : ([1, 2, 3, 4, 5, 6].all fun n => SeqAt.shaped (.tuple (big61 n)) && decide (60 < (big61 n).length)) = true := by decide +kernel
theorem six {n : Nat} (h1 : 1 ≤ n) (h6 : n ≤ 6) : n ∈ [1, 2, 3, 4, 5, 6] := by
  have : n = 1 ∨ n = 2 ∨ n = 3 ∨ n = 4 ∨ n = 5 ∨ n = 6 := by omega
  rcases this with rfl | rfl | rfl | rfl | rfl | rfl <;> decide
theorem near_not {n : Nat} {ps : List PZ} {x : PyData} (h1 : 1 ≤ n) (h6 : n ≤ 6) (hw : ∀ p ∈ ps, p.w ∈ wordsW) (hx : x ∈ notL n ps) : NearOk n x .none := by
  have hb := List.all_eq_true.mp big_chk n (six h1 h6)
  simp only [Bool.and_eq_true, decide_eq_true_eq] at hb
  refine ⟨?_, ?_, .inl rfl⟩
  · simp only [notL, List.mem_cons, List.not_mem_nil, or_false] at hx
    rcases hx with rfl | rfl | rfl | rfl | rfl
    · rfl
    · rfl
    · rfl
    · rfl
    · unfold sysE
      exact if_pos (by have := hb.2; omega)
  · simp only [notL, List.mem_cons, List.not_mem_nil, or_false] at hx
    rcases hx with rfl | rfl | rfl | rfl | rfl
    · exact .inl (by rfl)
    · exact .inl (sys_shL hw)
    · exact .inr rfl
    · exact .inl (by decide +kernel)
    · exact .inl hb.1
theorem odd_len {n : Nat} : (oddL n).length = 16 := rfl
theorem odd_nm {n : Nat} (h1 : 1 ≤ n) (h6 : n ≤ 6) {d : PyData} (hd : d ∈ oddL n) : d ≠ mark := fun z => by
  have h := (odd_bad h1 h6 d hd).2.1
  rw [z] at h
  simp [PyData.canLay0] at h
end V1
set_option Elab.async false
set_option linter.all false
set_option maxRecDepth 100000
set_option maxHeartbeats 4000000
namespace V1
open PySem PySem.Spec PyProof.Rows L2
variable {P : Program} {w : World} {K : PySem.W.Frag} {mg : Str → Option Value} {base : Heap}

abbrev s_law_bent : Stmt := top 41
abbrev n_law_bent : List Str := ["m", "count_so", "system_so", "none", "odd", "way", "spot", "found"]
theorem sc_law_bent : FnScope n_law_bent ["m", "count_so", "system_so"] (defScope s_law_bent) := ⟨rfl, rfl, rfl, by decide +kernel, rfl, by decide +kernel, by decide +kernel⟩
def sp_law_bent (K : PySem.W.Frag) : Sp := spM K 6 (fun a : Nat × List PZ => [mark, .int (a.1 : Int), sysD a.2]) (fun a => (1 ≤ a.1 ∧ a.1 ≤ 6) ∧ a.2.length ≤ 8 ∧ ∀ p ∈ a.2, PzOk a.1 40 p) fun a d => ∃ x num, d = .tuple [x, num] ∧ NearOk a.1 x num
theorem ok_law_bent {f : Addr} {fd : FuncData} (T : Bt K mg) (C : Cst K w mg) (D : Df K mg "_law_bent" s_law_bent ["m", "count_so", "system_so"] f fd)
    {f_law_draw : Addr} {d_law_draw : FuncData} (h_law_draw : Cal P w K mg base "_law_draw" s_law_draw ["m", "bound"] 1 (sp_law_draw K) f_law_draw d_law_draw)
    {f_law_of : Addr} {d_law_of : FuncData} (h_law_of : Cal P w K mg base "_law_of" s_law_of ["m", "some"] 2 (sp_law_of K) f_law_of d_law_of) : Cal P w K mg base "_law_bent" s_law_bent ["m", "count_so", "system_so"] 3 (sp_law_bent K) f fd := by
  refine ok_A D sc_law_bent (fun _ => rfl) fun cdv A outer s H E hgd hr => ⟨_, (pss_cons (ps_set (i := 3) sc_law_bent.nd rfl (Or.inl rfl) (pe_op op_catA (pe_op op_repA (pe_tup (pa_cons pe_int pa_nil)) (pv 1)) (pe_tup (pa_cons pe_int (pa_cons pe_int pa_nil)))))
        (pss_cons (ps_set (i := 4) sc_law_bent.nd rfl (Or.inl rfl) (pe_lst (pa_cons pe_non (pa_cons (pe_tup pa_nil) (pa_cons (pe_tup (pa_cons pe_str pa_nil)) (pa_cons (pe_tup (pa_cons pe_str (pa_cons (pv 3) pa_nil))) (pa_cons (pe_lst (pa_cons pe_str (pa_cons (pv 3) pa_nil))) (pa_cons (pe_tup (pa_cons pe_str (pa_cons (pe_slice sl_tupA (pv 3) (po_some pe_int) po_none) pa_nil))) (pa_cons (pe_tup (pa_cons pe_str (pa_cons (pe_callTy call_list_of (by rfl) T.list (by decide +kernel) (pa_cons (pv 3) pa_nil)) pa_nil))) (pa_cons (pe_tup (pa_cons pe_int (pa_cons (pv 3) pa_nil))) (pa_cons (pe_tup (pa_cons pe_str (pa_cons pe_non pa_nil))) pa_nil)))))))))))
        (pss_cons (ps_set (i := 4) sc_law_bent.nd rfl (Or.inl rfl) (pe_op op_cat (pv 4) (pe_lst (pa_cons (pe_tup (pa_cons pe_str (pa_cons (pe_op op_catA (pe_tup (pa_cons pe_bl pa_nil)) (pe_slice sl_tupA (pv 3) (po_some pe_int) po_none)) pa_nil))) (pa_cons (pe_tup (pa_cons pe_str (pa_cons (pe_op op_catA (pe_slice sl_tupA (pv 3) po_none (po_some (pe_un un_neg pe_int))) (pe_tup (pa_cons pe_int pa_nil))) pa_nil))) (pa_cons (pe_tup (pa_cons pe_str (pa_cons (pe_op op_catA (pe_slice sl_tupA (pv 3) po_none (po_some (pe_un un_neg pe_int))) (pe_tup (pa_cons (pe_un un_neg pe_int) pa_nil))) pa_nil))) pa_nil))))))
        (pss_cons (ps_expr (pe_bm PySem.F.plainAttrs_list PySem.F.slot_list_append PySem.F.type_list_append mt_append (pv 4) (pa_cons (pe_tup (pa_cons pe_str (pa_cons (pe_op op_catA (pe_slice sl_tupA (pv 3) po_none (po_some (pe_un un_neg pe_int))) (pe_tup (pa_cons pe_int (pa_cons pe_int pa_nil)))) pa_nil))) pa_nil)))
        (pss_cons (ps_set (i := 4) sc_law_bent.nd rfl (Or.inl rfl) (pe_op op_cat (pv 4) (pe_lst (pa_cons (pe_tup (pa_cons pe_str (pa_cons (pe_op op_catA (pe_slice sl_tupA (pv 3) po_none (po_some (pe_un un_neg pe_int))) (pe_tup (pa_cons pe_str pa_nil))) pa_nil))) (pa_cons (pe_tup (pa_cons pe_str (pa_cons (pv 3) (pa_cons (pv 3) pa_nil)))) (pa_cons (pe_tup (pa_cons (pe_lst (pa_cons pe_str pa_nil)) (pa_cons (pv 3) pa_nil))) pa_nil))))))
        (pss_cons (ps_par (i := 5) (j := 6) rfl sc_law_bent.nd rfl rfl (by decide) rfl rfl (pa_cons (pe_fn (E := E0) h_law_draw.G hgd (hr.mono (by decide)) (by rfl) h_law_draw.gm h_law_draw.kp h_law_draw.b (pa_cons (pv 0) (pa_cons pe_int pa_nil))) (pa_cons (pe_fn (E := E0) h_law_draw.G hgd (hr.mono (by decide)) (by rfl) h_law_draw.gm h_law_draw.kp h_law_draw.b (pa_cons (pv 0) (pa_cons (pe_op op_add (pe_callB call_len_seq (by rfl) T.len PySem.boot_len (pa_cons (pv 2) pa_nil)) pe_int) pa_nil))) pa_nil)) (by rfl))
        (pss_cons (ps_if (pt_cmpR op_eq (pv 5) pe_int (nomark _)) (pss_one (ps_ret (pe_tup (pa_cons (pe_fn (E := E0) h_law_of.G hgd (hr.mono (by decide)) (by rfl) h_law_of.gm h_law_of.kp h_law_of.b (pa_cons (pv 0) (pa_cons (pe_lst (pa_cons pe_non (pa_cons (pe_callTy call_list_of (by rfl) T.list (by decide +kernel) (pa_cons (pv 2) pa_nil)) (pa_cons pe_emp (pa_cons pe_str (pa_cons (pe_op op_repA (pe_tup (pa_cons (pe_tup (pa_cons pe_str (pa_cons (pv 3) pa_nil))) pa_nil)) pe_int) pa_nil)))))) pa_nil))) (pa_cons pe_non pa_nil))))) pss_nil)
        (pss_cons (ps_set (i := 7) sc_law_bent.nd rfl (Or.inl rfl) (pe_op op_catA (pe_op op_catA (pe_slice sl_tupA (pv 2) po_none (po_some (pv 6))) (pe_tup (pa_cons (pe_fn (E := E0) h_law_of.G hgd (hr.mono (by decide)) (by rfl) h_law_of.gm h_law_of.kp h_law_of.b (pa_cons (pv 0) (pa_cons (pv 4) pa_nil))) pa_nil))) (pe_slice sl_tupA (pv 2) (po_some (pv 6)) po_none)))
        (pss_one (ps_ret (pe_tup (pa_cons (pe_ifExp (pt_cmpR op_eq (pv 5) pe_int (nomark _)) (pe_op op_catA (pv 7) (pe_tup (pa_cons (pe_fn (E := E0) h_law_of.G hgd (hr.mono (by decide)) (by rfl) h_law_of.gm h_law_of.kp h_law_of.b (pa_cons (pv 0) (pa_cons (pv 4) pa_nil))) pa_nil))) (pv 7)) (pa_cons (pv 6) pa_nil))))))))))))), ?_⟩
  rintro L rfl hS ⟨n, ps⟩ ⟨⟨hn1, hn2⟩, hl, hps⟩
  have hn1 : 1 ≤ n := hn1
  have hn2 : n ≤ 6 := hn2
  have hl : ps.length ≤ 8 := hl
  have hps : ∀ p ∈ ps, PzOk n 40 p := hps
  have hw : ∀ p ∈ ps, p.w ∈ wordsW := fun p hp => (hps p hp).w
  have hnl := nn_len hn2
  show SG L 6 _ [some mark, some (.int (n : Int)), some (.tuple (ps.map pD)), none, none, none, none, none] _ (fun d => ∃ x num, d = .tuple [x, num] ∧ NearOk n x num)
  refine sq_asg (d := .tuple (nnL n)) (eg_catA (eg_repA (eg_tup (ea_cons eg_int ea_nil)) (eg_var (i := 1) rfl) (by omega) (by omega) (by decide)) (eg_tup (ea_cons eg_int (ea_cons eg_int ea_nil))) (by unfold nnL at hnl; rw [List.length_append] at hnl; exact Nat.le_trans hnl (by decide))) ?_
  refine sq_asg (d := .list (odd0 n)) (eg_lst (ea_cons eg_non (ea_cons (eg_tup ea_nil) (ea_cons (eg_tup (ea_cons eg_str ea_nil)) (ea_cons (eg_tup (ea_cons eg_str (ea_cons (eg_var (i := 3) rfl) ea_nil))) (ea_cons (eg_lst (ea_cons eg_str (ea_cons (eg_var (i := 3) rfl) ea_nil))) (ea_cons (eg_tup (ea_cons eg_str (ea_cons (eg_slA (eg_var (i := 3) rfl) (eo_some eg_int) eo_none) ea_nil))) (ea_cons (eg_tup (ea_cons eg_str (ea_cons (eg_cb (ea_cons (eg_var (i := 3) rfl) ea_nil) cs_listT) ea_nil))) (ea_cons (eg_tup (ea_cons eg_int (ea_cons (eg_var (i := 3) rfl) ea_nil))) (ea_cons (eg_tup (ea_cons eg_str (ea_cons eg_non ea_nil))) ea_nil))))))))) rfl (by show 9 ≤ 1000; decide)) ?_
  have cutE : ∀ {Γ : List (Option PyData)} {k : Int}, Γ[3]? = some (some (.tuple (nnL n))) → EvD L (tSl (rSlA L.K) (tVar 3) tNoPart (tPart (tUn (rU fun i => .int (-i)) (tC (.int k))))) Γ (.tuple (cutD (nnL n) none (some (-k)))) := fun h => eg_slA (eg_var h) eo_none (eo_some (eg_neg eg_int))
  have cl : ∀ lo hi0, (cutD (nnL n) lo hi0).length ≤ 8 := fun lo hi0 => Nat.le_trans (cut_len _ _ _) hnl
  refine sg_app1G (L := L) (j := 4) (Γ := [some mark, some (.int (n : Int)), some (.tuple (ps.map pD)), some (.tuple (nnL n)), some (.list (odd0 n)), none, none, none]) (ds0 := odd0 n ++ odd1 n) (e := odd2 n) (show 4 < 8 by decide) (evl_cat (eg_var (i := 4) rfl) (eg_lst (ds := odd1 n) (hl := (by show 3 ≤ 1000; decide)) (ea_cons (eg_tup (ea_cons eg_str (ea_cons (eg_catA (eg_tup (ea_cons eg_bl ea_nil)) (eg_slA (eg_var (i := 3) rfl) (eo_some eg_int) eo_none) (by have := cl (some 1) none; show 1 + (cutD (nnL n) (some 1) none).length ≤ 100000; omega)) ea_nil))) (ea_cons (eg_tup (ea_cons eg_str (ea_cons (eg_catA (cutE rfl) (eg_tup (ea_cons eg_int ea_nil)) (by have := cl none (some (-1)); show (cutD (nnL n) none (some (-1))).length + 1 ≤ 100000; omega)) ea_nil))) (ea_cons (eg_tup (ea_cons eg_str (ea_cons (eg_catA (cutE rfl) (eg_tup (ea_cons (eg_neg eg_int) ea_nil)) (by have := cl none (some (-1)); show (cutD (nnL n) none (some (-1))).length + 1 ≤ 100000; omega)) ea_nil))) ea_nil)))) (by show 9 + 3 ≤ _; decide)) (by show 12 ≤ _; decide) (eg_tup (ea_cons eg_str (ea_cons (eg_catA (cutE rfl) (eg_tup (ea_cons eg_int (ea_cons eg_int ea_nil))) (by have := cl none (some (-2)); show (cutD (nnL n) none (some (-2))).length + 2 ≤ 100000; omega)) ea_nil))) (by intro z; cases z) ?_
  refine sq_asg (d := .list (oddL n)) (eg_cat (eg_var (i := 4) rfl) (eg_lst (ds := odd3 n) (hl := (by show 3 ≤ 1000; decide)) (ea_cons (eg_tup (ea_cons eg_str (ea_cons (eg_catA (cutE rfl) (eg_tup (ea_cons eg_str ea_nil)) (by have := cl none (some (-1)); show (cutD (nnL n) none (some (-1))).length + 1 ≤ 100000; omega)) ea_nil))) (ea_cons (eg_tup (ea_cons eg_str (ea_cons (eg_var (i := 3) rfl) (ea_cons (eg_var (i := 3) rfl) ea_nil)))) (ea_cons (eg_tup (ea_cons (eg_lst (ea_cons eg_str ea_nil)) (ea_cons (eg_var (i := 3) rfl) ea_nil))) ea_nil)))) (by show 13 + 3 ≤ _; decide)) ?_
  refine SG.mono (a := 2 + 4) (sq_parG (a := 1 + (1 + 0)) (b := 4) (ea2G (eg_drawV (E := E0) (b := 5) hS (by decide) rfl eg_int) (eg_drawV (E := E0) (b := ps.length + 1) hS (by omega) rfl ((eg_add (eg_cb (ea_cons (eg_var (i := 2) rfl) ea_nil) cs_lenT) eg_int).to (by rw [List.length_map]; rfl)))) fun ds ⟨d1, d2, e, ⟨way, hwy, e1⟩, spot, hsp, e2⟩ => ⟨d1, d2, e, ?_⟩) (by decide) (fun _ h => h) fun _ h => h
  subst e1 e2
  obtain ⟨i, rfl⟩ : ∃ i : Nat, spot = (i : Int) := ⟨spot.toNat, by omega⟩
  have hi : i ≤ ps.length := by omega
  show SG L 4 _ [some mark, some (.int (n : Int)), some (.tuple (ps.map pD)), some (.tuple (nnL n)), some (.list (oddL n)), some (.int way), some (.int (i : Int)), none] _ _
  refine sq_if (et_test (eg_eqI (eg_var (i := 5) rfl) eg_int)) (fun _ => ?_) fun _ => ?_
  · refine SG.mono (a := 1 + (0 + 0)) (sg_retqG (eg_tupG (ea2G (P2 := fun d => d = .none) (eg_callM (L := L) (args := fun ds : List PyData => [mark, .list ds]) (ok := fun ds => ds ≠ [] ∧ ds.length ≤ 100) (post := fun ds d => d ∈ ds) hS (notL n ps) (ea_cons (eg_var (i := 0) rfl) (ea_cons (eg_lst (ds := notL n ps) (hl := (by show 5 ≤ 1000; decide)) (ea_cons eg_non (ea_cons (eg_cb (ea_cons (eg_var (i := 2) rfl) ea_nil) cs_listT) (ea_cons eg_emp (ea_cons eg_str (ea_cons (eg_repA (eg_tup (ea_cons (eg_tup (ea_cons eg_str (ea_cons (eg_var (i := 3) rfl) ea_nil))) ea_nil)) eg_int (by decide) (by decide) (show 1 ≤ 1000 by decide)) ea_nil)))))) ea_nil)) ⟨(by intro z; cases z), by show 5 ≤ 100; decide⟩) eg_non) fun ds ⟨d1, d2, e, h1, h2⟩ => ?_) fun d ⟨ds, ⟨d1, d2, e, h1, h2⟩, e2⟩ => ⟨d1, .none, by rw [e2, e, h2], near_not hn1 hn2 hw h1⟩) (by decide) (fun _ h => h) fun _ h => h
    subst e h2
    refine ⟨?_, by show 2 ≤ 1000; decide⟩
    simp only [notL, List.mem_cons, List.not_mem_nil, or_false] at h1
    rcases h1 with rfl | rfl | rfl | rfl | rfl <;> rfl
  have drawO : ∀ {Γ : List (Option PyData)}, Γ[0]? = some (some mark) → Γ[4]? = some (some (.list (oddL n))) → EvG L 1 (tCall (sp_law_of L.K) [] E0 (tCons (tVar 0) (tCons (tVar 4) tNil))) Γ (fun d => d ∈ oddL n) := fun h0 h4 => eg_callM (L := L) (args := fun ds : List PyData => [mark, .list ds]) (ok := fun ds => ds ≠ [] ∧ ds.length ≤ 100) (post := fun ds d => d ∈ ds) hS (oddL n) (ea_cons (eg_var h0) (ea_cons (eg_var h4) ea_nil)) ⟨(by intro z; cases z), by show 16 ≤ 100; decide⟩
  have ct := cut_to (ds := ps.map pD) (i := i) (by rw [List.length_map]; exact hi)
  have lm : ∀ lo hi0, (cutD (ps.map pD) lo hi0).length ≤ 8 := fun lo hi0 => Nat.le_trans (cut_len _ _ _) (by rw [List.length_map]; exact hl)
  refine sq_next (SG.mono (a := ((0 + (1 + 0)) + 0) + (((0 + (1 + 0)) + (0 + 0)))) (sq_asgG (a := (0 + (1 + 0)) + 0) (b := (0 + (1 + 0)) + (0 + 0)) (eg_catAG (P1 := fun ds => ∃ es fs, ds = es ++ fs ∧ es = (ps.map pD).take i ∧ ∃ x, fs = [x] ∧ x ∈ oddL n) (P2 := fun ds => ds = (ps.map pD).drop i) (eg_catAG (P1 := fun ds => ds = (ps.map pD).take i) (P2 := fun ds => ∃ x, ds = [x] ∧ x ∈ oddL n) (EvG.mono (eg_slA (L := L) (eg_var (i := 2) rfl) eo_none (eo_some (eg_var (i := 6) rfl))) (Nat.le_refl _) fun d e => ⟨_, e, ct.1⟩) (eg_tup1G (drawO rfl rfl) fun d hd => odd_nm hn1 hn2 hd) (fun ds e => by rw [e, ← ct.1]; have := lm none (some (i : Int)); omega) fun ds ⟨x, e, _⟩ => by rw [e]; show 1 ≤ 1000; decide) (EvG.mono (eg_slA (L := L) (eg_var (i := 2) rfl) (eo_some (eg_var (i := 6) rfl)) eo_none) (Nat.le_refl _) fun d e => ⟨_, e, ct.2⟩) (fun ds ⟨es, fs, e, e1, x, e2, _⟩ => by rw [e, e1, e2, List.length_append, ← ct.1]; have := lm none (some (i : Int)); show _ + 1 ≤ _; omega) fun ds e => by rw [e, ← ct.2]; have := lm (some (i : Int)) none; omega) fun d ⟨ds, e, es, fs, e2, ⟨e3, f3, e4, e5, x, e6, hx⟩, e7⟩ => ?_) (by decide) (fun _ h => h) fun _ h => h)
  subst e e2 e4 e5 e6 e7
  have hdl : ((ps.map pD).drop i).length ≤ 8 := by rw [← ct.2]; exact lm _ _
  have hdp : ∀ d ∈ (ps.map pD).drop i, d.canLay0 = true ∧ d.depth ≤ 4 := fun d hd => by
    obtain ⟨p, hp, rfl⟩ := List.mem_map.mp (List.mem_of_mem_drop hd)
    have := pD_lay (hps p hp).w
    exact ⟨this.1, by omega⟩
  refine sg_retG (P := fun d => ∃ x num, d = .tuple [x, num] ∧ NearOk n x num) (EvG.mono (eg_tupG (ea2G (P1 := fun d => NearOk n d (.int (i : Int)) ∧ d ≠ mark) (P2 := fun d => d = .int (i : Int)) (eg_ifK (a := 0 + (1 + 0)) (et_test (eg_eqI (eg_var (i := 5) rfl) eg_int)) (fun _ => ?_) fun _ => ?_) (eg_var (i := 6) rfl)) fun ds ⟨d1, d2, e, h1, h2⟩ => ?_) (Nat.le_refl _) fun d ⟨ds, ⟨d1, d2, e, h1, h2⟩, e2⟩ => ⟨d1, d2, by rw [e2, e], by rw [h2]; exact h1.1⟩) fun d h => h
  · refine EvG.mono (eg_catAG (P1 := fun ds => ds = (ps.map pD).take i ++ [x] ++ (ps.map pD).drop i) (P2 := fun ds => ∃ y, ds = [y] ∧ y ∈ oddL n) (EvG.mono (eg_var (i := 7) (d := .tuple ((ps.map pD).take i ++ [x] ++ (ps.map pD).drop i)) rfl) (Nat.le_refl _) fun d e => ⟨_, e, rfl⟩) (eg_tup1G (drawO rfl rfl) fun d hd => odd_nm hn1 hn2 hd) (fun ds e => by rw [e, List.length_append, List.length_append, ← ct.1]; have := lm none (some (i : Int)); show _ + 1 + _ ≤ _; omega) fun ds ⟨x, e, _⟩ => by rw [e]; show 1 ≤ 1000; decide) (Nat.le_refl _) fun d ⟨ds, e, es, fs, e2, e3, y, e4, hy⟩ => ?_
    subst e e2 e3 e4
    rw [List.append_assoc _ _ [y]]
    refine ⟨near_tup hn1 hn2 hps hl hi hx (by rw [List.length_append]; show _ + 1 ≤ 10; omega) fun d hd => ?_, by intro z; cases z⟩
    rcases List.mem_append.mp hd with h | h
    · exact hdp d h
    · rw [List.mem_singleton.mp h]
      exact (odd_bad hn1 hn2 y hy).2
  · exact EvG.mono (eg_var (i := 7) (d := .tuple ((ps.map pD).take i ++ [x] ++ (ps.map pD).drop i)) rfl) (by decide) fun d e => by
      rw [e]
      exact ⟨near_tup hn1 hn2 hps hl hi hx (by omega) hdp, by intro z; cases z⟩
  · subst e h2
    refine ⟨?_, by show 2 ≤ 1000; decide⟩
    have := h1.2
    cases d1 with
    | dict k => cases k with
      | nil => exact absurd rfl this
      | cons _ _ => rfl
    | _ => rfl

end V1
set_option Elab.async false
set_option linter.all false
set_option maxRecDepth 100000
set_option maxHeartbeats 4000000
/-! k12: what the last readings want: keywords, nested targets, points that are right and not, the first that is broken. -/
namespace V1
open PySem PySem.Spec PyProof.Rows L2
def g2r {α : Type} : List α → List α → List α
  | [], [a, b] => [b, a]
  | _, _ => []
theorem rel_g2r {vs : List V} {us : List Value} {zs : List V} {ws : List Value} (h1 : Vals vs us) (h2 : Vals zs ws) : Vals (g2r vs zs) (g2r us ws) := by
  cases h1 with
  | nil =>
    cases h2 with
    | nil => exact .nil
    | cons a h2 =>
      cases h2 with
      | nil => exact .nil
      | cons b h2 =>
        cases h2 with
        | nil => exact .cons b (.cons a .nil)
        | cons c h2 => exact .nil
  | cons a h1 => exact .nil
theorem g2r_some {α : Type} : ∀ {us ws : List α}, (g2r us ws).length = 2 → us = [] ∧ ∃ a b, ws = [a, b]
  | [], [], h => by cases h
  | [], [_], h => by cases h
  | [], [a, b], _ => ⟨rfl, a, b, rfl⟩
  | [], _ :: _ :: _ :: _, h => by cases h
  | _ :: _, _, h => by cases h
theorem kbin2r {K : PySem.W.Frag} {fd : FuncData} {ps ks : List Str} (hp : ps.length = 2) (h : ∀ u v : Value, bindArgs fd ⟨[], ks.zip [u, v]⟩ = pure (ps.zip [v, u])) : KBinds K fd ps ks g2r g2r := ⟨fun s us ws _ hl => by
  obtain ⟨rfl, u, v, rfl⟩ := g2r_some (hl.trans hp)
  exact .of_eq (h u v), rel_g2r⟩
theorem gk2r {d1 d2 : PyData} (zs : List V) (h : zs.length = [d2, d1].length) : (g2r [] zs).length = [d1, d2].length ∧ ∀ (i : Nat) d, [d1, d2][i]? = some d → ∃ j : Nat, [d2, d1][j]? = some d ∧ (g2r [] zs)[i]? = zs[j]? := by
  match zs, h with
  | [a, b], _ =>
    refine ⟨rfl, fun i d e => ?_⟩
    match i, e with
    | 0, e => exact ⟨1, e, rfl⟩
    | 1, e => exact ⟨0, e, rfl⟩
    | i + 2, e => cases e
def g3r {α : Type} : List α → List α → List α
  | [], [a, b, c] => [c, b, a]
  | _, _ => []
theorem rel_g3r {vs : List V} {us : List Value} {zs : List V} {ws : List Value} (h1 : Vals vs us) (h2 : Vals zs ws) : Vals (g3r vs zs) (g3r us ws) := by
  cases h1 with
  | nil =>
    cases h2 with
    | nil => exact .nil
    | cons a h2 =>
      cases h2 with
      | nil => exact .nil
      | cons b h2 =>
        cases h2 with
        | nil => exact .nil
        | cons c h2 =>
          cases h2 with
          | nil => exact .cons c (.cons b (.cons a .nil))
          | cons d h2 => exact .nil
  | cons a h1 => exact .nil
theorem g3r_some {α : Type} : ∀ {us ws : List α}, (g3r us ws).length = 3 → us = [] ∧ ∃ a b c, ws = [a, b, c]
  | [], [], h => by cases h
  | [], [_], h => by cases h
  | [], [_, _], h => by cases h
  | [], [a, b, c], _ => ⟨rfl, a, b, c, rfl⟩
  | [], _ :: _ :: _ :: _ :: _, h => by cases h
  | _ :: _, _, h => by cases h
theorem kbin3r {K : PySem.W.Frag} {fd : FuncData} {ps ks : List Str} (hp : ps.length = 3) (h : ∀ u v z : Value, bindArgs fd ⟨[], ks.zip [u, v, z]⟩ = pure (ps.zip [z, v, u])) : KBinds K fd ps ks g3r g3r := ⟨fun s us ws _ hl => by
  obtain ⟨rfl, u, v, z, rfl⟩ := g3r_some (hl.trans hp)
  exact .of_eq (h u v z), rel_g3r⟩
theorem gk3r {d1 d2 d3 : PyData} (zs : List V) (h : zs.length = [d3, d2, d1].length) : (g3r [] zs).length = [d1, d2, d3].length ∧ ∀ (i : Nat) d, [d1, d2, d3][i]? = some d → ∃ j : Nat, [d3, d2, d1][j]? = some d ∧ (g3r [] zs)[i]? = zs[j]? := by
  match zs, h with
  | [a, b, c], _ =>
    refine ⟨rfl, fun i d e => ?_⟩
    match i, e with
    | 0, e => exact ⟨2, e, rfl⟩
    | 1, e => exact ⟨1, e, rfl⟩
    | 2, e => exact ⟨0, e, rfl⟩
    | i + 3, e => cases e
theorem KB_check_system_system_count {K : PySem.W.Frag} {f : Addr} {fd : FuncData} (F : Fun K "check_system" "check_system" s_check_system f fd) : KBinds K fd ["count", "system"] ["system", "count"] g2r g2r := by
  obtain ⟨oc, od, kV, doc, pm, an, cdv, ct, osl, rfl, _⟩ := F.ex
  exact kbin2r rfl fun u v => rfl
theorem KB_holds_all_point_system_count {K : PySem.W.Frag} {f : Addr} {fd : FuncData} (F : Fun K "holds_all" "holds_all" s_holds_all f fd) : KBinds K fd ["count", "system", "point"] ["point", "system", "count"] g3r g3r := by
  obtain ⟨oc, od, kV, doc, pm, an, cdv, ct, osl, rfl, _⟩ := F.ex
  exact kbin3r rfl fun u v z => rfl
theorem KB_first_broken_point_system_count {K : PySem.W.Frag} {f : Addr} {fd : FuncData} (F : Fun K "first_broken" "first_broken" s_first_broken f fd) : KBinds K fd ["count", "system", "point"] ["point", "system", "count"] g3r g3r := by
  obtain ⟨oc, od, kV, doc, pm, an, cdv, ct, osl, rfl, _⟩ := F.ex
  exact kbin3r rfl fun u v z => rfl
theorem pass0 {X : Cx} {σ : L2.St} : PassesAt (L2.CX X.prog X.w) X σ E0 := fun pins H s e s' I hq => by
  obtain ⟨_, _, _, _, _, _, _, _, _, _, _, _, z⟩ := hq
  exact z.elim
section
variable {L : Rl} {Γ : List (Option PyData)} {C : Addr} {fld : Str} {α : Type} {args : α → List PyData} {ok : α → Prop} {res : α → Except PyData PyData} {ta tk : TA} {te : TE} {d dq : PyData}
theorem eg_callXvK (a : α) {E : XK} {ds : List PyData} {gV : List V → List V → List V} (ha : EaD L tk Γ ds) (hg2 : ∀ zs : List V, zs.length = ds.length → (gV [] zs).length = (args a).length ∧ ∀ (i : Nat) d, (args a)[i]? = some d → ∃ j : Nat, ds[j]? = some d ∧ (gV [] zs)[i]? = zs[j]?) (ho : ok a) (hr : res a = .ok d) (hn : nomk (args a) = true := by rfl) :
    EvD L (tCallK (spX L.K C fld args ok res) gV E tNil tk) Γ d := fun A σ H hi he hg Q q => ha A σ H hi he hg _ fun vs ds' H1 r1 l hv p => by
  subst p
  obtain ⟨l1, l2⟩ := hg2 vs l
  refine ⟨a, A, ho, hi.r r1, l1, fun i d e => ?_, fun d2 e v H' sm hd => ?_, fun q2 e => (by rw [hr] at e; cases e)⟩
  · obtain ⟨j, e1, e2⟩ := l2 i d e
    obtain ⟨v, e3, e4⟩ := hv j d e1
    exact ⟨v, by rw [e2]; exact e3, e4.ne (nomk_ne hn i d e)⟩
  · rw [hr] at e
    cases e
    exact q v _ H' (L.tr (a := 0) (b := 0) r1 (L.same (Rl.gR (b := 0) hg r1) sm)) (.inr hd) rfl
theorem tg_nest {i j k : Nat} {d1 d2 d3 : PyData} : TgG L (gTup L.K 2 (gCons (gName i) (gCons (gTup L.K 2 (gCons (gName j) (gCons (gName k) gNil))) gNil))) [i, j, k] (.tuple [d1, .tuple [d2, d3]]) Γ (((Γ.set i (some d1)).set j (some d2)).set k (some d3)) := fun A x σ H hx he Q q => by
  obtain ⟨p, xs, rfl, e, r⟩ := Dq.tuple (L := L) (.inr hx)
  cases r with
  | cons r1 r =>
    cases r with
    | cons r2 r =>
      cases r
      obtain ⟨p2, xs2, rfl, e2, r4⟩ := Dq.tuple (L := L) (.inr r2)
      cases r4 with
      | cons r5 r4 =>
        cases r4 with
        | cons r6 r4 =>
          cases r4
          refine ⟨p, _, rfl, e.sq, rfl, _, _, rfl, _, _, rfl, p2, _, rfl, e2.sq, rfl, _, _, rfl, _, _, rfl, rfl, rfl, ?_⟩
          refine q _ (((he.set (.inr r1) i).set (.inr r5) j).set (.inr r6) k) fun vs hv => ?_
          rw [wipe_set (hv k (by simp)), wipe_set (hv j (by simp)), wipe_set (hv i (by simp))]
end
/-! ### a system that is right -/
theorem sys_none {n : Nat} {ps : List PZ} (hps : ∀ p ∈ ps, PzOk n 40 p) (hl : ps.length ≤ 8) : sysE n 60 (sysD ps) = none := by
  unfold sysE sysD
  show (if (60 : Int) < ((ps.map pD).length : Int) then some PyData.none else ((ps.map pD).findIdx? fun x => !pairB n x).map fun (i : Nat) => PyData.int i) = none
  rw [if_neg (by rw [List.length_map]; omega)]
  have h : ((ps.map pD).findIdx? fun x => !pairB n x) = none := by
    rw [List.findIdx?_eq_none_iff]
    intro x hx
    obtain ⟨p, hp, rfl⟩ := List.mem_map.mp hx
    rw [pz_pair (hps p hp)]
    rfl
  rw [h]
  rfl
theorem ints_shn {zs : List Int} {m : Nat} (h : Bn 1900 zs) (hl : zs.length ≤ m) : Shn (m * (0 + 1)) 1 (tI zs) := shn_tup (b := 0) (k := 0) (fun d hd => by
  obtain ⟨z, hz, rfl⟩ := List.mem_map.mp hd
  exact shn_int (h z hz)) (by rw [List.length_map]; exact hl)
theorem pd_shn {n : Nat} {p : PZ} (hn : n ≤ 6) (h : PzOk n 40 p) : Shn 18 2 (pD p) := by
  obtain ⟨w1, w2, w3, w4⟩ := word_lay h.w
  refine (shn_tup (b := 8) (k := 1) (m := 2) (ds := [.str p.w, tI (p.cs ++ [p.c, p.b])]) (fun d hd => ?_) (show 2 ≤ 2 by decide))
  rcases List.mem_cons.mp hd with rfl | hd
  · exact ⟨w2, rfl, by simp only [PyData.depth]; omega, w3, by omega⟩
  · rw [List.mem_singleton.mp hd]
    have hl : (p.cs ++ [p.c, p.b]).length ≤ 8 := by rw [List.length_append, h.r.l]; show n + 2 ≤ 8; omega
    exact ints_shn (h.r.bn.mono (by decide)) hl
theorem sys_shn {n : Nat} {ps : List PZ} (hn : n ≤ 6) (hps : ∀ p ∈ ps, PzOk n 40 p) (hl : ps.length ≤ 8) : Shn 152 3 (sysD ps) := shn_tup (b := 18) (k := 2) (m := 8) (fun d hd => by
  obtain ⟨p, hp, rfl⟩ := List.mem_map.mp hd
  exact pd_shn hn (hps p hp)) (by rw [List.length_map]; exact hl)
theorem sys_two {n : Nat} {ps : List PZ} (hn : n ≤ 6) (hps : ∀ p ∈ ps, PzOk n 40 p) (hl : ps.length ≤ 8) : Sh (.list [sysD ps, sysD ps]) := sh_lst (b := 2 * (152 + 1)) (k := 4) (shn_lst (b := 152) (k := 3) (m := 2) (fun d hd => by
  have e : d = sysD ps := by simpa using hd
  rw [e]
  exact sys_shn hn hps hl) (show 2 ≤ 2 by decide))
def PtOk (n : Nat) (xs : List Int) (b : Int) : Prop := xs.length = n ∧ 1 ≤ b ∧ gcdl (xs ++ [b]) = 1 ∧ Bn 3 (xs ++ [b])
theorem pt_fault {n : Nat} {xs : List Int} {b : Int} (h : PtOk n xs b) : faultD ((n : Int) + 1) (tI (xs ++ [b])) = none := by
  unfold faultD tI
  show (if (((xs ++ [b]).map PyData.int).length : Int) = _ then _ else _) = _
  rw [if_pos (by rw [List.length_map, List.length_append, h.1]; show ((n + 1 : Nat) : Int) = _; omega), oddIx_none (fun d hd => by obtain ⟨z, _, rfl⟩ := List.mem_map.mp hd; rfl)]
  have e3 : gcdD ((xs ++ [b]).map PyData.int) = 1 := by unfold gcdD; rw [intD_int]; exact h.2.2.1
  show (if lastI _ < 1 then _ else if 1 < gcdD _ then _ else _) = none
  rw [lastI_app, e3, if_neg (by have := h.2.1; omega), if_neg (by decide)]
theorem pt_sa {n : Nat} {ps : List PZ} {xs : List Int} {b : Int} (hps : ∀ p ∈ ps, PzOk n 40 p) (hn : n ≤ 6) (h : PtOk n xs b) : okSA ⟨ps, xs, b⟩ := fun p hp => by
  have hr := (hps p hp).r
  have m : ∀ {k : Nat} {z : Int}, k ≤ 400 → z.natAbs < 2 ^ k → z.natAbs < 2 ^ 400 := fun hk hz => Nat.lt_of_lt_of_le hz (Nat.pow_le_pow_right (by decide) hk)
  exact ⟨(hps p hp).w, ⟨hr.l.trans h.1.symm, by show xs.length ≤ 50; rw [h.1]; omega, fun z hz => m (by decide) (hr.bn z (List.mem_append.mpr (.inl hz))), fun z hz => m (by decide) (h.2.2.2 z (List.mem_append.mpr (.inl hz))), m (by decide) (hr.bn p.c (by simp)), m (by decide) (h.2.2.2 b (by simp))⟩⟩
theorem prim_pt {n : Nat} {ns : List Int} {w : Nat} (h1 : 1 ≤ n) (hl : ns.length = n) (hw : 0 < w) (hb : Bn 3 ns) (hwb : w < 2 ^ 3) : ∃ xs b, prim (ns ++ [(w : Int)]) = xs ++ [b] ∧ PtOk n xs b := by
  obtain ⟨m, rfl⟩ : ∃ m, n = m + 1 := ⟨n - 1, by omega⟩
  obtain ⟨cs, c, b, e, hr⟩ := rowOk_prim (n := m) (k := 3) hl hw hb hwb
  have e2 : cs ++ [c, b] = (cs ++ [c]) ++ [b] := by rw [List.append_assoc]; rfl
  exact ⟨cs ++ [c], b, e.trans e2, by rw [List.length_append, hr.l]; rfl, hr.b1, by rw [← e2]; exact hr.g, by rw [← e2]; exact hr.bn⟩
/-! ### what is no point -/
def noPts (n : Nat) (xs : List Int) (b : Int) : List PyData := [.tuple [.none, .int (-1)], .tuple [tI xs, .int (-1)], .tuple [lI (xs ++ [b]), .int (-1)], .tuple [.tuple (xs.map .int ++ [.int 0]), .int (n : Int)], .tuple [.tuple (xs.map .int ++ [.bool true]), .int (n : Int)]]
theorem no_pt {n : Nat} {xs : List Int} {b : Int} {d : PyData} (h : PtOk n xs b) (hn : n ≤ 6) (hd : d ∈ noPts n xs b) : ∃ (x : PyData) (i : Int), d = .tuple [x, .int i] ∧ faultD ((n : Int) + 1) x = some i ∧ x.hasDict = false ∧ i.natAbs ≤ 6 := by
  have hb := h.2.2.2
  have hx : Bn 1900 xs := fun z hz => Nat.lt_of_lt_of_le (hb z (List.mem_append.mpr (.inl hz))) (Nat.pow_le_pow_right (by decide) (by decide))
  have hbx : Bn 1900 (xs ++ [b]) := hb.mono (by decide)
  have hl := h.1
  simp only [noPts, List.mem_cons, List.not_mem_nil, or_false] at hd
  rcases hd with rfl | rfl | rfl | rfl | rfl
  · exact ⟨_, -1, rfl, rfl, rfl, by decide⟩
  · refine ⟨_, -1, rfl, ?_, (ints_shn hx (Nat.le_refl _)).nd, by decide⟩
    unfold faultD tI
    show (if ((xs.map PyData.int).length : Int) = _ then _ else _) = _
    rw [if_neg (by rw [List.length_map, hl]; omega)]
  · refine ⟨_, -1, rfl, rfl, ?_, by decide⟩
    have := (ints_shn hbx (Nat.le_refl _)).nd
    unfold tI at this
    simpa only [lI, PyData.hasDict] using this
  · refine ⟨_, n, rfl, ?_, ?_, by omega⟩
    · have e : xs.map PyData.int ++ [.int 0] = (xs ++ [0]).map PyData.int := by rw [List.map_append]; rfl
      rw [e]
      unfold faultD
      show (if (((xs ++ [0]).map PyData.int).length : Int) = _ then _ else _) = _
      rw [if_pos (by rw [List.length_map, List.length_append, hl]; show ((n + 1 : Nat) : Int) = _; omega), oddIx_none (fun d hd => by obtain ⟨z, _, rfl⟩ := List.mem_map.mp hd; rfl)]
      show (if lastI _ < 1 then _ else _) = _
      rw [lastI_app, if_pos (by decide)]
      congr 1
      omega
    · have h2 : Bn 1900 (xs ++ [0]) := fun z hz => (List.mem_append.mp hz).elim (hx z) fun h => by rw [List.mem_singleton.mp h]; exact Nat.two_pow_pos _
      have := (ints_shn h2 (Nat.le_refl _)).nd
      unfold tI at this
      rwa [List.map_append] at this
  · refine ⟨_, n, rfl, ?_, ?_, by omega⟩
    · unfold faultD
      show (if ((xs.map PyData.int ++ [PyData.bool true]).length : Int) = _ then _ else _) = _
      rw [if_pos (by rw [List.length_append, List.length_map, hl]; show ((n + 1 : Nat) : Int) = _; omega)]
      have f := find_at (q := fun d => !isIntD d) (pre := xs.map PyData.int) (o := .bool true) (post := []) (fun x hx => by obtain ⟨z, _, rfl⟩ := List.mem_map.mp hx; rfl) rfl
      rw [List.append_nil, List.length_map, hl] at f
      unfold oddIx
      rw [f]
    · have := shn_tup (b := 0) (k := 0) (m := xs.length + 1) (ds := xs.map PyData.int ++ [PyData.bool true]) (fun d hd => by
        rcases List.mem_append.mp hd with h | h
        · obtain ⟨z, hz, rfl⟩ := List.mem_map.mp h
          exact shn_int (hx z hz)
        · rw [List.mem_singleton.mp h]
          exact ⟨by decide, by decide, by decide, by decide +kernel, by decide⟩) (by rw [List.length_append, List.length_map]; exact Nat.le_refl _)
      exact this.nd
/-! ### the first that is broken -/
def kp {α : Type} (q : α → Bool) (ps : List α) (i : Nat) : Bool := match ps[i]? with
  | some p => q p
  | none => false
theorem kp_fil {α : Type} (q : α → Bool) : ∀ (ps : List α), ((List.range ps.length).filter (kp q ps)).head? = ps.findIdx? q
  | [] => rfl
  | p :: r => by
    rw [List.length_cons, List.range_succ_eq_map, List.filter_cons, List.findIdx?_cons]
    have e0 : kp q (p :: r) 0 = q p := rfl
    rw [e0]
    cases hq : q p with
    | true => rfl
    | false =>
      have e1 : (kp q (p :: r)) ∘ Nat.succ = kp q r := funext fun i => rfl
      show (List.filter _ (List.map Nat.succ _)).head? = _
      rw [List.filter_map, e1, List.head?_map, kp_fil q r]
      rfl
end V1
set_option Elab.async false
set_option linter.all false
set_option maxRecDepth 100000
set_option maxHeartbeats 4000000
namespace V1
open PySem PySem.Spec PyProof.Rows L2
variable {P : Program} {w : World} {K : PySem.W.Frag} {mg : Str → Option Value} {base : Heap}

abbrev s_law_systems_right : Stmt := top 42
abbrev n_law_systems_right : List Str := ["m", "count_so", "system_so", "odd", "number", "told", "turn", "point_so", "faults", "some", "place", "k", "word", "row"]
theorem sc_law_systems_right : FnScope n_law_systems_right ["m", "count_so", "system_so"] (defScope s_law_systems_right) := ⟨rfl, rfl, rfl, by decide +kernel, rfl, by decide +kernel, by decide +kernel⟩
def toldT (w : Str) (q : PyData) : PyData := .tuple [.str w, q]
theorem told_lay {w : Str} {q : PyData} (hw : (PyData.str w).canLay0 = true) (hq : q = .none ∨ ∃ i : Int, q = .int i) : (toldT w q).canLay0 = true ∧ (toldT w q).depth ≤ 1 := by
  have h0 : q.canLay0 = true ∧ q.depth = 0 := by rcases hq with rfl | ⟨i, rfl⟩ <;> exact ⟨rfl, rfl⟩
  unfold toldT
  refine ⟨by simp only [PyData.canLay0] at hw ⊢; simp only [PyData.canLayAll0, PyData.canLay0, hw, h0.1, Bool.and_self], ?_⟩
  simp only [PyData.depth, PyData.depthAll, h0.2]
  decide
theorem told_list {w : Str} {q : PyData} {ds : List PyData} (hw : (PyData.str w).canLay0 = true) (hq : q = .none ∨ ∃ i : Int, q = .int i) (h : ∀ d ∈ ds, d = toldT w q) : (PyData.list ds).canLay0 = true ∧ SeqAt.shaped (.list ds) = true := by
  have h1 := lay_all (ds := ds) fun d hd => by rw [h d hd]; exact (told_lay hw hq).1
  have h2 := dep_all (ds := ds) (k := 1) fun d hd => by rw [h d hd]; exact (told_lay hw hq).2
  have h3 : (PyData.list ds).canLay0 = true := by simp only [PyData.canLay0]; exact h1
  refine ⟨h3, ?_⟩
  unfold SeqAt.shaped
  rw [Bool.and_eq_true]
  refine ⟨h3, decide_eq_true ?_⟩
  simp only [PyData.depth]
  omega
def sp_law_systems_right (K : PySem.W.Frag) (TT : List (Addr × Str)) : Sp := spMT K TT 40 (fun a : Nat × List PZ => [mark, .int (a.1 : Int), sysD a.2]) (fun a => (1 ≤ a.1 ∧ a.1 ≤ 6) ∧ a.2.length ≤ 8 ∧ ∀ p ∈ a.2, PzOk a.1 40 p) fun _ d => d = .bool true
theorem ok_law_systems_right {f : Addr} {fd : FuncData} (T : Bt K mg) (C : Cst K w mg) (D : Df K mg "_law_systems_right" s_law_systems_right ["m", "count_so", "system_so"] f fd) {TT : List (Addr × Str)} {Cs Is Cp Ip : Addr} {fs fp : FuncData} (Tsy : ExN K mg "NotSystem" "number" Cs Is fs) (TPt : ExN K mg "NotPoint" "place" Cp Ip fp) (ne : PySem.W.exmOne K (.ref Cp) (.ref Cs) = some false) {f_law_told : Addr} {d_law_told : FuncData} (DH : Df K mg "_law_told" s_law_told ["call"] f_law_told d_law_told)
    (LT : ∃ c Pt, LamX.TabB base mg c Pt ∧ fd.code = .ref c ∧ (Pt, (("_law_systems_right" : Str) ++ ".<locals>." ++ "<lambda>")) ∈ TT ∧ ∀ p ∈ TT, p.1 = Pt → p.2 = (("_law_systems_right" : Str) ++ ".<locals>." ++ "<lambda>"))
    {f_law_like : Addr} {d_law_like : FuncData} (h_law_like : Cal P w K mg base "_law_like" s_law_like ["told", "due"] 1 (sp_law_like K) f_law_like d_law_like)
    {f_check_system : Addr} {d_check_system : FuncData} (h_check_system : CalX P w K mg base "check_system" s_check_system ["count", "system"] 6 (sp_check_system K Cs) f_check_system d_check_system)
    {f_law_bent : Addr} {d_law_bent : FuncData} (h_law_bent : Cal P w K mg base "_law_bent" s_law_bent ["m", "count_so", "system_so"] 3 (sp_law_bent K) f_law_bent d_law_bent)
    {f_holds_all : Addr} {d_holds_all : FuncData} (h_holds_all : CalX P w K mg base "holds_all" s_holds_all ["count", "system", "point"] 8 (sp_holds_all K Cs Cp) f_holds_all d_holds_all)
    {f_first_broken : Addr} {d_first_broken : FuncData} (h_first_broken : CalX P w K mg base "first_broken" s_first_broken ["count", "system", "point"] 7 (sp_first_broken K Cs Cp) f_first_broken d_first_broken)
    {f_law_point : Addr} {d_law_point : FuncData} (h_law_point : Cal P w K mg base "_law_point" s_law_point ["numbers", "bottom"] 3 (sp_law_point K) f_law_point d_law_point)
    {f_law_draw : Addr} {d_law_draw : FuncData} (h_law_draw : Cal P w K mg base "_law_draw" s_law_draw ["m", "bound"] 1 (sp_law_draw K) f_law_draw d_law_draw)
    {f_law_stands : Addr} {d_law_stands : FuncData} (h_law_stands : Cal P w K mg base "_law_stands" s_law_stands ["word", "number"] 1 (sp_law_stands K) f_law_stands d_law_stands)
    {f_law_total : Addr} {d_law_total : FuncData} (h_law_total : Cal P w K mg base "_law_total" s_law_total ["row", "point_so"] 1 (sp_law_total K) f_law_total d_law_total)
    {f_law_of : Addr} {d_law_of : FuncData} (h_law_of : Cal P w K mg base "_law_of" s_law_of ["m", "some"] 2 (sp_law_of K) f_law_of d_law_of) : Cal P w K mg base "_law_systems_right" s_law_systems_right ["m", "count_so", "system_so"] 14 (sp_law_systems_right K TT) f fd := by
  have kb_check_system_system_count := KB_check_system_system_count h_check_system.F
  have kb_first_broken_point_system_count := KB_first_broken_point_system_count h_first_broken.F
  have kb_holds_all_point_system_count := KB_holds_all_point_system_count h_holds_all.F
  refine ok_MT D sc_law_systems_right (fun _ => rfl) fun cdv A outer s H E ec hgd hr => ?_
  have LP : LamP (cxOf CX0 P w K mg base n_law_systems_right "_law_systems_right" (defScope s_law_systems_right) f cdv A outer s H E).nox TT := by
    obtain ⟨c, Pt, l1, l2, l3, l4⟩ := LT
    exact ⟨⟨c, Pt, l1, ec.symm.trans l2, l3, l4⟩⟩
  refine ⟨_, (pss_cons (ps_if (pt_not (pt_val (pe_fn (E := E0) h_law_like.G hgd (hr.mono (by decide)) (by rfl) h_law_like.gm h_law_like.kp h_law_like.b (pa_cons (pe_lst (pa_cons (pe_callX (E := fun _ => E0) h_check_system.G hgd (hr.mono (by decide)) (by rfl) h_check_system.gm h_check_system.kp h_check_system.b (fun _ => pass0) (pa_cons (pv 1) (pa_cons (pv 2) pa_nil))) (pa_cons (pe_callXk h_check_system.G hgd (hr.mono (by decide)) (by rfl) h_check_system.gm h_check_system.kp kb_check_system_system_count (pk_cons (pv 2) (pk_cons (pv 1) pk_nil))) pa_nil))) (pa_cons (pe_lst (pa_cons (pv 2) (pa_cons (pv 2) pa_nil))) pa_nil))))) (pss_one (ps_ret pe_bl)) pss_nil)
        (pss_cons (ps_asg (pe_fn (E := E0) h_law_bent.G hgd (hr.mono (by decide)) (by rfl) h_law_bent.gm h_law_bent.kp h_law_bent.b (pa_cons (pv 0) (pa_cons (pv 1) (pa_cons (pv 2) pa_nil)))) (pg_tup rfl (pgs_cons (pg_name (i := 3) sc_law_systems_right.nd rfl (Or.inr rfl)) (pgs_cons (pg_name (i := 4) sc_law_systems_right.nd rfl (Or.inl rfl)) pgs_nil))))
        (pss_cons (ps_set (i := 5) sc_law_systems_right.nd rfl (Or.inl rfl) (pe_lst (pa_cons (pe_heard (T := TT) (TT := TT2 Cs Cp "system" "point" "number" "place") (k := 9) (t := fun E => tCallS (sp_check_system K Cs) (fun _ => E) _) (by rfl) DH.gm DH.F DH.b sc_law_told rfl (Or.inl rfl) (mkl0 LP (lamN_by (N := n_law_systems_right) (sc := defScope s_law_systems_right) (by decide +kernel)) (by rfl) (fun _ _ _ _ _ => by rfl)) (lamN_by (N := n_law_systems_right) (sc := defScope s_law_systems_right) (by decide +kernel)) (hr.mono (by decide)) hgd (fun cdv => told_ok Tsy TPt ne _ _ _)
          (fun A outer s2 H2 E f c2 hgd hr => pe_callX (E := fun _ => E) h_check_system.G hgd (hr.mono (by decide)) (by rfl) h_check_system.gm h_check_system.kp h_check_system.b (fun σ => passAt (takes_of rfl rfl rfl rfl) σ) (pa_cons (pv 1) (pa_cons (pv 3) pa_nil)))) (pa_cons (pe_heard (T := TT) (TT := TT2 Cs Cp "system" "point" "number" "place") (k := 9) (t := fun E => tCallS (sp_holds_all K Cs Cp) (fun _ => E) _) (by rfl) DH.gm DH.F DH.b sc_law_told rfl (Or.inl rfl) (mkl1 (a := "a") LP (lamN_by (N := n_law_systems_right) (sc := defScope s_law_systems_right) (by decide +kernel)) rfl rfl (by rfl) (fun _ _ _ _ _ _ _ => ⟨_, by rfl, by rfl⟩)) (lamN_by (N := n_law_systems_right) (sc := defScope s_law_systems_right) (by decide +kernel)) (hr.mono (by decide)) hgd (fun cdv => told_ok Tsy TPt ne _ _ _)
          (fun A outer s2 H2 E f c2 hgd hr => pe_callX (E := fun _ => E) h_holds_all.G hgd (hr.mono (by decide)) (by rfl) h_holds_all.gm h_holds_all.kp h_holds_all.b (fun σ => passAt (takes_of rfl rfl rfl rfl) σ) (pa_cons (pv 1) (pa_cons (pv 3) (pa_cons pe_non pa_nil))))) pa_nil))))
        (pss_cons (ps_expr (pe_bm PySem.F.plainAttrs_list PySem.F.slot_list_append PySem.F.type_list_append mt_append (pv 5) (pa_cons (pe_heard (T := TT) (TT := TT2 Cs Cp "system" "point" "number" "place") (k := 9) (t := fun E => tCallS (sp_first_broken K Cs Cp) (fun _ => E) _) (by rfl) DH.gm DH.F DH.b sc_law_told rfl (Or.inl rfl) (mkl0 LP (lamN_by (N := n_law_systems_right) (sc := defScope s_law_systems_right) (by decide +kernel)) (by rfl) (fun _ _ _ _ _ => by rfl)) (lamN_by (N := n_law_systems_right) (sc := defScope s_law_systems_right) (by decide +kernel)) (hr.mono (by decide)) hgd (fun cdv => told_ok Tsy TPt ne _ _ _)
          (fun A outer s2 H2 E f c2 hgd hr => pe_callX (E := fun _ => E) h_first_broken.G hgd (hr.mono (by decide)) (by rfl) h_first_broken.gm h_first_broken.kp h_first_broken.b (fun σ => passAt (takes_of rfl rfl rfl rfl) σ) (pa_cons (pv 1) (pa_cons (pv 3) (pa_cons pe_non pa_nil))))) pa_nil)))
        (pss_cons (ps_if (pt_cmpR (op_neD hr.units) (pv 5) (pe_op op_rep (pe_lst (pa_cons (pe_tup (pa_cons pe_str (pa_cons (pv 4) pa_nil))) pa_nil)) pe_int) (nomark _)) (pss_one (ps_ret pe_bl)) pss_nil)
        (pss_cons (ps_for PassesOwn.never rfl (pi_range1 (by rfl) T.range (pa_cons pe_int pa_nil)) (pg_name (i := 6) sc_law_systems_right.nd rfl (Or.inl rfl))
        (pss_cons (ps_set (i := 7) sc_law_systems_right.nd rfl (Or.inr rfl) (pe_fn (E := E0) h_law_point.G hgd (hr.mono (by decide)) (by rfl) h_law_point.gm h_law_point.kp h_law_point.b (pa_cons (pe_lc (own := [("k", 11)]) (g := gName 11) (tt := tYes) rfl sc_law_systems_right.nd (pi_range1 (by rfl) T.range (pa_cons (pv 1) pa_nil)) (blkOk_by (own := [("k", 11)]) (N := n_law_systems_right) (sc := defScope s_law_systems_right) (by decide +kernel)) (fun _ _ _ _ _ => (pg_name (i := 11) sc_law_systems_right.nd rfl (Or.inl rfl))) (fun _ _ _ _ _ => pts_nil) (fun _ _ _ _ _ => (pe_op op_sub (pe_fn (E := E0) h_law_draw.G hgd (hr.mono (by decide)) (by rfl) h_law_draw.gm h_law_draw.kp h_law_draw.b (pa_cons (pv 0) (pa_cons pe_int pa_nil))) pe_int))) (pa_cons (pe_op op_add pe_int (pe_fn (E := E0) h_law_draw.G hgd (hr.mono (by decide)) (by rfl) h_law_draw.gm h_law_draw.kp h_law_draw.b (pa_cons (pv 0) (pa_cons pe_int pa_nil)))) pa_nil))))
        (pss_cons (ps_setLc (i := 8) (own := [("k", 11), ("word", 12), ("row", 13)]) (g := gTup K 2 (gCons (gName 11) (gCons (gTup K 2 (gCons (gName 12) (gCons (gName 13) gNil))) gNil))) rfl sc_law_systems_right.nd rfl rfl (sw_true rfl rfl rfl (by decide +kernel)) (pi_enumP false (by rfl) T.enumerate (pa_cons (pv 2) pa_nil)) (blkOk_by (own := [("k", 11), ("word", 12), ("row", 13)]) (N := n_law_systems_right) (sc := defScope s_law_systems_right) (by decide +kernel)) (fun _ _ _ _ _ => (pg_tup rfl (pgs_cons (pg_name (i := 11) sc_law_systems_right.nd rfl (Or.inl rfl)) (pgs_cons (pg_tup rfl (pgs_cons (pg_name (i := 12) sc_law_systems_right.nd rfl (Or.inl rfl)) (pgs_cons (pg_name (i := 13) sc_law_systems_right.nd rfl (Or.inl rfl)) pgs_nil))) pgs_nil)))) (fun _ _ _ _ _ => (pts_one (pt_not (pt_val (pe_fn (E := E0) h_law_stands.G hgd (hr.mono (by decide)) (by rfl) h_law_stands.gm h_law_stands.kp h_law_stands.b (pa_cons (pv 12) (pa_cons (pe_fn (E := E0) h_law_total.G hgd (hr.mono (by decide)) (by rfl) h_law_total.gm h_law_total.kp h_law_total.b (pa_cons (pv 13) (pa_cons (pv 7) pa_nil))) pa_nil))))))) (fun _ _ _ _ _ => (pv 11)))
        (pss_cons (ps_set (i := 5) sc_law_systems_right.nd rfl (Or.inl rfl) (pe_lst (pa_cons (pe_callXk h_holds_all.G hgd (hr.mono (by decide)) (by rfl) h_holds_all.gm h_holds_all.kp kb_holds_all_point_system_count (pk_cons (pv 7) (pk_cons (pv 2) (pk_cons (pv 1) pk_nil)))) pa_nil)))
        (pss_cons (ps_expr (pe_bm PySem.F.plainAttrs_list PySem.F.slot_list_append PySem.F.type_list_append mt_append (pv 5) (pa_cons (pe_callXk h_first_broken.G hgd (hr.mono (by decide)) (by rfl) h_first_broken.gm h_first_broken.kp kb_first_broken_point_system_count (pk_cons (pv 7) (pk_cons (pv 2) (pk_cons (pv 1) pk_nil)))) pa_nil)))
        (pss_one (ps_if (pt_not (pt_val (pe_fn (E := E0) h_law_like.G hgd (hr.mono (by decide)) (by rfl) h_law_like.gm h_law_like.kp h_law_like.b (pa_cons (pv 5) (pa_cons (pe_lst (pa_cons (pe_cmpR (op_eqD hr.units) (pv 8) (pe_lst pa_nil) (nomark _)) (pa_cons (pe_ifExp (pt_cmpR (op_neD hr.units) (pv 8) (pe_lst pa_nil) (nomark _)) (pe_ix (ix_listK (K := K) rfl) (pv 8) pe_int (fun _ _ => rfl)) pe_non) pa_nil))) pa_nil))))) (pss_one (ps_ret pe_bl)) pss_nil)))))))
        (pss_cons (ps_set (i := 9) sc_law_systems_right.nd rfl (Or.inl rfl) (pe_lst (pa_cons (pe_tup (pa_cons pe_non (pa_cons (pe_un un_neg pe_int) pa_nil))) (pa_cons (pe_tup (pa_cons (pe_slice sl_tupA (pv 7) po_none (po_some (pe_un un_neg pe_int))) (pa_cons (pe_un un_neg pe_int) pa_nil))) (pa_cons (pe_tup (pa_cons (pe_callTy call_list_of (by rfl) T.list (by decide +kernel) (pa_cons (pv 7) pa_nil)) (pa_cons (pe_un un_neg pe_int) pa_nil))) (pa_cons (pe_tup (pa_cons (pe_op op_catA (pe_slice sl_tupA (pv 7) po_none (po_some (pe_un un_neg pe_int))) (pe_tup (pa_cons pe_int pa_nil))) (pa_cons (pv 1) pa_nil))) (pa_cons (pe_tup (pa_cons (pe_op op_catA (pe_slice sl_tupA (pv 7) po_none (po_some (pe_un un_neg pe_int))) (pe_tup (pa_cons pe_bl pa_nil))) (pa_cons (pv 1) pa_nil))) pa_nil)))))))
        (pss_cons (ps_asg (pe_fn (E := E0) h_law_of.G hgd (hr.mono (by decide)) (by rfl) h_law_of.gm h_law_of.kp h_law_of.b (pa_cons (pv 0) (pa_cons (pv 9) pa_nil))) (pg_tup rfl (pgs_cons (pg_name (i := 3) sc_law_systems_right.nd rfl (Or.inr rfl)) (pgs_cons (pg_name (i := 10) sc_law_systems_right.nd rfl (Or.inl rfl)) pgs_nil))))
        (pss_cons (ps_set (i := 5) sc_law_systems_right.nd rfl (Or.inl rfl) (pe_lst (pa_cons (pe_heard (T := TT) (TT := TT2 Cs Cp "system" "point" "number" "place") (k := 9) (t := fun E => tCallS (sp_first_broken K Cs Cp) (fun _ => E) _) (by rfl) DH.gm DH.F DH.b sc_law_told rfl (Or.inl rfl) (mkl0 LP (lamN_by (N := n_law_systems_right) (sc := defScope s_law_systems_right) (by decide +kernel)) (by rfl) (fun _ _ _ _ _ => by rfl)) (lamN_by (N := n_law_systems_right) (sc := defScope s_law_systems_right) (by decide +kernel)) (hr.mono (by decide)) hgd (fun cdv => told_ok Tsy TPt ne _ _ _)
          (fun A outer s2 H2 E f c2 hgd hr => pe_callX (E := fun _ => E) h_first_broken.G hgd (hr.mono (by decide)) (by rfl) h_first_broken.gm h_first_broken.kp h_first_broken.b (fun σ => passAt (takes_of rfl rfl rfl rfl) σ) (pa_cons (pv 1) (pa_cons (pv 2) (pa_cons (pv 3) pa_nil))))) (pa_cons (pe_heard (T := TT) (TT := TT2 Cs Cp "system" "point" "number" "place") (k := 9) (t := fun E => tCallS (sp_holds_all K Cs Cp) (fun _ => E) _) (by rfl) DH.gm DH.F DH.b sc_law_told rfl (Or.inl rfl) (mkl1 (a := "a") LP (lamN_by (N := n_law_systems_right) (sc := defScope s_law_systems_right) (by decide +kernel)) rfl rfl (by rfl) (fun _ _ _ _ _ _ _ => ⟨_, by rfl, by rfl⟩)) (lamN_by (N := n_law_systems_right) (sc := defScope s_law_systems_right) (by decide +kernel)) (hr.mono (by decide)) hgd (fun cdv => told_ok Tsy TPt ne _ _ _)
          (fun A outer s2 H2 E f c2 hgd hr => pe_callX (E := fun _ => E) h_holds_all.G hgd (hr.mono (by decide)) (by rfl) h_holds_all.gm h_holds_all.kp h_holds_all.b (fun σ => passAt (takes_of rfl rfl rfl rfl) σ) (pa_cons (pv 1) (pa_cons (pv 2) (pa_cons (pv 3) pa_nil))))) pa_nil))))
        (pss_one (ps_ret (pe_cmpR (op_eqD hr.units) (pv 5) (pe_op op_rep (pe_lst (pa_cons (pe_tup (pa_cons pe_str (pa_cons (pv 10) pa_nil))) pa_nil)) pe_int) (nomark _))))))))))))), ?_⟩
  rintro L rfl hS LL ⟨n, ps⟩ ⟨⟨hn1, hn2⟩, hl, hps⟩
  have hn1 : 1 ≤ n := hn1
  have hn2 : n ≤ 6 := hn2
  have hl : ps.length ≤ 8 := hl
  have hps : ∀ p ∈ ps, PzOk n 40 p := hps
  have hw : ∀ p ∈ ps, p.w ∈ wordsW := fun p hp => (hps p hp).w
  have hso : okS (sysD ps) := .inl (sys_shT hw)
  have hsn := sys_none hps hl
  have h0n : (0 : Int) ≤ (n : Int) := by omega
  have lsy : (PyData.str "system").canLay0 = true := by decide +kernel
  have lpt : (PyData.str "point").canLay0 = true := by decide +kernel
  show SG L 40 _ [some mark, some (.int (n : Int)), some (sysD ps), none, none, none, none, none, none, none, none, none, none, none] _ (fun d => d = .bool true)
  -- a system that is right is given back
  refine sq_if_no (et_is (et_not (et_B (eg_callR (L := L) (args := fun d : PyData => [d, d]) (ok := Sh) (val := fun _ => .bool true) (.list [sysD ps, sysD ps]) (ea_cons (eg_lst (ds := [sysD ps, sysD ps]) (ea_cons (eg_callXv (L := L) (args := fun a : Int × PyData => [.int a.1, a.2]) (ok := okSy) (res := fun a => sysX a.1 60 a.2) ((n : Int), sysD ps) (ea_cons (eg_var (i := 1) rfl) (ea_cons (eg_var (i := 2) rfl) ea_nil)) ⟨h0n, hso⟩ (by unfold sysX; rw [hsn])) (ea_cons (eg_callXvK (L := L) (args := fun a : Int × PyData => [.int a.1, a.2]) (ok := okSy) (res := fun a => sysX a.1 60 a.2) ((n : Int), sysD ps) (ds := [sysD ps, .int (n : Int)]) (ea_cons (eg_var (i := 2) rfl) (ea_cons (eg_var (i := 1) rfl) ea_nil)) (fun zs h => gk2r zs h) ⟨h0n, hso⟩ (by unfold sysX; rw [hsn])) ea_nil))) (ea_cons (eg_lst (ds := [sysD ps, sysD ps]) (ea_cons (eg_var (i := 2) rfl) (ea_cons (eg_var (i := 2) rfl) ea_nil))) ea_nil)) (sys_two hn2 hps hl)))) rfl) ?_
  -- a bent one is told
  refine SG.mono (a := 6 + 34) (sq_tgG (js := [3, 4]) (a := 6) (b := 34) (eg_callM (L := L) (args := fun a : Nat × List PZ => [mark, .int (a.1 : Int), sysD a.2]) (ok := fun a => (1 ≤ a.1 ∧ a.1 ≤ 6) ∧ a.2.length ≤ 8 ∧ ∀ p ∈ a.2, PzOk a.1 40 p) (post := fun a d => ∃ x num, d = .tuple [x, num] ∧ NearOk a.1 x num) hS (n, ps) (ea_cons (eg_var (i := 0) rfl) (ea_cons (eg_var (i := 1) rfl) (ea_cons (eg_var (i := 2) rfl) ea_nil))) ⟨⟨hn1, hn2⟩, hl, hps⟩) (fun d ⟨x, num, e, _⟩ => by rw [e]; intro z; cases z) ?_) (by decide) (fun _ h => h) fun _ h => h
  rintro d ⟨x, num, rfl, ho⟩
  refine ⟨_, tg_two, ?_⟩
  obtain ⟨x1, x2, x3⟩ := ho
  have x1 : sysE n 60 x = some num := x1
  have hq : num = .none ∨ ∃ i : Int, num = .int i := x3.imp id fun ⟨i, _, e⟩ => ⟨_, e⟩
  let fb : FB := ⟨(n : Int), x, .none, [], [], 0⟩
  have fbo : fb.Ok := ⟨h0n, x2, rfl, fun e => by have e : sysE n 60 x = none := e; rw [x1] at e; cases e⟩
  show SG L 34 _ [some mark, some (.int (n : Int)), some (sysD ps), some x, some num, none, none, none, none, none, none, none, none, none] _ (fun d => d = .bool true)
  refine sg_app1G (L := L) (j := 5) (Γ := [some mark, some (.int (n : Int)), some (sysD ps), some x, some num, none, none, none, none, none, none, none, none, none]) (ds0 := [toldT "system" num, toldT "system" num]) (e := toldT "system" num) (show 5 < 14 by decide) (evl_lst (ds := [toldT "system" num, toldT "system" num]) (ea_cons (eg_h2A LL (rz_callX (L := L) (args := fun a : Int × PyData => [.int a.1, a.2]) (ok := okSy) (res := fun a => sysX a.1 60 a.2) ((n : Int), x) (ea_cons (eg_var (i := 1) rfl) (ea_cons (eg_var (i := 3) rfl) ea_nil)) ⟨h0n, x2⟩ (by unfold sysX; rw [x1]) (nm2 x2.e))) (ea_cons (eg_h2A LL (rz_callX2a (L := L) (args := fbArgs) (ok := FB.Ok) (res := fbX bN) fb (ea_cons (eg_var (i := 1) rfl) (ea_cons (eg_var (i := 3) rfl) (ea_cons eg_non ea_nil))) fbo (fb_sys x1) (fb_nm fbo))) ea_nil)) rfl (show 2 ≤ 1000 by decide)) (show 2 ≤ 100000 by decide) (eg_h2A LL (rz_callX2a (L := L) (args := fbArgs) (ok := FB.Ok) (res := fbX optI) fb (ea_cons (eg_var (i := 1) rfl) (ea_cons (eg_var (i := 3) rfl) (ea_cons eg_non ea_nil))) fbo (fb_sys x1) (fb_nm fbo))) (by intro z; cases z) ?_
  have tl := fun (ds : List PyData) => told_list (ds := ds) lsy hq
  have t3 := tl [toldT "system" num, toldT "system" num, toldT "system" num] (fun d hd => by simpa using hd)
  show SG L 34 _ [some mark, some (.int (n : Int)), some (sysD ps), some x, some num, some (.list [toldT "system" num, toldT "system" num, toldT "system" num]), none, none, none, none, none, none, none, none] _ (fun d => d = .bool true)
  refine sq_if_no (et_is (et_test (eg_neD (eg_var (i := 5) rfl) ((eg_rep (L := L) (ds := [toldT "system" num]) (i := 3) (eg_lst (ds := [toldT "system" num]) (ea_cons (eg_tup (ds := [.str "system", num]) (ea_cons eg_str (ea_cons (eg_var (i := 4) rfl) ea_nil)) (by rcases hq with e | ⟨i, e⟩ <;> rw [e] <;> rfl) (show 2 ≤ 1000 by decide)) ea_nil) rfl (show 1 ≤ 1000 by decide)) eg_int (by decide) (by decide) (show 1 ≤ 100 by decide)).to (d' := .list [toldT "system" num, toldT "system" num, toldT "system" num]) rfl) (by intro z; cases z) (by intro z; cases z) t3.2 t3.2)) (by rw [SeqAt.eqv_refl _ t3.1]; rfl)) ?_
  -- three points
  refine SG.mono (a := (0 + 3 * 7) + 1) (sg_seqG (N1 := fun G => ∃ (y3 y4 y5 y6 y8 : Option PyData) (xs : List Int) (b : Int), G = [some mark, some (.int (n : Int)), some (sysD ps), y3, y4, y5, y6, some (tI (xs ++ [b])), y8, none, none, none, none, none] ∧ PtOk n xs b) (sg_forG (L := L) (a := 0) (b := 3) (c := 7) (js := [6]) (PI1 := fun its => its = rngD 0 3) (fun _ i G => ∃ y3 y4 y5 y6 y7 y8 : Option PyData, G = [some mark, some (.int (n : Int)), some (sysD ps), y3, y4, y5, y6, y7, y8, none, none, none, none, none] ∧ (0 < i → ∃ (xs : List Int) (b : Int), y7 = some (tI (xs ++ [b])) ∧ PtOk n xs b)) (wk_rng1 (j := 3) (ea_cons eg_int ea_nil) (by decide)) (fun its e => by rw [e, rng_len]; exact Nat.le_refl _) (fun its e => ⟨_, _, _, _, _, _, rfl, fun z => absurd z (by decide)⟩) ?_ ?_) ?_) (by decide) (fun _ h => h) fun _ h => h
  · rintro its rfl i e G hd ⟨y3, y4, y5, y6, y7, y8, rfl, _⟩
    refine ⟨_, tg_name, ?_⟩
    show SG L 7 _ [some mark, some (.int (n : Int)), some (sysD ps), y3, y4, y5, some e, y7, y8, none, none, none, none, none] _ _
    refine SG.mono (a := (0 + 6 * (1 + 0)) + ((0 + 1) + 0) + 0) (sq_asgG (a := (0 + 6 * (1 + 0)) + ((0 + 1) + 0)) (b := 0) (P := fun d => ∃ (xs : List Int) (b : Int), d = tI (xs ++ [b]) ∧ PtOk n xs b) (EvG.mono (eg_callRG (L := L) (args := fun p : List Int × Nat => [lI p.1, .int (p.2 : Int)]) (ok := fun p => 0 < p.2 ∧ p.2 < 2 ^ 8000 ∧ p.1.length ≤ 100 ∧ Bn 9000 p.1) (val := fun p => tI (prim (p.1 ++ [(p.2 : Int)]))) (PA := fun ds => ∃ d1 d2, ds = [d1, d2] ∧ (∃ ns : List Int, d1 = lI ns ∧ ns.length = n ∧ ∀ z ∈ ns, z.natAbs ≤ 4) ∧ ∃ w : Nat, (1 ≤ w ∧ w ≤ 3) ∧ d2 = .int (w : Int)) (ea2G ?pts (EvG.mono (eg_addG eg_intG (eg_drawV (E := E0) (b := 3) hS (by decide) rfl eg_int)) (Nat.le_refl _) fun d ⟨i, ⟨x, y, hx, hy, hi⟩, e⟩ => ⟨i.toNat, by omega, by rw [e]; congr 1; omega⟩)) fun ds ⟨d1, d2, e1, ⟨ns, e2, h1, h2⟩, w, hw1, e3⟩ => ⟨by rw [e1, e2, e3]; rfl, (ns, w), ⟨by show 0 < w; omega, Nat.lt_of_lt_of_le (show w < 2 ^ 2 by omega) (Nat.pow_le_pow_right (by decide) (by decide)), by show ns.length ≤ 100; omega, fun z hz => Nat.lt_of_lt_of_le (show z.natAbs < 2 ^ 3 by have := h2 z hz; omega) (Nat.pow_le_pow_right (by decide) (by decide))⟩, by rw [e1, e2, e3]⟩) (Nat.le_refl _) ?_) ?_) (by decide) (fun _ h => h) fun _ h => h
    case pts =>
      refine EvG.mono (eg_lcGF (L := L) (a := 0) (b := 6) (c := 1 + 0) (PI1 := fun its => its = rngD 0 (n : Int).toNat) (Pt := fun _ _ r => ∃ z : Int, z.natAbs ≤ 4 ∧ r = .int z) (js := [11]) (vs := [11]) (wk_rng1 (j := (n : Int)) (ea_cons (eg_var (i := 1) rfl) ea_nil) (by omega)) (by simp) (fun its e => by rw [e, rng_len]; exact ⟨by omega, by decide⟩) fun its e i d hd => ⟨_, tg_name, EvG.mono (eg_subG (eg_drawV (E := E0) (b := 9) hS (by decide) rfl eg_int) (EvG.mono (eg_int (i := 4)) (Nat.le_refl _) fun d e => (⟨4, rfl, e⟩ : ∃ i : Int, i = 4 ∧ d = .int i))) (Nat.le_refl _) fun r ⟨z, ⟨x, y, hx, hy, hz⟩, e⟩ => ⟨(by rw [e]; intro z; cases z), z, by omega, e⟩⟩).eg (Nat.le_refl _) fun d ⟨its, rs, e1, e2, e3, e4⟩ => ?_
      obtain ⟨ns, f1, f2, f3⟩ := enc_of (enc := PyData.int) (P := fun z : Int => z.natAbs ≤ 4) (rs := rs) e4
      exact ⟨ns, by rw [e2, f1]; rfl, by rw [f2, e3, e1, rng_len]; omega, f3⟩
    · rintro d ⟨⟨ns2, w2⟩, ⟨d1, d2, e1, ⟨ns, e2, h1, h2⟩, w, hw1, e3⟩, _, e4⟩
      injection e1 with a1 a2
      injection a2 with a3 _
      have e5 : lI ns2 = lI ns := a1.trans e2
      have e6 : ns2 = ns := by
        unfold lI at e5
        injection e5 with e5
        exact (List.map_inj_right (fun a b h => by injection h)).mp e5
      have e7 : PyData.int (w2 : Int) = .int (w : Int) := a3.trans e3
      injection e7 with e7
      have e8 : w2 = w := by omega
      subst e6 e8
      obtain ⟨xs, b, e9, ho⟩ := prim_pt (n := n) (ns := ns2) (w := w2) hn1 h1 (by omega) (fun z hz => by have := h2 z hz; show z.natAbs < 8; omega) (by omega)
      exact ⟨xs, b, by rw [e4]; show tI (prim (ns2 ++ [(w2 : Int)])) = _; rw [e9], ho⟩
    rintro d ⟨xs, b, rfl, hp⟩
    have hsa := pt_sa hps hn2 hp
    have hpf := pt_fault hp
    let q : PZ → Bool := fun p => !stB p.w (PA.z ⟨p, xs, b⟩).v
    let fb2 : FB := ⟨(n : Int), sysD ps, tI (xs ++ [b]), ps, xs, b⟩
    have hnd : (tI (xs ++ [b])).hasDict = false := (ints_shn (hp.2.2.2.mono (by decide)) (Nat.le_refl _)).nd
    have fbo2 : fb2.Ok := ⟨h0n, hso, hnd, fun _ _ => ⟨rfl, rfl, hsa⟩⟩
    show SG L 0 _ [some mark, some (.int (n : Int)), some (.tuple (ps.map pD)), y3, y4, y5, some e, some (tI (xs ++ [b])), y8, none, none, none, none, none] _ _
    refine sq_asg (d := .list (fil (kp q ps) (fun i => .int (i : Int)) ps.length)) ((eg_lcTD (L := L) (js := [11, 12, 13]) (vs := [11, 12, 13]) (items := (ps.map pD).mapIdx fun i d => PyData.tuple [.int (i : Nat), d]) (keep := kp q ps) (res := fun i => .int (i : Int)) (wk_enum (k := false) (ds := ps.map pD) (ea_cons (eg_var (i := 2) rfl) ea_nil)) (by simp) (by rw [List.length_mapIdx, List.length_map]; omega) fun i d hd => ?_).to (by rw [List.length_mapIdx, List.length_map])) ?_
    · rw [List.getElem?_mapIdx, List.getElem?_map] at hd
      cases hpi : ps[i]? with
      | none => rw [hpi] at hd; cases hd
      | some p =>
        rw [hpi] at hd
        have ed : PyData.tuple [.int (i : Nat), pD p] = d := Option.some.inj hd
        subst ed
        have hpm := List.mem_of_getElem? hpi
        have ok1 := (hsa p hpm).2
        refine ⟨_, tg_nest, et_is (et_not (et_B (eg_callR (L := L) (args := fun a : Str × Int => [.str a.1, .int a.2]) (ok := fun _ => True) (val := fun a => .bool (stB a.1 a.2)) (p.w, (PA.z ⟨p, xs, b⟩).v) (ea_cons (eg_var (i := 12) rfl) (ea_cons (eg_callR (L := L) (args := fun a : RZ => [a.r, a.x]) (ok := RZ.Ok) (val := fun a => .int a.v) (PA.z ⟨p, xs, b⟩) (ea_cons (eg_var (i := 13) rfl) (ea_cons (eg_var (i := 7) rfl) ea_nil)) ok1) ea_nil)) trivial))) ?_, fun _ => ⟨eg_var (i := 11) rfl, by intro z; cases z⟩⟩
        unfold kp
        rw [hpi]
    have hbr : brk ps xs b = ((List.range ps.length).filter (kp q ps)).head? := (kp_fil q ps).symm
    show SG L 0 _ [some mark, some (.int (n : Int)), some (sysD ps), y3, y4, y5, some e, some (tI (xs ++ [b])), some (.list (fil (kp q ps) (fun i => .int (i : Int)) ps.length)), none, none, none, none, none] _ _
    have hfl : (fil (kp q ps) (fun i => PyData.int (i : Int)) ps.length).length ≤ 8 := Nat.le_trans (fil_len _ _ _) hl
    unfold fil at hfl ⊢
    generalize hF : (List.range ps.length).filter (kp q ps) = F at hbr hfl ⊢
    have hF8 : ∀ i ∈ F, i < 8 := fun i hi => by
      rw [← hF] at hi
      have := List.mem_range.mp (List.mem_filter.mp hi).1
      omega
    refine sg_app1G (L := L) (b := 0) (j := 5) (Γ := [some mark, some (.int (n : Int)), some (sysD ps), y3, y4, y5, some e, some (tI (xs ++ [b])), some (.list (F.map fun (i : Nat) => PyData.int (i : Int))), none, none, none, none, none]) (ds0 := [bN ((brk ps xs b).map fun (i : Nat) => (i : Int))]) (e := optI ((brk ps xs b).map fun (i : Nat) => (i : Int))) (show 5 < 14 by decide) (evl_lst (ds := [bN ((brk ps xs b).map fun (i : Nat) => (i : Int))]) (ea_cons (eg_callX2K (L := L) (args := fbArgs) (ok := FB.Ok) (res := fbX bN) fb2 (ds := [tI (xs ++ [b]), sysD ps, .int (n : Int)]) (ea_cons (eg_var (i := 7) rfl) (ea_cons (eg_var (i := 2) rfl) (ea_cons (eg_var (i := 1) rfl) ea_nil))) (fun zs h => gk3r zs h) fbo2 (fb_ok hsn hpf) (fb_nm fbo2)) ea_nil) rfl (show 1 ≤ 1000 by decide)) (show 1 ≤ 100000 by decide) (eg_callX2K (L := L) (args := fbArgs) (ok := FB.Ok) (res := fbX optI) fb2 (ds := [tI (xs ++ [b]), sysD ps, .int (n : Int)]) (ea_cons (eg_var (i := 7) rfl) (ea_cons (eg_var (i := 2) rfl) (ea_cons (eg_var (i := 1) rfl) ea_nil))) (fun zs h => gk3r zs h) fbo2 (fb_ok hsn hpf) (fb_nm fbo2)) (optI_ne _) ?_
    generalize ho : (brk ps xs b).map (fun (i : Nat) => (i : Int)) = o
    have hoF : o = (F.head?).map fun (i : Nat) => (i : Int) := by rw [← ho, hbr]
    show SG L 0 _ [some mark, some (.int (n : Int)), some (sysD ps), y3, y4, some (.list [bN o, optI o]), some e, some (tI (xs ++ [b])), some (.list (F.map fun (i : Nat) => PyData.int (i : Int))), none, none, none, none, none] _ _
    have hsF : SeqAt.shaped (.list (F.map fun (i : Nat) => PyData.int (i : Int))) = true := by
      have h1 := lay_all (ds := F.map fun (i : Nat) => PyData.int (i : Int)) fun d hd => by obtain ⟨i, _, rfl⟩ := List.mem_map.mp hd; rfl
      have h2 := dep_all (ds := F.map fun (i : Nat) => PyData.int (i : Int)) (k := 0) fun d hd => by obtain ⟨i, _, rfl⟩ := List.mem_map.mp hd; exact Nat.le_refl _
      unfold SeqAt.shaped
      rw [Bool.and_eq_true]
      refine ⟨by simp only [PyData.canLay0]; exact h1, decide_eq_true ?_⟩
      simp only [PyData.depth]
      omega
    have hsh : Sh (.list [bN o, optI o]) := by
      refine sh_lst (b := 2 * (0 + 1)) (k := 1) (shn_lst (b := 0) (k := 0) (m := 2) (fun d hd => ?_) (show 2 ≤ 2 by decide))
      rcases List.mem_cons.mp hd with rfl | hd
      · unfold bN
        cases o.isNone
        · exact ⟨by decide, by decide, by decide, by decide +kernel, by decide⟩
        · exact ⟨by decide, by decide, by decide, by decide +kernel, by decide⟩
      · rw [List.mem_singleton.mp hd, hoF]
        cases F with
        | nil => exact ⟨by decide, by decide, by decide, by decide +kernel, by decide⟩
        | cons a r => exact shn_int (by have := hF8 a List.mem_cons_self; exact Nat.lt_of_lt_of_le (show ((a : Nat) : Int).natAbs < 2 ^ 3 by omega) (Nat.pow_le_pow_right (by decide) (by decide)))
    have due : EvD L (tLst (tCons (tOp (rEqD L.K) (tVar 8) (tLst tNil)) (tCons (tIf (tTest (tOp (rNeD L.K) (tVar 8) (tLst tNil))) (tOp (rIxL L.K) (tVar 8) (tC (.int 0))) (tC .non)) tNil))) [some mark, some (.int (n : Int)), some (sysD ps), y3, y4, some (.list [bN o, optI o]), some e, some (tI (xs ++ [b])), some (.list (F.map fun (i : Nat) => PyData.int (i : Int))), none, none, none, none, none] (.list [bN o, optI o]) := by
      have v8 : EvD L (tVar 8) [some mark, some (.int (n : Int)), some (sysD ps), y3, y4, some (.list [bN o, optI o]), some e, some (tI (xs ++ [b])), some (.list (F.map fun (i : Nat) => PyData.int (i : Int))), none, none, none, none, none] (.list (F.map fun (i : Nat) => PyData.int (i : Int))) := eg_var rfl
      have c1 := eg_eqD v8 (eg_lst (L := L) ea_nil) (by intro z; cases z) (by intro z; cases z) hsF (by rfl)
      have c2 := eg_neD v8 (eg_lst (L := L) ea_nil) (by intro z; cases z) (by intro z; cases z) hsF (by rfl)
      cases F with
      | nil =>
        have eo : o = none := hoF
        subst eo
        exact eg_lst (ds := [bN none, optI none]) (ea_cons (c1.to rfl) (ea_cons (eg_if (et_test c2) (fun z => absurd z (by decide)) fun _ => eg_non) ea_nil)) rfl (show 2 ≤ 1000 by decide)
      | cons a r =>
        have eo : o = some (a : Int) := hoF
        subst eo
        exact eg_lst (ds := [bN (some (a : Int)), optI (some (a : Int))]) (ea_cons (c1.to rfl) (ea_cons (eg_if (et_test c2) (fun _ => eg_ixL v8 eg_int (atI_zero _ _)) fun z => by cases z) ea_nil)) rfl (show 2 ≤ 1000 by decide)
    exact sg_if (et_is (et_not (et_B (eg_callR (L := L) (args := fun d : PyData => [d, d]) (ok := Sh) (val := fun _ => .bool true) (.list [bN o, optI o]) (ea_cons (eg_var (i := 5) rfl) (ea_cons due ea_nil)) hsh))) rfl) (fun z => by cases z) fun _ => sg_next ⟨_, _, _, _, _, _, rfl, fun _ => ⟨xs, b, rfl, hp⟩⟩
  · rintro its rfl G ⟨y3, y4, y5, y6, y7, y8, rfl, h⟩
    obtain ⟨xs, b, rfl, hp⟩ := h (by rw [rng_len]; decide)
    exact ⟨_, _, _, _, _, xs, b, rfl, hp⟩
  rintro G ⟨y3, y4, y5, y6, y8, xs, b, rfl, hp⟩
  have sl : EvD L (tSl (rSlA L.K) (tVar 7) tNoPart (tPart (tUn (rU fun i => .int (-i)) (tC (.int 1))))) [some mark, some (.int (n : Int)), some (sysD ps), y3, y4, y5, y6, some (tI (xs ++ [b])), y8, none, none, none, none, none] (tI xs) := (eg_slA (L := L) (ds := (xs ++ [b]).map .int) (lo0 := none) (hi0 := some (-1)) (eg_var (i := 7) rfl) eo_none (eo_some (eg_neg eg_int))).to (by rw [List.map_append, List.map_cons, List.map_nil, cut_init]; rfl)
  have lx : (xs.map PyData.int).length ≤ 6 := by rw [List.length_map, hp.1]; exact hn2
  refine sq_asg (d := .list (noPts n xs b)) (eg_lst (ds := noPts n xs b) (ea_cons (eg_tup (ea_cons eg_non (ea_cons (eg_neg eg_int) ea_nil))) (ea_cons (eg_tup (ds := [tI xs, .int (-1)]) (ea_cons sl (ea_cons (eg_neg eg_int) ea_nil)) rfl (show 2 ≤ 1000 by decide)) (ea_cons (eg_tup (ds := [lI (xs ++ [b]), .int (-1)]) (ea_cons (eg_cb (ea_cons (eg_var (i := 7) rfl) ea_nil) cs_listT) (ea_cons (eg_neg eg_int) ea_nil)) rfl (show 2 ≤ 1000 by decide)) (ea_cons (eg_tup (ds := [.tuple (xs.map .int ++ [.int 0]), .int (n : Int)]) (ea_cons (eg_catA sl (eg_tup (ea_cons eg_int ea_nil)) (by show _ + 1 ≤ _; omega)) (ea_cons (eg_var (i := 1) rfl) ea_nil)) rfl (show 2 ≤ 1000 by decide)) (ea_cons (eg_tup (ds := [.tuple (xs.map .int ++ [.bool true]), .int (n : Int)]) (ea_cons (eg_catA sl (eg_tup (ea_cons eg_bl ea_nil)) (by show _ + 1 ≤ _; omega)) (ea_cons (eg_var (i := 1) rfl) ea_nil)) rfl (show 2 ≤ 1000 by decide)) ea_nil))))) rfl (show 5 ≤ 1000 by decide)) ?_
  show SG L 1 _ [some mark, some (.int (n : Int)), some (sysD ps), y3, y4, y5, y6, some (tI (xs ++ [b])), y8, some (.list (noPts n xs b)), none, none, none, none] _ (fun d => d = .bool true)
  refine SG.mono (a := 1 + 0) (sq_tgG (js := [3, 10]) (a := 1) (b := 0) (eg_callM (L := L) (args := fun ds : List PyData => [mark, .list ds]) (ok := fun ds => ds ≠ [] ∧ ds.length ≤ 100) (post := fun ds d => d ∈ ds) hS (noPts n xs b) (ea_cons (eg_var (i := 0) rfl) (ea_cons (eg_var (i := 9) rfl) ea_nil)) ⟨(by intro z; cases z), by show 5 ≤ 100; decide⟩) (fun d hd => by obtain ⟨x, i, e, _⟩ := no_pt hp hn2 hd; rw [e]; intro z; cases z) ?_) (by decide) (fun _ h => h) fun _ h => h
  intro d hd
  obtain ⟨x, i, rfl, hf, hnd, _⟩ := no_pt hp hn2 hd
  refine ⟨_, tg_two, ?_⟩
  let fb3 : FB := ⟨(n : Int), sysD ps, x, [], [], 0⟩
  have fbo3 : fb3.Ok := ⟨h0n, hso, hnd, fun _ e => by have e : faultD ((n : Int) + 1) x = none := e; rw [hf] at e; cases e⟩
  show SG L 0 _ [some mark, some (.int (n : Int)), some (sysD ps), some x, y4, y5, y6, some (tI (xs ++ [b])), y8, some (.list (noPts n xs b)), some (.int i), none, none, none] _ (fun d => d = .bool true)
  have t2 := told_list (ds := [toldT "point" (.int i), toldT "point" (.int i)]) lpt (.inr ⟨i, rfl⟩) (fun d hd => by simpa using hd)
  refine sq_asg (d := .list [toldT "point" (.int i), toldT "point" (.int i)]) (eg_lst (ds := [toldT "point" (.int i), toldT "point" (.int i)]) (ea_cons (eg_h2B LL (rz_callX2b (L := L) (args := fbArgs) (ok := FB.Ok) (res := fbX optI) fb3 (ea_cons (eg_var (i := 1) rfl) (ea_cons (eg_var (i := 2) rfl) (ea_cons (eg_var (i := 3) rfl) ea_nil))) fbo3 (fb_pt hsn hf) (fb_nm fbo3))) (ea_cons (eg_h2B LL (rz_callX2b (L := L) (args := fbArgs) (ok := FB.Ok) (res := fbX bN) fb3 (ea_cons (eg_var (i := 1) rfl) (ea_cons (eg_var (i := 2) rfl) (ea_cons (eg_var (i := 3) rfl) ea_nil))) fbo3 (fb_pt hsn hf) (fb_nm fbo3))) ea_nil)) rfl (show 2 ≤ 1000 by decide)) ?_
  refine sg_ret (eg_eqD (eg_var (i := 5) rfl) ((eg_rep (L := L) (ds := [toldT "point" (.int i)]) (i := 2) (eg_lst (ds := [toldT "point" (.int i)]) (ea_cons (eg_tup (ds := [.str "point", .int i]) (ea_cons eg_str (ea_cons (eg_var (i := 10) rfl) ea_nil)) rfl (show 2 ≤ 1000 by decide)) ea_nil) rfl (show 1 ≤ 1000 by decide)) eg_int (by decide) (by decide) (show 1 ≤ 100 by decide)).to (d' := .list [toldT "point" (.int i), toldT "point" (.int i)]) rfl) (by intro z; cases z) (by intro z; cases z) t2.2 t2.2) (by rw [SeqAt.eqv_refl _ t2.1])

end V1
set_option Elab.async false
set_option linter.all false
set_option maxRecDepth 100000
set_option maxHeartbeats 4000000
/-! k12: a turn's draws begun; a list made here to which things are appended one after the other; what the law's end has by hand. -/
namespace V1
open PySem PySem.Spec PyProof.Rows L2
theorem sg_begunT {K : PySem.W.Frag} {TT : List (Addr × Str)} {a : Addr} {sc : List Int} {k n j : Nat} {u : TS} {Rt : PyData → Prop} (hk : k ≤ 4) (hl : sc.length ≤ 63) (hn : n ≤ 100000000)
    (hu : ∀ p c ns, ns ≠ [] → SK (mL K TT p c ns) 0 (V.ref a) n u (none :: none :: some mark :: List.replicate j none) (fun G => G.length = j + 3)) :
    SG (scL K TT a sc) 0 (tSeq (tAsg (tCall (sp_law_begun K) [] E0 (tCons (tVar 0) (tCons (tVar 1) tNil))) (gName 2)) u) (some mark :: some (.int (k : Int)) :: none :: List.replicate j none) (fun G => G = some mark :: none :: none :: List.replicate j none) Rt := fun A σ H hi he hg D q1 q2 => by
  have free : ∀ {i : Nat} {d : PyData}, (List.replicate j (none : Option PyData))[i]? = some (some d) → False := fun {i d} e => by
    rw [List.getElem?_replicate] at e
    split at e <;> cases e
  obtain ⟨v0, hs0, dv0⟩ := he.2 0 mark rfl
  have ev := dq_mark dv0
  subst ev
  obtain ⟨v1, hs1, dv1⟩ := he.2 1 (.int (k : Int)) rfl
  obtain rfl := dv1.int
  refine ⟨_, hs0, _, hs1, ?_⟩
  refine (?key : sp_law_begun K [V.ref a, V.int (k : Int)] H (fun x H1 => u D (σ.set 2 (some x)) H1) E0)
  refine ⟨TT, a, sc, k, rfl, hg.1, hg.2, hk, hl, fun p c l sd ns H1 r1 hp hns hP hC => ?_⟩
  have hlen : σ.length = j + 3 := by
    rw [he.1]
    simp
  have hA : Inn A H1 := fun b z y => r1.2.1 b (hi b z) y
  have he1 : EnvOk (mL K TT p c ns) A (σ.set 2 (some (V.ref p))) H1 (none :: none :: some mark :: List.replicate j none) := ⟨by rw [List.length_set, hlen]; simp, fun i d e => by
    match i, e with
    | 0, e => cases e
    | 1, e => cases e
    | 2, e =>
      have e1 : mark = d := Option.some.inj (Option.some.inj e)
      subst e1
      exact ⟨V.ref p, List.getElem?_set_self (by omega), .inl ⟨rfl, rfl⟩⟩
    | i + 3, e => exact (free (i := i) e).elim⟩
  have hG : (mL K TT p c ns).G n H1 := ⟨⟨l, sd, 0, hP, hC, Int.le_refl 0, by omega⟩, r1.2.2⟩
  have hs0' : (σ.set 2 (some (V.ref p)))[0]? = some (some (V.ref a)) := by rw [List.getElem?_set_ne (by decide)]; exact hs0
  refine hu p c ns hns A _ H1 hA he1 hG hs0' D fun σ2 H2 G2 r2 e2 s2 p2 => ?_
  have r2' : mR TT p c n H1 H2 := r2
  have r02 : (tabL K TT).R 0 H H2 := ⟨fun b o z kk => r2'.st b o (r1.1 b o z kk) (.inl (fun y => by rw [y, hp] at z; cases z)) kk, fun b z => r2'.nn b (r1.2.1 b z), r2'.tb⟩
  have hl2 : σ2.length = j + 3 := e2.1.trans p2
  refine q1 σ2 H2 _ r02 ⟨by rw [hl2]; simp, fun i d e => ?_⟩ rfl
  match i, e with
  | 0, e =>
    have e1 : mark = d := Option.some.inj (Option.some.inj e)
    subst e1
    exact ⟨_, s2, .inl ⟨rfl, rfl⟩⟩
  | 1, e => cases e
  | 2, e => cases e
  | i + 3, e => exact (free (i := i) e).elim
theorem op_repAK {X : Cx} {K : PySem.W.Frag} (h : X.K = K) : OpR X (binaryOp .Mult) (rRepA K) := h ▸ op_repA
theorem sl_tupAK {X : Cx} {K : PySem.W.Frag} (h : X.K = K) : SlR X (rSlA K) := h ▸ sl_tupA
theorem op_catAK {X : Cx} {K : PySem.W.Frag} (h : X.K = K) : OpR X (binaryOp .Add) (rCatA K) := h ▸ op_catA
section
variable {L : Rl} {Γ : List (Option PyData)} {te te2 : TE} {u ts : TS} {j b n m : Nat} {N : List (Option PyData) → Prop} {Rt : PyData → Prop} {acc ds0 : List PyData} {e : PyData} {t : TA} {E : XK} {α : Type} {args : α → List PyData} {ok : α → Prop} {post : α → PyData → Prop} {PA : List PyData → Prop}
def HL (L : Rl) (j b : Nat) (acc : List PyData) (ts : TS) (Γ : List (Option PyData)) (N : List (Option PyData) → Prop) (Rt : PyData → Prop) : Prop := ∀ (A : Addr → Prop) (p : Addr) (σ : L2.St) (H0 H : Hp) (xs : List V), ¬ A p → Inn A H0 → Inn (fun b => A b ∨ b = p) H → EnvOk L (fun b => A b ∨ b = p) σ H (List.set Γ j none) → σ[j]? = some (some (V.ref p)) → H0 p = none → L.R 0 H0 H → L.G b H0 → H p = some (.lst xs) → DvAll L.K (fun b => A b ∨ b = p) H xs acc → ∀ D : Ends,
  (∀ σ' H' Γ', L.R b H0 H' → EnvOk L A σ' H' Γ' → N Γ' → D.nx σ' H') → (∀ v d H', L.R b H0 H' → Dq L A H' v d → Rt d → D.rt v H') → ts D σ H
theorem sg_hl (hj : j < Γ.length) (h1 : EvL L te Γ ds0) (k : HL L j b ds0 u Γ N Rt) : SG L b (tSeq (tAsg te (gName j)) u) Γ N Rt := fun A σ H hi he hg D q1 q2 => h1 A σ H hi he (L.g0 hg) _ fun p xs0 H1 r1 hp0 eP dv0 => by
  have hi1 : Inn (fun b => A b ∨ b = p) H1 := fun b z y => z.elim (fun z => (hi.r r1) b z y) fun z => by rw [z, eP] at y; cases y
  exact k A p _ H H1 xs0 (fun z => hi p z hp0) hi hi1 (held_env (p := p) (j := j) he r1 hp0 hj) (List.getElem?_set_self (by rw [he.1]; exact hj)) hp0 r1 hg eP dv0 D q1 q2
theorem hl_app (h2 : EvD L te2 (Γ.set j none) e) (hne : e ≠ mark) (hlen : acc.length ≤ 100000) (k : HL L j b (acc ++ [e]) u Γ N Rt) : HL L j b acc (tSeq (tDrop (tBM L.K "list" rAppend (tVar j) (tCons te2 tNil))) u) Γ N Rt := fun A p σ H0 H xs nAp hi0 hi1 he1 sj hp0 r1 hg eP dv0 D q1 q2 => by
  have hg0 : L.G (0 + b) H0 := by rw [Nat.zero_add]; exact hg
  have g1 : L.G 0 H := L.g0 (Rl.gR (a := 0) (b := b) hg0 r1)
  refine ⟨V.ref p, sj, .inl ⟨rfl, xs, SqL.of eP⟩, ?_⟩
  refine h2 _ _ H hi1 he1 g1 _ fun v d7 H7 r7 hv7 ed => ?_
  subst ed
  have hv8 := hv7.ne hne
  have r17 : L.R 0 H0 H7 := L.tr (a := 0) (b := 0) r1 r7
  have eP7 : H7 p = some (.lst xs) := L.keep r7 eP fxLst
  have dv7 := dv0.r r7
  refine ⟨p, xs, v, rfl, rfl, eP7, ?_, ?_⟩
  · rw [dv7.length]
    exact Nat.lt_of_le_of_lt hlen (by decide)
  · have hi7 := hi1.r r7
    refine k A p σ H0 _ (xs ++ [v]) nAp hi0 (fun b z y => ?_) ((he1.r r7).off) sj hp0 (L.fresh r17 hp0 (.inr ⟨_, eP7⟩)) hg upd_same ((dv7.app (.cons hv8 .nil)).off) D q1 q2
    by_cases hb : b = p
    · rw [hb, upd_same] at y
      cases y
    · rw [upd_ne hb] at y
      exact hi7 b z y
theorem hl_end (h : SG L b u (Γ.set j (some (.list acc))) N Rt) : HL L j b acc u Γ N Rt := fun A p σ H0 H xs nAp hi0 hi1 he1 sj hp0 r1 hg eP dv0 D q1 q2 => by
  have hg0 : L.G (0 + b) H0 := by rw [Nat.zero_add]; exact hg
  have dA : DvAll L.K A H xs acc := dv0.map fun b o na e k => ⟨fun z => na (.inl z), e⟩
  have hb := held_back (he1.less fun b z => .inl z) nAp eP dA sj
  have hs : (Γ.set j none).set j (some (.list acc)) = Γ.set j (some (.list acc)) := by rw [List.set_set]
  rw [hs] at hb
  exact h A σ H (hi0.r r1) hb (Rl.gR (a := 0) (b := b) hg0 r1) D (fun σ6 H6 G6 r6 e6 p6 => q1 σ6 H6 G6 (L.rle (Nat.le_of_eq (Nat.zero_add _)) (L.tr r1 r6)) e6 p6) fun v d H6 r6 e6 p6 => q2 v d H6 (L.rle (Nat.le_of_eq (Nat.zero_add _)) (L.tr r1 r6)) e6 p6
theorem eg_callMG (hS : SM L) (ha : EaG L m t Γ PA) (hp : ∀ ds, PA ds → ∃ x, ok x ∧ ds = args x) : EvG L (m + n) (tCall (spM L.K n args ok post) [] E t) Γ (fun d => ∃ x, PA (args x) ∧ ok x ∧ post x d) := fun A σ H hi he hg Q q => ha A σ H hi he (L.gle (Nat.le_add_right _ _) hg) _ fun vs ds H1 r1 l hv p => by
  obtain ⟨x, ho, e⟩ := hp ds p
  subst e
  show spM L.K n args ok post (vs ++ []) H1 Q E
  rw [List.append_nil]
  exact ⟨L, x, rfl, hS, ho, A, args x, hi.r r1, l, hv, rfl, Rl.gR hg r1, fun v d H2 r2 hd hpo => q v d H2 (L.tr r1 r2) hd ⟨x, p, ho, hpo⟩⟩
theorem eg_callMTG {T : List (Addr × Str)} (hS : SM L) (LL : LamL L T) (ha : EaG L m t Γ PA) (hp : ∀ ds, PA ds → ∃ x, ok x ∧ ds = args x) : EvG L (m + n) (tCall (spMT L.K T n args ok post) [] E t) Γ (fun d => ∃ x, PA (args x) ∧ ok x ∧ post x d) := fun A σ H hi he hg Q q => ha A σ H hi he (L.gle (Nat.le_add_right _ _) hg) _ fun vs ds H1 r1 l hv p => by
  obtain ⟨x, ho, e⟩ := hp ds p
  subst e
  show spMT L.K T n args ok post (vs ++ []) H1 Q E
  rw [List.append_nil]
  exact ⟨L, x, rfl, hS, LL, ho, A, args x, hi.r r1, l, hv, rfl, Rl.gR hg r1, fun v d H2 r2 hd hpo => q v d H2 (L.tr r1 r2) hd ⟨x, p, ho, hpo⟩⟩
end
/-! ### by hand -/
def pW : PyData := .tuple [.str "ge", tI [0, 0, 1]]
def wideD : List PyData := (List.replicate (60 : Int).toNat [pW]).flatten
def lgP : PZ := ⟨"eq", List.replicate 23 0 ++ [3], -1, 2⟩
def lgX : List Int := List.replicate 23 0 ++ [1]
def twoD : List PyData := [.tuple [.str "eq", tI [1, 0, 1]], .none]
def dueL : List PyData := [.list [.bool true], toldT "system" .none, .list [.bool true], .list [.bool true], toldT "system" (.int 1)]
theorem wide_chk : (sysE 1 60 (.tuple wideD)).isNone = true ∧ SeqAt.shaped (.tuple wideD) = true ∧ (PyData.tuple wideD).canLay0 = true ∧ 60 < (wideD ++ cutD wideD none (some 1)).length ∧ SeqAt.shaped (.tuple (wideD ++ cutD wideD none (some 1))) = true ∧ wideD.length = 60 ∧ (cutD wideD none (some 1)).length = 1 := by decide +kernel
theorem long_chk : (sysE 24 60 (sysD [lgP])).isNone = true ∧ SeqAt.shaped (sysD [lgP]) = true ∧ (sysD [lgP]).canLay0 = true ∧ (faultD 25 (tI (lgX ++ [3]))).isNone = true ∧ brk [lgP] lgX 3 = none ∧ (tI (lgX ++ [3])).hasDict = false := by decide +kernel
theorem two_chk : (twoD.findIdx? fun x => !pairB 1 x) = some 1 ∧ SeqAt.shaped (.tuple twoD) = true := by decide +kernel
theorem due_chk : (PyData.list dueL).showable = true ∧ (PyData.list dueL).hasDict = false ∧ (PyData.list dueL).depth ≤ 60 ∧ (PyData.list dueL).shown.length ≤ 1000 := by decide +kernel
theorem due_sh : Sh (.list dueL) := ⟨.inl ⟨_, rfl⟩, due_chk.1, due_chk.2.1, due_chk.2.2.1, Nat.le_trans due_chk.2.2.2 (by decide)⟩
theorem two_sys : sysE 1 60 (.tuple twoD) = some (.int 1) := by
  unfold sysE
  show (if (60 : Int) < ((twoD.length : Nat) : Int) then some PyData.none else (twoD.findIdx? fun x => !pairB 1 x).map fun (i : Nat) => PyData.int i) = _
  rw [if_neg (by show ¬ ((60 : Int) < ((2 : Nat) : Int)); decide), two_chk.1]
  rfl
theorem more_sys : sysE 1 60 (.tuple (wideD ++ cutD wideD none (some 1))) = some .none := by
  unfold sysE
  exact if_pos (by have := wide_chk.2.2.2.1; omega)
theorem long_sa : okSA ⟨[lgP], lgX, 3⟩ := fun p hp => by
  have e : p = lgP := List.mem_singleton.mp hp
  subst e
  have up : ∀ {z : Int}, z.natAbs < 2 ^ 3 → z.natAbs < 2 ^ 400 := fun h => Nat.lt_of_lt_of_le h (Nat.pow_le_pow_right (by decide) (by decide))
  have c1 : ∀ z ∈ lgP.cs, z.natAbs < 2 ^ 3 := by decide
  have c2 : ∀ z ∈ lgX, z.natAbs < 2 ^ 3 := by decide
  exact ⟨by decide, ⟨rfl, by decide, fun z hz => up (c1 z hz), fun z hz => up (c2 z hz), up (by decide), up (by decide)⟩⟩
end V1
set_option Elab.async false
set_option linter.all false
set_option maxRecDepth 100000
set_option maxHeartbeats 4000000
namespace V1
open PySem PySem.Spec PyProof.Rows L2
variable {P : Program} {w : World} {K : PySem.W.Frag} {mg : Str → Option Value} {base : Heap}

abbrev s_law : Stmt := top 43
abbrev n_law : List Str := ["script", "turn", "m", "count_so", "many", "wide", "long", "told", "due"]
theorem sc_law : FnScope n_law ["script"] (defScope s_law) := ⟨rfl, rfl, rfl, by decide +kernel, rfl, by decide +kernel, by decide +kernel⟩
def sp_law (K : PySem.W.Frag) (TT : List (Addr × Str)) : Sp := fun vs H Q _ => ∃ (a : Addr) (sc : List Int), vs = [.ref a] ∧ sc.length ≤ 63 ∧ SqL K H a (sc.map V.int) ∧ LamX.Tabs TT H ∧ ∀ H', Q (.bl true) H'
theorem len_law (TT : List (Addr × Str)) : ∀ vs H Q E, sp_law K TT vs H Q E → vs.length = (["script"] : List Str).length := fun vs H Q E ⟨a, sc, e, _⟩ => by rw [e]; rfl
theorem ok_law {f : Addr} {fd : FuncData} (T : Bt K mg) (C : Cst K w mg) (D : Df K mg "law" s_law ["script"] f fd) {TT : List (Addr × Str)} {Cs Is Cp Ip : Addr} {fs fp : FuncData} (Tsy : ExN K mg "NotSystem" "number" Cs Is fs) (TPt : ExN K mg "NotPoint" "place" Cp Ip fp) (ne : PySem.W.exmOne K (.ref Cp) (.ref Cs) = some false) {f_law_told : Addr} {d_law_told : FuncData} (DH : Df K mg "_law_told" s_law_told ["call"] f_law_told d_law_told)
    (LT : ∃ c Pt, LamX.TabB base mg c Pt ∧ fd.code = .ref c ∧ (Pt, (("law" : Str) ++ ".<locals>." ++ "<lambda>")) ∈ TT ∧ ∀ p ∈ TT, p.1 = Pt → p.2 = (("law" : Str) ++ ".<locals>." ++ "<lambda>"))
    {f_law_begun : Addr} {d_law_begun : FuncData} (h_law_begun : Cal P w K mg base "_law_begun" s_law_begun ["script", "k"] 1 (sp_law_begun K) f_law_begun d_law_begun)
    {f_law_draw : Addr} {d_law_draw : FuncData} (h_law_draw : Cal P w K mg base "_law_draw" s_law_draw ["m", "bound"] 1 (sp_law_draw K) f_law_draw d_law_draw)
    {f_law_systems_right : Addr} {d_law_systems_right : FuncData} (h_law_systems_right : Cal P w K mg base "_law_systems_right" s_law_systems_right ["m", "count_so", "system_so"] 14 (sp_law_systems_right K TT) f_law_systems_right d_law_systems_right)
    {f_law_system : Addr} {d_law_system : FuncData} (h_law_system : Cal P w K mg base "_law_system" s_law_system ["m", "count_so", "many"] 5 (sp_law_system K) f_law_system d_law_system)
    {f_check_system : Addr} {d_check_system : FuncData} (h_check_system : CalX P w K mg base "check_system" s_check_system ["count", "system"] 6 (sp_check_system K Cs) f_check_system d_check_system)
    {f_holds_all : Addr} {d_holds_all : FuncData} (h_holds_all : CalX P w K mg base "holds_all" s_holds_all ["count", "system", "point"] 8 (sp_holds_all K Cs Cp) f_holds_all d_holds_all)
    {f_law_like : Addr} {d_law_like : FuncData} (h_law_like : Cal P w K mg base "_law_like" s_law_like ["told", "due"] 1 (sp_law_like K) f_law_like d_law_like) : Cal P w K mg base "law" s_law ["script"] 16 (sp_law K TT) f fd := by
  refine ⟨D.gm, D.F, D.b, okGc D.F sc_law (len_law TT) (fun cdv A outer s H vs Q E ec hgd hr h => ?_)⟩
  have LP : LamP (cxOf CX0 P w K mg base n_law "law" (defScope s_law) f cdv A outer s H E).nox TT := by
    obtain ⟨c, Pt, l1, l2, l3, l4⟩ := LT
    exact ⟨⟨c, Pt, l1, ec.symm.trans l2, l3, l4⟩⟩
  refine ⟨_, (pss_cons (ps_for PassesOwn.never rfl (pi_range1 (by rfl) T.range (pa_cons (pe_op op_add pe_int (pe_callB (call_min2 rfl) (by rfl) T.min (by decide +kernel) (pa_cons pe_int (pa_cons (pe_callB call_len_seq (by rfl) T.len PySem.boot_len (pa_cons (pv 0) pa_nil)) pa_nil)))) pa_nil)) (pg_name (i := 1) sc_law.nd rfl (Or.inl rfl))
        (pss_cons (ps_set (i := 2) sc_law.nd rfl (Or.inl rfl) (pe_fn (E := E0) h_law_begun.G hgd (hr.mono (by decide)) (by rfl) h_law_begun.gm h_law_begun.kp h_law_begun.b (pa_cons (pv 0) (pa_cons (pv 1) pa_nil))))
        (pss_cons (ps_set (i := 3) sc_law.nd rfl (Or.inl rfl) (pe_op op_add pe_int (pe_fn (E := E0) h_law_draw.G hgd (hr.mono (by decide)) (by rfl) h_law_draw.gm h_law_draw.kp h_law_draw.b (pa_cons (pv 2) (pa_cons pe_int pa_nil)))))
        (pss_one (ps_for PassesOwn.never rfl (pi_tup (pe_tup (pa_cons pe_int (pa_cons pe_int pa_nil)))) (pg_name (i := 4) sc_law.nd rfl (Or.inl rfl))
        (pss_one (ps_if (pt_not (pt_val (pe_fn (E := E0) h_law_systems_right.G hgd (hr.mono (by decide)) (by rfl) h_law_systems_right.gm h_law_systems_right.kp h_law_systems_right.b (pa_cons (pv 2) (pa_cons (pv 3) (pa_cons (pe_fn (E := E0) h_law_system.G hgd (hr.mono (by decide)) (by rfl) h_law_system.gm h_law_system.kp h_law_system.b (pa_cons (pv 2) (pa_cons (pv 3) (pa_cons (pe_fn (E := E0) h_law_draw.G hgd (hr.mono (by decide)) (by rfl) h_law_draw.gm h_law_draw.kp h_law_draw.b (pa_cons (pv 2) (pa_cons (pv 4) pa_nil))) pa_nil)))) pa_nil)))))) (pss_one (ps_ret pe_bl)) pss_nil)))))))
        (pss_cons (ps_set (i := 5) sc_law.nd rfl (Or.inr rfl) (pe_op op_repA (pe_tup (pa_cons (pe_tup (pa_cons pe_str (pa_cons (pe_tup (pa_cons pe_int (pa_cons pe_int (pa_cons pe_int pa_nil)))) pa_nil))) pa_nil)) pe_int))
        (pss_cons (ps_set (i := 6) sc_law.nd rfl (Or.inr rfl) (pe_tup (pa_cons (pe_tup (pa_cons pe_str (pa_cons (pe_op op_catA (pe_op op_repA (pe_tup (pa_cons pe_int pa_nil)) pe_int) (pe_tup (pa_cons pe_int (pa_cons (pe_un un_neg pe_int) (pa_cons pe_int pa_nil))))) pa_nil))) pa_nil)))
        (pss_cons (ps_set (i := 7) sc_law.nd rfl (Or.inl rfl) (pe_lst (pa_cons (pe_heard (T := TT) (TT := TT2 Cs Cp "system" "point" "number" "place") (k := 9) (t := fun E => tOp (rEqD K) (tCallS (sp_check_system K Cs) (fun _ => E) _) _) (by rfl) DH.gm DH.F DH.b sc_law_told rfl (Or.inl rfl) (mkl0 LP (lamN_by (N := n_law) (sc := defScope s_law) (by decide +kernel)) (by rfl) (fun _ _ _ _ _ => by rfl)) (lamN_by (N := n_law) (sc := defScope s_law) (by decide +kernel)) (hr.mono (by decide)) hgd (fun cdv => told_ok Tsy TPt ne _ _ _)
          (fun A outer s2 H2 E f c2 hgd hr => pe_cmpR (op_eqD hr.units) (pe_callX (E := fun _ => E) h_check_system.G hgd (hr.mono (by decide)) (by rfl) h_check_system.gm h_check_system.kp h_check_system.b (fun σ => passAt (takes_of rfl rfl rfl rfl) σ) (pa_cons pe_int (pa_cons (pv 5) pa_nil))) (pv 5) (nomark _))) (pa_cons (pe_heard (T := TT) (TT := TT2 Cs Cp "system" "point" "number" "place") (k := 9) (t := fun E => tCallS (sp_check_system K Cs) (fun _ => E) _) (by rfl) DH.gm DH.F DH.b sc_law_told rfl (Or.inl rfl) (mkl1 (a := "a") LP (lamN_by (N := n_law) (sc := defScope s_law) (by decide +kernel)) rfl rfl (by rfl) (fun _ _ _ _ _ _ _ => ⟨_, by rfl, by rfl⟩)) (lamN_by (N := n_law) (sc := defScope s_law) (by decide +kernel)) (hr.mono (by decide)) hgd (fun cdv => told_ok Tsy TPt ne _ _ _)
          (fun A outer s2 H2 E f c2 hgd hr => pe_callX (E := fun _ => E) h_check_system.G hgd (hr.mono (by decide)) (by rfl) h_check_system.gm h_check_system.kp h_check_system.b (fun σ => passAt (takes_of rfl rfl rfl rfl) σ) (pa_cons pe_int (pa_cons (pe_op (op_catAK (K := K) rfl) (pv 5) (pe_slice (sl_tupAK (K := K) rfl) (pv 5) po_none (po_some pe_int))) pa_nil)))) pa_nil))))
        (pss_cons (ps_expr (pe_bm PySem.F.plainAttrs_list PySem.F.slot_list_append PySem.F.type_list_append mt_append (pv 7) (pa_cons (pe_heard (T := TT) (TT := TT2 Cs Cp "system" "point" "number" "place") (k := 9) (t := fun E => tCallS (sp_holds_all K Cs Cp) (fun _ => E) _) (by rfl) DH.gm DH.F DH.b sc_law_told rfl (Or.inl rfl) (mkl0 LP (lamN_by (N := n_law) (sc := defScope s_law) (by decide +kernel)) (by rfl) (fun _ _ _ _ _ => by rfl)) (lamN_by (N := n_law) (sc := defScope s_law) (by decide +kernel)) (hr.mono (by decide)) hgd (fun cdv => told_ok Tsy TPt ne _ _ _)
          (fun A outer s2 H2 E f c2 hgd hr => pe_callX (E := fun _ => E) h_holds_all.G hgd (hr.mono (by decide)) (by rfl) h_holds_all.gm h_holds_all.kp h_holds_all.b (fun σ => passAt (takes_of rfl rfl rfl rfl) σ) (pa_cons pe_int (pa_cons (pv 6) (pa_cons (pe_op (op_catAK (K := K) rfl) (pe_op (op_repAK (K := K) rfl) (pe_tup (pa_cons pe_int pa_nil)) pe_int) (pe_tup (pa_cons pe_int (pa_cons pe_int pa_nil)))) pa_nil))))) pa_nil)))
        (pss_cons (ps_expr (pe_bm PySem.F.plainAttrs_list PySem.F.slot_list_append PySem.F.type_list_append mt_append (pv 7) (pa_cons (pe_heard (T := TT) (TT := TT2 Cs Cp "system" "point" "number" "place") (k := 9) (t := fun E => tOp (rEqD K) (tCallS (sp_check_system K Cs) (fun _ => E) _) _) (by rfl) DH.gm DH.F DH.b sc_law_told rfl (Or.inl rfl) (mkl0 LP (lamN_by (N := n_law) (sc := defScope s_law) (by decide +kernel)) (by rfl) (fun _ _ _ _ _ => by rfl)) (lamN_by (N := n_law) (sc := defScope s_law) (by decide +kernel)) (hr.mono (by decide)) hgd (fun cdv => told_ok Tsy TPt ne _ _ _)
          (fun A outer s2 H2 E f c2 hgd hr => pe_cmpR (op_eqD hr.units) (pe_callX (E := fun _ => E) h_check_system.G hgd (hr.mono (by decide)) (by rfl) h_check_system.gm h_check_system.kp h_check_system.b (fun σ => passAt (takes_of rfl rfl rfl rfl) σ) (pa_cons pe_int (pa_cons (pv 6) pa_nil))) (pv 6) (nomark _))) pa_nil)))
        (pss_cons (ps_expr (pe_bm PySem.F.plainAttrs_list PySem.F.slot_list_append PySem.F.type_list_append mt_append (pv 7) (pa_cons (pe_heard (T := TT) (TT := TT2 Cs Cp "system" "point" "number" "place") (k := 9) (t := fun E => tCallS (sp_check_system K Cs) (fun _ => E) _) (by rfl) DH.gm DH.F DH.b sc_law_told rfl (Or.inl rfl) (mkl0 LP (lamN_by (N := n_law) (sc := defScope s_law) (by decide +kernel)) (by rfl) (fun _ _ _ _ _ => by rfl)) (lamN_by (N := n_law) (sc := defScope s_law) (by decide +kernel)) (hr.mono (by decide)) hgd (fun cdv => told_ok Tsy TPt ne _ _ _)
          (fun A outer s2 H2 E f c2 hgd hr => pe_callX (E := fun _ => E) h_check_system.G hgd (hr.mono (by decide)) (by rfl) h_check_system.gm h_check_system.kp h_check_system.b (fun σ => passAt (takes_of rfl rfl rfl rfl) σ) (pa_cons pe_int (pa_cons (pe_tup (pa_cons (pe_tup (pa_cons pe_str (pa_cons (pe_tup (pa_cons pe_int (pa_cons pe_int (pa_cons pe_int pa_nil)))) pa_nil))) (pa_cons pe_non pa_nil))) pa_nil)))) pa_nil)))
        (pss_cons (ps_set (i := 8) sc_law.nd rfl (Or.inl rfl) (pe_lst (pa_cons (pe_lst (pa_cons pe_bl pa_nil)) (pa_cons (pe_tup (pa_cons pe_str (pa_cons pe_non pa_nil))) (pa_cons (pe_lst (pa_cons pe_bl pa_nil)) (pa_cons (pe_lst (pa_cons pe_bl pa_nil)) (pa_cons (pe_tup (pa_cons pe_str (pa_cons pe_int pa_nil))) pa_nil)))))))
        (pss_one (ps_ret (pe_fn (E := E0) h_law_like.G hgd (hr.mono (by decide)) (by rfl) h_law_like.gm h_law_like.kp h_law_like.b (pa_cons (pv 7) (pa_cons (pv 8) pa_nil))))))))))))), ?_⟩
  obtain ⟨a, sc, rfl, hl, hsc, hT, q⟩ := h
  have he : EnvOk (scL K TT a sc) (fun _ => False) (L2.start n_law [V.ref a]) H [some mark, none, none, none, none, none, none, none, none] := ⟨rfl, fun i d e => by
    match i, e with
    | 0, e =>
      have e1 : mark = d := Option.some.inj (Option.some.inj e)
      subst e1
      exact ⟨_, rfl, .inl ⟨rfl, rfl⟩⟩
    | 1, e => cases e
    | 2, e => cases e
    | 3, e => cases e
    | 4, e => cases e
    | 5, e => cases e
    | 6, e => cases e
    | 7, e => cases e
    | 8, e => cases e
    | i + 9, e => cases e⟩
  have hi : Inn (fun _ => False) H := fun b z => z.elim
  have LS : LamL (scL K TT a sc) TT := lamL_s
  refine (?run : SG (scL K TT a sc) 0 _ [some mark, none, none, none, none, none, none, none, none] (fun _ => False) (fun d => d = .bool true)) (fun _ => False) _ H hi he ⟨hsc, hT⟩ _ (fun σ' H' G r e z => z.elim) fun v d H' r hd e => ?_
  case run =>
    refine sg_seq (N1 := fun G => ∃ x1, G = [some mark, x1, none, none, none, none, none, none, none]) (sg_for (js := [1]) (fun i G => ∃ x1, G = [some mark, x1, none, none, none, none, none, none, none]) (wk_rng1 (j := 2 + min 3 (sc.length : Int)) (ea_cons (eg_add eg_int (eg_cb (ea_cons eg_int (ea_cons (cs_lenS (i := 0) rfl) ea_nil)) cs_min)) ea_nil) (by omega)) ⟨none, rfl⟩ ?_ fun G e => e) ?_
    · rintro i d G hd ⟨x1, rfl⟩
      unfold rngD at hd
      have hi4 : i < 5 := by
        have h1 := (List.getElem?_eq_some_iff.mp hd).1
        rw [List.length_map, List.length_range] at h1
        omega
      rw [List.getElem?_map] at hd
      have hdi : d = .int (i : Int) := by
        cases hr : (List.range (2 + min 3 (sc.length : Int)).toNat)[i]? with
        | none => rw [hr] at hd; cases hd
        | some y =>
          rw [hr] at hd
          have e1 : y = i := by
            obtain ⟨h1, h2⟩ := List.getElem?_eq_some_iff.mp hr
            rw [List.getElem_range] at h2
            exact h2.symm
          have hd' : PyData.int (0 + (y : Int)) = d := Option.some.inj hd
          rw [← hd', e1, Int.zero_add]
      subst hdi
      refine ⟨_, tg_name, SG.mono (sg_begunT (K := K) (TT := TT) (k := i) (j := 6) (n := 1 + 2 * 241) (by omega) hl (by decide) fun p c ns hns => ?_) (Nat.le_refl _) (fun G e => ⟨none, e⟩) fun d h => h⟩
      have hS : SM (mL K TT p c ns) := ⟨K, TT, p, c, ns, hns, rfl⟩
      have LL : LamL (mL K TT p c ns) TT := lamL_m
      refine sk_asgG (a := 0 + 1) (b := 2 * 241) (P := fun d => ∃ n : Nat, (1 ≤ n ∧ n ≤ 6) ∧ d = .int (n : Int)) (by decide) (EvG.mono (eg_addG eg_intG (eg_callM (L := mL K TT p c ns) (args := fun b : Nat => [mark, .int (b : Int)]) (ok := fun b => 0 < b ∧ b < 2 ^ 30) (post := fun b d => ∃ r : Nat, r < b ∧ d = .int (r : Int)) hS 6 (ea_cons (eg_var (i := 2) rfl) (ea_cons eg_int ea_nil)) (by decide) |> fun h => EvG.mono h (Nat.le_refl _) fun d ⟨r, h1, e⟩ => (⟨(r : Int), ⟨by omega, by have h1 : r < 6 := h1; omega⟩, e⟩ : ∃ z : Int, (0 ≤ z ∧ z < 6) ∧ d = .int z))) (Nat.le_refl _) fun d ⟨z, ⟨x, y, hx, hy, hz⟩, e⟩ => ⟨z.toNat, by omega, by rw [e]; congr 1; omega⟩) ?_
      rintro d ⟨n, hn, rfl⟩
      refine sk_for (b := 2) (c := 241) (js := [4]) (fun i G => ∃ x4, G = [none, none, some mark, some (.int (n : Int)), x4, none, none, none, none]) (by decide) (wk_tup (ds := [.int 3, .int 8]) (eg_tup (ea_cons eg_int (ea_cons eg_int ea_nil)))) (Nat.le_refl _) ⟨none, rfl⟩ ?_ ?_
      · rintro i e G he ⟨x4, rfl⟩
        obtain ⟨bm, rfl, hbm⟩ : ∃ bm : Nat, e = .int (bm : Int) ∧ 0 < bm ∧ bm ≤ 8 := by
          match i, he with
          | 0, he => exact ⟨3, (Option.some.inj he).symm, by decide⟩
          | 1, he => exact ⟨8, (Option.some.inj he).symm, by decide⟩
          | i + 2, he => cases he
        refine ⟨_, tg_name, ?_⟩
        show SK (mL K TT p c ns) 0 (V.ref a) 241 _ [none, none, some mark, some (.int (n : Int)), some (.int (bm : Int)), none, none, none, none] _
        have sysG := eg_callMG (L := mL K TT p c ns) (E := E0) (m := 0 + (0 + (1 + 0))) (n := 200) (args := fun a : Nat × Nat => [mark, .int (a.1 : Int), .int (a.2 : Int)]) (ok := fun a => (1 ≤ a.1 ∧ a.1 ≤ 6) ∧ a.2 ≤ 8) (post := fun a d => ∃ ps : List PZ, d = sysD ps ∧ ps.length = a.2 ∧ ∀ p ∈ ps, PzOk a.1 40 p) (PA := fun ds => ∃ r : Nat, r < bm ∧ ds = [mark, .int (n : Int), .int (r : Int)]) hS (EaG.mono (ea_consG (eg_var (Γ := [none, none, some mark, some (.int (n : Int)), some (.int (bm : Int)), none, none, none, none]) (i := 2) rfl) (ea_consG (eg_var (i := 3) rfl) (ea1G (eg_callM (L := mL K TT p c ns) (E := E0) (args := fun b : Nat => [mark, .int (b : Int)]) (ok := fun b => 0 < b ∧ b < 2 ^ 30) (post := fun b d => ∃ r : Nat, r < b ∧ d = .int (r : Int)) hS bm (ea_cons (eg_var (i := 2) rfl) (ea_cons (eg_var (i := 4) rfl) ea_nil)) ⟨hbm.1, by omega⟩)))) (Nat.le_refl _) fun ds ⟨d1, r1, e1, h1, d2, r2, e2, h2, d3, e3, r, hr, e4⟩ => ⟨r, hr, by rw [e1, h1, e2, h2, e3, e4]⟩) fun ds ⟨r, hr, e⟩ => ⟨(n, r), ⟨hn, by show r ≤ 8; omega⟩, e⟩
        have rightG := eg_callMTG (L := mL K TT p c ns) (E := E0) (T := TT) (m := 0 + (0 + ((0 + (0 + (1 + 0)) + 200) + 0))) (n := 40) (args := fun a : Nat × List PZ => [mark, .int (a.1 : Int), sysD a.2]) (ok := fun a => (1 ≤ a.1 ∧ a.1 ≤ 6) ∧ a.2.length ≤ 8 ∧ ∀ p ∈ a.2, PzOk a.1 40 p) (post := fun _ d => d = .bool true) (PA := fun ds => ∃ ps : List PZ, (ps.length ≤ 8 ∧ ∀ p ∈ ps, PzOk n 40 p) ∧ ds = [mark, .int (n : Int), sysD ps]) hS LL (EaG.mono (ea_consG (eg_var (Γ := [none, none, some mark, some (.int (n : Int)), some (.int (bm : Int)), none, none, none, none]) (i := 2) rfl) (ea_consG (eg_var (i := 3) rfl) (ea1G sysG))) (Nat.le_refl _) fun ds ⟨d1, r1, e1, h1, d2, r2, e2, h2, d3, e3, ⟨n2, r⟩, ⟨r', hr', e4⟩, _, ps, e5, e6, e7⟩ => by
          injection e4 with _ e4
          injection e4 with e4 e8
          injection e4 with e4
          injection e8 with e8 _
          injection e8 with e8
          have en : n2 = n := by omega
          have er : r = r' := by omega
          subst en er
          exact ⟨ps, ⟨by rw [e6]; show r ≤ 8; omega, e7⟩, by rw [e1, h1, e2, h2, e3, e5]⟩) fun ds ⟨ps, h1, e⟩ => ⟨(n, ps), ⟨hn, h1⟩, e⟩
        exact sk_ifn (et_notG (EvG.mono rightG (by decide) fun d ⟨x, _, _, e⟩ => e)) ⟨_, rfl⟩
      · rintro G ⟨x4, rfl⟩
        rfl
    · rintro G ⟨x1, rfl⟩
      have sw := wide_chk.2.1
      have hz1 : sysE 1 60 (.tuple wideD) = none := Option.isNone_iff_eq_none.mp wide_chk.1
      have hz2 : sysE 24 60 (sysD [lgP]) = none := Option.isNone_iff_eq_none.mp long_chk.1
      have hz3 : faultD (24 + 1) (tI (lgX ++ [3])) = none := Option.isNone_iff_eq_none.mp long_chk.2.2.2.1
      have one : ∀ {x : PyData}, okS x → okSy ((1 : Int), x) := fun h => ⟨(show (0 : Int) ≤ 1 by decide), h⟩
      refine sq_asg (d := .tuple wideD) (eg_repA (ds := [pW]) (k := 60) (eg_tup (ds := [pW]) (ea_cons (eg_tup (ds := [.str "ge", tI [0, 0, 1]]) (ea_cons eg_str (ea_cons (eg_tup (ds := [.int 0, .int 0, .int 1]) (ea_cons eg_int (ea_cons eg_int (ea_cons eg_int ea_nil)))) ea_nil)) rfl (show 2 ≤ 1000 by decide)) ea_nil) rfl (show 1 ≤ 1000 by decide)) eg_int (by decide) (by decide) (show 1 ≤ 1000 by decide)) ?_
      refine sq_asg (d := sysD [lgP]) (eg_tup (ds := [pD lgP]) (ea_cons (eg_tup (ds := [.str "eq", tI (lgP.cs ++ [lgP.c, lgP.b])]) (ea_cons eg_str (ea_cons ((eg_catA (eg_repA (k := 23) (eg_tup (ds := [.int 0]) (ea_cons eg_int ea_nil)) eg_int (by decide) (by decide) (show 1 ≤ 1000 by decide)) (eg_tup (ds := [.int 3, .int (-1), .int 2]) (ea_cons eg_int (ea_cons (eg_neg eg_int) (ea_cons eg_int ea_nil)))) (show 23 + 3 ≤ 100000 by decide)).to rfl) ea_nil)) rfl (show 2 ≤ 1000 by decide)) ea_nil) rfl (show 1 ≤ 1000 by decide)) ?_
      show SG (scL K TT a sc) 0 _ [some mark, x1, none, none, none, some (.tuple wideD), some (sysD [lgP]), none, none] _ (fun d => d = .bool true)
      let fb : FB := ⟨24, sysD [lgP], tI (lgX ++ [3]), [lgP], lgX, 3⟩
      have fbo : fb.Ok := ⟨(by decide : (0 : Int) ≤ 24), .inl long_chk.2.1, long_chk.2.2.2.2.2, fun _ _ => ⟨rfl, rfl, long_sa⟩⟩
      refine sg_hl (j := 7) (Γ := [some mark, x1, none, none, none, some (.tuple wideD), some (sysD [lgP]), none, none]) (ds0 := [.list [.bool true], toldT "system" .none]) (show 7 < 9 by decide) (evl_lst (ds := [.list [.bool true], toldT "system" .none]) (ea_cons (eg_h2V LS (d := .bool true) (by intro z; cases z) fun E => (eg_eqD (eg_callXv (L := scL K TT a sc) (args := fun a : Int × PyData => [.int a.1, a.2]) (ok := okSy) (res := fun a => sysX a.1 60 a.2) ((1 : Int), .tuple wideD) (ea_cons eg_int (ea_cons (eg_var (i := 5) rfl) ea_nil)) (one (.inl sw)) (d := .tuple wideD) (by unfold sysX; rw [hz1])) (eg_var (i := 5) rfl) (by intro z; cases z) (by intro z; cases z) sw sw).to (by rw [SeqAt.eqv_refl _ wide_chk.2.2.1])) (ea_cons (eg_h2A LS (rz_callX (L := scL K TT a sc) (args := fun a : Int × PyData => [.int a.1, a.2]) (ok := okSy) (res := fun a => sysX a.1 60 a.2) ((1 : Int), .tuple (wideD ++ cutD wideD none (some 1))) (ea_cons eg_int (ea_cons (eg_catA (eg_var (i := 5) rfl) (eg_slA (eg_var (i := 5) rfl) eo_none (eo_some eg_int)) (by rw [wide_chk.2.2.2.2.2.1, wide_chk.2.2.2.2.2.2]; decide)) ea_nil)) (one (.inl wide_chk.2.2.2.2.1)) (by unfold sysX; rw [more_sys]))) ea_nil)) rfl (show 2 ≤ 1000 by decide)) ?_
      refine hl_app (e := .list [.bool true]) (eg_h2V LS (d := .bool true) (by intro z; cases z) fun E => (eg_callX2v (L := scL K TT a sc) (args := fbArgs) (ok := FB.Ok) (res := fbX bN) fb (ea_cons eg_int (ea_cons (eg_var (i := 6) rfl) (ea_cons ((eg_catA (eg_repA (k := 23) (eg_tup (ds := [.int 0]) (ea_cons eg_int ea_nil)) eg_int (by decide) (by decide) (show 1 ≤ 1000 by decide)) (eg_tup (ds := [.int 1, .int 3]) (ea_cons eg_int (ea_cons eg_int ea_nil))) (show 23 + 2 ≤ 100000 by decide)).to (d' := tI (lgX ++ [3])) rfl) ea_nil))) fbo (fb_ok hz2 hz3) (fb_nm fbo)).to (by show bN ((brk [lgP] lgX 3).map _) = _; rw [long_chk.2.2.2.2.1]; rfl)) (by intro z; cases z) (show 2 ≤ 100000 by decide) ?_
      refine hl_app (e := .list [.bool true]) (eg_h2V LS (d := .bool true) (by intro z; cases z) fun E => (eg_eqD (eg_callXv (L := scL K TT a sc) (args := fun a : Int × PyData => [.int a.1, a.2]) (ok := okSy) (res := fun a => sysX a.1 60 a.2) ((24 : Int), sysD [lgP]) (ea_cons eg_int (ea_cons (eg_var (i := 6) rfl) ea_nil)) ⟨(by decide : (0 : Int) ≤ 24), .inl long_chk.2.1⟩ (d := sysD [lgP]) (by unfold sysX; rw [hz2])) (eg_var (i := 6) rfl) (by intro z; cases z) (by intro z; cases z) long_chk.2.1 long_chk.2.1).to (by rw [SeqAt.eqv_refl _ long_chk.2.2.1])) (by intro z; cases z) (show 3 ≤ 100000 by decide) ?_
      refine hl_app (e := toldT "system" (.int 1)) (eg_h2A LS (rz_callX (L := scL K TT a sc) (args := fun a : Int × PyData => [.int a.1, a.2]) (ok := okSy) (res := fun a => sysX a.1 60 a.2) ((1 : Int), .tuple twoD) (ea_cons eg_int (ea_cons (eg_tup (ds := twoD) (ea_cons (eg_tup (ds := [.str "eq", tI [1, 0, 1]]) (ea_cons eg_str (ea_cons (eg_tup (ds := [.int 1, .int 0, .int 1]) (ea_cons eg_int (ea_cons eg_int (ea_cons eg_int ea_nil)))) ea_nil)) rfl (show 2 ≤ 1000 by decide)) (ea_cons eg_non ea_nil)) rfl (show 2 ≤ 1000 by decide)) ea_nil)) (one (.inl two_chk.2)) (by unfold sysX; rw [two_sys]))) (by intro z; cases z) (show 4 ≤ 100000 by decide) ?_
      refine hl_end ?_
      show SG (scL K TT a sc) 0 _ [some mark, x1, none, none, none, some (.tuple wideD), some (sysD [lgP]), some (.list dueL), none] _ (fun d => d = .bool true)
      refine sq_asg (d := .list dueL) (eg_lst (ds := dueL) (ea_cons (eg_lst (ds := [.bool true]) (ea_cons eg_bl ea_nil)) (ea_cons (eg_tup (ds := [.str "system", .none]) (ea_cons eg_str (ea_cons eg_non ea_nil))) (ea_cons (eg_lst (ds := [.bool true]) (ea_cons eg_bl ea_nil)) (ea_cons (eg_lst (ds := [.bool true]) (ea_cons eg_bl ea_nil)) (ea_cons (eg_tup (ds := [.str "system", .int 1]) (ea_cons eg_str (ea_cons eg_int ea_nil))) ea_nil))))) rfl (show 5 ≤ 1000 by decide)) ?_
      exact sg_ret (eg_callR (L := scL K TT a sc) (args := fun d : PyData => [d, d]) (ok := Sh) (val := fun _ => .bool true) (.list dueL) (ea_cons (eg_var (i := 7) rfl) (ea_cons (eg_var (i := 8) rfl) ea_nil)) due_sh) rfl
  · subst e
    obtain rfl := hd.bool
    exact q H'

end V1
set_option Elab.async false
set_option linter.all false
set_option maxRecDepth 100000
set_option maxHeartbeats 0
namespace V1
open PySem PySem.Spec PyProof.Rows L2
def topS (i : Nat) : Stmt := PySem.Challenge.pw_everyfont_k12_systems_judged.main.body.getD i (.Pass ⟨0, 0, 0, 0⟩)
def nmS (st : Stmt) : Str := match st with | .FunctionDef n _ _ _ _ _ _ _ _ _ => n | _ => ""
def defAt (i : Nat) : He.DefD := ⟨(nmS (topS i), none), nmS (topS i), nmS (topS i), defArgs (topS i), defBody (topS i), defScope (topS i), [], []⟩
def initH (i : Nat) : Stmt := match topS i with
  | .ClassDef _ _ _ (st :: _) _ _ _ _ _ _ _ => st
  | _ => .Pass ⟨0, 0, 0, 0⟩
def initP : He.DefD := ⟨("NotPoint", some "__init__"), "__init__", "NotPoint.__init__", defArgs (initH 3), defBody (initH 3), defScope (initH 3), [], []⟩
def initR : He.DefD := ⟨("NotSystem", some "__init__"), "__init__", "NotSystem.__init__", defArgs (initH 4), defBody (initH 4), defScope (initH 4), [], []⟩
def fnH0 : List He.DefD := [6, 7, 9, 10, 11, 13, 14, 15, 19, 20, 21, 22, 23, 24, 25, 27, 28, 29, 30, 31, 32, 33, 34, 35, 36, 37, 38, 39, 40, 41, 42, 43].map defAt
def fnH : List He.DefD := fnH0 ++ [initP, initR]
def faH : List He.Fa := fnH0.map (fun d => He.Fa.glo d.name) ++ [.free "len", .free "abs", .free "sum", .free "min", .free "max", .free "repr", .free "int", .free "bool", .free "tuple", .free "zip", .free "enumerate", .free "range", .free "isinstance", .free "str", .free "list", .free "all", .free "set", .free "sorted", .glo "NotPoint", .glo "NotSystem", .exm "NotPoint" "NotPoint" true, .exm "NotSystem" "NotSystem" true, .exm "NotPoint" "NotSystem" false, .keep "NotPoint", .keep "NotSystem", .glo "WORDS", .int "MOST_PAIRS" 60]
abbrev RH : PySem.W.OpenRow := PySem.W.OpenLaw.row PySem.Challenge.rw_everyfont_k12_systems_judged
/-- an own error class that stands beneath ValueError -/
def oexB (K : PySem.W.Frag) (C : Addr) : Bool := match K.lookup C with
  | some ⟨.type "type", _, .cls cd, sl⟩ => (match cd.mro, sl.toList with
    | .ref C' :: bm, [_, _, _, _, some (.builtin n), _] => C' == C && n == "ValueError.__new__" && !cd.hasDel && cd.hasDict && PySem.HandSPX.refsVE bm
    | _, _ => false)
  | _ => false
/-- the tuple at an address -/
def tupA (K : PySem.W.Frag) (a : Addr) (vs : List V) : Bool := match K.lookup a with
  | some ⟨.type c, _, .seq its _, _⟩ => decide (c = "tuple") && (decide (its.size ≤ sizeLine) && He.relAll vs its.toList)
  | _ => false
theorem tupA_ok {K : PySem.W.Frag} {a : Addr} {vs : List V} (h : tupA K a vs = true) (H : Hp) : SqT K H a vs := by
  unfold tupA at h
  cases q : K.lookup a with
  | none =>
    rw [q] at h
    cases h
  | some o =>
    obtain ⟨oc, od, dt, osl⟩ := o
    rw [q] at h
    cases oc with
    | type c =>
      cases dt with
      | seq its n =>
        obtain ⟨h1, h2⟩ := He.ba (show (decide (c = "tuple") && (decide (its.size ≤ sizeLine) && He.relAll vs its.toList)) = true from h)
        obtain ⟨h3, h4⟩ := He.ba h2
        exact .inr ⟨_, its, n, q, congrArg Value.type (of_decide_eq_true h1), rfl, of_decide_eq_true h3, He.relAll_ok h4⟩
      | _ => cases h
    | _ => cases dt <;> cases h
def obsE (K : PySem.W.Frag) (fld : Str) (C fI : Addr) : Bool := oexB K C && (He.eqO (PySem.W.findIn K (.ref C) "__setattr__") (some (some (.builtin "object.__setattr__"))) && (decide (PySem.W.subIn K (.ref C) (.type "BaseException") = some true) && (decide (PySem.W.typeIn K (.ref C) = some (.type "type")) && (He.eqO (PySem.W.findIn K (.ref C) "__init__") (some (some (.ref fI))) && (decide (PySem.W.typeIn K (.ref fI) = some (.type "function")) && (He.eqO (PySem.W.findIn K (.ref C) fld) (some none) && xfB K C))))))
def strV (l : List Str) : List V := l.map V.str
def tfH : List He.Defn := [("_law_systems_right", none), ("law", none)]
abbrev cJ (K : PySem.W.Frag) : Addr × Addr := He.cT K ("_law_systems_right", none)
abbrev cH (K : PySem.W.Frag) : Addr × Addr := He.cT K ("law", none)
def obsB (K : PySem.W.Frag) : Bool := obsE K "place" (He.ga K "NotPoint") (He.ma K (He.ga K "NotPoint") "__init__") && (obsE K "number" (He.ga K "NotSystem") (He.ma K (He.ga K "NotSystem") "__init__") && (decide (PySem.W.nsIn K mainGlobals "gcd" = some (some (.builtin "math.gcd"))) && (tupA K (He.ga K "WORDS") (strV ["ge", "gt", "eq"]) && decide ((cJ K).2 ≠ (cH K).2))))
def hkM : PySem.W.Hook := He.hookX 5 faH fnH [] tfH obsB
def obM (s : PySem.W.SharedT) : He.AlX := He.obsX 5 faH fnH [] tfH obsB (HandSHeadRun.getT s)
theorem obM_eq (s : PySem.W.SharedT) : obM s = hkM.obs s.abs := He.obsX_eq fun a => HandSHeadRun.getT_eq s a
def looseM : List Str := (["__name__", "FontError", "NotPoint", "NotSystem", "WORDS", "MOST_PAIRS"] : List Str) ++ (fnH0.map He.DefD.name).filter fun x => x != ("law" : Str)
theorem oexB_ok {K : PySem.W.Frag} {C : Addr} (q : oexB K C = true) : ∃ nm qn N bs bm sn sub ab col dd k0 k1 k2 k3 k5, K.lookup C = some (excClassObj nm qn C N bs bm true sn sub ab col dd k0 k1 k2 k3 k5 "ValueError.__new__") ∧ PySem.HandSPX.refsVE bm = true := by
  unfold oexB at q
  split at q
  · rename_i dd cd sl ho
    split at q
    · rename_i C' bm k0 k1 k2 k3 n k5 hm hs
      simp only [Bool.and_eq_true, beq_iff_eq, Bool.not_eq_true'] at q
      obtain ⟨⟨⟨⟨rfl, rfl⟩, hdel⟩, hdt⟩, ht⟩ := q
      obtain ⟨nm, bs, mro, ns, qn, hd, sn, sub, ab, col, del⟩ := cd
      dsimp only at hm hdel hdt
      subst hm hdel hdt
      have hsl : sl = #[k0, k1, k2, k3, some (.builtin "ValueError.__new__"), k5] := by
        obtain ⟨l⟩ := sl
        simp only at hs
        rw [hs]
      subst hsl
      exact ⟨nm, qn, ns, bs, bm, sn, sub, ab, col, dd, k0, k1, k2, k3, k5, ho, ht⟩
    · cases q
  · cases q
end V1
set_option Elab.async false
set_option linter.all false
set_option maxRecDepth 100000
set_option maxHeartbeats 0
namespace V1
open PySem PySem.W PySem.Spec PyProof.Rows L2
abbrev qM : Program := view RH.prog [0, 43]
theorem runM (w : World) : HandSHeadRun.RunEqI RH qM hkM obM 4000 looseM w := by
  delta HandSHeadRun.RunEqI
  kernel_rfl
end V1
set_option Elab.async false
set_option linter.all false
set_option maxRecDepth 100000
set_option maxHeartbeats 4000000
/-! All defs together. -/
namespace V1
open PySem PySem.Spec PyProof.Rows L2

theorem fun_of {K : PySem.W.Frag} {x qual : Str} {st : Stmt} {f : Addr} {fd : FuncData} (F : FunD K x qual (defArgs st) (defBody st) (defScope st) [] [] f fd) : Fun K x qual st f fd := by
  obtain ⟨oc, od, dV, kV, doc, pm, an, cdv, ct, osl, rfl, lk, hcd, hD, hK⟩ := F.ex
  rcases hD with ⟨_, rfl⟩ | ⟨e, _⟩
  · exact ⟨⟨oc, od, kV, doc, pm, an, cdv, ct, osl, rfl, lk, hcd⟩, F.kp⟩
  · exact absurd rfl e
theorem ns_of {K : PySem.W.Frag} {mg : Str → Option Value} {h : Heap} {x : Str} {v : Value} (X : K.In h) (G : h.Ns mainGlobals mg) (e : PySem.W.nsIn K mainGlobals x = some (some v)) : mg x = some v := PySem.W.mg_of X G e
theorem trip0 : PySem.TriplesOk (#[] : Array Value).toList := trivial
theorem code_of {K : PySem.W.Frag} {x qual : Str} {pa : Arguments} {bd : List Stmt} {sc : Scope} {fd : FuncData} {p : Str × Option Str} (F : FunD K x qual pa bd sc [] [] (He.fAd K p) fd) : fd.code = .ref (He.cT K p).1 := by
  obtain ⟨oc, od, dV, kV, doc, pm, an, cdv, ct, osl, rfl, lk, hcd, _⟩ := F.ex
  obtain ⟨c, e⟩ := He.codeIn_ref hcd
  have h : He.codeOf K p = c := He.codeOf_eq lk e
  show cdv = .ref (He.codeOf K p)
  rw [h]
  exact e
theorem df_of {K : PySem.W.Frag} {mg : Str → Option Value} {h : Heap} {x : Str} {st : Stmt} {ps : List Str} (X : K.In h) (G : h.Ns mainGlobals mg) (c : He.SaysD faH fnH K) (i : Nat) (hd : fnH[i]? = some ⟨(x, none), x, x, defArgs st, defBody st, defScope st, [], []⟩) (hf : faH[i]? = some (.glo x))
    (hb : ∀ (kV doc pm : Value) (an : Option Addr) (cdv ct : Value) (us : List Value), us.length = ps.length → bindArgs (PySem.W.fnOf x x (defArgs st) (defBody st) (defScope st) .none kV doc pm an cdv ct) ⟨us, []⟩ = pure (ps.zip us)) :
    ∃ fd, Df K mg x st ps (He.ga K x) fd ∧ fd.code = .ref (He.cT K (x, none)).1 ∧ ∀ (s : Shared) (us : List Value), us.length = ps.length → BindsTo s fd ⟨us, []⟩ (ps.zip us) := by
  obtain ⟨fd, F⟩ := c.def_ i hd
  exact ⟨fd, ⟨He.glo_ok X G (c.fact i hf), fun_of F, FunD.bindsN F hb⟩, code_of F, FunD.bindsA F hb⟩
theorem bt_of {K : PySem.W.Frag} {mg : Str → Option Value} {h : Heap} (X : K.In h) (G : h.Ns mainGlobals mg) (c2 : He.SaysD faH fnH K) : Bt K mg :=
  ⟨He.free_ok X G (c2.fact 32 (f := .free "len") rfl), He.free_ok X G (c2.fact 33 (f := .free "abs") rfl), He.free_ok X G (c2.fact 34 (f := .free "sum") rfl), He.free_ok X G (c2.fact 35 (f := .free "min") rfl), He.free_ok X G (c2.fact 36 (f := .free "max") rfl), He.free_ok X G (c2.fact 37 (f := .free "repr") rfl), He.free_ok X G (c2.fact 38 (f := .free "int") rfl), He.free_ok X G (c2.fact 39 (f := .free "bool") rfl), He.free_ok X G (c2.fact 40 (f := .free "tuple") rfl), He.free_ok X G (c2.fact 41 (f := .free "zip") rfl), He.free_ok X G (c2.fact 42 (f := .free "enumerate") rfl), He.free_ok X G (c2.fact 43 (f := .free "range") rfl), He.free_ok X G (c2.fact 44 (f := .free "isinstance") rfl), He.free_ok X G (c2.fact 45 (f := .free "str") rfl), He.free_ok X G (c2.fact 46 (f := .free "list") rfl), He.free_ok X G (c2.fact 47 (f := .free "all") rfl), He.free_ok X G (c2.fact 48 (f := .free "set") rfl), He.free_ok X G (c2.fact 49 (f := .free "sorted") rfl)⟩
theorem exn_NotPoint {K : PySem.W.Frag} {mg : Str → Option Value} {h : Heap} (X : K.In h) (G : h.Ns mainGlobals mg) (c2 : He.SaysD faH fnH K) (ce : obsE K "place" (He.ga K "NotPoint") (He.ma K (He.ga K "NotPoint") "__init__") = true) : ∃ fd, ExN K mg "NotPoint" "place" (He.ga K "NotPoint") (He.ma K (He.ga K "NotPoint") "__init__") fd := by
  obtain ⟨e1, ce⟩ := He.ba ce
  obtain ⟨e2, ce⟩ := He.ba ce
  obtain ⟨e3, ce⟩ := He.ba ce
  obtain ⟨e4, ce⟩ := He.ba ce
  obtain ⟨e5, ce⟩ := He.ba ce
  obtain ⟨e6, ce⟩ := He.ba ce
  obtain ⟨e7, e8⟩ := He.ba ce
  obtain ⟨fd, F⟩ := c2.def_ 32 (d := initP) rfl
  have F2 : Fun K "__init__" "NotPoint.__init__" (initAt 3) (He.ma K (He.ga K "NotPoint") "__init__") fd := fun_of (st := initAt 3) F
  refine ⟨fd, ⟨He.glo_ok X G (c2.fact 50 (f := .glo "NotPoint") rfl), ⟨?_, He.eqO_ok e2, of_decide_eq_true e3, of_decide_eq_true e4, He.keep_ok (c2.fact 55 (f := .keep "NotPoint") rfl)⟩, He.eqO_ok e5, of_decide_eq_true e6, He.eqO_ok e7, xfB_ok e8, He.exm_ok (c2.fact 52 (f := .exm "NotPoint" "NotPoint" true) rfl), fun P w base => ok_init3 F2, ?_⟩⟩
  · obtain ⟨nm, qn, N, bs, bm, sn, sub, ab, col, dd, k0, k1, k2, k3, k5, l1, l2⟩ := oexB_ok e1
    exact ⟨nm, qn, N, bs, bm, sn, sub, ab, col, dd, k0, k1, k2, k3, k5, l1, l2⟩
  · exact FunD.bindsN (ps := ["self", "place"]) F fun _ _ _ _ _ _ us hl => match us, hl with | [_, _], _ => rfl
theorem exn_NotSystem {K : PySem.W.Frag} {mg : Str → Option Value} {h : Heap} (X : K.In h) (G : h.Ns mainGlobals mg) (c2 : He.SaysD faH fnH K) (ce : obsE K "number" (He.ga K "NotSystem") (He.ma K (He.ga K "NotSystem") "__init__") = true) : ∃ fd, ExN K mg "NotSystem" "number" (He.ga K "NotSystem") (He.ma K (He.ga K "NotSystem") "__init__") fd := by
  obtain ⟨e1, ce⟩ := He.ba ce
  obtain ⟨e2, ce⟩ := He.ba ce
  obtain ⟨e3, ce⟩ := He.ba ce
  obtain ⟨e4, ce⟩ := He.ba ce
  obtain ⟨e5, ce⟩ := He.ba ce
  obtain ⟨e6, ce⟩ := He.ba ce
  obtain ⟨e7, e8⟩ := He.ba ce
  obtain ⟨fd, F⟩ := c2.def_ 33 (d := initR) rfl
  have F2 : Fun K "__init__" "NotSystem.__init__" (initAt 4) (He.ma K (He.ga K "NotSystem") "__init__") fd := fun_of (st := initAt 4) F
  refine ⟨fd, ⟨He.glo_ok X G (c2.fact 51 (f := .glo "NotSystem") rfl), ⟨?_, He.eqO_ok e2, of_decide_eq_true e3, of_decide_eq_true e4, He.keep_ok (c2.fact 56 (f := .keep "NotSystem") rfl)⟩, He.eqO_ok e5, of_decide_eq_true e6, He.eqO_ok e7, xfB_ok e8, He.exm_ok (c2.fact 53 (f := .exm "NotSystem" "NotSystem" true) rfl), fun P w base => ok_init4 F2, ?_⟩⟩
  · obtain ⟨nm, qn, N, bs, bm, sn, sub, ab, col, dd, k0, k1, k2, k3, k5, l1, l2⟩ := oexB_ok e1
    exact ⟨nm, qn, N, bs, bm, sn, sub, ab, col, dd, k0, k1, k2, k3, k5, l1, l2⟩
  · exact FunD.bindsN (ps := ["self", "number"]) F fun _ _ _ _ _ _ us hl => match us, hl with | [_, _], _ => rfl
def lamQ (x : Str) : Str := x ++ ".<locals>." ++ "<lambda>"
def TTof (K : PySem.W.Frag) : List (Addr × Str) := [((cJ K).2, lamQ "_law_systems_right"), ((cH K).2, lamQ "law")]
theorem all_ok {P : Program} {w : World} {K : PySem.W.Frag} {mg : Str → Option Value} {h : Heap} {f : Addr} (X : K.In h) (G : h.Ns mainGlobals mg) (hfa : mg ("law" : Str) = some (.ref f)) (c : He.SaysX faH fnH [] tfH obsB w h K) :
    ∃ fd : FuncData, (∀ (s : Shared) (u : Value), BindsTo s fd ⟨[u], []⟩ [("script", u)]) ∧ ∀ base : Heap, (∀ p ∈ [cJ K, cH K], LamX.TabB base mg p.1 p.2) → FnG P w K mg base 16 f fd ["script"] (sp_law K (TTof K)) := by
  have c2 : He.SaysD faH fnH K := c.t.d
  have T := bt_of X G c2
  have cb : obsB K = true := c.more
  obtain ⟨cp, cb⟩ := He.ba cb
  obtain ⟨cr, cb⟩ := He.ba cb
  obtain ⟨cg, cb⟩ := He.ba cb
  obtain ⟨cw, cd⟩ := He.ba cb
  have hne : (cJ K).2 ≠ (cH K).2 := of_decide_eq_true cd
  let C : Cst K w mg := { gcd := ns_of X G (of_decide_eq_true cg), wd := He.ga K "WORDS", h_WORDS := He.glo_ok X G (c2.fact 57 (f := .glo "WORDS") rfl), h_MOST_PAIRS := (by obtain ⟨t, e⟩ := He.int_ok X G (c2.fact 58 (f := .int "MOST_PAIRS" 60) rfl); exact ⟨_, e, t, rfl⟩), s_wd := fun H => tupA_ok cw H }
  obtain ⟨fp, TP⟩ := exn_NotPoint X G c2 cp
  obtain ⟨fr, TS⟩ := exn_NotSystem X G c2 cr
  have ne : PySem.W.exmOne K (.ref (He.ga K "NotPoint")) (.ref (He.ga K "NotSystem")) = some false := He.exm_ok (c2.fact 54 (f := .exm "NotPoint" "NotSystem" false) rfl)
  obtain ⟨d_is_int, D_is_int, cd_is_int, b_is_int⟩ := df_of (x := "is_int") (st := s_is_int) (ps := ["value"]) X G c2 0 rfl rfl fun _ _ _ _ _ _ us hl => match us, hl with | [_], _ => rfl
  obtain ⟨d_sign_of, D_sign_of, cd_sign_of, b_sign_of⟩ := df_of (x := "sign_of") (st := s_sign_of) (ps := ["number"]) X G c2 1 rfl rfl fun _ _ _ _ _ _ us hl => match us, hl with | [_], _ => rfl
  obtain ⟨d_shared_divisor, D_shared_divisor, cd_shared_divisor, b_shared_divisor⟩ := df_of (x := "shared_divisor") (st := s_shared_divisor) (ps := ["integers"]) X G c2 2 rfl rfl fun _ _ _ _ _ _ us hl => match us, hl with | [_], _ => rfl
  obtain ⟨d_fault_in_integers, D_fault_in_integers, cd_fault_in_integers, b_fault_in_integers⟩ := df_of (x := "fault_in_integers") (st := s_fault_in_integers) (ps := ["count", "value"]) X G c2 3 rfl rfl fun _ _ _ _ _ _ us hl => match us, hl with | [_, _], _ => rfl
  obtain ⟨d_check_point, D_check_point, cd_check_point, b_check_point⟩ := df_of (x := "check_point") (st := s_check_point) (ps := ["size", "value"]) X G c2 4 rfl rfl fun _ _ _ _ _ _ us hl => match us, hl with | [_, _], _ => rfl
  obtain ⟨d_is_row, D_is_row, cd_is_row, b_is_row⟩ := df_of (x := "is_row") (st := s_is_row) (ps := ["size", "value"]) X G c2 5 rfl rfl fun _ _ _ _ _ _ us hl => match us, hl with | [_, _], _ => rfl
  obtain ⟨d_top_at, D_top_at, cd_top_at, b_top_at⟩ := df_of (x := "top_at") (st := s_top_at) (ps := ["row", "point"]) X G c2 6 rfl rfl fun _ _ _ _ _ _ us hl => match us, hl with | [_, _], _ => rfl
  obtain ⟨d_row_sign, D_row_sign, cd_row_sign, b_row_sign⟩ := df_of (x := "row_sign") (st := s_row_sign) (ps := ["row", "point"]) X G c2 7 rfl rfl fun _ _ _ _ _ _ us hl => match us, hl with | [_, _], _ => rfl
  obtain ⟨d_is_pair, D_is_pair, cd_is_pair, b_is_pair⟩ := df_of (x := "is_pair") (st := s_is_pair) (ps := ["count", "value"]) X G c2 8 rfl rfl fun _ _ _ _ _ _ us hl => match us, hl with | [_, _], _ => rfl
  obtain ⟨d_check_pairs, D_check_pairs, cd_check_pairs, b_check_pairs⟩ := df_of (x := "check_pairs") (st := s_check_pairs) (ps := ["count", "most", "value"]) X G c2 9 rfl rfl fun _ _ _ _ _ _ us hl => match us, hl with | [_, _, _], _ => rfl
  obtain ⟨d_check_system, D_check_system, cd_check_system, b_check_system⟩ := df_of (x := "check_system") (st := s_check_system) (ps := ["count", "system"]) X G c2 10 rfl rfl fun _ _ _ _ _ _ us hl => match us, hl with | [_, _], _ => rfl
  obtain ⟨d_pair_holds, D_pair_holds, cd_pair_holds, b_pair_holds⟩ := df_of (x := "pair_holds") (st := s_pair_holds) (ps := ["pair", "point"]) X G c2 11 rfl rfl fun _ _ _ _ _ _ us hl => match us, hl with | [_, _], _ => rfl
  obtain ⟨d_first_false, D_first_false, cd_first_false, b_first_false⟩ := df_of (x := "first_false") (st := s_first_false) (ps := ["system", "point"]) X G c2 12 rfl rfl fun _ _ _ _ _ _ us hl => match us, hl with | [_, _], _ => rfl
  obtain ⟨d_first_broken, D_first_broken, cd_first_broken, b_first_broken⟩ := df_of (x := "first_broken") (st := s_first_broken) (ps := ["count", "system", "point"]) X G c2 13 rfl rfl fun _ _ _ _ _ _ us hl => match us, hl with | [_, _, _], _ => rfl
  obtain ⟨d_holds_all, D_holds_all, cd_holds_all, b_holds_all⟩ := df_of (x := "holds_all") (st := s_holds_all) (ps := ["count", "system", "point"]) X G c2 14 rfl rfl fun _ _ _ _ _ _ us hl => match us, hl with | [_, _, _], _ => rfl
  obtain ⟨d_law_begun, D_law_begun, cd_law_begun, b_law_begun⟩ := df_of (x := "_law_begun") (st := s_law_begun) (ps := ["script", "k"]) X G c2 15 rfl rfl fun _ _ _ _ _ _ us hl => match us, hl with | [_, _], _ => rfl
  obtain ⟨d_law_draw, D_law_draw, cd_law_draw, b_law_draw⟩ := df_of (x := "_law_draw") (st := s_law_draw) (ps := ["m", "bound"]) X G c2 16 rfl rfl fun _ _ _ _ _ _ us hl => match us, hl with | [_, _], _ => rfl
  obtain ⟨d_law_of, D_law_of, cd_law_of, b_law_of⟩ := df_of (x := "_law_of") (st := s_law_of) (ps := ["m", "some"]) X G c2 17 rfl rfl fun _ _ _ _ _ _ us hl => match us, hl with | [_, _], _ => rfl
  obtain ⟨d_law_like, D_law_like, cd_law_like, b_law_like⟩ := df_of (x := "_law_like") (st := s_law_like) (ps := ["told", "due"]) X G c2 18 rfl rfl fun _ _ _ _ _ _ us hl => match us, hl with | [_, _], _ => rfl
  obtain ⟨d_law_common, D_law_common, cd_law_common, b_law_common⟩ := df_of (x := "_law_common") (st := s_law_common) (ps := ["numbers"]) X G c2 19 rfl rfl fun _ _ _ _ _ _ us hl => match us, hl with | [_], _ => rfl
  obtain ⟨d_law_lowered, D_law_lowered, cd_law_lowered, b_law_lowered⟩ := df_of (x := "_law_lowered") (st := s_law_lowered) (ps := ["numbers"]) X G c2 20 rfl rfl fun _ _ _ _ _ _ us hl => match us, hl with | [_], _ => rfl
  obtain ⟨d_law_point, D_law_point, cd_law_point, b_law_point⟩ := df_of (x := "_law_point") (st := s_law_point) (ps := ["numbers", "bottom"]) X G c2 21 rfl rfl fun _ _ _ _ _ _ us hl => match us, hl with | [_, _], _ => rfl
  obtain ⟨d_law_rowed, D_law_rowed, cd_law_rowed, b_law_rowed⟩ := df_of (x := "_law_rowed") (st := s_law_rowed) (ps := ["numbers", "bottom"]) X G c2 22 rfl rfl fun _ _ _ _ _ _ us hl => match us, hl with | [_, _], _ => rfl
  obtain ⟨d_law_total, D_law_total, cd_law_total, b_law_total⟩ := df_of (x := "_law_total") (st := s_law_total) (ps := ["row", "point_so"]) X G c2 23 rfl rfl fun _ _ _ _ _ _ us hl => match us, hl with | [_, _], _ => rfl
  obtain ⟨d_law_drawn_row, D_law_drawn_row, cd_law_drawn_row, b_law_drawn_row⟩ := df_of (x := "_law_drawn_row") (st := s_law_drawn_row) (ps := ["m", "size", "span"]) X G c2 24 rfl rfl fun _ _ _ _ _ _ us hl => match us, hl with | [_, _, _], _ => rfl
  obtain ⟨d_law_system, D_law_system, cd_law_system, b_law_system⟩ := df_of (x := "_law_system") (st := s_law_system) (ps := ["m", "count_so", "many"]) X G c2 25 rfl rfl fun _ _ _ _ _ _ us hl => match us, hl with | [_, _, _], _ => rfl
  obtain ⟨d_law_stands, D_law_stands, cd_law_stands, b_law_stands⟩ := df_of (x := "_law_stands") (st := s_law_stands) (ps := ["word", "number"]) X G c2 26 rfl rfl fun _ _ _ _ _ _ us hl => match us, hl with | [_, _], _ => rfl
  obtain ⟨d_law_told, D_law_told, cd_law_told, b_law_told⟩ := df_of (x := "_law_told") (st := s_law_told) (ps := ["call"]) X G c2 28 rfl rfl fun _ _ _ _ _ _ us hl => match us, hl with | [_], _ => rfl
  obtain ⟨d_law_bent, D_law_bent, cd_law_bent, b_law_bent⟩ := df_of (x := "_law_bent") (st := s_law_bent) (ps := ["m", "count_so", "system_so"]) X G c2 29 rfl rfl fun _ _ _ _ _ _ us hl => match us, hl with | [_, _, _], _ => rfl
  obtain ⟨d_law_systems_right, D_law_systems_right, cd_law_systems_right, b_law_systems_right⟩ := df_of (x := "_law_systems_right") (st := s_law_systems_right) (ps := ["m", "count_so", "system_so"]) X G c2 30 rfl rfl fun _ _ _ _ _ _ us hl => match us, hl with | [_, _, _], _ => rfl
  obtain ⟨d_law, D_law, cd_law, b_law⟩ := df_of (x := "law") (st := s_law) (ps := ["script"]) X G c2 31 rfl rfl fun _ _ _ _ _ _ us hl => match us, hl with | [_], _ => rfl
  have e := hfa.symm.trans D_law.gm
  have e2 : f = He.ga K "law" := by injection e with e; injection e
  subst e2
  refine ⟨d_law, fun s u => b_law s [u] rfl, fun base TB => ?_⟩
  have LTj : ∃ c Pt, LamX.TabB base mg c Pt ∧ d_law_systems_right.code = .ref c ∧ (Pt, lamQ "_law_systems_right") ∈ TTof K ∧ ∀ p ∈ TTof K, p.1 = Pt → p.2 = lamQ "_law_systems_right" := ⟨_, _, TB (cJ K) (by simp), cd_law_systems_right, by simp [TTof], fun p hp e => by
    simp only [TTof, List.mem_cons, List.not_mem_nil, or_false] at hp
    rcases hp with rfl | rfl
    · rfl
    · exact absurd e.symm hne⟩
  have LTh : ∃ c Pt, LamX.TabB base mg c Pt ∧ d_law.code = .ref c ∧ (Pt, lamQ "law") ∈ TTof K ∧ ∀ p ∈ TTof K, p.1 = Pt → p.2 = lamQ "law" := ⟨_, _, TB (cH K) (by simp), cd_law, by simp [TTof], fun p hp e => by
    simp only [TTof, List.mem_cons, List.not_mem_nil, or_false] at hp
    rcases hp with rfl | rfl
    · exact absurd e hne
    · rfl⟩
  have h_is_int : Cal P w K mg base "is_int" s_is_int ["value"] 1 (sp_is_int K) _ d_is_int := ok_is_int T C D_is_int 
  have h_sign_of : Cal P w K mg base "sign_of" s_sign_of ["number"] 1 (sp_sign_of K) _ d_sign_of := ok_sign_of T C D_sign_of 
  have h_shared_divisor : Cal P w K mg base "shared_divisor" s_shared_divisor ["integers"] 1 (sp_shared_divisor K) _ d_shared_divisor := ok_shared_divisor T C D_shared_divisor 
  have h_fault_in_integers : Cal P w K mg base "fault_in_integers" s_fault_in_integers ["count", "value"] 2 (sp_fault_in_integers K) _ d_fault_in_integers := ok_fault_in_integers T C D_fault_in_integers h_is_int h_shared_divisor
  have h_check_point : CalX P w K mg base "check_point" s_check_point ["size", "value"] 3 (sp_check_point K _) _ d_check_point := ok_check_point T C TP D_check_point h_fault_in_integers
  have h_is_row : Cal P w K mg base "is_row" s_is_row ["size", "value"] 3 (sp_is_row K) _ d_is_row := ok_is_row T C D_is_row h_fault_in_integers
  have h_top_at : Cal P w K mg base "top_at" s_top_at ["row", "point"] 1 (sp_top_at K) _ d_top_at := ok_top_at T C D_top_at 
  have h_row_sign : Cal P w K mg base "row_sign" s_row_sign ["row", "point"] 2 (sp_row_sign K) _ d_row_sign := ok_row_sign T C D_row_sign h_sign_of h_top_at
  have h_is_pair : Cal P w K mg base "is_pair" s_is_pair ["count", "value"] 4 (sp_is_pair K) _ d_is_pair := ok_is_pair T C D_is_pair h_is_row
  have h_check_pairs : CalX P w K mg base "check_pairs" s_check_pairs ["count", "most", "value"] 5 (sp_check_pairs K _) _ d_check_pairs := ok_check_pairs T C TS D_check_pairs h_is_pair
  have h_check_system : CalX P w K mg base "check_system" s_check_system ["count", "system"] 6 (sp_check_system K _) _ d_check_system := ok_check_system T C TS D_check_system h_check_pairs
  have h_pair_holds : Cal P w K mg base "pair_holds" s_pair_holds ["pair", "point"] 3 (sp_pair_holds K) _ d_pair_holds := ok_pair_holds T C D_pair_holds h_row_sign
  have h_first_false : Cal P w K mg base "first_false" s_first_false ["system", "point"] 4 (sp_first_false K) _ d_first_false := ok_first_false T C D_first_false h_pair_holds
  have h_first_broken : CalX P w K mg base "first_broken" s_first_broken ["count", "system", "point"] 7 (sp_first_broken K (He.ga K "NotSystem") (He.ga K "NotPoint")) _ d_first_broken := ok_first_broken T C D_first_broken h_check_system h_first_false h_check_point
  have h_holds_all : CalX P w K mg base "holds_all" s_holds_all ["count", "system", "point"] 8 (sp_holds_all K (He.ga K "NotSystem") (He.ga K "NotPoint")) _ d_holds_all := ok_holds_all T C D_holds_all h_first_broken
  have h_law_begun : Cal P w K mg base "_law_begun" s_law_begun ["script", "k"] 1 (sp_law_begun K) _ d_law_begun := ok_law_begun T D_law_begun 
  have h_law_draw : Cal P w K mg base "_law_draw" s_law_draw ["m", "bound"] 1 (sp_law_draw K) _ d_law_draw := ok_law_draw T D_law_draw 
  have h_law_of : Cal P w K mg base "_law_of" s_law_of ["m", "some"] 2 (sp_law_of K) _ d_law_of := ok_law_of T D_law_of h_law_draw
  have h_law_like : Cal P w K mg base "_law_like" s_law_like ["told", "due"] 1 (sp_law_like K) _ d_law_like := ok_law_like T D_law_like 
  have h_law_common : Cal P w K mg base "_law_common" s_law_common ["numbers"] 1 (sp_law_common K) _ d_law_common := ok_law_common T C D_law_common 
  have h_law_lowered : Cal P w K mg base "_law_lowered" s_law_lowered ["numbers"] 2 (sp_law_lowered K) _ d_law_lowered := ok_law_lowered T C D_law_lowered h_law_common
  have h_law_point : Cal P w K mg base "_law_point" s_law_point ["numbers", "bottom"] 3 (sp_law_point K) _ d_law_point := ok_law_point T C D_law_point h_law_lowered
  have h_law_rowed : Cal P w K mg base "_law_rowed" s_law_rowed ["numbers", "bottom"] 3 (sp_law_rowed K) _ d_law_rowed := ok_law_rowed T C D_law_rowed h_law_lowered
  have h_law_total : Cal P w K mg base "_law_total" s_law_total ["row", "point_so"] 1 (sp_law_total K) _ d_law_total := ok_law_total T C D_law_total 
  have h_law_drawn_row : Cal P w K mg base "_law_drawn_row" s_law_drawn_row ["m", "size", "span"] 4 (sp_law_drawn_row K) _ d_law_drawn_row := ok_law_drawn_row T C D_law_drawn_row h_law_draw h_law_rowed h_law_of
  have h_law_system : Cal P w K mg base "_law_system" s_law_system ["m", "count_so", "many"] 5 (sp_law_system K) _ d_law_system := ok_law_system T C D_law_system h_law_draw h_law_drawn_row h_law_of h_law_rowed
  have h_law_stands : Cal P w K mg base "_law_stands" s_law_stands ["word", "number"] 1 (sp_law_stands K) _ d_law_stands := ok_law_stands T C D_law_stands 
  have h_law_bent : Cal P w K mg base "_law_bent" s_law_bent ["m", "count_so", "system_so"] 3 (sp_law_bent K) _ d_law_bent := ok_law_bent T C D_law_bent h_law_draw h_law_of
  have h_law_systems_right : Cal P w K mg base "_law_systems_right" s_law_systems_right ["m", "count_so", "system_so"] 14 (sp_law_systems_right K (TTof K)) _ d_law_systems_right := ok_law_systems_right T C D_law_systems_right TS TP ne D_law_told LTj h_law_like h_check_system h_law_bent h_holds_all h_first_broken h_law_point h_law_draw h_law_stands h_law_total h_law_of
  have h_law : Cal P w K mg base "law" s_law ["script"] 16 (sp_law K (TTof K)) _ d_law := ok_law T C D_law TS TP ne D_law_told LTh h_law_begun h_law_draw h_law_systems_right h_law_system h_check_system h_holds_all h_law_like
  exact h_law.G
end V1
set_option Elab.async false
set_option linter.all false
set_option maxRecDepth 100000
set_option maxHeartbeats 0
open PySem PySem.W PySem.Calls PyProof.Rows
theorem PySem.Challenge.cw_everyfont_k12_systems_judged_holds : PySem.Challenge.rw_everyfont_k12_systems_judged.Holds := by
  w_on; o_law
  refine HandSHeadRun.head_imp (r := OpenLaw.row PySem.Challenge.rw_everyfont_k12_systems_judged) (q := V1.qM) (H := V1.hkM) (ob := V1.obM) (M := 4000) (loose := V1.looseM) (d := HandSHeadRun.topDef (OpenLaw.row PySem.Challenge.rw_everyfont_k12_systems_judged).prog 43) (kwd := []) V1.obM_eq
    V1.runM (by kernel_rfl) (by kernel_rfl) (by kernel_rfl) (by rfl) (by first | assumption | decide +kernel) (by decide +kernel) ⟨rfl, rfl, rfl, rfl, rfl, by decide +kernel⟩ ?hw ?hc
  case hw => w_witness2
  case hc =>
    refine V1.walkGT (l := PySem.Challenge.rw_everyfont_k12_systems_judged) (n := 63) (k := 16) (x := "script") rfl (by decide) (by kernel_rfl) ⟨rfl, by decide, by decide⟩ ?F
    intro w mg fa h Y G hmg0
    obtain ⟨K, KX, c⟩ := Y
    have c : He.SaysX V1.faH V1.fnH [] V1.tfH V1.obsB w h K := c
    have hmg : mg ("law" : PySem.Str) = some (.ref fa) := by
      have e : (HandSHeadRun.topDef (OpenLaw.row PySem.Challenge.rw_everyfont_k12_systems_judged).prog 43).name = ("law" : PySem.Str) := by kernel_rfl
      rw [← e]
      exact hmg0
    obtain ⟨fd, hb, hF⟩ := V1.all_ok (P := (PySem.Challenge.rw_everyfont_k12_systems_judged).prog) (w := w) KX G hmg c
    have mt : ∀ p ∈ [V1.cJ K, V1.cH K], ∃ q ∈ V1.tfH, p = He.cT K q := fun p hp => by
      simp only [List.mem_cons, List.not_mem_nil, or_false] at hp
      rcases hp with rfl | rfl
      · exact ⟨_, by simp [V1.tfH], rfl⟩
      · exact ⟨_, by simp [V1.tfH], rfl⟩
    refine ⟨K, fd, V1.sp_law K (V1.TTof K), [V1.cJ K, V1.cH K], KX, ⟨fun p hp => ?_, fun p hp => ?_, fun p hp => ?_⟩, hb, fun H a ns hl ht hS => ⟨a, ns, rfl, hl, hS, fun p hp => ?_, fun _ => rfl⟩, fun base _ _ TB => hF base TB⟩
    · obtain ⟨q, hq, rfl⟩ := mt p hp
      exact c.empty q hq
    · obtain ⟨q, hq, rfl⟩ := mt p hp
      exact c.out q hq
    · obtain ⟨q, hq, rfl⟩ := mt p hp
      exact PySem.W.codeHd_of_K KX (c.hd q hq)
    · have e : H p.1 = some (.tbl #[]) := by
        simp only [V1.TTof, List.mem_cons, List.not_mem_nil, or_false] at hp
        rcases hp with rfl | rfl
        · exact ht (V1.cJ K) (by simp)
        · exact ht (V1.cH K) (by simp)
      exact ⟨#[], e, V1.trip0, fun pos cv hc => by simp [codeAmong] at hc⟩
