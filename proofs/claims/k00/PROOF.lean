import PyProof.Rows.All
import Wide.All
import OpenK.AllK
import Wide.FinOn
import KE.KMathGC
import KE.GoesEnum
import PyProof.ReprRoads
import HandS.ForMost
import HandS.Zip
import HandS.Wide
import HandS.Gcd
import HandS.TupAny
import HandS.HeadEnd
import HandS.HeadHook2
import HandS.Lambda
import HandS.ExcInit
import HandS.ExcValue
import HandS.IsInst
import KE.DataMinMax
import HandS.SortKw
import HandS.More
import HandS.NoneIn
import HandS.Defaults
import HandS.ExcOwn
import HandS.WordsExc
import KE.KDflt
import HandS.ExcField
import HandS.EndTab
import HandS.HeadWalk
import HandS.TupMul
import KE.KExcIs
import HandS.Words
import HandS.Head0
import HandS.Head1
import HandS.Head2
import HandS.Head3
import HandS.HeadHook1
import HandS.HeadHook3
import HandS.HeadHook4
import PySem.Challenge.RW_everyfont_k00_numbers_and_errors
set_option Elab.async false
set_option linter.all false
set_option maxRecDepth 100000
set_option maxHeartbeats 4000000
/-! The hand layer with the running guards told (repr asks them); zip and enumerate over lists and tuples alike; repr of data; lcm; a list's item read for an augmented store. -/
namespace V1
open PySem PySem.Spec PyProof.Rows L2

/-- a def's promise where no guarded built-in runs further out -/
structure FnG (P : Program) (w : World) (K : PySem.W.Frag) (mg : Str → Option Value) (base : Heap) (k : Nat) (f : Addr) (fd : FuncData) (ps : List Str) (sp : Sp) : Prop where
  len : ∀ vs H Q E, sp vs H Q E → vs.length = ps.length
  run : ∀ (A : Around) (outer : List Env) (s : Shared) (H : Hp) (args : Args) (us : List Value) (vs : List V) (Q : VK) (E : XK), A.guards = some [] → Room k A →
    Env0 P w K mg base A outer s H → BindsTo s fd args (ps.zip us) → Vals vs us → sp vs H Q E → codeAny (model P w) A (.call (.ref f) args) (CR CX0 outer P w H s Q E) s
section
variable {P : Program} {w : World} {K : PySem.W.Frag} {mg : Str → Option Value} {base : Heap}
theorem FnG.mono {j k : Nat} {f : Addr} {fd : FuncData} {ps : List Str} {sp : Sp} (F : FnG P w K mg base j f fd ps sp) (h : j ≤ k) : FnG P w K mg base k f fd ps sp :=
  ⟨F.len, fun A outer s H args us vs Q E hg hr => F.run A outer s H args us vs Q E hg (hr.mono h)⟩
theorem okG {x qual : Str} {st : Stmt} {f : Addr} {fd : FuncData} {N ps : List Str} {k : Nat} {sp : Sp} (F : Fun K x qual st f fd) (S : FnScope N ps (defScope st)) (hlen : ∀ vs H Q E, sp vs H Q E → vs.length = ps.length)
    (bd : ∀ (cdv : Value) (A : Around) (outer : List Env) (s : Shared) (H : Hp) (vs : List V) (Q : VK) (E : XK), A.guards = some [] → Room k (A.deeper (envOfC qual (defScope st) s.heap.objs.size f cdv)) → sp vs H Q E →
      ∃ t, PSs (cxOf CX0 P w K mg base N qual (defScope st) f cdv A outer s H E).nox (defBody st) t ∧ t { nx := fun _ H' => Q .non H', rt := Q } (start N vs) H) : FnG P w K mg base (k + 1) f fd ps sp := by
  obtain ⟨oc, od, kV, doc, pm, an, cdv, ct, osl, rfl, lk, hcd⟩ := F.ex
  refine ⟨hlen, fun A outer s H args us vs Q E hgd hr e0 hb r hs0 => ?_⟩
  have ll := hlen _ _ _ _ hs0
  have kin : K.In s.heap := e0.mod.kin.keeps (fun b o z => (e0.bs b o z).1)
  have nl : s.heap.NoLimit := e0.mod.nolimit.keeps (fun b o z => (e0.bs b o z).1)
  refine codeAny_call_function hr.depth (kin _ _ lk) rfl S.co S.gen rfl (PySem.W.codeRec_of kin hcd) (hb _ _ _ _ ?_)
  refine wpAny_newFunctionEnv_cells S.kind (fun ⟨n, v⟩ hy => ?_) (fun env he s1 x => ?_)
  · rcases S.par n (List.of_mem_zip hy).1 with q | q
    · exact Or.inl q
    · exact Or.inr ⟨q, PySem.W.cellsFrom_some _ _ _ (Or.inl q)⟩
  subst he
  refine ⟨nl.keeps x.toInCall.keep, codeAny_func ?_⟩
  obtain ⟨t, ht, hq⟩ := bd cdv A outer s H vs Q E hgd (hr.deeper _) hs0
  have I := inv_start (CX := CX0) (E := E) S hr.hd e0 ll r x
  refine wpAny_mono (ht.nox.run [] s1 (start N vs) H _ I hq) (fun fl s2 z => ?_) (fun e s2 z => z)
  cases fl with
  | ret u =>
    obtain ⟨v, σ2, H2, J, rv, q⟩ := z
    exact ⟨v, H2, J.os, J.bare, J.base, J.hok, rv, q⟩
  | next =>
    obtain ⟨σ2, H2, J, q⟩ := z
    exact ⟨V.non, H2, J.os, J.bare, J.base, J.hok, rfl, q⟩
  | brk =>
    obtain ⟨_, _, _, q⟩ := z
    exact q.elim
  | cont =>
    obtain ⟨_, _, _, q⟩ := z
    exact q.elim
end
/-- the guards reach a def's body -/
theorem gd_of {P : Program} {w : World} {K : PySem.W.Frag} {mg : Str → Option Value} {base : Heap} {N : List Str} {q : Str} {sc : Scope} {f : Addr} {cd : Value} {A : Around} {outer : List Env} {s : Shared} {H : Hp} {E : XK} (h : A.guards = some []) :
    (cxOf CX0 P w K mg base N q sc f cd A outer s H E).nox.A.guards = some [] := h
section
variable {X : Cx} {k : Nat} {f : Addr} {fd : FuncData} {ps ks : List Str} {sp : Sp} {E : XK} {x : Str} {p pos : Pos} {e : Expr} {es : List Expr} {kws : List Keyword} {t tk : TA} {g : List Value → List Value → List Value} {gV : List V → List V → List V}
theorem fall {pins : List (Addr × Obj)} {σ : L2.St} {H : Hp} {s : Shared} (I : L2.Inv X pins σ H s) {Q : VK} {r : Result} {s2 : Shared} (hq : CR CX0 X.stack X.prog X.w H s Q E r s2) : ∃ u, r = .ok (.ret u) ∧ EP X pins σ Q u s2 := by
  cases r with
  | error z => exact False.elim hq
  | ok fl =>
    cases fl with
    | ret u => exact ⟨u, rfl, I.after hq⟩
    | next => exact False.elim hq
    | brk => exact False.elim hq
    | cont => exact False.elim hq
theorem runG {pins : List (Addr × Obj)} {σ : L2.St} {H : Hp} {s : Shared} {Q : VK} {us : List Value} {vs : List V} (F : FnG X.prog X.w X.K X.mg X.base k f fd ps sp) (hgd : X.A.guards = some []) (hr : Room k X.A) (hb : Binds X.K fd ps [])
    (I : L2.Inv X pins σ H s) (r : Vals vs us) (h : sp vs H Q E) : wpAny (model X.prog X.w) X.A (call (.ref f) us) (EP X pins σ Q) X.xe s := by
  have hl : (us ++ []).length = ps.length := by rw [List.append_nil, ← r.length]; exact F.len _ _ _ _ h
  have hb2 := hb s us I.kIn hl
  rw [List.append_nil] at hb2
  refine wpAny_call (codeAny_mono (F.run X.A X.stack s H ⟨us, []⟩ us vs Q E hgd hr I.env0 hb2 r h) fun r2 s2 hq => ?_)
  obtain ⟨u, rfl, z⟩ := fall I hq
  exact z
theorem runGk {pins : List (Addr × Obj)} {σ : L2.St} {H : Hp} {s : Shared} {Q : VK} {us ws : List Value} {vs zs : List V} (F : FnG X.prog X.w X.K X.mg X.base k f fd ps sp) (hgd : X.A.guards = some []) (hr : Room k X.A) (hb : KBinds X.K fd ps ks g gV)
    (I : L2.Inv X pins σ H s) (r : Vals vs us) (rz : Vals zs ws) (h : sp (gV vs zs) H Q E) : wpAny (model X.prog X.w) X.A (call (.ref f) us (ks.zip ws)) (EP X pins σ Q) X.xe s := by
  have r2 := hb.rel r rz
  have hl : (g us ws).length = ps.length := by rw [← r2.length]; exact F.len _ _ _ _ h
  refine wpAny_call (codeAny_mono (F.run X.A X.stack s H ⟨us, ks.zip ws⟩ (g us ws) (gV vs zs) Q E hgd hr I.env0 (hb.to s us ws I.kIn hl) r2 h) fun r3 s2 hq => ?_)
  obtain ⟨u, rfl, z⟩ := fall I hq
  exact z
theorem pe_fn (F : FnG X.prog X.w X.K X.mg X.base k f fd ps sp) (hgd : X.A.guards = some []) (hr : Room k X.A) (hg : Gl X x) (hm : X.mg x = some (.ref f)) (hk : PySem.W.keepIn X.K (.ref f) = true) (hb : Binds X.K fd ps [])
    (ha : PA X (e :: es) t) (hdb : (x == ("__debug__" : Str)) = false := by decide) (he : starEach (e :: es) X.env = (false, eval e X.env) :: starEach es X.env := by rfl) (hpl : (backTo pos (starEach es X.env)).any (·.1) = false := by rfl) :
    PE X (.Call (.Name x p) (e :: es) [] pos) (tCall sp [] E t) := by
  refine ⟨fun pins s σ H Q I h => ?_⟩
  refine wpAny_Call_Name_kw (ld_glob I hg hm ?_ hdb)
  refine PySem.W.callWith_K (h₀ := X.base) I.ok.mod.kin hk (thn (ha.run pos pins s σ H _ I h) fun us s1 ⟨vs, H1, I1, r, q⟩ => ⟨I1.kIn, ?_⟩) he hpl
  have q2 : sp (vs ++ []) H1 Q E := q
  rw [List.append_nil] at q2
  exact runG F hgd hr hb I1 r q2
theorem pe_fn0 (F : FnG X.prog X.w X.K X.mg X.base k f fd ps sp) (hgd : X.A.guards = some []) (hr : Room k X.A) (hg : Gl X x) (hm : X.mg x = some (.ref f)) (hk : PySem.W.keepIn X.K (.ref f) = true) (hb : Binds X.K fd ps [])
    (hdb : (x == ("__debug__" : Str)) = false := by decide) : PE X (.Call (.Name x p) [] [] pos) (tCall sp [] E tNil) := by
  refine ⟨fun pins s σ H Q I h => ?_⟩
  refine wpAny_Call_Name_kw (ld_glob I hg hm ?_ hdb)
  exact PySem.W.callWith_K0 I.kIn hk (runG (us := []) F hgd hr hb I .nil h)
/-- f(k = v, ..), keywords alone -/
theorem pe_fnk (F : FnG X.prog X.w X.K X.mg X.base k f fd ps sp) (hgd : X.A.guards = some []) (hr : Room k X.A) (hg : Gl X x) (hm : X.mg x = some (.ref f)) (hk : PySem.W.keepIn X.K (.ref f) = true) (hb : KBinds X.K fd ps ks g gV)
    (hkw : PK X kws tk) (hall : (backToKw pos (keywordEach kws X.env)).all (·.1.isSome) = true := by rfl) (hks : (backToKw pos (keywordEach kws X.env)).filterMap (·.1) = ks := by rfl)
    (hdb : (x == ("__debug__" : Str)) = false := by decide)
    (hpl : ((backTo pos (starEach [] X.env)).any (·.1) || (backToKw pos (keywordEach kws X.env)).any (·.1.isNone)) = false := by rfl) :
    PE X (.Call (.Name x p) [] kws pos) (tCallK sp gV E tNil tk) := by
  refine ⟨fun pins s σ H Q I h => ?_⟩
  refine wpAny_Call_Name_kw (ld_glob I hg hm ?_ hdb)
  refine PySem.W.callWith_KW0 (h₀ := X.base) I.ok.mod.kin hk hall ?_ hpl
  refine thn (hkw.run pos pins s σ H _ I h) fun ws s2 ⟨zs, H2, I2, rz, q2⟩ => ⟨I2.kIn, ?_⟩
  rw [hks]
  exact runGk (us := []) F hgd hr hb I2 .nil rz q2
end

/-! ### repr of data, lcm, a list's item read -/
section
variable {X : Cx}
def rRepr (K : PySem.W.Frag) : List V → Hp → VK → Prop := fun vs H Q => ∃ (a : Addr) (d : PyData), vs = [.ref a] ∧ Dp K H (.ref a) d ∧ d.showable = true ∧ d.hasDict = false ∧ d.depth ≤ 60 ∧ d.shown.length ≤ sizeLine ∧ Q (.str d.shown) H
theorem call_repr (hgd : X.A.guards = some []) (hu : X.A.units + 64 < cLine) : CallR X (.builtin "repr") (rRepr X.K) := by
  intro pins s σ H vs us Q I r h
  obtain ⟨a, d, rfl, hd, h1, h2, h3, h4, q⟩ := h
  cases r with
  | cons r rr =>
    cases rr
    obtain rfl := r
    obtain ⟨as, rd⟩ := Dp.reads I d _ _ hd rfl
    refine repr_of_reads' (h₀ := s.heap) rd h1 (PyData.noDict_hsm h2) hgd (by omega) (fun _ _ z => z) (fun h' u tk hk => ?_) h4
    exact ⟨.str _, H, I.kept (t' := tk) hk, ⟨_, rfl⟩, q⟩
def rLcm : List V → Hp → VK → Prop := fun vs H Q => ∃ a b : Int, vs = [.int a, .int b] ∧ a.natAbs < 2 ^ 64 ∧ b.natAbs < 2 ^ 64 ∧ Q (.int ((Nat.lcm a.natAbs b.natAbs : Nat) : Int)) H
theorem call_lcm : CallR X (.builtin "math.lcm") rLcm := by
  intro pins s σ H vs us Q I r h
  obtain ⟨a, b, rfl, h1, h2, q⟩ := h
  obtain ⟨t, u, rfl⟩ := Vals.int2 r
  exact PySem.W.mc_lcm h1 h2 fun _ => ⟨.int _, H, I.tok _, ⟨_, rfl⟩, q⟩
theorem pget_list : PGet X (rIxL X.K) := by
  intro pins s σ H x y v u Q I rx ry h
  obtain ⟨p, xs, i, z, rfl, rfl, hq, he, q⟩ := h
  cases rx
  obtain ⟨t, rfl⟩ := ry
  obtain ⟨its, r, pl, hz⟩ := I.list hq
  obtain ⟨j, h1, h2, h3, h4, h5⟩ := atI_get he
  obtain ⟨w, ew, rw1⟩ := r.get h2
  have hl := r.length
  have hn := line63
  have last : EP X pins σ Q w s := ⟨z, H, I, rw1, q⟩
  by_cases h0 : 0 ≤ i
  · have hj : i.toNat = j := by
      rw [seqIndex_of h0 h5] at h1
      exact Option.some.inj h1
    exact wpAny_getItem_list pl.isList h0 (by omega) (by rw [hj]; simpa using ew) last
  · have hj : (i + (its.toArray.size : Int)).toNat = j := by
      rw [seqIndex_neg (by omega) h4] at h1
      rw [List.size_toArray, ← hl]
      exact Option.some.inj h1
    exact wpAny_getItem_list_neg pl.isList (by omega) (by rw [List.size_toArray] <;> omega) (by omega) (by rw [hj]; simpa using ew) last
end

/-! ### zip, enumerate: lists and tuples in any mix -/
/-- a list (true) or a tuple (false) -/
def Sq (K : PySem.W.Frag) : Bool → Hp → Addr → List V → Prop
  | true => SqL K
  | false => SqT K
def HSq (h : Heap) : Bool → Addr → Array Value → Prop
  | true => h.IsList
  | false => h.IsTuple
def HIt (h : Heap) : Bool → Addr → Addr → Nat → Prop
  | true => h.IsListIter
  | false => h.IsTupleIter
def itO : Bool → Addr → Obj
  | true, l => { cls := .type "list_iterator", data := .fields #[.ref l, .int 0 0] }
  | false, l => { cls := .type "tuple_iterator", data := .fields #[.ref l, .int 0 0] }
theorem hit_at {h h' : Heap} {k : Bool} {it a : Addr} {i : Nat} (x : HIt h k it a i) (e : ∀ o, h.get? it = some o → h'.get? it = some o) : HIt h' k it a i := by
  cases k with
  | true => exact Heap.IsListIter.at x e
  | false => exact Heap.IsTupleIter.at x e
theorem hit_obj {h : Heap} {k : Bool} {it a : Addr} {i : Nat} (x : HIt h k it a i) : ∃ o, h.get? it = some o ∧ ∀ v, o.data ≠ .cell v := by
  cases k with
  | true => obtain ⟨o, e, _, d⟩ := x; exact ⟨o, e, fun v z => by rw [d] at z; cases z⟩
  | false => obtain ⟨o, e, _, d⟩ := x; exact ⟨o, e, fun v z => by rw [d] at z; cases z⟩
theorem hit_0 {h : Heap} {k : Bool} {it a : Addr} (x : h.get? it = some (itO k a)) : HIt h k it a 0 := by
  cases k with
  | true => exact ⟨_, x, rfl, rfl⟩
  | false => exact ⟨_, x, rfl, rfl⟩
theorem bgn (k : Bool) (a : Addr) (items : Array Value) : Begins (.ref a) (itO k a) fun h => HSq h k a items := by
  cases k with
  | true => exact begins_list a items
  | false => exact begins_tuple a items
theorem drw {prog : Program} {w : World} {A : Around} (hh : A.handled = none) (k : Bool) (it a : Addr) (ne : a ≠ it) (items : Array Value) :
    Draws prog w A it [it, a] items.size (fun i v => items[i]? = some v) (fun i h => HIt h k it a i ∧ HSq h k a items) := by
  cases k with
  | true => exact Draws.list hh it a ne items
  | false => exact Draws.tuple hh it a ne items
section
variable {X : Cx} {pins : List (Addr × Obj)} {σ : L2.St} {H : Hp} {s : Shared} {k : Bool} {a : Addr} {xs ys : List V}
theorem inv_sq (I : L2.Inv X pins σ H s) (h : Sq X.K k H a xs) : ∃ its : List Value, Vals xs its ∧ HSq s.heap k a its.toArray ∧ a < s.heap.objs.size := by
  cases k with
  | true =>
    obtain ⟨its, r, p, _⟩ := I.list h
    exact ⟨its, r, p.isList, p.lt⟩
  | false =>
    obtain ⟨its, r, p, _⟩ := I.tuple h
    exact ⟨its, r, p, p.lt⟩
theorem sq_inj (I : L2.Inv X pins σ H s) (h : Sq X.K k H a xs) (h' : Sq X.K k H a ys) : xs = ys := by
  cases k with
  | true => exact I.list_inj h h'
  | false => exact I.tuple_inj h h'
end
/-- what zip walks -/
def ItP (K : PySem.W.Frag) (k1 : Bool) (a : Addr) (k2 : Bool) (b : Addr) : It :=
  ⟨fun i H => ∃ xs ys x y, Sq K k1 H a xs ∧ Sq K k2 H b ys ∧ xs[i]? = some x ∧ ys[i]? = some y,
   fun i H v H' => ∃ T x y, v = V.ref T ∧ H T = none ∧ H' = upd H T (.tup [x, y]) ∧ (∀ l, Sq K k1 H a l → l[i]? = some x) ∧ ∀ l, Sq K k2 H b l → l[i]? = some y,
   fun i H => ∃ xs ys, Sq K k1 H a xs ∧ Sq K k2 H b ys ∧ i ≤ xs.length ∧ i ≤ ys.length ∧ (i = xs.length ∨ i = ys.length)⟩
theorem turn_zipP {P : Program} {w : World} {K : PySem.W.Frag} {elts : List Expr} {kk : Nat} {tpos : Pos} {k1 k2 : Bool} {a b z TI TO i1 i2 : Addr} (S : ZipSep2 z TI TO i1 i2 [i1, a] [i2, b]) (n1 : a ≠ i1) (n2 : b ≠ i2) :
    Turn P w K (.Tuple elts kk tpos) (ItP K k1 a k2 b) [z, TI, TO, i1, i2] z (fun i h => IsZip h z TI TO .none ∧ IsTupOf2 h TI (.ref i1) (.ref i2) ∧ (∃ x y, IsTupOf2 h TO x y) ∧ HIt h k1 i1 a i ∧ HIt h k2 i2 b i) where
  mem := by simp
  obj := fun i h st c hc => by
    obtain ⟨hz, hTI, ⟨x, y, hTO⟩, h1, h2⟩ := st
    have e' : c = z ∨ c = TI ∨ c = TO ∨ c = i1 ∨ c = i2 := by simpa using hc
    rcases e' with rfl | rfl | rfl | rfl | rfl
    · exact ⟨_, hz, fun v q => nomatch q⟩
    · exact ⟨_, hTI, fun v q => nomatch q⟩
    · exact ⟨_, hTO, fun v q => nomatch q⟩
    · exact hit_obj h1
    · exact hit_obj h2
  keep := fun i h h' st q => by
    obtain ⟨hz, hTI, ⟨x, y, hTO⟩, h1, h2⟩ := st
    exact ⟨q z (by simp) _ hz, q TI (by simp) _ hTI, ⟨x, y, q TO (by simp) _ hTO⟩, hit_at h1 fun o u => q i1 (by simp) o u, hit_at h2 fun o u => q i2 (by simp) o u⟩
  item := by
    intro X hP hw hK hc i pins s σ H E I hf st hg
    subst hP hw hK
    obtain ⟨hz, hTI, ⟨x0, y0, hTO⟩, h1, h2⟩ := st
    obtain ⟨xs, ys, x, y, hqx, hqy, hx, hy⟩ := hg
    obtain ⟨its, rv, p, _⟩ := inv_sq I hqx
    obtain ⟨its2, rv2, p2, _⟩ := inv_sq I hqy
    obtain ⟨u, hu, ru⟩ := rv.get hx
    obtain ⟨u2, hu2, ru2⟩ := rv2.get hy
    have hh : X.A.in1.handled = none := I.ok.hd hc
    have hzl : z < s.heap.objs.size := Heap.lt_size hz
    have lt1 : i < its.toArray.size := by rw [List.size_toArray]; exact (List.getElem?_eq_some_iff.mp hu).1
    have lt2 : i < its2.toArray.size := by rw [List.size_toArray]; exact (List.getElem?_eq_some_iff.mp hu2).1
    refine wpAny_pyNext_zipD2_item S (drw hh k1 i1 a n1 its.toArray) (drw hh k2 i2 b n2 its2.toArray) hz hTI hTO ⟨h1, p⟩ ⟨h2, p2⟩ lt1 lt2 fun v1 v2 h' tk e1 e2 hz' hTO' st1 st2 hT hsz hk => ?_
    obtain rfl : v1 = u := by
      have z1 : its.toArray[i]? = some v1 := e1
      simp at z1
      rw [hu] at z1
      exact (Option.some.inj z1).symm
    obtain rfl : v2 = u2 := by
      have z2 : its2.toArray[i]? = some v2 := e2
      simp at z2
      rw [hu2] at z2
      exact (Option.some.inj z2).symm
    refine ⟨_, rfl, wpAny_letOwnedTupleGo_zip (s := { s with heap := h', toks := tk }) hz' fun h'' hz'' sb => ?_⟩
    have hT2 : h''.get? s.heap.objs.size = some { cls := .type "tuple", data := .seq #[v1, v2] } := (sb.2 _ (Nat.ne_of_gt hzl)).trans hT
    have new : ObjOk X.prog X.w (upd H s.heap.objs.size (.tup [x, y])) h'' s.heap.objs.size (.tup [x, y]) :=
      ⟨by show 2 ≤ sizeLine; decide, [v1, v2], .cons ru (.cons ru2 .nil), ⟨_, hT2, rfl, _, rfl⟩⟩
    have I1 : L2.Inv X pins σ (upd H s.heap.objs.size (.tup [x, y])) { s with heap := h'', toks := tk } :=
      I.turnedNew (t' := tk) (ch := [z, TI, TO, i1, i2]) (fun c o hb q => (sb.2 c (fun q1 => hb (by simp [q1]))).trans (hk c o (fun q1 => hb (by simp [q1])) (fun q1 => hb (by simp [q1])) (fun q1 => hb (by simp [q1])) (fun q1 => hb (by simp [q1])) q)) hf (Nat.le_refl _) new
    refine ⟨.ref s.heap.objs.size, _, I1, rfl, ⟨_, x, y, rfl, I.hok.fresh (Nat.le_refl _), rfl, fun l hl => by rw [sq_inj I hl hqx]; exact hx, fun l hl => by rw [sq_inj I hl hqy]; exact hy⟩, ⟨hz'', ?_, ⟨v1, v2, ?_⟩, ?_, ?_⟩, fun c hcm => ?_⟩
    · exact (sb.2 _ S.TIz).trans (hk _ _ S.TIz S.TITO S.TIi1 S.TIi2 hTI)
    · exact (sb.2 _ S.TOz).trans hTO'
    · exact hit_at st1.1 fun o q => (sb.2 _ S.zi1.symm).trans q
    · exact hit_at st2.1 fun o q => (sb.2 _ S.zi2.symm).trans q
    · have hlt : c < s.heap.objs.size := by
        have e' : c = z ∨ c = TI ∨ c = TO ∨ c = i1 ∨ c = i2 := by simpa using hcm
        rcases e' with rfl | rfl | rfl | rfl | rfl
        · exact hzl
        · exact Heap.lt_size hTI
        · exact Heap.lt_size hTO
        · obtain ⟨_, q, _⟩ := hit_obj h1; exact Heap.lt_size q
        · obtain ⟨_, q, _⟩ := hit_obj h2; exact Heap.lt_size q
      rw [upd_ne (Nat.ne_of_lt hlt)]
      exact (hf c hcm).1
  done := by
    intro X hP hw hK hc i pins s σ H E I hf st hg
    subst hP hw hK
    obtain ⟨hz, hTI, ⟨x0, y0, hTO⟩, h1, h2⟩ := st
    obtain ⟨xs, ys, hqx, hqy, l1, l2, hend⟩ := hg
    obtain ⟨its, rv, p, _⟩ := inv_sq I hqx
    obtain ⟨its2, rv2, p2, _⟩ := inv_sq I hqy
    have m1 := rv.length
    have m2 := rv2.length
    have hh : X.A.in1.handled = none := I.ok.hd hc
    refine wpAny_pyNext_zipD2_end S (drw hh k1 i1 a n1 its.toArray) (drw hh k2 i2 b n2 its2.toArray) hz hTI hTO ⟨h1, p⟩ ⟨h2, p2⟩ (by rw [List.size_toArray] <;> omega) (by rw [List.size_toArray] <;> omega) (by rw [List.size_toArray, List.size_toArray] <;> omega) fun h' tk hk => ?_
    exact ⟨rfl, I.turnedL (t' := tk) (ch := [z, TI, TO, i1, i2]) (fun c o hb q => hk c o (fun q1 => hb (by simp [q1])) (fun q1 => hb (by simp [q1])) (fun q1 => hb (by simp [q1])) (fun q1 => hb (by simp [q1])) q) hf⟩
  self := fun A i s Q E st h => wpAny_pyIter_zip st.1 h
def iZipP (K : PySem.W.Frag) (k1 k2 : Bool) (ta : TA) : TI := fun σ H R => ta σ H fun vs H1 => ∃ a b xs ys, vs = [.ref a, .ref b] ∧ Sq K k1 H1 a xs ∧ Sq K k2 H1 b ys ∧ R (ItP K k1 a k2 b) H1
theorem pi_zipP {X : Cx} {e e2 : Expr} {ta : TA} {p pos tpos : Pos} {elts : List Expr} {kk : Nat} (k1 k2 : Bool) (hg : Gl X "zip") (hm : X.mg "zip" = none) (ha : PA X [e, e2] ta)
    (hs : starEach [e, e2] X.env = (false, eval e X.env) :: starEach [e2] X.env := by rfl) (hpl : (backTo pos (starEach [e2] X.env)).any (·.1) = false := by rfl) :
    PI X (.Tuple elts kk tpos) (.Call (.Name "zip" p) [e, e2] [] pos) (iZipP X.K k1 k2 ta) := by
  refine ⟨fun pins s σ H R I h => ?_⟩
  refine Call_ (ld_blt I hg hm PyProof.Rows.boot_zip (PyProof.Rows.callWith_type1 (thn (ha.run pos pins s σ H _ I h) fun us s1 ⟨vs, H1, I1, r1, q1⟩ => ?_) hs hpl))
  obtain ⟨a, b, xs, ys, rfl, hqx, hqy, q⟩ := q1
  cases r1 with
  | cons r rr =>
    cases rr with
    | cons r' rr =>
      cases rr
      obtain rfl := r
      obtain rfl := r'
      obtain ⟨its, rv, p1, la⟩ := inv_sq I1 hqx
      obtain ⟨its2, rv2, p2, lb⟩ := inv_sq I1 hqy
      refine zip_begins2 (bgn k1 a its.toArray) (bgn k2 b its2.toArray) p1 p2 fun h' hz hTI hTO g1 g2 hsz hk => wpAny_pyIter_zip hz ?_
      have I2 : L2.Inv X pins σ H1 { s1 with heap := h' } := I1.kept (t' := s1.toks) hk
      refine ⟨s1.heap.objs.size + 4, [s1.heap.objs.size + 4, s1.heap.objs.size + 2, s1.heap.objs.size + 3, s1.heap.objs.size, s1.heap.objs.size + 1], _, _, H1, rfl, I2,
        turn_zipP (k1 := k1) (k2 := k2) (zip_sep2 (fp1 := [a]) (fp2 := [b]) (by simpa using la) (by simpa using lb)) (Nat.ne_of_lt la) (Nat.ne_of_lt (Nat.lt_succ_of_lt lb)), ⟨hz, hTI, ⟨_, _, hTO⟩, hit_0 g1, hit_0 g2⟩, fun c hcm => ?_, q⟩
      have hle : s1.heap.objs.size ≤ c := by
        have e' : c = s1.heap.objs.size + 4 ∨ c = s1.heap.objs.size + 2 ∨ c = s1.heap.objs.size + 3 ∨ c = s1.heap.objs.size ∨ c = s1.heap.objs.size + 1 := by simpa using hcm
        have n0 := Nat.le_refl s1.heap.objs.size
        rcases e' with rfl | rfl | rfl | rfl | rfl
        · exact Nat.le_add_right _ _
        · exact Nat.le_add_right _ _
        · exact Nat.le_add_right _ _
        · exact n0
        · exact Nat.le_add_right _ _
      exact I1.fpOk hle (I1.hok.fresh hle)

/-! enumerate -/
set_option maxHeartbeats 1000000 in
theorem meets_enum1 {v : Value} {o : Obj} {Hh : Heap → Prop} (B : Begins v o Hh) :
    Meets (Builtin.«enumerate.__new__» ⟨[.type "enumerate", v], []⟩) (fun _ R s => Hh s.heap ∧
      R (.ok (.ret (.ref (s.heap.push o).objs.size))) { s with heap := (s.heap.push o).push { cls := .type "enumerate", data := .fields #[.none, .bool false, .ref s.heap.objs.size, rawInt 0, .none, .none] } }) :=
  .of_wp fun prog w A R s h => by
    obtain ⟨hp, g, d, tk, os⟩ := s; obtain ⟨h1, h⟩ := h
    have hsub := sub_enumerate
    have it1 : ∀ {A' : Around} {E : Value → Shared → Prop} {Q : Value → Shared → Prop}, Q (.ref hp.objs.size) ⟨hp.push o, g, d, tk, os⟩ → wpAny (model prog w) A' (pyIter v) Q E ⟨hp, g, d, tk, os⟩ :=
      fun q => B.iter prog w _ _ ⟨hp, g, d, tk, os⟩ _ h1 q
    wp_walk using it1
    refine wpAny_stack_any fun st => wpAny_pure ?_
    split
    · rename_i c _ _ _ _ _
      cases (c == Value.type "enumerate")
      · wp_walk using it1
        exact ⟨_, rfl, h⟩
      · wp_walk using it1
        exact ⟨_, rfl, h⟩
    · wp_walk using it1
      exact ⟨_, rfl, h⟩
theorem enum_begins1 {prog : Program} {w : World} {A : Around} {E : Value → Shared → Prop} {s : Shared} {v : Value} {o : Obj} {Hh : Heap → Prop} {Q : Value → Shared → Prop} (B : Begins v o Hh) (h1 : Hh s.heap)
    (h : ∀ h', IsEnum h' (s.heap.objs.size + 1) s.heap.objs.size 0 .none → h'.get? s.heap.objs.size = some o → (∀ b o, s.heap.get? b = some o → h'.get? b = some o) → Q (.ref (s.heap.objs.size + 1)) { s with heap := h' }) :
    wpAny (model prog w) A (call (.type "enumerate") [v]) Q E s := by
  refine callType_new F.called_enumerate (by decide) (F.typeCall_enumerate_1 _) (F.newCall_enumerate_1 _) (fun obj => F.args_object_init_2 obj _) F.entry_enumerate_new (meets_enum1 B) ⟨h1, ?_⟩
  have hz : (s.heap.push o).objs.size = s.heap.objs.size + 1 := Heap.size_push ..
  show _ ∧ _
  rw [hz]
  have he : IsEnum ((s.heap.push o).push { cls := .type "enumerate", data := .fields #[.none, .bool false, .ref s.heap.objs.size, rawInt 0, .none, .none] }) (s.heap.objs.size + 1) s.heap.objs.size 0 .none := by
    have q := Heap.get?_push_size (s.heap.push o) (o := { cls := .type "enumerate", data := .fields #[.none, .bool false, .ref s.heap.objs.size, rawInt 0, .none, .none] }) rfl
    rw [hz] at q; exact q
  exact ⟨⟨_, he, rfl⟩, h _ he (Heap.get?_push_of_some _ (Heap.get?_push_size _ B.free)) fun b o x => Heap.get?_push_of_some _ (Heap.get?_push_of_some _ x)⟩
def ItE (K : PySem.W.Frag) (k : Bool) (a : Addr) : It :=
  ⟨fun i H => ∃ xs x, Sq K k H a xs ∧ xs[i]? = some x,
   fun i H v H' => ∃ T x, v = V.ref T ∧ H T = none ∧ H' = upd H T (.tup [.int (i : Nat), x]) ∧ ∀ l, Sq K k H a l → l[i]? = some x,
   fun i H => ∃ xs, Sq K k H a xs ∧ i = xs.length⟩
theorem turn_enumP {P : Program} {w : World} {K : PySem.W.Frag} {elts : List Expr} {kk : Nat} {tpos : Pos} {k : Bool} {a e it : Addr} (ne : e ≠ it) (na : a ≠ it) (nea : e ≠ a) :
    Turn P w K (.Tuple elts kk tpos) (ItE K k a) [e, it] e (fun i h => (∃ old, IsEnum h e it ((i : Nat) : Int) old) ∧ HIt h k it a i) where
  mem := by simp
  obj := fun i h st b hb => by
    obtain ⟨⟨old, he⟩, hi⟩ := st
    have e' : b = e ∨ b = it := by simpa using hb
    rcases e' with rfl | rfl
    · exact ⟨_, he, fun v q => nomatch q⟩
    · exact hit_obj hi
  keep := fun i h h' st q => by
    obtain ⟨⟨old, he⟩, hi⟩ := st
    exact ⟨⟨old, q e (by simp) _ he⟩, hit_at hi fun o u => q it (by simp) o u⟩
  item := by
    intro X hP hw hK hc i pins s σ H E I hf st hg
    subst hP hw hK
    obtain ⟨⟨old, he⟩, hit⟩ := st
    obtain ⟨xs, x, hq, hx⟩ := hg
    obtain ⟨its, rv, p, _⟩ := inv_sq I hq
    obtain ⟨u, hu, ru⟩ := rv.get hx
    have hh : X.A.in1.handled = none := I.ok.hd hc
    have hel : e < s.heap.objs.size := Heap.lt_size he
    have hil : it < s.heap.objs.size := by obtain ⟨_, q, _⟩ := hit_obj hit; exact Heap.lt_size q
    have lt1 : i < its.toArray.size := by rw [List.size_toArray]; exact (List.getElem?_eq_some_iff.mp hu).1
    refine wpAny_pyNext_enum_itemC (drw hh k it a na its.toArray) he ⟨hit, p⟩ lt1 ne (by simp [ne, nea]) fun v h' tk e1 ho st1 hT hsz hk => ?_
    obtain rfl : v = u := by
      have z1 : its.toArray[i]? = some v := e1
      simp at z1
      rw [hu] at z1
      exact (Option.some.inj z1).symm
    refine ⟨_, rfl, wpAny_letOwnedTupleGo_enum (s := { s with heap := h', toks := tk + 1 }) ho fun h'' he' sb => ?_⟩
    have hT2 : h''.get? s.heap.objs.size = some { cls := .type "tuple", data := .seq #[.int i tk, v] } := (sb.2 _ (Nat.ne_of_gt hel)).trans hT
    have new : ObjOk X.prog X.w (upd H s.heap.objs.size (.tup [.int (i : Nat), x])) h'' s.heap.objs.size (.tup [.int (i : Nat), x]) :=
      ⟨by show 2 ≤ sizeLine; decide, [.int i tk, v], .cons ⟨_, rfl⟩ (.cons ru .nil), ⟨_, hT2, rfl, _, rfl⟩⟩
    have I1 : L2.Inv X pins σ (upd H s.heap.objs.size (.tup [.int (i : Nat), x])) { s with heap := h'', toks := tk + 1 } :=
      I.turnedNew (ch := [e, it]) (fun b ob hb q => (sb.2 b (fun z => hb (by simp [z]))).trans (hk b ob (fun z => hb (by simp [z])) (fun z => hb (by simp [z])) q)) hf (Nat.le_refl _) new
    refine ⟨.ref s.heap.objs.size, _, I1, rfl, ⟨_, x, rfl, I.hok.fresh (Nat.le_refl _), rfl, fun l hl => by rw [sq_inj I hl hq]; exact hx⟩, ⟨⟨v, ?_⟩, hit_at st1.1 fun o q => (sb.2 it (Ne.symm ne)).trans q⟩, fun b hb => ?_⟩
    · have e1 : ((i + 1 : Nat) : Int) = (i : Int) + 1 := by omega
      rw [e1]; exact he'
    · have hb' : b < s.heap.objs.size := by
        have e' : b = e ∨ b = it := by simpa using hb
        rcases e' with rfl | rfl
        · exact hel
        · exact hil
      rw [upd_ne (Nat.ne_of_lt hb')]
      exact (hf b hb).1
  done := by
    intro X hP hw hK hc i pins s σ H E I hf st hg
    subst hP hw hK
    obtain ⟨⟨old, he⟩, hit⟩ := st
    obtain ⟨xs, hq, hx⟩ := hg
    obtain ⟨its, rv, p, _⟩ := inv_sq I hq
    have m1 := rv.length
    have hh : X.A.in1.handled = none := I.ok.hd hc
    have hi2 : i = its.toArray.size := by rw [List.size_toArray]; omega
    refine wpAny_pyNext_enum_endD (drw hh k it a na its.toArray) he (by rw [← hi2]; exact ⟨hit, p⟩) fun h' hk => ⟨rfl, I.turnedL (t' := s.toks) (ch := [e, it]) (fun c o hb q => hk c o (fun q1 => hb (by simp [q1])) q) hf⟩
  self := fun A i s Q E st h => let ⟨⟨_, he⟩, _⟩ := st; wpAny_pyIter_enum he h
def iEnumP (K : PySem.W.Frag) (k : Bool) (ta : TA) : TI := fun σ H R => ta σ H fun vs H1 => ∃ a xs, vs = [.ref a] ∧ Sq K k H1 a xs ∧ R (ItE K k a) H1
theorem pi_enumP {X : Cx} {e : Expr} {ta : TA} {p pos tpos : Pos} {elts : List Expr} {kk : Nat} (k : Bool) (hg : Gl X "enumerate") (hm : X.mg "enumerate" = none) (ha : PA X [e] ta) (hs : starEach [e] X.env = [(false, eval e X.env)] := by rfl) :
    PI X (.Tuple elts kk tpos) (.Call (.Name "enumerate" p) [e] [] pos) (iEnumP X.K k ta) := by
  refine ⟨fun pins s σ H R I h => ?_⟩
  refine Call_ (ld_blt I hg hm boot_enumerate (PyProof.Rows.callWith_type1 (thn (ha.run pos pins s σ H _ I h) fun us s1 ⟨vs, H1, I1, r1, q1⟩ => ?_) hs rfl))
  obtain ⟨a, xs, rfl, hq, q⟩ := q1
  cases r1 with
  | cons r rr =>
    cases rr
    obtain rfl := r
    obtain ⟨its, rv, p1, la⟩ := inv_sq I1 hq
    refine enum_begins1 (bgn k a its.toArray) p1 fun h' he g1 hk => wpAny_pyIter_enum he ?_
    have I2 : L2.Inv X pins σ H1 { s1 with heap := h' } := I1.kept (t' := s1.toks) hk
    refine ⟨s1.heap.objs.size + 1, [s1.heap.objs.size + 1, s1.heap.objs.size], _, _, H1, rfl, I2, turn_enumP (k := k) (Nat.succ_ne_self _) (Nat.ne_of_lt la) (Nat.ne_of_gt (Nat.lt_succ_of_lt la)), ⟨⟨.none, he⟩, hit_0 g1⟩, fun b hb => ?_, q⟩
    have e' : b = s1.heap.objs.size + 1 ∨ b = s1.heap.objs.size := by simpa using hb
    have hle : s1.heap.objs.size ≤ b := by
      rcases e' with rfl | rfl
      · exact Nat.le_add_right _ _
      · exact Nat.le_refl _
    exact I1.fpOk hle (I1.hok.fresh hle)
end V1
set_option Elab.async false
set_option linter.all false
set_option maxRecDepth 100000
set_option maxHeartbeats 4000000
/-! The end of a law row, by a promise that knows the guards. -/
namespace V1
open PySem PySem.Spec PyProof.Rows L2

theorem endG {P : Program} {w : World} {K : PySem.W.Frag} {mg mb : Str → Option Value} {k : Nat} {fa a : Addr} {fd : FuncData} {x : Str} {sp : Sp} {s1 : Shared} {vs : List Value} {ns : List Int}
    (KX : K.In s1.heap) (hns : s1.heap.Ns mainGlobals mg) (hb : s1.heap.Ns builtinsNs mb) (hbb : ∀ x : Str, x ≠ "__name__" → mb x = bootBuiltins x) (nl : s1.heap.NoLimit) (hg : s1.gens = #[])
    (ha : s1.heap.get? a = some { cls := .type "list", data := .seq vs.toArray }) (hi : IntsAre vs ns) (hl : ns.length ≤ sizeLine) (hr : Room k callerA)
    (F : ∀ base : Heap, K.In base → base.Ns mainGlobals mg → FnG P w K mg base k fa fd [x] sp) (bnd : ∀ (s : Shared) (u : Value), BindsTo s fd ⟨[u], []⟩ [(x, u)])
    (hsp : ∀ H : Hp, Only H → SqL K H a (ns.map V.int) → sp [.ref a] H (fun v _ => v = .bl true) fun _ _ _ => False) :
    codeAny (model P w) callerA (.call (.ref fa) ⟨[.ref a], []⟩) (fun r t => r = .ok (.ret (.bool true)) ∧ OldK s1.heap t.heap ∧ t.os = s1.os ∧ AllBare t.gens) s1 := by
  have rv := vals_ints hi
  have lenV := hi.length
  have core : ∀ H : Hp, Only H → SqL K H a (ns.map V.int) → HOk P w H s1.heap → (∀ b, H b ≠ none → b = a) → (H a ≠ none → K.lookup a = none) →
      codeAny (model P w) callerA (.call (.ref fa) ⟨[.ref a], []⟩) (fun r t => r = .ok (.ret (.bool true)) ∧ OldK s1.heap t.heap ∧ t.os = s1.os ∧ AllBare t.gens) s1 := by
    intro H hO hS ok only notK
    have free : ∀ {b : Addr} {o : Obj}, s1.heap.get? b = some o → (b = a → False) → H b = none := fun {b o} e d => by
      cases q : H b with
      | none => rfl
      | some u => exact (d (only b (by rw [q]; simp))).elim
    have nsK : ∀ {b : Addr} {m : Str → Option Value}, s1.heap.Ns b m → (hidT s1.heap H).Ns b m := fun {b m} ⟨o, es, ep, e, d, r⟩ =>
      ⟨o, es, ep, hidT_get e (free e fun z => by
        rw [z, ha] at e
        cases e
        have d1 : Data.seq vs.toArray _ = Data.dict es ep := d
        cases d1), d, r⟩
    have hKb : K.In (hidT s1.heap H) := fun b o e => hidT_get (KX b o e) (by
      cases q : H b with
      | none => rfl
      | some u =>
        have z := only b (by rw [q]; simp)
        rw [z] at e q
        rw [notK (by rw [q]; simp)] at e
        cases e)
    have hM : Mod K mg (hidT s1.heap H) := ⟨hKb, nsK hns, ⟨mb, nsK hb, hbb⟩, let ⟨mc, h1, h2⟩ := nl; ⟨mc, nsK h1, h2⟩⟩
    have e0 : Env0 P w K mg (hidT s1.heap H) callerA [] s1 H := ⟨rfl, hM, fun b o e => of_hidT e, Nat.le_of_eq (hidT_size _ _), trivial, (fun b hb => absurd (show b ∈ ([] : List Addr) from hb) (by simp)), ok, .of_eq hg⟩
    refine codeAny_mono ((F _ hKb (nsK hns)).run callerA [] s1 H ⟨[.ref a], []⟩ [.ref a] [.ref a] _ _ rfl hr e0 (bnd s1 (.ref a)) (.cons rfl .nil) (hsp H hO hS)) fun r t h => ?_
    cases r with
    | error e => exact False.elim h
    | ok fl =>
      cases fl with
      | next => exact False.elim h
      | brk => exact False.elim h
      | cont => exact False.elim h
      | ret u =>
        obtain ⟨v, H2, os, bare, un, ok2, r2, q⟩ := h
        obtain rfl : v = .bl true := q
        obtain rfl : u = Value.bool true := r2
        refine ⟨rfl, OldK.of_keep fun b o e => ?_, os, bare⟩
        cases q : H b with
        | none => exact un.keep b o e q (fun z => absurd (show b ∈ ([] : List Addr) from z) (by simp)) (by simp)
        | some u =>
          rcases hO b with z | ⟨ob, xs, z⟩
          · rw [q] at z
            cases z
          · obtain ⟨e1, _⟩ := ok b _ z
            obtain ⟨e2, _⟩ := ok2 b _ (un.frzs b ob _ z)
            rw [e] at e1
            cases e1
            exact e2
  cases hk : K.lookup a with
  | some o =>
    have e := KX a o hk
    rw [ha] at e
    cases e
    exact core (fun _ => none) (fun _ => Or.inl rfl) (Or.inr ⟨_, vs.toArray, _, hk, rfl, rfl, rfl, by rw [List.size_toArray, lenV]; exact hl, by simpa using rv⟩) (fun b u z => by
      have z1 : (none : Option HO) = some u := z
      cases z1) (fun b z => absurd rfl z) (fun z => absurd rfl z)
  | none =>
    have one : ∀ b, (if b = a then some (HO.frz { cls := .type "list", data := .seq vs.toArray } (.lst (ns.map V.int))) else none) ≠ none → b = a := fun b z => by
      by_cases e : b = a
      · exact e
      · exact absurd (if_neg e) z
    refine core (fun b => if b = a then some (.frz { cls := .type "list", data := .seq vs.toArray } (.lst (ns.map V.int))) else none) (fun b => ?_) (Or.inl (Or.inr ⟨{ cls := .type "list", data := .seq vs.toArray }, if_pos rfl⟩)) (fun b u z => ?_) one fun _ => hk
    · by_cases e : b = a
      · exact Or.inr ⟨_, _, if_pos e⟩
      · exact Or.inl (if_neg e)
    · have e : b = a := one b (fun y => by
        have z2 := y.symm.trans z
        cases z2)
      have z1 := (if_pos e).symm.trans z
      cases z1
      subst e
      exact ⟨ha, by rw [List.length_map]; exact hl, vs, _, rv, ha⟩
theorem walkG {l : PySem.W.OpenLaw} {n k : Nat} {q : Program} {loose : List Str} {XP : (Str → Option Value) → Heap → Prop} {YP : World → Heap → Prop} {d : DefRec} {x : Str}
    (hn : l.most = some n) (hn2 : n ≤ sizeLine) (hdf : d.params.defaults = []) (hr : Room k callerA)
    (F : ∀ (w : World) (mg : Str → Option Value) (fa : Addr) (h : Heap), YP w h → h.Ns mainGlobals mg → mg d.name = some (.ref fa) →
      ∃ (K : PySem.W.Frag) (fd : FuncData) (sp : Sp), K.In h ∧ (∀ (s : Shared) (u : Value), BindsTo s fd ⟨[u], []⟩ [(x, u)]) ∧
        (∀ (H : Hp) (a : Addr) (ns : List Int), ns.length ≤ n → Only H → SqL K H a (ns.map V.int) → sp [.ref a] H (fun v _ => v = .bl true) fun _ _ _ => False) ∧
        ∀ base : Heap, K.In base → base.Ns mainGlobals mg → FnG l.prog w K mg base k fa fd [x] sp) :
    PySem.W.WalkO q loose XP YP l.row.toRowW d [] (fun f vs => PySem.call f vs) := by
  refine Att.attach_call hn hdf fun w s0 s1 mg mb fa o pm cd doc a vs ns G Y ho hd hcd hmg hobj hints hlen hg => ?_
  obtain ⟨K, fd, sp, KX, hb, hsp, hF⟩ := F w mg fa _ Y G.T.g hmg
  exact endG KX G.T.g G.T.b G.T.builtins G.T.nolimit hg hobj hints (Nat.le_trans hlen hn2) hr hF hb fun H hO hS => hsp H a ns hlen hO hS
end V1
set_option Elab.async false
set_option linter.all false
set_option maxRecDepth 100000
set_option maxHeartbeats 4000000
/-! What an expression, a statement comes to, told by DATA: the slots hold data, an expression gives data, the heap grows. -/
namespace V1
open PySem PySem.Spec PyProof.Rows L2

/-- a thing that neither is a dict of draws nor a table of code objects -/
def Fx (o : HO) : Prop := (∀ kvs, o ≠ .dK kvs) ∧ ∀ ps, o ≠ .tbl ps
theorem fxLst {xs : List V} : Fx (.lst xs) := ⟨fun _ z => (by cases z), fun _ z => (by cases z)⟩
theorem fxFrz {o : Obj} {u : HO} : Fx (.frz o u) := ⟨fun _ z => (by cases z), fun _ z => (by cases z)⟩
theorem fxExt {φ : Heap → Prop} : Fx (.ext φ) := ⟨fun _ z => (by cases z), fun _ z => (by cases z)⟩
/-- how {} is told -/
abbrev emD : PyData := .dict [(.none, .none)]
/-- how an exception is told: its class, the names of its fields, what stands in them -/
abbrev exD (C : Addr) (ns : List Str) (ds : List PyData) : PyData := .dict [(.int (C : Int), .list (ns.map .str)), (.none, .tuple ds)]
/-- how an exception without fields is told -/
abbrev enD (C : Addr) : PyData := .dict [(.int (C : Int), .none)]
theorem fxTup {xs : List V} : Fx (.tup xs) := ⟨fun _ z => (by cases z), fun _ z => (by cases z)⟩
/-! ### data that stand in tracked objects, away from the addresses of A, or as tuples of the written part -/
/-- a tuple of the written part -/
def KT (K : PySem.W.Frag) (a : Addr) (xs : List V) : Prop := ∃ (o : Obj) (its : Array Value) (n : Nat), K.lookup a = some o ∧ o.cls = .type "tuple" ∧ o.data = .seq its n ∧ its.size ≤ sizeLine ∧ Vals xs its.toList
theorem KT.sq {K : PySem.W.Frag} {a : Addr} {xs : List V} (h : KT K a xs) (H : Hp) : SqT K H a xs := .inr h
mutual
inductive Dv (K : PySem.W.Frag) (A : Addr → Prop) (H : Hp) : V → PyData → Prop
  | non : Dv K A H .non .none
  | bl (b : Bool) : Dv K A H (.bl b) (.bool b)
  | int (i : Int) : Dv K A H (.int i) (.int i)
  | str (x : Str) : Dv K A H (.str x) (.str x)
  | lst {a : Addr} {xs : List V} {ds : List PyData} : ¬ A a → H a = some (.lst xs) → DvAll K A H xs ds → Dv K A H (.ref a) (.list ds)
  | tup {a : Addr} {xs : List V} {ds : List PyData} : ¬ A a → H a = some (.tup xs) → DvAll K A H xs ds → Dv K A H (.ref a) (.tuple ds)
  | ktup {a : Addr} {xs : List V} {ds : List PyData} : KT K a xs → DvAll K A H xs ds → Dv K A H (.ref a) (.tuple ds)
  | emp {a : Addr} {o : Obj} : ¬ A a → H a = some (.frz o (.dK [])) → Dv K A H (.ref a) (.dict [(.none, .none)])
  | exc {a dx C : Addr} {fs : List (Str × V)} {ds : List PyData} : ¬ A a → H a = some (exo a C (some dx)) → ¬ A dx → H dx = some (exd dx fs) → DvAll K A H (fs.map (·.2)) ds → Dv K A H (.ref a) (.dict [(.int (C : Int), .list ((fs.map (·.1)).map PyData.str)), (.none, .tuple ds)])
  | exn {a C : Addr} : ¬ A a → H a = some (ExO (.ref C) a) → Dv K A H (.ref a) (.dict [(.int (C : Int), .none)])
inductive DvAll (K : PySem.W.Frag) (A : Addr → Prop) (H : Hp) : List V → List PyData → Prop
  | nil : DvAll K A H [] []
  | cons {v : V} {vs : List V} {d : PyData} {ds : List PyData} : Dv K A H v d → DvAll K A H vs ds → DvAll K A H (v :: vs) (d :: ds)
end
mutual
theorem Dv.map {K : PySem.W.Frag} {A A' : Addr → Prop} {H H' : Hp} (f : ∀ a o, ¬ A a → H a = some o → Fx o → ¬ A' a ∧ H' a = some o) : ∀ {d : PyData} {v : V}, Dv K A H v d → Dv K A' H' v d
  | .none, _, h => by cases h; exact .non
  | .bool b, _, h => by cases h; exact .bl b
  | .int i, _, h => by cases h; exact .int i
  | .str x, _, h => by cases h; exact .str x
  | .list ds, _, h => by
    cases h with
    | lst n e r =>
      obtain ⟨n2, e2⟩ := f _ _ n e fxLst
      exact .lst n2 e2 (DvAll.map f r)
  | .tuple ds, _, h => by
    cases h with
    | tup n e r =>
      obtain ⟨n2, e2⟩ := f _ _ n e fxTup
      exact .tup n2 e2 (DvAll.map f r)
    | ktup e r => exact .ktup e (DvAll.map f r)
  | .dict _, _, h => by
    cases h with
    | emp n e =>
      obtain ⟨n2, e2⟩ := f _ _ n e fxFrz
      exact .emp n2 e2
    | exc n e m e1 r =>
      obtain ⟨n2, e2⟩ := f _ _ n e fxExt
      obtain ⟨m2, e3⟩ := f _ _ m e1 fxExt
      exact .exc n2 e2 m2 e3 (DvAll.map f r)
    | exn n e =>
      obtain ⟨n2, e2⟩ := f _ _ n e fxExt
      exact .exn n2 e2
theorem DvAll.map {K : PySem.W.Frag} {A A' : Addr → Prop} {H H' : Hp} (f : ∀ a o, ¬ A a → H a = some o → Fx o → ¬ A' a ∧ H' a = some o) : ∀ {ds : List PyData} {vs : List V}, DvAll K A H vs ds → DvAll K A' H' vs ds
  | [], _, h => by cases h; exact .nil
  | d :: ds, _, h => by
    cases h with
    | cons h1 h2 => exact .cons (Dv.map f h1) (DvAll.map f h2)
end
mutual
theorem Dv.dp {K : PySem.W.Frag} {A : Addr → Prop} {H : Hp} : ∀ {d : PyData} {v : V}, Dv K A H v d → d.hasDict = false → Dp K H v d
  | .none, _, h, _ => by cases h; exact .non
  | .bool b, _, h, _ => by cases h; exact .bl b
  | .int i, _, h, _ => by cases h; exact .int i
  | .str x, _, h, _ => by cases h; exact .str x
  | .list ds, _, h, hd => by
    have hd2 : PyData.hasDictAll ds = false := by simpa only [PyData.hasDict] using hd
    cases h with
    | lst n e r => exact .lst (SqL.of e) (DvAll.dp r hd2)
  | .tuple ds, _, h, hd => by
    have hd2 : PyData.hasDictAll ds = false := by simpa only [PyData.hasDict] using hd
    cases h with
    | tup n e r => exact .tup (SqT.of e) (DvAll.dp r hd2)
    | ktup e r => exact .tup (e.sq H) (DvAll.dp r hd2)
  | .dict _, _, h, hd => by simp [PyData.hasDict] at hd
theorem DvAll.dp {K : PySem.W.Frag} {A : Addr → Prop} {H : Hp} : ∀ {ds : List PyData} {vs : List V}, DvAll K A H vs ds → PyData.hasDictAll ds = false → DpAll K H vs ds
  | [], _, h, _ => by cases h; exact .nil
  | d :: ds, _, h, hd => by
    simp only [PyData.hasDictAll, Bool.or_eq_false_iff] at hd
    cases h with
    | cons h1 h2 => exact .cons (Dv.dp h1 hd.1) (DvAll.dp h2 hd.2)
end
section
variable {K : PySem.W.Frag} {A : Addr → Prop} {H : Hp} {xs ys : List V} {ds es : List PyData}
theorem DvAll.length (h : DvAll K A H xs ds) : xs.length = ds.length := by
  induction ds generalizing xs with
  | nil => cases h; rfl
  | cons d ds ih => cases h with | cons h1 h2 => rw [List.length_cons, List.length_cons, ih h2]
theorem DvAll.app (h : DvAll K A H xs ds) (h2 : DvAll K A H ys es) : DvAll K A H (xs ++ ys) (ds ++ es) := by
  induction ds generalizing xs with
  | nil => cases h; exact h2
  | cons d ds ih => cases h with | cons a b => exact .cons a (ih b)
theorem DvAll.get (h : DvAll K A H xs ds) {i : Nat} {d : PyData} (e : ds[i]? = some d) : ∃ x, xs[i]? = some x ∧ Dv K A H x d := by
  induction ds generalizing xs i with
  | nil => simp at e
  | cons d0 ds ih =>
    cases h with
    | cons a b =>
      cases i with
      | zero => simp at e; subst e; exact ⟨_, rfl, a⟩
      | succ i => simpa using ih b (by simpa using e)
theorem DvAll.getx (h : DvAll K A H xs ds) {i : Nat} {x : V} (e : xs[i]? = some x) : ∃ d, ds[i]? = some d ∧ Dv K A H x d := by
  induction ds generalizing xs i with
  | nil => cases h; simp at e
  | cons d0 ds ih =>
    cases h with
    | cons a b =>
      cases i with
      | zero => simp at e; subst e; exact ⟨_, rfl, a⟩
      | succ i => simpa using ih b (by simpa using e)
theorem DvAll.take (n : Nat) (h : DvAll K A H xs ds) : DvAll K A H (xs.take n) (ds.take n) := by
  induction ds generalizing xs n with
  | nil => cases h; simp; exact .nil
  | cons d0 ds ih =>
    cases h with
    | cons a b =>
      cases n with
      | zero => exact .nil
      | succ n => exact .cons a (ih n b)
theorem DvAll.drop (n : Nat) (h : DvAll K A H xs ds) : DvAll K A H (xs.drop n) (ds.drop n) := by
  induction ds generalizing xs n with
  | nil => cases h; simp; exact .nil
  | cons d0 ds ih =>
    cases h with
    | cons a b =>
      cases n with
      | zero => exact .cons a b
      | succ n => exact ih n b
theorem DvAll.set {i : Nat} {x : V} {d : PyData} (h : DvAll K A H xs ds) (hx : Dv K A H x d) : DvAll K A H (xs.set i x) (ds.set i d) := by
  induction ds generalizing xs i with
  | nil => cases h; exact .nil
  | cons d0 ds ih =>
    cases h with
    | cons a b =>
      cases i with
      | zero => exact .cons hx b
      | succ i => exact .cons a (ih b)
theorem DvAll.cut (h : DvAll K A H xs ds) (lo hi : Option Int) : DvAll K A H (cutV xs lo hi) ((ds.drop (HT.sIx ds.length 0 lo)).take (HT.sIx ds.length ds.length hi - HT.sIx ds.length 0 lo)) := by
  unfold cutV
  rw [h.length]
  exact (h.drop _).take _
theorem DvAll.ints {ns : List Int} (h : DvAll K A H xs (ns.map PyData.int)) : xs = ns.map V.int := by
  induction ns generalizing xs with
  | nil => cases h; rfl
  | cons n ns ih =>
    cases h with
    | cons a b =>
      cases a
      rw [ih b]
      rfl
theorem DvAll.rep (n : Nat) (h : DvAll K A H xs ds) : DvAll K A H (List.replicate n xs).flatten (List.replicate n ds).flatten := by
  induction n with
  | zero => exact .nil
  | succ n ih => rw [List.replicate_succ, List.replicate_succ, List.flatten_cons, List.flatten_cons]; exact h.app ih
end

/-! ### how a heap goes on -/
structure Rl where
  K : PySem.W.Frag
  G : Nat → Hp → Prop
  R : Nat → Hp → Hp → Prop
  M : V → Prop
  gle : ∀ {a b H}, a ≤ b → G b H → G a H
  rle : ∀ {a b H H'}, a ≤ b → R a H H' → R b H H'
  gr : ∀ {a b H H'}, G (a + b) H → R a H H' → G b H'
  tr : ∀ {a b H H1 H2}, R a H H1 → R b H1 H2 → R (a + b) H H2
  same : ∀ {H H'}, G 0 H → Same H H' → R 0 H H'
  fresh : ∀ {a H H' q o}, R a H H' → H q = none → (H' q = none ∨ ∃ xs, H' q = some (.lst xs)) → R a H (upd H' q o)
  keep : ∀ {a H H' b o}, R a H H' → H b = some o → Fx o → H' b = some o
  free : ∀ {a H H' q}, R a H H' → H' q = none → H q = none
  mref : ∀ {v}, M v → ∃ a, v = .ref a
abbrev mark : PyData := .dict []
def pureL (K : PySem.W.Frag) : Rl where
  K := K
  G := fun _ _ => True
  R := fun _ H H' => Same H H'
  M := fun _ => False
  gle := fun _ _ => trivial
  rle := fun _ r => r
  gr := fun _ _ => trivial
  tr := fun a b => a.trans b
  same := fun _ s => s
  fresh := fun s h _ b o e => by rw [upd_ne (ne_of_none e h)]; exact s b o e
  keep := fun s e _ => s _ _ e
  free := fun s e => Same.free s e
  mref := fun h => h.elim

section
variable (L : Rl)
def Dq (A : Addr → Prop) (H : Hp) (v : V) (d : PyData) : Prop := (d = mark ∧ L.M v) ∨ Dv L.K A H v d
def EnvOk (A : Addr → Prop) (σ : L2.St) (H : Hp) (Γ : List (Option PyData)) : Prop := σ.length = Γ.length ∧ ∀ (i : Nat) (d : PyData), Γ[i]? = some (some d) → ∃ v, σ[i]? = some (some v) ∧ Dq L A H v d
def Inn (A : Addr → Prop) (H : Hp) : Prop := ∀ b, A b → H b ≠ none
def EvG (n : Nat) (te : TE) (Γ : List (Option PyData)) (P : PyData → Prop) : Prop := ∀ A σ H, Inn A H → EnvOk L A σ H Γ → L.G n H → ∀ Q : VK, (∀ v d H', L.R n H H' → Dq L A H' v d → P d → Q v H') → te σ H Q
def EvD (te : TE) (Γ : List (Option PyData)) (d : PyData) : Prop := EvG L 0 te Γ (fun x => x = d)
def EaG (n : Nat) (ta : TA) (Γ : List (Option PyData)) (P : List PyData → Prop) : Prop := ∀ A σ H, Inn A H → EnvOk L A σ H Γ → L.G n H → ∀ Q : List V → Hp → Prop, (∀ vs ds H', L.R n H H' → vs.length = ds.length → (∀ (i : Nat) d, ds[i]? = some d → ∃ v, vs[i]? = some v ∧ Dq L A H' v d) → P ds → Q vs H') → ta σ H Q
def EaD (ta : TA) (Γ : List (Option PyData)) (ds : List PyData) : Prop := EaG L 0 ta Γ (fun x => x = ds)
def EtD (tt : TT) (Γ : List (Option PyData)) (b : Bool) : Prop := ∀ A σ H, Inn A H → EnvOk L A σ H Γ → L.G 0 H → ∀ Q : Bool → Hp → Prop, (∀ H', L.R 0 H H' → Q b H') → tt σ H Q
def EtG (n : Nat) (tt : TT) (Γ : List (Option PyData)) (P : Bool → Prop) : Prop := ∀ A σ H, Inn A H → EnvOk L A σ H Γ → L.G n H → ∀ Q : Bool → Hp → Prop, (∀ b H', L.R n H H' → P b → Q b H') → tt σ H Q
def SG (n : Nat) (ts : TS) (Γ : List (Option PyData)) (N : List (Option PyData) → Prop) (Rt : PyData → Prop) : Prop := ∀ A σ H, Inn A H → EnvOk L A σ H Γ → L.G n H → ∀ D : Ends,
  (∀ σ' H' Γ', L.R n H H' → EnvOk L A σ' H' Γ' → N Γ' → D.nx σ' H') → (∀ v d H', L.R n H H' → Dq L A H' v d → Rt d → D.rt v H') → ts D σ H
end
section
variable {K : PySem.W.Frag} {L : Rl} {A : Addr → Prop} {H H' : Hp} {v : V} {d : PyData} {σ : L2.St} {Γ : List (Option PyData)} {n a b : Nat}
theorem Dv.r (h : Dv K A H v d) (r : L.R n H H') : Dv K A H' v d := h.map fun _ _ na e k => ⟨na, L.keep r e k⟩
theorem DvAll.r {vs : List V} {ds : List PyData} (h : DvAll K A H vs ds) (r : L.R n H H') : DvAll K A H' vs ds := h.map fun _ _ na e k => ⟨na, L.keep r e k⟩
theorem Dq.r (h : Dq L A H v d) (r : L.R n H H') : Dq L A H' v d := h.imp (fun x => x) fun x => x.r r
theorem EnvOk.r (h : EnvOk L A σ H Γ) (r : L.R n H H') : EnvOk L A σ H' Γ := ⟨h.1, fun i d e => let ⟨v, h1, h2⟩ := h.2 i d e; ⟨v, h1, h2.r r⟩⟩
theorem Inn.r (h : Inn A H) (r : L.R n H H') : Inn A H' := fun b hb z => h b hb (L.free r z)
theorem Inn.no (h : Inn A H) {q : Addr} (e : H q = none) : ¬ A q := fun z => h q z e
theorem EnvOk.set (h : EnvOk L A σ H Γ) (hv : Dq L A H v d) (i : Nat) : EnvOk L A (σ.set i (some v)) H (Γ.set i (some d)) := by
  refine ⟨by rw [List.length_set, List.length_set]; exact h.1, fun j d' e => ?_⟩
  by_cases hj : i = j
  · subst hj
    have hl : i < Γ.length := by
      have := (List.getElem?_eq_some_iff.mp e).1
      rwa [List.length_set] at this
    rw [List.getElem?_set_self hl] at e
    have e1 : d = d' := Option.some.inj (Option.some.inj e)
    subst e1
    exact ⟨v, List.getElem?_set_self (by rw [h.1]; exact hl), hv⟩
  · rw [List.getElem?_set_ne hj] at e
    obtain ⟨w, h1, h2⟩ := h.2 j d' e
    exact ⟨w, by rw [List.getElem?_set_ne hj]; exact h1, h2⟩
theorem Dq.ne (h : Dq L A H v d) (hd : d ≠ mark) : Dv L.K A H v d := h.elim (fun z => absurd z.1 hd) fun z => z
theorem Dq.int {i : Int} (h : Dq L A H v (.int i)) : v = .int i := by
  have h1 := h.ne (by intro z; cases z)
  cases h1
  rfl
theorem Dq.str {i : Str} (h : Dq L A H v (.str i)) : v = .str i := by
  have h1 := h.ne (by intro z; cases z)
  cases h1
  rfl
theorem Dq.bool {i : Bool} (h : Dq L A H v (.bool i)) : v = .bl i := by
  have h1 := h.ne (by intro z; cases z)
  cases h1
  rfl
/-- a tuple, tracked or written -/
def TpAt (K : PySem.W.Frag) (A : Addr → Prop) (H : Hp) (a : Addr) (xs : List V) : Prop := (¬ A a ∧ H a = some (.tup xs)) ∨ KT K a xs
theorem TpAt.sq {K : PySem.W.Frag} {a : Addr} {xs : List V} (h : TpAt K A H a xs) : SqT K H a xs := h.elim (fun z => SqT.of z.2) fun z => z.sq H
theorem TpAt.dv {K : PySem.W.Frag} {a : Addr} {xs : List V} {ds : List PyData} (h : TpAt K A H a xs) (r : DvAll K A H xs ds) : Dv K A H (.ref a) (.tuple ds) := h.elim (fun z => .tup z.1 z.2 r) fun z => .ktup z r
theorem Dq.tuple {ds : List PyData} (h : Dq L A H v (.tuple ds)) : ∃ a xs, v = .ref a ∧ TpAt L.K A H a xs ∧ DvAll L.K A H xs ds := by
  have h1 := h.ne (by intro z; cases z)
  cases h1 with
  | tup n e r => exact ⟨_, _, rfl, .inl ⟨n, e⟩, r⟩
  | ktup e r => exact ⟨_, _, rfl, .inr e, r⟩
theorem Dq.list {ds : List PyData} (h : Dq L A H v (.list ds)) : ∃ a xs, v = .ref a ∧ ¬ A a ∧ H a = some (.lst xs) ∧ DvAll L.K A H xs ds := by
  have h1 := h.ne (by intro z; cases z)
  cases h1 with
  | lst n e r => exact ⟨_, _, rfl, n, e, r⟩
/-- the budget is a nought's -/
theorem Rl.g0 (h : L.G n H) : L.G 0 H := L.gle (Nat.zero_le _) h
theorem Rl.newR (g : L.G n H) {q : Addr} {o : HO} (e : H q = none) : L.R 0 H (upd H q o) := L.same (L.g0 g) fun b u z => by rw [upd_ne (ne_of_none z e)]; exact z
theorem Rl.refl (g : L.G n H) : L.R 0 H H := L.same (L.g0 g) (Same.refl H)
theorem Rl.gR (g : L.G (a + b) H) (r : L.R a H H') : L.G b H' := L.gr g r

/-! ### expressions -/
variable {te ta tb : TE} {t : TA} {tt tu : TT} {P P1 : PyData → Prop}
theorem EvG.mono {P' : PyData → Prop} (h : EvG L a te Γ P) (hn : a ≤ b) (hp : ∀ d, P d → P' d) : EvG L b te Γ P' := fun A σ H hi he hg Q q => h A σ H hi he (L.gle hn hg) Q fun v d H' r hd p => q v d H' (L.rle hn r) hd (hp d p)
theorem EvD.to {d' : PyData} (h : EvD L te Γ d) (e : d = d') : EvD L te Γ d' := e ▸ h
theorem eg_var {i : Nat} (e : Γ[i]? = some (some d)) : EvD L (tVar i) Γ d := fun A σ H hi he hg Q q => by
  obtain ⟨v, h1, h2⟩ := he.2 i d e
  exact ⟨v, h1, q v d H (Rl.refl hg) h2 rfl⟩
theorem eg_int {i : Int} : EvD L (tC (.int i)) Γ (.int i) := fun A σ H hi he hg Q q => q _ _ H (Rl.refl hg) (.inr (.int i)) rfl
theorem eg_str {i : Str} : EvD L (tC (.str i)) Γ (.str i) := fun A σ H hi he hg Q q => q _ _ H (Rl.refl hg) (.inr (.str i)) rfl
theorem eg_bl {i : Bool} : EvD L (tC (.bl i)) Γ (.bool i) := fun A σ H hi he hg Q q => q _ _ H (Rl.refl hg) (.inr (.bl i)) rfl
theorem eg_non : EvD L (tC .non) Γ .none := fun A σ H hi he hg Q q => q _ _ H (Rl.refl hg) (.inr .non) rfl
/-- what a two-place operation gives, by data -/
def OpS (L : Rl) (r : R2) (d1 d2 : PyData) (P : PyData → Prop) : Prop := ∀ A H x y, Inn A H → L.G 0 H → Dq L A H x d1 → Dq L A H y d2 → ∀ Q : VK, (∀ v d H', L.R 0 H H' → Dq L A H' v d → P d → Q v H') → r x y H Q
theorem eg_opG {r : R2} {P1 P2 P : PyData → Prop} (ha : EvG L a ta Γ P1) (hb : EvG L b tb Γ P2) (hr : ∀ d1 d2, P1 d1 → P2 d2 → OpS L r d1 d2 P) : EvG L (a + b) (tOp r ta tb) Γ P := fun A σ H hi he hg Q q =>
  ha A σ H hi he (L.gle (Nat.le_add_right _ _) hg) _ fun x d1 H1 r1 hx p1 => hb A σ H1 (hi.r r1) (he.r r1) (Rl.gR hg r1) _ fun y d2 H2 r2 hy p2 =>
    hr d1 d2 p1 p2 A H2 x y ((hi.r r1).r r2) (Rl.gR (b := 0) (Rl.gR (a := a) (b := b) hg r1) r2) (hx.r r2) hy Q fun v d H3 r3 hv p => q v d H3 (L.tr (b := 0) (L.tr r1 r2) r3) hv p
theorem eg_op {r : R2} {d1 d2 d : PyData} (ha : EvD L ta Γ d1) (hb : EvD L tb Γ d2) (hr : OpS L r d1 d2 (fun x => x = d)) : EvD L (tOp r ta tb) Γ d :=
  eg_opG (a := 0) (b := 0) ha hb fun x y e1 e2 => by rw [e1, e2]; exact hr
theorem os_I0 {g : Int → Int → Int} {i j : Int} : OpS L (rI0 fun i j => .int (g i j)) (.int i) (.int j) (fun x => x = .int (g i j)) := fun A H x y hi hg hx hy Q q => by
  obtain rfl := hx.int
  obtain rfl := hy.int
  exact ⟨i, j, rfl, rfl, q _ _ H (Rl.refl hg) (.inr (.int _)) rfl⟩
theorem os_I {C : Int → Int → Prop} {g : Int → Int → Int} {i j : Int} (hc : C i j) : OpS L (rI C fun i j => .int (g i j)) (.int i) (.int j) (fun x => x = .int (g i j)) := fun A H x y hi hg hx hy Q q => by
  obtain rfl := hx.int
  obtain rfl := hy.int
  exact ⟨i, j, rfl, rfl, hc, q _ _ H (Rl.refl hg) (.inr (.int _)) rfl⟩
theorem os_B0 {g : Int → Int → Bool} {i j : Int} : OpS L (rI0 fun i j => .bl (g i j)) (.int i) (.int j) (fun x => x = .bool (g i j)) := fun A H x y hi hg hx hy Q q => by
  obtain rfl := hx.int
  obtain rfl := hy.int
  exact ⟨i, j, rfl, rfl, q _ _ H (Rl.refl hg) (.inr (.bl _)) rfl⟩
theorem eg_add {i j : Int} (ha : EvD L ta Γ (.int i)) (hb : EvD L tb Γ (.int j)) : EvD L (tOp (rI0 fun i j => .int (i + j)) ta tb) Γ (.int (i + j)) := eg_op ha hb os_I0
theorem eg_sub {i j : Int} (ha : EvD L ta Γ (.int i)) (hb : EvD L tb Γ (.int j)) : EvD L (tOp (rI0 fun i j => .int (i - j)) ta tb) Γ (.int (i - j)) := eg_op ha hb os_I0
theorem eg_mul {i j : Int} (ha : EvD L ta Γ (.int i)) (hb : EvD L tb Γ (.int j)) (hc : CMulW i j) : EvD L (tOp (rI CMulW fun i j => .int (i * j)) ta tb) Γ (.int (i * j)) := eg_op ha hb (os_I hc)
theorem eg_div {i j : Int} (ha : EvD L ta Γ (.int i)) (hb : EvD L tb Γ (.int j)) (hc : CDivW i j) : EvD L (tOp (rI CDivW fun i j => .int (i / j)) ta tb) Γ (.int (i / j)) := eg_op ha hb (os_I hc)
theorem eg_mod {i j : Int} (ha : EvD L ta Γ (.int i)) (hb : EvD L tb Γ (.int j)) (hc : j ≠ 0) : EvD L (tOp (rI (fun _ j => j ≠ 0) fun i j => .int (i.fmod j)) ta tb) Γ (.int (i.fmod j)) := eg_op ha hb (os_I hc)
theorem eg_pow {i j : Int} (ha : EvD L ta Γ (.int i)) (hb : EvD L tb Γ (.int j)) (hc : CPow i j) : EvD L (tOp (rI CPow fun i j => .int (i ^ j.toNat)) ta tb) Γ (.int (i ^ j.toNat)) := eg_op ha hb (os_I hc)
theorem eg_lt {i j : Int} (ha : EvD L ta Γ (.int i)) (hb : EvD L tb Γ (.int j)) : EvD L (tOp (rI0 fun i j => .bl (decide (i < j))) ta tb) Γ (.bool (decide (i < j))) := eg_op ha hb os_B0
theorem eg_gt {i j : Int} (ha : EvD L ta Γ (.int i)) (hb : EvD L tb Γ (.int j)) : EvD L (tOp (rI0 fun i j => .bl (decide (j < i))) ta tb) Γ (.bool (decide (j < i))) := eg_op ha hb os_B0
theorem eg_ge {i j : Int} (ha : EvD L ta Γ (.int i)) (hb : EvD L tb Γ (.int j)) : EvD L (tOp (rI0 fun i j => .bl (decide (j ≤ i))) ta tb) Γ (.bool (decide (j ≤ i))) := eg_op ha hb os_B0
theorem eg_eqI {i j : Int} (ha : EvD L ta Γ (.int i)) (hb : EvD L tb Γ (.int j)) : EvD L (tOp rEq ta tb) Γ (.bool (decide (i = j))) := eg_op ha hb fun A H x y hi hg hx hy Q q => by
  obtain rfl := hx.int
  obtain rfl := hy.int
  refine ⟨rfl, ?_⟩
  have e : decide (V.int i = V.int j) = decide (i = j) := by
    by_cases z : i = j
    · rw [z]; simp
    · rw [decide_eq_false z]; exact decide_eq_false fun y => z (by injection y)
  rw [e]
  exact q _ _ H (Rl.refl hg) (.inr (.bl _)) rfl
theorem eg_neI {i j : Int} (ha : EvD L ta Γ (.int i)) (hb : EvD L tb Γ (.int j)) : EvD L (tOp rNe ta tb) Γ (.bool (!decide (i = j))) := eg_op ha hb fun A H x y hi hg hx hy Q q => by
  obtain rfl := hx.int
  obtain rfl := hy.int
  refine ⟨rfl, ?_⟩
  have e : decide (V.int i = V.int j) = decide (i = j) := by
    by_cases z : i = j
    · rw [z]; simp
    · rw [decide_eq_false z]; exact decide_eq_false fun y => z (by injection y)
  rw [e]
  exact q _ _ H (Rl.refl hg) (.inr (.bl _)) rfl
theorem eg_eqS {i j : Str} (ha : EvD L ta Γ (.str i)) (hb : EvD L tb Γ (.str j)) : EvD L (tOp rEq ta tb) Γ (.bool (decide (i = j))) := eg_op ha hb fun A H x y hi hg hx hy Q q => by
  obtain rfl := hx.str
  obtain rfl := hy.str
  refine ⟨rfl, ?_⟩
  have e : decide (V.str i = V.str j) = decide (i = j) := by
    by_cases z : i = j
    · rw [z]; simp
    · rw [decide_eq_false z]; exact decide_eq_false fun y => z (by injection y)
  rw [e]
  exact q _ _ H (Rl.refl hg) (.inr (.bl _)) rfl
theorem eg_neg {i : Int} (ha : EvD L ta Γ (.int i)) : EvD L (tUn (rU fun i => .int (-i)) ta) Γ (.int (-i)) := fun A σ H hi he hg Q q => ha A σ H hi he hg _ fun x d1 H1 r1 hx p1 => by
  subst p1
  obtain rfl := hx.int
  exact ⟨i, rfl, q _ _ H1 r1 (.inr (.int _)) rfl⟩
theorem os_ixT {ds : List PyData} {i : Int} (h : atI ds i = some d) : OpS L (rIxT L.K) (.tuple ds) (.int i) (fun x => x = d) := fun A H x y hi hg hx hy Q q => by
  obtain ⟨p, xs, rfl, e, r⟩ := hx.tuple
  obtain rfl := hy.int
  unfold atI at h
  cases e2 : ixN ds.length i with
  | none => rw [e2] at h; cases h
  | some j =>
    rw [e2] at h
    obtain ⟨v, hv, dv⟩ := r.get (i := j) h
    refine ⟨p, xs, i, v, rfl, rfl, e.sq, ?_, q v d H (Rl.refl hg) (.inr dv) rfl⟩
    unfold atI
    rw [r.length, e2]
    exact hv
theorem os_ixL {ds : List PyData} {i : Int} (h : atI ds i = some d) : OpS L (rIxL L.K) (.list ds) (.int i) (fun x => x = d) := fun A H x y hi hg hx hy Q q => by
  obtain ⟨p, xs, rfl, na, e, r⟩ := hx.list
  obtain rfl := hy.int
  unfold atI at h
  cases e2 : ixN ds.length i with
  | none => rw [e2] at h; cases h
  | some j =>
    rw [e2] at h
    obtain ⟨v, hv, dv⟩ := r.get (i := j) h
    refine ⟨p, xs, i, v, rfl, rfl, SqL.of e, ?_, q v d H (Rl.refl hg) (.inr dv) rfl⟩
    unfold atI
    rw [r.length, e2]
    exact hv
theorem eg_ixT {ds : List PyData} {i : Int} (ha : EvD L ta Γ (.tuple ds)) (hb : EvD L tb Γ (.int i)) (h : atI ds i = some d) : EvD L (tOp (rIxT L.K) ta tb) Γ d := eg_op ha hb (os_ixT h)
theorem eg_ixL {ds : List PyData} {i : Int} (ha : EvD L ta Γ (.list ds)) (hb : EvD L tb Γ (.int i)) (h : atI ds i = some d) : EvD L (tOp (rIxL L.K) ta tb) Γ d := eg_op ha hb (os_ixL h)
theorem os_cat {ds es : List PyData} (hl : ds.length + es.length ≤ 100000) : OpS L rCat (.list ds) (.list es) (fun x => x = .list (ds ++ es)) := fun A H x y hi hg hx hy Q q => by
  obtain ⟨p, xs, rfl, na, e, r⟩ := hx.list
  obtain ⟨p2, ys, rfl, na2, e2, r2⟩ := hy.list
  refine ⟨p, p2, xs, ys, rfl, rfl, e, e2, Nat.le_trans (by rw [r.length, r2.length]; exact hl) (by decide), fun l hl2 => ?_⟩
  have rr := Rl.newR (o := .lst (xs ++ ys)) hg hl2
  exact q _ _ _ rr (.inr (.lst (hi.no hl2) upd_same ((r.app r2).r rr))) rfl
theorem eg_cat {ds es : List PyData} (ha : EvD L ta Γ (.list ds)) (hb : EvD L tb Γ (.list es)) (hl : ds.length + es.length ≤ 100000) : EvD L (tOp rCat ta tb) Γ (.list (ds ++ es)) := eg_op ha hb (os_cat hl)
theorem os_rep {ds : List PyData} {i : Int} (h0 : 0 ≤ i) (h1 : i ≤ 1000) (hl : ds.length ≤ 100) : OpS L rRep (.list ds) (.int i) (fun x => x = .list (List.replicate i.toNat ds).flatten) := fun A H x y hi hg hx hy Q q => by
  obtain ⟨p, xs, rfl, na, e, r⟩ := hx.list
  obtain rfl := hy.int
  refine ⟨p, i, xs, rfl, rfl, e, by omega, by omega, Nat.le_trans (Nat.mul_le_mul (by rw [r.length]; exact hl) (show i.toNat ≤ 1000 by omega)) (by decide), fun l hl2 => ?_⟩
  have rr := Rl.newR (o := .lst (List.replicate i.toNat xs).flatten) hg hl2
  exact q _ _ _ rr (.inr (.lst (hi.no hl2) upd_same ((r.rep _).r rr))) rfl
theorem eg_rep {ds : List PyData} {i : Int} (ha : EvD L ta Γ (.list ds)) (hb : EvD L tb Γ (.int i)) (h0 : 0 ≤ i) (h1 : i ≤ 1000) (hl : ds.length ≤ 100) : EvD L (tOp rRep ta tb) Γ (.list (List.replicate i.toNat ds).flatten) := eg_op ha hb (os_rep h0 h1 hl)
end
end V1
set_option Elab.async false
set_option linter.all false
set_option maxRecDepth 100000
set_option maxHeartbeats 4000000
/-! The rest of the readings by data: slices, displays, calls, comprehensions, statements, loops. -/
namespace V1
open PySem PySem.Spec PyProof.Rows L2

def cutD (ds : List PyData) (lo hi : Option Int) : List PyData := (ds.drop (HT.sIx ds.length 0 lo)).take (HT.sIx ds.length ds.length hi - HT.sIx ds.length 0 lo)
theorem cut_neg {ds : List PyData} {k : Nat} (hk : 0 < k) (h : k ≤ ds.length) : cutD ds none (some (-(k : Int))) = ds.take (ds.length - k) := by
  unfold cutD
  have e : HT.sIx ds.length ds.length (some (-(k : Int))) = ds.length - k := by
    show (if (-(k : Int)) < 0 then ((-(k : Int)) + (ds.length : Int)).toNat else min (-(k : Int)).toNat ds.length) = _
    rw [if_pos (by omega)]
    omega
  rw [e]
  show (ds.drop 0).take (ds.length - k - 0) = _
  simp
theorem cut_last {ds : List PyData} (h : 0 < ds.length) : cutD ds (some (-1)) none = ds.drop (ds.length - 1) := by
  unfold cutD
  have e : HT.sIx ds.length 0 (some (-1)) = ds.length - 1 := by
    show (if (-1 : Int) < 0 then ((-1 : Int) + (ds.length : Int)).toNat else min (-1 : Int).toNat ds.length) = _
    rw [if_pos (by omega)]
    omega
  rw [e]
  show (ds.drop (ds.length - 1)).take (ds.length - (ds.length - 1)) = _
  rw [List.take_of_length_le (by rw [List.length_drop]; omega)]
def nomk : List PyData → Bool
  | [] => true
  | .dict [] :: _ => false
  | _ :: r => nomk r
theorem nomk_ne {ds : List PyData} (h : nomk ds = true) : ∀ (i : Nat) d, ds[i]? = some d → d ≠ mark := by
  induction ds with
  | nil => intro i d e; simp at e
  | cons d0 r ih =>
    intro i d e z
    subst z
    cases i with
    | zero => simp at e; subst e; simp [nomk] at h
    | succ i =>
      refine ih ?_ i _ (by simpa using e) rfl
      cases d0 with
      | dict k => cases k with
        | nil => simp [nomk] at h
        | cons a b => simpa [nomk] using h
      | _ => simpa [nomk] using h

section
variable {L : Rl} {A : Addr → Prop} {H H' : Hp} {v : V} {d : PyData} {σ : L2.St} {Γ : List (Option PyData)} {n a b c : Nat} {te ta tb : TE} {t : TA} {tt tu : TT} {P P1 P2 : PyData → Prop}

/-! ### slices -/
def EoD (L : Rl) (to : TO) (Γ : List (Option PyData)) (o : Option Int) : Prop := ∀ A σ H, Inn A H → EnvOk L A σ H Γ → L.G 0 H → ∀ Q : Option Int → Hp → Prop, (∀ H', L.R 0 H H' → Q o H') → to σ H Q
theorem eo_none : EoD L tNoPart Γ none := fun A σ H hi he hg Q q => q H (Rl.refl hg)
theorem eo_some {i : Int} (h : EvD L te Γ (.int i)) : EoD L (tPart te) Γ (some i) := fun A σ H hi he hg Q q => h A σ H hi he hg _ fun v d H1 r1 hv p => by
  subst p
  obtain rfl := hv.int
  exact ⟨i, rfl, q H1 r1⟩
theorem eg_slT {ds : List PyData} {tl th : TO} {lo0 hi0 : Option Int} (h : EvD L te Γ (.tuple ds)) (h1 : EoD L tl Γ lo0) (h2 : EoD L th Γ hi0) (hw : ¬ (HT.sIx ds.length 0 lo0 = 0 ∧ HT.sIx ds.length ds.length hi0 = ds.length)) :
    EvD L (tSl (rSlT L.K) te tl th) Γ (.tuple (cutD ds lo0 hi0)) := fun A σ H hi he hg Q q => h A σ H hi he hg _ fun x d1 H1 r1 hx p => by
  subst p
  refine h1 A σ H1 (hi.r r1) (he.r r1) (Rl.gR (b := 0) hg r1) _ fun H2 r2 => h2 A σ H2 ((hi.r r1).r r2) ((he.r r1).r r2) (Rl.gR (b := 0) (Rl.gR (b := 0) hg r1) r2) _ fun H3 r3 => ?_
  have g3 : L.G 0 H3 := Rl.gR (b := 0) (Rl.gR (b := 0) (Rl.gR (b := 0) hg r1) r2) r3
  obtain ⟨p, xs, rfl, e, r⟩ := ((hx.r r2).r r3).tuple
  refine ⟨p, xs, rfl, e.sq, by rw [r.length]; exact hw, fun q1 hq => ?_⟩
  have rr := Rl.newR (o := .tup (cutV xs lo0 hi0)) g3 hq
  exact q _ _ _ (L.tr (a := 0) (b := 0) (L.tr (a := 0) (b := 0) (L.tr (a := 0) (b := 0) r1 r2) r3) rr) (.inr (.tup ((((hi.r r1).r r2).r r3).no hq) upd_same ((r.cut lo0 hi0).r rr))) rfl
theorem eg_slL {ds : List PyData} {tl th : TO} {lo0 hi0 : Option Int} (h : EvD L te Γ (.list ds)) (h1 : EoD L tl Γ lo0) (h2 : EoD L th Γ hi0) : EvD L (tSl (rSlL L.K) te tl th) Γ (.list (cutD ds lo0 hi0)) := fun A σ H hi he hg Q q => h A σ H hi he hg _ fun x d1 H1 r1 hx p => by
  subst p
  refine h1 A σ H1 (hi.r r1) (he.r r1) (Rl.gR (b := 0) hg r1) _ fun H2 r2 => h2 A σ H2 ((hi.r r1).r r2) ((he.r r1).r r2) (Rl.gR (b := 0) (Rl.gR (b := 0) hg r1) r2) _ fun H3 r3 => ?_
  have g3 : L.G 0 H3 := Rl.gR (b := 0) (Rl.gR (b := 0) (Rl.gR (b := 0) hg r1) r2) r3
  obtain ⟨p, xs, rfl, na, e, r⟩ := ((hx.r r2).r r3).list
  refine ⟨p, xs, rfl, SqL.of e, fun q1 hq => ?_⟩
  have rr := Rl.newR (o := .lst (cutV xs lo0 hi0)) g3 hq
  exact q _ _ _ (L.tr (a := 0) (b := 0) (L.tr (a := 0) (b := 0) (L.tr (a := 0) (b := 0) r1 r2) r3) rr) (.inr (.lst ((((hi.r r1).r r2).r r3).no hq) upd_same ((r.cut lo0 hi0).r rr))) rfl

/-! ### arguments, displays -/
theorem ea_nil : EaD L tNil Γ [] := fun A σ H hi he hg Q q => q [] [] H (Rl.refl hg) rfl (fun i d e => by simp at e) rfl
theorem ea_consG {P1 : PyData → Prop} {P2 : List PyData → Prop} (h : EvG L a te Γ P1) (hr : EaG L b t Γ P2) : EaG L (a + b) (tCons te t) Γ (fun ds => ∃ d r, ds = d :: r ∧ P1 d ∧ P2 r) := fun A σ H hi he hg Q q =>
  h A σ H hi he (L.gle (Nat.le_add_right _ _) hg) _ fun x d H1 r1 hx p1 => hr A σ H1 (hi.r r1) (he.r r1) (Rl.gR hg r1) _ fun xs ds H2 r2 hl hxs p2 =>
    q (x :: xs) (d :: ds) H2 (L.tr r1 r2) (by rw [List.length_cons, List.length_cons, hl]) (fun i d' e => by
      cases i with
      | zero => simp at e; subst e; exact ⟨x, rfl, hx.r r2⟩
      | succ i => simpa using hxs i d' (by simpa using e)) ⟨d, ds, rfl, p1, p2⟩
theorem EaG.mono {P P' : List PyData → Prop} (h : EaG L a t Γ P) (hn : a ≤ b) (hp : ∀ d, P d → P' d) : EaG L b t Γ P' := fun A σ H hi he hg Q q => h A σ H hi he (L.gle hn hg) Q fun v d H' r hl hd p => q v d H' (L.rle hn r) hl hd (hp d p)
theorem ea_cons {ds : List PyData} (h : EvD L te Γ d) (hr : EaD L t Γ ds) : EaD L (tCons te t) Γ (d :: ds) := (ea_consG (a := 0) (b := 0) h hr).mono (Nat.le_refl _) fun x ⟨d1, r, e, e1, e2⟩ => by rw [e, e1, e2]
theorem all_of {A : Addr → Prop} {H : Hp} {vs : List V} {ds : List PyData} (hl : vs.length = ds.length) (h : ∀ (i : Nat) d, ds[i]? = some d → ∃ v, vs[i]? = some v ∧ Dq L A H v d) (hn : nomk ds = true) : DvAll L.K A H vs ds := by
  have hne := nomk_ne hn
  clear hn
  induction ds generalizing vs with
  | nil =>
    have e : vs = [] := List.length_eq_zero_iff.mp hl
    subst e
    exact .nil
  | cons d r ih =>
    cases vs with
    | nil => simp at hl
    | cons v vs =>
      obtain ⟨v', e, hv⟩ := h 0 d rfl
      simp at e
      subst e
      refine .cons (hv.ne (hne 0 d rfl)) (ih (by simpa using hl) (fun i d e => by simpa using h (i + 1) d (by simpa using e)) (fun i d e => hne (i + 1) d (by simpa using e)))
theorem eg_tup {ds : List PyData} (h : EaD L t Γ ds) (hn : nomk ds = true := by rfl) (hl : ds.length ≤ 1000 := by simp) : EvD L (tTup t) Γ (.tuple ds) := fun A σ H hi he hg Q q => h A σ H hi he hg _ fun vs ds' H1 r1 l hv p => by
  subst p
  refine ⟨Nat.le_trans (by rw [l]; exact hl) (by decide), fun p hp => ?_⟩
  have rr := Rl.newR (o := .tup vs) (Rl.gR (b := 0) hg r1) hp
  exact q _ _ _ (L.tr (a := 0) (b := 0) r1 rr) (.inr (.tup ((hi.r r1).no hp) upd_same ((all_of l hv hn).r rr))) rfl
theorem eg_lst {ds : List PyData} (h : EaD L t Γ ds) (hn : nomk ds = true := by rfl) (hl : ds.length ≤ 1000 := by simp) : EvD L (tLst t) Γ (.list ds) := fun A σ H hi he hg Q q => h A σ H hi he hg _ fun vs ds' H1 r1 l hv p => by
  subst p
  refine ⟨Nat.le_trans (by rw [l]; exact hl) (by decide), fun p hp => ?_⟩
  have rr := Rl.newR (o := .lst vs) (Rl.gR (b := 0) hg r1) hp
  exact q _ _ _ (L.tr (a := 0) (b := 0) r1 rr) (.inr (.lst ((hi.r r1).no hp) upd_same ((all_of l hv hn).r rr))) rfl

/-! ### built-ins -/
def CaS (L : Rl) (r : List V → Hp → VK → Prop) (ds : List PyData) (d : PyData) : Prop := ∀ A H vs, Inn A H → L.G 0 H → vs.length = ds.length → (∀ (i : Nat) d, ds[i]? = some d → ∃ v, vs[i]? = some v ∧ Dq L A H v d) → ∀ Q : VK, (∀ v H', L.R 0 H H' → Dq L A H' v d → Q v H') → r vs H Q
theorem eg_cb {r : List V → Hp → VK → Prop} {ds : List PyData} (h : EaD L t Γ ds) (hr : CaS L r ds d) : EvD L (tCB r t) Γ d := fun A σ H hi he hg Q q => h A σ H hi he hg _ fun vs ds' H1 r1 l hv p => by
  subst p
  exact hr A H1 vs (hi.r r1) (Rl.gR (b := 0) hg r1) l hv Q fun v H2 r2 hd => q v _ H2 (L.tr (a := 0) (b := 0) r1 r2) hd rfl
theorem one_of {vs : List V} (hl : vs.length = 1) (h : ∀ (i : Nat) d', [d][i]? = some d' → ∃ v, vs[i]? = some v ∧ Dq L A H v d') : ∃ v, vs = [v] ∧ Dq L A H v d := by
  obtain ⟨v, e, hv⟩ := h 0 d rfl
  cases vs with
  | nil => simp at hl
  | cons x r =>
    cases r with
    | nil => simp at e; subst e; exact ⟨x, rfl, hv⟩
    | cons y z => simp at hl
theorem two_of {d2 : PyData} {vs : List V} (hl : vs.length = 2) (h : ∀ (i : Nat) d', [d, d2][i]? = some d' → ∃ v, vs[i]? = some v ∧ Dq L A H v d') : ∃ v w, vs = [v, w] ∧ Dq L A H v d ∧ Dq L A H w d2 := by
  obtain ⟨v, e, hv⟩ := h 0 d rfl
  obtain ⟨w, e2, hw⟩ := h 1 d2 rfl
  cases vs with
  | nil => simp at hl
  | cons x r =>
    cases r with
    | nil => simp at hl
    | cons y z =>
      cases z with
      | nil => simp at e e2; subst e e2; exact ⟨x, y, rfl, hv, hw⟩
      | cons u z => simp at hl
theorem cs_lenL {ds : List PyData} : CaS L (fun xs H Q => ∃ p ys, xs = [.ref p] ∧ (SqL L.K H p ys ∨ SqT L.K H p ys) ∧ Q (.int ys.length) H) [.list ds] (.int ds.length) := fun A H vs hi hg hl h Q q => by
  obtain ⟨v, rfl, hv⟩ := one_of hl h
  obtain ⟨p, xs, rfl, na, e, r⟩ := hv.list
  refine ⟨p, xs, rfl, .inl (SqL.of e), ?_⟩
  rw [r.length]
  exact q _ H (Rl.refl hg) (.inr (.int _))
theorem cs_lenT {ds : List PyData} : CaS L (fun xs H Q => ∃ p ys, xs = [.ref p] ∧ (SqL L.K H p ys ∨ SqT L.K H p ys) ∧ Q (.int ys.length) H) [.tuple ds] (.int ds.length) := fun A H vs hi hg hl h Q q => by
  obtain ⟨v, rfl, hv⟩ := one_of hl h
  obtain ⟨p, xs, rfl, e, r⟩ := hv.tuple
  refine ⟨p, xs, rfl, .inr (e.sq), ?_⟩
  rw [r.length]
  exact q _ H (Rl.refl hg) (.inr (.int _))
theorem cs_gcd {i j : Int} : CaS L rGcd [.int i, .int j] (.int ((Nat.gcd i.natAbs j.natAbs : Nat) : Int)) := fun A H vs hi hg hl h Q q => by
  obtain ⟨v, w, rfl, hv, hw⟩ := two_of hl h
  obtain rfl := hv.int
  obtain rfl := hw.int
  exact ⟨i, j, rfl, q _ H (Rl.refl hg) (.inr (.int _))⟩
theorem cs_lcm {i j : Int} (h1 : i.natAbs < 2 ^ 64) (h2 : j.natAbs < 2 ^ 64) : CaS L rLcm [.int i, .int j] (.int ((Nat.lcm i.natAbs j.natAbs : Nat) : Int)) := fun A H vs hi hg hl h Q q => by
  obtain ⟨v, w, rfl, hv, hw⟩ := two_of hl h
  obtain rfl := hv.int
  obtain rfl := hw.int
  exact ⟨i, j, rfl, h1, h2, q _ H (Rl.refl hg) (.inr (.int _))⟩
theorem cs_int {i : Int} : CaS L (fun xs H Q => (∃ i, xs = [.int i] ∧ Q (.int i) H) ∨ ∃ k, xs = [.bl k] ∧ Q (.int (if k then 1 else 0)) H) [.int i] (.int i) := fun A H vs hi hg hl h Q q => by
  obtain ⟨v, rfl, hv⟩ := one_of hl h
  obtain rfl := hv.int
  exact .inl ⟨i, rfl, q _ H (Rl.refl hg) (.inr (.int _))⟩
theorem cs_intB {k : Bool} : CaS L (fun xs H Q => (∃ i, xs = [.int i] ∧ Q (.int i) H) ∨ ∃ k, xs = [.bl k] ∧ Q (.int (if k then 1 else 0)) H) [.bool k] (.int (if k then 1 else 0)) := fun A H vs hi hg hl h Q q => by
  obtain ⟨v, rfl, hv⟩ := one_of hl h
  obtain rfl := hv.bool
  exact .inr ⟨k, rfl, q _ H (Rl.refl hg) (.inr (.int _))⟩
theorem cs_abs {i : Int} : CaS L (fun xs H Q => ∃ i, xs = [.int i] ∧ Q (.int (if i < 0 then -i else i)) H) [.int i] (.int (i.natAbs : Int)) := fun A H vs hi hg hl h Q q => by
  obtain ⟨v, rfl, hv⟩ := one_of hl h
  obtain rfl := hv.int
  refine ⟨i, rfl, ?_⟩
  have e : (if i < 0 then -i else i) = (i.natAbs : Int) := by split <;> omega
  rw [e]
  exact q _ H (Rl.refl hg) (.inr (.int _))
theorem cs_min {i j : Int} : CaS L (fun xs H Q => ∃ i j, xs = [.int i, .int j] ∧ Q (.int (if j < i then j else i)) H) [.int i, .int j] (.int (min i j)) := fun A H vs hi hg hl h Q q => by
  obtain ⟨v, w, rfl, hv, hw⟩ := two_of hl h
  obtain rfl := hv.int
  obtain rfl := hw.int
  refine ⟨i, j, rfl, ?_⟩
  have e : (if j < i then j else i) = min i j := by split <;> omega
  rw [e]
  exact q _ H (Rl.refl hg) (.inr (.int _))
theorem cs_max {i j : Int} : CaS L (fun xs H Q => ∃ i j, xs = [.int i, .int j] ∧ Q (.int (if j > i then j else i)) H) [.int i, .int j] (.int (max i j)) := fun A H vs hi hg hl h Q q => by
  obtain ⟨v, w, rfl, hv, hw⟩ := two_of hl h
  obtain rfl := hv.int
  obtain rfl := hw.int
  refine ⟨i, j, rfl, ?_⟩
  have e : (if j > i then j else i) = max i j := by split <;> omega
  rw [e]
  exact q _ H (Rl.refl hg) (.inr (.int _))
theorem cs_sum {ns : List Int} : CaS L (rSum L.K) [.list (ns.map PyData.int)] (.int ns.sum) := fun A H vs hi hg hl h Q q => by
  obtain ⟨v, rfl, hv⟩ := one_of hl h
  obtain ⟨p, xs, rfl, na, e, r⟩ := hv.list
  rw [r.ints] at e
  exact ⟨p, ns, rfl, SqL.of e, q _ H (Rl.refl hg) (.inr (.int _))⟩
theorem cs_tuple {ds : List PyData} : CaS L (fun xs H Q => ∃ p ys, xs = [.ref p] ∧ ((SqL L.K H p ys ∧ ∀ l, H l = none → Q (.ref l) (upd H l (.tup ys))) ∨ (SqT L.K H p ys ∧ Q (.ref p) H))) [.list ds] (.tuple ds) := fun A H vs hi hg hl h Q q => by
  obtain ⟨v, rfl, hv⟩ := one_of hl h
  obtain ⟨p, xs, rfl, na, e, r⟩ := hv.list
  refine ⟨p, xs, rfl, .inl ⟨SqL.of e, fun l hl2 => ?_⟩⟩
  have rr := Rl.newR (o := .tup xs) hg hl2
  exact q _ _ rr (.inr (.tup (hi.no hl2) upd_same (r.r rr)))
theorem cs_reprL {ds : List PyData} (h1 : (PyData.list ds).showable = true) (h2 : (PyData.list ds).hasDict = false) (h3 : (PyData.list ds).depth ≤ 60) (h4 : (PyData.list ds).shown.length ≤ sizeLine) : CaS L (rRepr L.K) [.list ds] (.str (PyData.list ds).shown) := fun A H vs hi hg hl h Q q => by
  obtain ⟨v, rfl, hv⟩ := one_of hl h
  have hd := (hv.ne (by intro z; cases z)).dp (K := L.K) h2
  obtain ⟨p, xs, rfl, na, e, r⟩ := hv.list
  exact ⟨p, _, rfl, hd, h1, h2, h3, h4, q _ H (Rl.refl hg) (.inr (.str _))⟩
theorem cs_reprT {ds : List PyData} (h1 : (PyData.tuple ds).showable = true) (h2 : (PyData.tuple ds).hasDict = false) (h3 : (PyData.tuple ds).depth ≤ 60) (h4 : (PyData.tuple ds).shown.length ≤ sizeLine) : CaS L (rRepr L.K) [.tuple ds] (.str (PyData.tuple ds).shown) := fun A H vs hi hg hl h Q q => by
  obtain ⟨v, rfl, hv⟩ := one_of hl h
  have hd := (hv.ne (by intro z; cases z)).dp (K := L.K) h2
  obtain ⟨p, xs, rfl, e, r⟩ := hv.tuple
  exact ⟨p, _, rfl, hd, h1, h2, h3, h4, q _ H (Rl.refl hg) (.inr (.str _))⟩

/-! ### calls of own defs -/
def spL (L : Rl) (n : Nat) (Pre : List PyData → Prop) (Post : List PyData → PyData → Prop) : Sp := fun vs H Q _ => ∃ (A : Addr → Prop) (ds : List PyData), Inn A H ∧ vs.length = ds.length ∧
  (∀ (i : Nat) d, ds[i]? = some d → ∃ v, vs[i]? = some v ∧ Dq L A H v d) ∧ Pre ds ∧ L.G n H ∧ ∀ v d H', L.R n H H' → Dq L A H' v d → Post ds d → Q v H'
variable {Pre : List PyData → Prop} {Post : List PyData → PyData → Prop} {PA1 : List PyData → Prop} {E : XK}
theorem pure_dq (h : Dq (pureL L.K) A H v d) : Dq L A H v d := h.elim (fun z => z.2.elim) .inr
theorem eg_callP (ha : EaG L a t Γ PA1) (hp : ∀ ds, PA1 ds → Pre ds ∧ nomk ds = true) : EvG L a (tCall (spL (pureL L.K) 0 Pre Post) [] E t) Γ (fun d => ∃ ds, PA1 ds ∧ Post ds d) := fun A σ H hi he hg Q q => ha A σ H hi he hg _ fun vs ds H1 r1 l hv p => by
  obtain ⟨h1, h2⟩ := hp ds p
  show spL (pureL L.K) 0 Pre Post (vs ++ []) H1 Q E
  rw [List.append_nil]
  refine ⟨A, ds, hi.r r1, l, fun i d e => ?_, h1, trivial, fun v d H2 r2 hd hpo => q v d H2 (L.tr (b := 0) r1 (L.same (Rl.gR (b := 0) hg r1) r2)) (pure_dq hd) ⟨ds, p, hpo⟩⟩
  obtain ⟨v, e1, e2⟩ := hv i d e
  exact ⟨v, e1, .inr (e2.ne (nomk_ne h2 i d e))⟩
theorem eg_callD {F : List PyData → PyData} {ds : List PyData} (ha : EaD L t Γ ds) (hp : Pre ds) (hn : nomk ds = true := by rfl) : EvD L (tCall (spL (pureL L.K) 0 Pre fun ds d => d = F ds) [] E t) Γ (F ds) :=
  (eg_callP (PA1 := fun x => x = ds) ha fun ds' e => by rw [e]; exact ⟨hp, hn⟩).mono (Nat.le_refl _) fun d ⟨ds', e1, e2⟩ => by rw [e2, e1]
/-- keywords alone -/
theorem eg_callK {F : List PyData → PyData} {ds ds2 : List PyData} {gV : List V → List V → List V} {tk : TA} (ha : EaD L tk Γ ds) (hg2 : ∀ zs : List V, zs.length = ds.length → (gV [] zs).length = ds2.length ∧ ∀ (i : Nat) d, ds2[i]? = some d → ∃ j : Nat, ds[j]? = some d ∧ (gV [] zs)[i]? = zs[j]?) (hp : Pre ds2) (hn : nomk ds2 = true := by rfl) :
    EvD L (tCallK (spL (pureL L.K) 0 Pre fun ds d => d = F ds) gV E tNil tk) Γ (F ds2) := fun A σ H hi he hg Q q => ha A σ H hi he hg _ fun vs ds' H1 r1 l hv p => by
  subst p
  obtain ⟨g1, g2⟩ := hg2 vs l
  refine ⟨A, ds2, hi.r r1, g1, fun i d e => ?_, hp, trivial, fun v d H2 r2 hd hpo => q v d H2 (L.tr (a := 0) (b := 0) r1 (L.same (Rl.gR (b := 0) hg r1) r2)) (pure_dq hd) hpo⟩
  obtain ⟨j, e1, e2⟩ := g2 i d e
  obtain ⟨v, e3, e4⟩ := hv j d e1
  exact ⟨v, by rw [e2]; exact e3, .inr (e4.ne (nomk_ne hn i d e))⟩
/-- a def that goes on as L does -/
theorem eg_callL (ha : EaG L a t Γ PA1) (hp : ∀ ds, PA1 ds → Pre ds) : EvG L (a + b) (tCall (spL L b Pre Post) [] E t) Γ (fun d => ∃ ds, PA1 ds ∧ Post ds d) := fun A σ H hi he hg Q q => ha A σ H hi he (L.gle (Nat.le_add_right _ _) hg) _ fun vs ds H1 r1 l hv p => by
  show spL L b Pre Post (vs ++ []) H1 Q E
  rw [List.append_nil]
  exact ⟨A, ds, hi.r r1, l, hv, hp ds p, Rl.gR hg r1, fun v d H2 r2 hd hpo => q v d H2 (L.tr r1 r2) hd ⟨ds, p, hpo⟩⟩
/-- a def whose way hangs on what it is given -/
def spA (S : Rl → Prop) (n : Nat) (Pre : List PyData → Prop) (Post : List PyData → PyData → Prop) : Sp := fun vs H Q E => ∃ L, S L ∧ spL L n Pre Post vs H Q E
theorem eg_callA {S : Rl → Prop} (hS : S L) (ha : EaG L a t Γ PA1) (hp : ∀ ds, PA1 ds → Pre ds) : EvG L (a + b) (tCall (spA S b Pre Post) [] E t) Γ (fun d => ∃ ds, PA1 ds ∧ Post ds d) := fun A σ H hi he hg Q q => ha A σ H hi he (L.gle (Nat.le_add_right _ _) hg) _ fun vs ds H1 r1 l hv p => by
  show spA S b Pre Post (vs ++ []) H1 Q E
  rw [List.append_nil]
  exact ⟨L, hS, A, ds, hi.r r1, l, hv, hp ds p, Rl.gR hg r1, fun v d H2 r2 hd hpo => q v d H2 (L.tr r1 r2) hd ⟨ds, p, hpo⟩⟩

/-! ### tests -/
theorem et_B {k : Bool} (h : EvD L te Γ (.bool k)) : EtD L (tB te) Γ k := fun A σ H hi he hg Q q => h A σ H hi he hg _ fun v d H1 r1 hv p => by
  subst p
  obtain rfl := hv.bool
  exact ⟨k, rfl, q H1 r1⟩
theorem et_test {k : Bool} (h : EvD L te Γ (.bool k)) : EtD L (tTest te) Γ k := et_B h
theorem et_not {k : Bool} (h : EtD L tt Γ k) : EtD L (tNot tt) Γ (!k) := fun A σ H hi he hg Q q => h A σ H hi he hg _ fun H1 r1 => q H1 r1
theorem et_or0 {k : Bool} (h : EtD L tt Γ false) (h2 : EtD L tu Γ k) : EtD L (tOr tt tu) Γ k := fun A σ H hi he hg Q q => h A σ H hi he hg _ fun H1 r1 => by
  show tu σ H1 Q
  exact h2 A σ H1 (hi.r r1) (he.r r1) (Rl.gR (b := 0) hg r1) Q fun H2 r2 => q H2 (L.tr (a := 0) (b := 0) r1 r2)
theorem et_or1 (h : EtD L tt Γ true) : EtD L (tOr tt tu) Γ true := fun A σ H hi he hg Q q => h A σ H hi he hg _ fun H1 r1 => by
  show Q true H1
  exact q H1 r1
theorem et_is {k k' : Bool} (h : EtD L tt Γ k) (e : k = k') : EtD L tt Γ k' := e ▸ h
theorem eg_if {k : Bool} (h : EtD L tt Γ k) (h1 : k = true → EvD L ta Γ d) (h2 : k = false → EvD L tb Γ d) : EvD L (tIf tt ta tb) Γ d := fun A σ H hi he hg Q q => h A σ H hi he hg _ fun H1 r1 => by
  have fin : ∀ {tx : TE}, EvD L tx Γ d → tx σ H1 Q := fun {tx} hx => hx A σ H1 (hi.r r1) (he.r r1) (Rl.gR (b := 0) hg r1) Q fun v d' H2 r2 hd p => q v d' H2 (L.tr (a := 0) (b := 0) r1 r2) hd p
  cases k with
  | true => exact fin (h1 rfl)
  | false => exact fin (h2 rfl)
end
end V1
set_option Elab.async false
set_option linter.all false
set_option maxRecDepth 100000
set_option maxHeartbeats 4000000
/-! Walks, comprehensions, statements, loops, a def's promise by its body. -/
namespace V1
open PySem PySem.Spec PyProof.Rows L2

/-- all but dicts, and what is avoided, stay -/
def Kp (A : Addr → Prop) (H H' : Hp) : Prop := ∀ b o, ¬ A b → H b = some o → Fx o → H' b = some o
/-- the iterator gives the items, one by one, in whatever heap goes on from H1 -/
structure JOk (K : PySem.W.Frag) (A : Addr → Prop) (J : It) (H1 : Hp) (items : List PyData) : Prop where
  go : ∀ (i : Nat) H', Kp A H1 H' → i < items.length → J.go i H'
  yld : ∀ (i : Nat) H' x H'', Kp A H1 H' → (∀ b, A b → H' b ≠ none) → J.yld i H' x H'' → i < items.length → ∃ d, items[i]? = some d ∧ Same H' H'' ∧ (∀ A', (∀ b, A' b → H' b ≠ none) → (∀ b o, ¬ A b → H1 b = some o → Fx o → ¬ A' b) → Dv K A' H'' x d)
  stop : ∀ H', Kp A H1 H' → J.stop items.length H'
def WkG (L : Rl) (n : Nat) (wi : TI) (Γ : List (Option PyData)) (P : List PyData → Prop) : Prop := ∀ A σ H, Inn A H → EnvOk L A σ H Γ → L.G n H → ∀ R : It → Hp → Prop, (∀ J H1 items, L.R n H H1 → P items → JOk L.K A J H1 items → R J H1) → wi σ H R
abbrev WkD (L : Rl) (wi : TI) (Γ : List (Option PyData)) (items : List PyData) : Prop := WkG L 0 wi Γ (fun x => x = items)
section
variable {L : Rl} {A : Addr → Prop} {H H' H1 : Hp} {v : V} {d : PyData} {σ : L2.St} {Γ : List (Option PyData)} {n a b c : Nat} {te ta tb tl : TE} {t : TA} {tt tu : TT} {P P1 P2 : PyData → Prop}
theorem Kp.at {xs : List V} {p : Addr} (k : Kp A H H') (na : ¬ A p) (e : H p = some (.lst xs)) : H' p = some (.lst xs) := k _ _ na e fxLst
theorem Kp.att {xs : List V} {p : Addr} (k : Kp A H H') (na : ¬ A p) (e : H p = some (.tup xs)) : H' p = some (.tup xs) := k _ _ na e fxTup
/-- what stands stays, away from whatever is avoided later -/
theorem dv_later {A A' : Addr → Prop} {H1 H' H'' : Hp} (h : Dv L.K A H1 v d) (k : Kp A H1 H') (s : Same H' H'') (f : ∀ b o, ¬ A b → H1 b = some o → Fx o → ¬ A' b) : Dv L.K A' H'' v d := h.map fun b o na e q => ⟨f b o na e q, s _ _ (k b o na e q)⟩
/-- a sequence that stands, also later -/
def Stands (K : PySem.W.Frag) (k : Bool) (A : Addr → Prop) (H1 : Hp) (p : Addr) (xs : List V) : Prop := ∀ H', Kp A H1 H' → Sq K k H' p xs
theorem TpAt.stands {p : Addr} {xs : List V} (h : TpAt L.K A H1 p xs) : Stands L.K false A H1 p xs := fun H' q => h.elim (fun z => SqT.of (q.att z.1 z.2)) fun z => z.sq H'
theorem lst_stands {p : Addr} {xs : List V} (na : ¬ A p) (h : H1 p = some (.lst xs)) : Stands L.K true A H1 p xs := fun H' q => SqL.of (q.at na h)
theorem Stands.now {k : Bool} {p : Addr} {xs : List V} (h : Stands L.K k A H1 p xs) : Sq L.K k H1 p xs := h H1 fun _ _ _ e _ => e
theorem jok_seq (k : Bool) {p : Addr} {xs : List V} {ds : List PyData} (st : Stands L.K k A H1 p xs) (r : DvAll L.K A H1 xs ds) (J : It) (hJ : J = (if k then Itl L.K p else Itt L.K p)) : JOk L.K A J H1 ds := by
  subst hJ
  have l := r.length
  refine ⟨fun i H' q hi => ?_, fun i H' x H'' q hA y hi => ?_, fun H' q => ?_⟩
  · have hx : xs[i]? = some xs[i] := List.getElem?_eq_getElem (by omega)
    cases k with
    | true => exact ⟨xs, _, st H' q, hx⟩
    | false => exact ⟨xs, _, st H' q, hx⟩
  · have key : xs[i]? = some x ∧ H'' = H' := by
      cases k with
      | true => exact ⟨y.2 xs (st H' q), y.1⟩
      | false => exact ⟨y.2 xs (st H' q), y.1⟩
    obtain ⟨hx, rfl⟩ := key
    obtain ⟨d, hd, dv⟩ := r.getx hx
    exact ⟨d, hd, Same.refl _, fun A' _ f => dv_later dv q (Same.refl _) f⟩
  · cases k with
    | true => exact ⟨xs, st H' q, by omega⟩
    | false => exact ⟨xs, st H' q, by omega⟩
theorem wk_list {ds : List PyData} (h : EvD L tl Γ (.list ds)) : WkD L (iList L.K tl) Γ ds := fun A σ H hi he hg R q => h A σ H hi he hg _ fun x d H1 r1 hx p => by
  subst p
  obtain ⟨p, xs, rfl, na, e, r⟩ := hx.list
  exact ⟨p, rfl, ⟨xs, SqL.of e⟩, q _ H1 ds r1 rfl (jok_seq true (lst_stands na e) r _ rfl)⟩
theorem wk_tup {ds : List PyData} (h : EvD L tl Γ (.tuple ds)) : WkD L (iTup L.K tl) Γ ds := fun A σ H hi he hg R q => h A σ H hi he hg _ fun x d H1 r1 hx p => by
  subst p
  obtain ⟨p, xs, rfl, e, r⟩ := hx.tuple
  exact ⟨p, rfl, ⟨xs, e.sq⟩, q _ H1 ds r1 rfl (jok_seq false e.stands r _ rfl)⟩
/-- a sequence as data: a list (true), a tuple -/
def sqD : Bool → List PyData → PyData
  | true, ds => .list ds
  | false, ds => .tuple ds
theorem sq_dq {k : Bool} {ds : List PyData} (h : Dq L A H v (sqD k ds)) : ∃ p xs, v = .ref p ∧ Stands L.K k A H p xs ∧ DvAll L.K A H xs ds := by
  cases k with
  | true =>
    obtain ⟨p, xs, e1, na, e2, r⟩ := h.list
    exact ⟨p, xs, e1, lst_stands na e2, r⟩
  | false =>
    obtain ⟨p, xs, e1, e2, r⟩ := h.tuple
    exact ⟨p, xs, e1, e2.stands, r⟩
def zipD (ds es : List PyData) : List PyData := List.zipWith (fun d e => PyData.tuple [d, e]) ds es
theorem wk_zip {k1 k2 : Bool} {ds es : List PyData} (h : EaD L t Γ [sqD k1 ds, sqD k2 es]) : WkD L (iZipP L.K k1 k2 t) Γ (zipD ds es) := fun A σ H hi he hg R q => h A σ H hi he hg _ fun vs ds' H1 r1 hl hv p => by
  subst p
  obtain ⟨v, w, rfl, hx, hy⟩ := two_of hl hv
  obtain ⟨p1, xs, rfl, e1, r1'⟩ := sq_dq hx
  obtain ⟨p2, ys, rfl, e2, r2'⟩ := sq_dq hy
  have l1 := r1'.length
  have l2 := r2'.length
  refine ⟨p1, p2, xs, ys, rfl, e1.now, e2.now, q _ H1 _ r1 rfl ⟨fun i H' k hi => ?_, fun i H' x H'' k hA y hi => ?_, fun H' k => ?_⟩⟩
  · have hi' : i < min ds.length es.length := by simpa [zipD] using hi
    exact ⟨xs, ys, _, _, e1 _ k, e2 _ k, List.getElem?_eq_getElem (show i < xs.length by omega), List.getElem?_eq_getElem (show i < ys.length by omega)⟩
  · obtain ⟨T, x1, y1, rfl, hT, rfl, f1, f2⟩ := y
    obtain ⟨d, hd, dv⟩ := r1'.getx (f1 xs (e1 _ k))
    obtain ⟨e, he', ev⟩ := r2'.getx (f2 ys (e2 _ k))
    have sm : Same H' (upd H' T (.tup [x1, y1])) := fun b o z => by rw [upd_ne (ne_of_none z hT)]; exact z
    refine ⟨.tuple [d, e], ?_, sm, fun A' hA' f => .tup (fun z => hA' T z hT) upd_same (.cons (dv_later dv k sm f) (.cons (dv_later ev k sm f) .nil))⟩
    unfold zipD
    rw [List.getElem?_zipWith, hd, he']
  · refine ⟨xs, ys, e1 _ k, e2 _ k, ?_⟩
    unfold zipD
    rw [List.length_zipWith]
    omega
theorem wk_enum {k : Bool} {ds : List PyData} (h : EaD L t Γ [sqD k ds]) : WkD L (iEnumP L.K k t) Γ (ds.mapIdx fun i d => PyData.tuple [.int (i : Nat), d]) := fun A σ H hi he hg R q => h A σ H hi he hg _ fun vs ds' H1 r1 hl hv p => by
  subst p
  obtain ⟨v, rfl, hx⟩ := one_of hl hv
  obtain ⟨p1, xs, rfl, e1, r1'⟩ := sq_dq hx
  have l1 := r1'.length
  refine ⟨p1, xs, rfl, e1.now, q _ H1 _ r1 rfl ⟨fun i H' k hi => ?_, fun i H' x H'' k hA y hi => ?_, fun H' k => ?_⟩⟩
  · have hi' : i < ds.length := by simpa using hi
    exact ⟨xs, _, e1 _ k, List.getElem?_eq_getElem (show i < xs.length by omega)⟩
  · obtain ⟨T, x1, rfl, hT, rfl, f1⟩ := y
    obtain ⟨d, hd, dv⟩ := r1'.getx (f1 xs (e1 _ k))
    have sm : Same H' (upd H' T (.tup [.int (i : Nat), x1])) := fun b o z => by rw [upd_ne (ne_of_none z hT)]; exact z
    refine ⟨.tuple [.int (i : Nat), d], ?_, sm, fun A' hA' f => .tup (fun z => hA' T z hT) upd_same (.cons (.int _) (.cons (dv_later dv k sm f) .nil))⟩
    rw [List.getElem?_mapIdx, hd]
    rfl
  · refine ⟨xs, e1 _ k, ?_⟩
    rw [List.length_mapIdx]
    omega
def rngD (lo : Int) (n : Nat) : List PyData := (List.range n).map fun (i : Nat) => PyData.int (lo + (i : Int))
theorem wk_rng1G {P : PyData → Prop} (h : EaG L a t Γ (fun ds => ∃ j : Int, ds = [.int j] ∧ P (.int j) ∧ -(2 ^ 62) ≤ j ∧ j < 2 ^ 62)) : WkG L a (iRng1 t) Γ (fun items => ∃ j : Int, P (.int j) ∧ items = rngD 0 j.toNat) := fun A σ H hi he hg R q => h A σ H hi he hg _ fun vs ds' H1 r1 hl hv p => by
  obtain ⟨j, rfl, hp, h1, h2⟩ := p
  obtain ⟨v, rfl, hx⟩ := one_of hl hv
  obtain rfl := hx.int
  refine ⟨j, rfl, h1, h2, q _ H1 _ r1 ⟨j, hp, rfl⟩ ⟨fun i H' k hi => ?_, fun i H' x H'' k hA y hi => ?_, fun H' k => ?_⟩⟩
  · have hi' : i < j.toNat := by simpa [rngD] using hi
    exact hi'
  · obtain ⟨rfl, rfl⟩ := y
    have hi' : i < j.toNat := by simpa [rngD] using hi
    refine ⟨.int (0 + (i : Int)), ?_, Same.refl _, fun A' _ _ => .int _⟩
    unfold rngD
    rw [List.getElem?_map, List.getElem?_range hi']
    rfl
  · show j.toNat ≤ (rngD 0 j.toNat).length
    simp [rngD]
theorem wk_rng1 {j : Int} (h : EaD L t Γ [.int j]) (h1 : -(2 ^ 62) ≤ j ∧ j < 2 ^ 62) : WkD L (iRng1 t) Γ (rngD 0 j.toNat) := fun A σ H hi he hg R q =>
  wk_rng1G (P := fun x => x = .int j) (h.mono (Nat.le_refl _) fun ds e => ⟨j, e, rfl, h1⟩) A σ H hi he hg R fun J H1 items r ⟨j', e1, e2⟩ k => by
    have e3 : j' = j := by injection e1
    subst e3
    exact q J H1 items r e2 k

/-! ### targets -/
def TgG (L : Rl) (g : TG) (js : List Nat) (d : PyData) (Γ Γ' : List (Option PyData)) : Prop := ∀ A x σ H, Dv L.K A H x d → EnvOk L A σ H Γ → ∀ Q : L2.St → Hp → Prop, (∀ σ', EnvOk L A σ' H Γ' → (∀ vs : List Nat, (∀ j ∈ js, j ∈ vs) → wipe σ' vs = wipe σ vs) → Q σ' H) → g x σ H Q
theorem wipe_set {σ : L2.St} {j : Nat} {x : Option V} : ∀ {vs : List Nat}, j ∈ vs → wipe (σ.set j x) vs = wipe σ vs
  | [], h => by simp at h
  | v :: vs, h => by
    by_cases e : v = j
    · subst e
      by_cases h2 : v ∈ vs
      · show (wipe (σ.set v x) vs).set v none = (wipe σ vs).set v none
        rw [wipe_set h2]
      · have key : ∀ (ws : List Nat) (τ : L2.St), v ∉ ws → wipe (τ.set v x) ws = (wipe τ ws).set v x := by
          intro ws
          induction ws with
          | nil => intro τ _; rfl
          | cons u us ih =>
            intro τ hn
            show (wipe (τ.set v x) us).set u none = ((wipe τ us).set u none).set v x
            rw [ih τ (fun z => hn (List.mem_cons_of_mem _ z)), List.set_comm _ _ (fun z => hn (by rw [z]; exact List.mem_cons_self))]
        show (wipe (σ.set v x) vs).set v none = (wipe σ vs).set v none
        rw [key vs σ h2, List.set_set]
    · have h2 : j ∈ vs := (List.mem_cons.mp h).resolve_left (fun z => e z.symm)
      show (wipe (σ.set j x) vs).set v none = (wipe σ vs).set v none
      rw [wipe_set h2]
theorem wipe_mem {σ : L2.St} {v : Nat} : ∀ {ws : List Nat}, v ∈ ws → (wipe σ ws).set v none = wipe σ ws
  | [], h => by simp at h
  | u :: us, h => by
    by_cases e : u = v
    · subst e
      show ((wipe σ us).set u none).set u none = (wipe σ us).set u none
      rw [List.set_set]
    · have h2 : v ∈ us := (List.mem_cons.mp h).resolve_left (fun z => e z.symm)
      show ((wipe σ us).set u none).set v none = (wipe σ us).set u none
      rw [List.set_comm _ _ e, wipe_mem h2]
theorem wipe_wipe {σ : L2.St} (ws : List Nat) : ∀ {vs : List Nat}, (∀ v ∈ vs, v ∈ ws) → wipe (wipe σ ws) vs = wipe σ ws
  | [], _ => rfl
  | v :: vs, h => by
    show (wipe (wipe σ ws) vs).set v none = wipe σ ws
    rw [wipe_wipe ws (fun u hu => h u (List.mem_cons_of_mem _ hu)), wipe_mem (h v List.mem_cons_self)]
theorem tg_name {j : Nat} : TgG L (gName j) [j] d Γ (Γ.set j (some d)) := fun A x σ H hx he Q q => q _ (he.set (.inr hx) j) fun vs hv => wipe_set (hv j (by simp))
theorem tg_two {i j : Nat} {d1 d2 : PyData} : TgG L (gTup L.K 2 (gCons (gName i) (gCons (gName j) gNil))) [i, j] (.tuple [d1, d2]) Γ ((Γ.set i (some d1)).set j (some d2)) := fun A x σ H hx he Q q => by
  obtain ⟨p, xs, rfl, e, r⟩ := Dq.tuple (L := L) (.inr hx)
  cases r with
  | cons r1 r =>
    cases r with
    | cons r2 r =>
      cases r
      refine ⟨p, _, rfl, e.sq, rfl, _, _, rfl, _, _, rfl, rfl, ?_⟩
      refine q _ ((he.set (.inr r1) i).set (.inr r2) j) fun vs hv => ?_
      rw [wipe_set (hv j (by simp)), wipe_set (hv i (by simp))]

/-! ### comprehensions -/
def wipeD (Γ : List (Option PyData)) : List Nat → List (Option PyData)
  | [] => Γ
  | v :: vs => (wipeD Γ vs).set v none
theorem EnvOk.clear (h : EnvOk L A σ H Γ) (i : Nat) : EnvOk L A (σ.set i none) H (Γ.set i none) := by
  refine ⟨by rw [List.length_set, List.length_set]; exact h.1, fun j d' e => ?_⟩
  by_cases hj : i = j
  · subst hj
    have hl : i < Γ.length := by
      have := (List.getElem?_eq_some_iff.mp e).1
      rwa [List.length_set] at this
    rw [List.getElem?_set_self hl] at e
    cases e
  · rw [List.getElem?_set_ne hj] at e
    obtain ⟨w, h1, h2⟩ := h.2 j d' e
    exact ⟨w, by rw [List.getElem?_set_ne hj]; exact h1, h2⟩
theorem EnvOk.wipe (h : EnvOk L A σ H Γ) : ∀ vs : List Nat, EnvOk L A (wipe σ vs) H (wipeD Γ vs)
  | [] => h
  | v :: vs => (h.wipe vs).clear v
/-- a new address is avoided from now on -/
theorem EnvOk.avoid {q : Addr} {o : HO} (h : EnvOk L A σ H Γ) (e : H q = none) : EnvOk L (fun b => A b ∨ b = q) σ (upd H q o) Γ := ⟨h.1, fun i d ed => by
  obtain ⟨v, h1, h2⟩ := h.2 i d ed
  refine ⟨v, h1, h2.imp (fun x => x) fun x => x.map fun b u na eb _ => ?_⟩
  have ne : b ≠ q := ne_of_none eb e
  exact ⟨fun z => z.elim na ne, by rw [upd_ne ne]; exact eb⟩⟩
theorem kp_of (r : L.R n H H') : Kp A H H' := fun b o _ e k => L.keep r e k
/-- an avoided object is written -/
theorem DvAll.off {q : Addr} {o : HO} {vs : List V} {ds : List PyData} (h : DvAll L.K (fun b => A b ∨ b = q) H vs ds) : DvAll L.K (fun b => A b ∨ b = q) (upd H q o) vs ds := h.map fun b u na e k => ⟨na, by rw [upd_ne (fun z => na (.inr z))]; exact e⟩
theorem EnvOk.off {q : Addr} {o : HO} (h : EnvOk L (fun b => A b ∨ b = q) σ H Γ) : EnvOk L (fun b => A b ∨ b = q) σ (upd H q o) Γ := ⟨h.1, fun i d ed => by
  obtain ⟨v, h1, h2⟩ := h.2 i d ed
  exact ⟨v, h1, h2.imp (fun x => x) fun x => x.map fun b u na e _ => ⟨na, by rw [upd_ne (fun z => na (.inr z))]; exact e⟩⟩⟩
/-- a new object -/
def EvF (L : Rl) (n : Nat) (te : TE) (Γ : List (Option PyData)) (P : PyData → Prop) : Prop := ∀ A σ H, Inn A H → EnvOk L A σ H Γ → L.G n H → ∀ Q : VK, (∀ p d H', L.R n H H' → H p = none → Dq L A H' (.ref p) d → P d → Q (.ref p) H') → te σ H Q
theorem EvF.eg (h : EvF L a te Γ P) : EvG L a te Γ P := fun A σ H hi he hg Q q => h A σ H hi he hg Q fun p d H' r _ hv hp => q (.ref p) d H' r hv hp
theorem eg_lcGF {wi : TI} {g : TG} {js vs : List Nat} {PI1 : List PyData → Prop} {Pt : List PyData → Nat → PyData → Prop} (hw : WkG L a wi Γ PI1) (hj : ∀ j ∈ js, j ∈ vs) (hlen : ∀ items, PI1 items → items.length ≤ b ∧ b ≤ 1000)
    (hb : ∀ items, PI1 items → ∀ (i : Nat) d, items[i]? = some d → ∃ Γ', TgG L g js d (wipeD Γ vs) Γ' ∧ EvG L c te Γ' (fun r => r ≠ mark ∧ Pt items i r)) :
    EvF L (a + b * c) (tLc wi g tYes te vs) Γ (fun r => ∃ items rs, PI1 items ∧ r = .list rs ∧ rs.length = items.length ∧ ∀ (i : Nat) d, rs[i]? = some d → Pt items i d) := fun A σ H hi he hg Q q => hw A σ H hi he (L.gle (Nat.le_add_right _ _) hg) _ fun J H1 items r1 hp jk D hD => by
  have hD0 : H D = none := L.free r1 hD
  obtain ⟨hl, hl2⟩ := hlen items hp
  have g1 : L.G (b * c) H1 := Rl.gR hg r1
  -- the walk's word
  refine ⟨fun i m H2 => m = items.length - i ∧ i ≤ items.length ∧ L.R (a + i * c) H H2 ∧ Kp A H1 H2 ∧ ∃ acc rs, H2 D = some (.lst acc) ∧ DvAll L.K (fun b => A b ∨ b = D) H2 acc rs ∧ rs.length = i ∧ ∀ (j : Nat) d, rs[j]? = some d → Pt items j d, ⟨items.length, ?_⟩, ?_⟩
  · refine ⟨by omega, Nat.zero_le _, ?_, fun b o _ e k => by rw [upd_ne (ne_of_none e hD)]; exact e, [], [], upd_same, .nil, rfl, fun j d e => by simp at e⟩
    have e0 : a + 0 * c = a := by rw [Nat.zero_mul, Nat.add_zero]
    rw [e0]
    exact L.fresh r1 hD0 (.inl hD)
  · rintro i m H2 ⟨rfl, hle, r2, k2, acc, rs, eD, dv, hrl, hpt⟩
    have naD : ∀ b, A b → H2 b ≠ none := fun b z => hi.r r2 b z
    by_cases hlt : i < items.length
    · refine .inr ⟨jk.go i H2 k2 hlt, fun H3 => i + 1 ≤ items.length ∧ L.R (a + (i + 1) * c) H H3 ∧ Kp A H1 H3 ∧ ∃ acc rs, H3 D = some (.lst acc) ∧ DvAll L.K (fun b => A b ∨ b = D) H3 acc rs ∧ rs.length = i + 1 ∧ ∀ (j : Nat) d, rs[j]? = some d → Pt items j d,
        fun H3 h3 => ⟨items.length - (i + 1), by omega, rfl, h3⟩, fun x H3 y => ?_⟩
      obtain ⟨d, hd, sm, hdv⟩ := jk.yld i H2 x H3 k2 naD y hlt
      obtain ⟨Γ', htg, hev⟩ := hb items hp i d hd
      have innA' : ∀ b, (A b ∨ b = D) → H2 b ≠ none := fun b z => z.elim (naD b) fun e => by rw [e, eD]; simp
      have dx : Dv L.K (fun b => A b ∨ b = D) H3 x d := hdv _ innA' fun b o na e _ z => z.elim na (ne_of_none e hD)
      -- the names, away from the new list
      have ev2 : EnvOk L (fun b => A b ∨ b = D) (wipe σ vs) H3 (wipeD Γ vs) := by
        have h0 : EnvOk L (fun b => A b ∨ b = D) (wipe σ vs) (upd H1 D (.lst [])) (wipeD Γ vs) := ((he.r r1).wipe vs).avoid hD
        refine ⟨h0.1, fun j d' e => ?_⟩
        obtain ⟨v, e1, e2⟩ := h0.2 j d' e
        refine ⟨v, e1, e2.imp (fun z => z) fun z => z.map fun b o na eb kd => ⟨na, sm _ _ (k2 b o (fun w => na (.inl w)) ?_ kd)⟩⟩
        rwa [upd_ne (fun w => na (.inr w))] at eb
      refine htg (fun b => A b ∨ b = D) x (wipe σ vs) H3 dx ev2 _ fun σ2 e3 w3 => ⟨?_, ?_⟩
      · rw [w3 vs hj, wipe_wipe vs fun v hv => hv]
      · show te σ2 H3 _
        have g0 : L.G (c + 0) H2 := by
          refine Rl.gR (a := a + i * c) ?_ r2
          refine L.gle ?_ hg
          have h1 : (i + 1) * c ≤ b * c := Nat.mul_le_mul_right _ (by omega)
          have h2 : (i + 1) * c = i * c + c := Nat.succ_mul _ _
          omega
        have r3 : L.R 0 H2 H3 := L.same (L.g0 g0) sm
        have g3 : L.G c H3 := Rl.gR (a := 0) (by rw [Nat.zero_add]; exact g0) r3
        refine hev (fun b => A b ∨ b = D) σ2 H3 (fun b z y => innA' b z (L.free r3 y)) e3 g3 _ fun y dy H4 r4 hy pw => ?_
        obtain ⟨hmk, hpt4⟩ := pw
        have eD4 : H4 D = some (.lst acc) := L.keep r4 (sm _ _ eD) fxLst
        refine ⟨acc, eD4, Nat.lt_of_le_of_lt (show acc.length ≤ 1000 by rw [dv.length, hrl]; omega) (by decide), hlt, ?_, ?_, acc ++ [y], rs ++ [dy], upd_same, ?_, by rw [List.length_append, hrl]; rfl, fun j d' e => ?_⟩
        · have hh : L.R (a + i * c + 0 + c) H H4 := L.tr (L.tr r2 r3) r4
          have e5 : a + (i + 1) * c = a + i * c + 0 + c := by rw [Nat.succ_mul]; omega
          rw [e5]
          exact L.fresh hh hD0 (.inr ⟨_, eD4⟩)
        · intro b o na e k
          have ne : b ≠ D := ne_of_none e hD
          rw [upd_ne ne]
          exact L.keep r4 (sm _ _ (k2 b o na e k)) k
        · have dv4 : DvAll L.K (fun b => A b ∨ b = D) H4 acc rs := (dv.map (fun b o na e k => ⟨na, sm _ _ e⟩) : DvAll L.K (fun b => A b ∨ b = D) H3 acc rs).r r4
          exact (dv4.app (.cons (hy.ne hmk) .nil)).off
        · by_cases hj2 : j < rs.length
          · rw [List.getElem?_append_left hj2] at e
            exact hpt j d' e
          · rw [List.getElem?_append_right (by omega)] at e
            have hj3 : j - rs.length = 0 := by
              have := (List.getElem?_eq_some_iff.mp e).1
              simp at this
              omega
            rw [hj3] at e
            simp at e
            subst e
            have : j = i := by omega
            subst this
            exact hpt4
    · have e : i = items.length := by omega
      subst e
      refine .inl ⟨jk.stop H2 k2, ?_⟩
      have nD : ¬ A D := hi.no hD0
      refine q D (.list rs) H2 (L.rle ?_ r2) hD0 (.inr (.lst nD eD (dv.map fun b o na e _ => ⟨fun z => na (.inl z), e⟩))) ⟨items, rs, hp, rfl, hrl, hpt⟩
      have := Nat.mul_le_mul_right c hl
      omega
theorem eg_lcG {wi : TI} {g : TG} {js vs : List Nat} {PI1 : List PyData → Prop} {Pt : List PyData → Nat → PyData → Prop} (hw : WkG L a wi Γ PI1) (hj : ∀ j ∈ js, j ∈ vs) (hlen : ∀ items, PI1 items → items.length ≤ b ∧ b ≤ 1000)
    (hb : ∀ items, PI1 items → ∀ (i : Nat) d, items[i]? = some d → ∃ Γ', TgG L g js d (wipeD Γ vs) Γ' ∧ EvG L c te Γ' (fun r => r ≠ mark ∧ Pt items i r)) :
    EvG L (a + b * c) (tLc wi g tYes te vs) Γ (fun r => ∃ items rs, PI1 items ∧ r = .list rs ∧ rs.length = items.length ∧ ∀ (i : Nat) d, rs[i]? = some d → Pt items i d) := (eg_lcGF hw hj hlen hb).eg
/-- each item comes to one thing -/
theorem eg_lcF {wi : TI} {g : TG} {js vs : List Nat} {items rs : List PyData} (hw : WkD L wi Γ items) (hj : ∀ j ∈ js, j ∈ vs) (hlen : items.length ≤ 1000) (hr : rs.length = items.length)
    (hb : ∀ (i : Nat) d r, items[i]? = some d → rs[i]? = some r → r ≠ mark ∧ ∃ Γ', TgG L g js d (wipeD Γ vs) Γ' ∧ EvD L te Γ' r) : EvF L 0 (tLc wi g tYes te vs) Γ (fun x => x = .list rs) := by
  have h := eg_lcGF (a := 0) (b := items.length) (c := 0) (te := te) (Pt := fun its i r => rs[i]? = some r) hw hj (fun its e => by rw [e]; exact ⟨Nat.le_refl _, hlen⟩) (fun its e i d hd => by
    subst e
    have hi : i < rs.length := by rw [hr]; exact (List.getElem?_eq_some_iff.mp hd).1
    obtain ⟨nm, Γ', h1, h2⟩ := hb i d rs[i] hd (List.getElem?_eq_getElem hi)
    refine ⟨Γ', h1, EvG.mono h2 (Nat.le_refl _) fun r e => ?_⟩
    rw [e]
    exact ⟨nm, List.getElem?_eq_getElem hi⟩)
  intro A σ H hi he hg Q q
  refine h A σ H hi he (L.gle (Nat.le_of_eq (by simp)) hg) Q fun p r H' rr hp hv ⟨its, rs', e1, e2, e3, e4⟩ => q p r H' (L.rle (Nat.le_of_eq (by simp)) rr) hp hv ?_
  rw [e2]
  congr 1
  subst e1
  refine List.ext_getElem? fun i => ?_
  by_cases hi : i < rs'.length
  · have z := e4 i rs'[i] (List.getElem?_eq_getElem hi)
    rw [z, List.getElem?_eq_getElem hi]
  · rw [List.getElem?_eq_none (by omega), List.getElem?_eq_none (by omega)]
theorem eg_lc {wi : TI} {g : TG} {js vs : List Nat} {items rs : List PyData} (hw : WkD L wi Γ items) (hj : ∀ j ∈ js, j ∈ vs) (hlen : items.length ≤ 1000) (hr : rs.length = items.length)
    (hb : ∀ (i : Nat) d r, items[i]? = some d → rs[i]? = some r → r ≠ mark ∧ ∃ Γ', TgG L g js d (wipeD Γ vs) Γ' ∧ EvD L te Γ' r) : EvD L (tLc wi g tYes te vs) Γ (.list rs) := (eg_lcF hw hj hlen hr hb).eg
end
end V1
set_option Elab.async false
set_option linter.all false
set_option maxRecDepth 100000
set_option maxHeartbeats 4000000
/-! Statements and loops by data; a def's promise by its body. -/
namespace V1
open PySem PySem.Spec PyProof.Rows L2
section
variable {L : Rl} {A : Addr → Prop} {H H' H1 : Hp} {v : V} {d : PyData} {σ : L2.St} {Γ : List (Option PyData)} {n a b c : Nat} {te ta tb tl : TE} {t : TA} {tt tu : TT} {ts u z : TS} {P P1 P2 : PyData → Prop} {K : PySem.W.Frag} {N N1 : List (Option PyData) → Prop} {Rt : PyData → Prop}
theorem SG.mono {N' : List (Option PyData) → Prop} {Rt' : PyData → Prop} (h : SG L a ts Γ N Rt) (hn : a ≤ b) (h1 : ∀ G, N G → N' G) (h2 : ∀ d, Rt d → Rt' d) : SG L b ts Γ N' Rt' := fun A σ H hi he hg D q1 q2 =>
  h A σ H hi he (L.gle hn hg) D (fun σ' H' Γ' r e p => q1 σ' H' Γ' (L.rle hn r) e (h1 _ p)) fun v d H' r e p => q2 v d H' (L.rle hn r) e (h2 _ p)
theorem sg_seqG (h : SG L a ts Γ N1 Rt) (k : ∀ Γ', N1 Γ' → SG L b u Γ' N Rt) : SG L (a + b) (tSeq ts u) Γ N Rt := fun A σ H hi he hg D q1 q2 =>
  h A σ H hi he (L.gle (Nat.le_add_right _ _) hg) { D with nx := u D } (fun σ' H' Γ' r e p => k Γ' p A σ' H' (hi.r r) e (Rl.gR hg r) D (fun σ2 H2 Γ2 r2 e2 p2 => q1 σ2 H2 Γ2 (L.tr r r2) e2 p2) fun v d H2 r2 e2 p2 => q2 v d H2 (L.tr r r2) e2 p2)
    fun v d H' r e p => q2 v d H' (L.rle (Nat.le_add_right _ _) r) e p
theorem sg_seq (h : SG L 0 ts Γ N1 Rt) (k : ∀ Γ', N1 Γ' → SG L b u Γ' N Rt) : SG L b (tSeq ts u) Γ N Rt := (sg_seqG h k).mono (Nat.le_of_eq (Nat.zero_add _)) (fun _ x => x) fun _ x => x
theorem sq_asgG {i : Nat} (h : EvG L a te Γ P) (k : ∀ d, P d → SG L b u (Γ.set i (some d)) N Rt) : SG L (a + b) (tSeq (tAsg te (gName i)) u) Γ N Rt := fun A σ H hi he hg D q1 q2 =>
  h A σ H hi he (L.gle (Nat.le_add_right _ _) hg) _ fun v d H1 r hv p => k d p A _ H1 (hi.r r) ((he.r r).set hv i) (Rl.gR hg r) D (fun σ2 H2 Γ2 r2 e2 p2 => q1 σ2 H2 Γ2 (L.tr r r2) e2 p2) fun v d H2 r2 e2 p2 => q2 v d H2 (L.tr r r2) e2 p2
theorem sq_asg {i : Nat} (h : EvD L te Γ d) (k : SG L b u (Γ.set i (some d)) N Rt) : SG L b (tSeq (tAsg te (gName i)) u) Γ N Rt := (sq_asgG (a := 0) h fun d' e => by rw [e]; exact k).mono (Nat.le_of_eq (Nat.zero_add _)) (fun _ x => x) fun _ x => x
theorem sg_asgG {i : Nat} (h : EvG L a te Γ P) (k : ∀ d, P d → N (Γ.set i (some d))) : SG L a (tAsg te (gName i)) Γ N Rt := fun A σ H hi he hg D q1 q2 =>
  h A σ H hi he hg _ fun v d H1 r hv p => q1 _ H1 _ r ((he.r r).set hv i) (k d p)
theorem sg_asg {i : Nat} (h : EvD L te Γ d) (k : N (Γ.set i (some d))) : SG L 0 (tAsg te (gName i)) Γ N Rt := sg_asgG h fun d' e => by rw [e]; exact k
theorem sq_parG {i j : Nat} {PP : List PyData → Prop} (h : EaG L a t Γ PP) (h2 : ∀ ds, PP ds → ∃ d1 d2, ds = [d1, d2] ∧ SG L b u ((Γ.set i (some d1)).set j (some d2)) N Rt) : SG L (a + b) (tSeq (tPar i j t) u) Γ N Rt := fun A σ H hi he hg D q1 q2 =>
  h A σ H hi he (L.gle (Nat.le_add_right _ _) hg) _ fun vs ds H1 r hl hv p => by
    obtain ⟨d1, d2, rfl, k⟩ := h2 ds p
    obtain ⟨v, w, rfl, h3, h4⟩ := two_of hl hv
    exact ⟨v, w, rfl, k A _ H1 (hi.r r) (((he.r r).set h3 i).set h4 j) (Rl.gR hg r) D (fun σ2 H2 Γ2 r2 e2 p2 => q1 σ2 H2 Γ2 (L.tr r r2) e2 p2) fun v d H2 r2 e2 p2 => q2 v d H2 (L.tr r r2) e2 p2⟩
theorem sq_par {i j : Nat} {d1 d2 : PyData} (h : EaD L t Γ [d1, d2]) (k : SG L b u ((Γ.set i (some d1)).set j (some d2)) N Rt) : SG L b (tSeq (tPar i j t) u) Γ N Rt :=
  (sq_parG (a := 0) h fun ds e => ⟨d1, d2, e, k⟩).mono (Nat.le_of_eq (Nat.zero_add _)) (fun _ x => x) fun _ x => x
theorem sg_par {i j : Nat} {d1 d2 : PyData} (h : EaD L t Γ [d1, d2]) (k : N ((Γ.set i (some d1)).set j (some d2))) : SG L 0 (tPar i j t) Γ N Rt := fun A σ H hi he hg D q1 q2 =>
  h A σ H hi he hg _ fun vs ds H1 r hl hv p => by
    subst p
    obtain ⟨v, w, rfl, h3, h4⟩ := two_of hl hv
    exact ⟨v, w, rfl, q1 _ H1 _ r (((he.r r).set h3 i).set h4 j) k⟩
theorem sg_retG (h : EvG L a te Γ P) (k : ∀ d, P d → Rt d) : SG L a (tRet te) Γ N Rt := fun A σ H hi he hg D q1 q2 => h A σ H hi he hg _ fun v d H1 r hv p => q2 v d H1 r hv (k d p)
theorem sg_ret (h : EvD L te Γ d) (k : Rt d) : SG L 0 (tRet te) Γ N Rt := sg_retG h fun d' e => by rw [e]; exact k
theorem sg_retq (h : EvD L te Γ d) (k : Rt d) : SG L 0 (tSeq (tRet te) z) Γ N Rt := fun A σ H hi he hg D q1 q2 => h A σ H hi he hg _ fun v d H1 r hv p => q2 v d H1 r hv (by rw [p]; exact k)
theorem sg_next (k : N Γ) : SG L 0 tNext Γ N Rt := fun A σ H hi he hg D q1 q2 => q1 σ H Γ (Rl.refl hg) he k
theorem sq_next (h : SG L a z Γ N Rt) : SG L a (tSeq tNext z) Γ N Rt := h
theorem sg_if {k : Bool} (h : EtD L tt Γ k) (h1 : k = true → SG L a ts Γ N Rt) (h2 : k = false → SG L a u Γ N Rt) : SG L a (tIfS tt ts u) Γ N Rt := fun A σ H hi he hg D q1 q2 => h A σ H hi he (L.g0 hg) _ fun H1 r1 => by
  have fin : ∀ {tx : TS}, SG L a tx Γ N Rt → tx D σ H1 := fun {tx} hx => hx A σ H1 (hi.r r1) (he.r r1) (Rl.gR (a := 0) (by rw [Nat.zero_add]; exact hg) r1) D
    (fun σ2 H2 Γ2 r2 e2 p2 => q1 σ2 H2 Γ2 (L.rle (Nat.le_of_eq (Nat.zero_add _)) (L.tr r1 r2)) e2 p2) fun v d H2 r2 e2 p2 => q2 v d H2 (L.rle (Nat.le_of_eq (Nat.zero_add _)) (L.tr r1 r2)) e2 p2
  cases k with
  | true => exact fin (h1 rfl)
  | false => exact fin (h2 rfl)
theorem sq_if {k : Bool} (h : EtD L tt Γ k) (h1 : k = true → SG L a (tSeq ts z) Γ N Rt) (h2 : k = false → SG L a (tSeq u z) Γ N Rt) : SG L a (tSeq (tIfS tt ts u) z) Γ N Rt := fun A σ H hi he hg D q1 q2 => h A σ H hi he (L.g0 hg) _ fun H1 r1 => by
  have fin : ∀ {tx : TS}, SG L a tx Γ N Rt → tx D σ H1 := fun {tx} hx => hx A σ H1 (hi.r r1) (he.r r1) (Rl.gR (a := 0) (by rw [Nat.zero_add]; exact hg) r1) D
    (fun σ2 H2 Γ2 r2 e2 p2 => q1 σ2 H2 Γ2 (L.rle (Nat.le_of_eq (Nat.zero_add _)) (L.tr r1 r2)) e2 p2) fun v d H2 r2 e2 p2 => q2 v d H2 (L.rle (Nat.le_of_eq (Nat.zero_add _)) (L.tr r1 r2)) e2 p2
  cases k with
  | true => exact fin (h1 rfl)
  | false => exact fin (h2 rfl)
theorem sg_if_no (h : EtD L tt Γ false) (h2 : SG L a u Γ N Rt) : SG L a (tIfS tt ts u) Γ N Rt := sg_if h (fun e => nomatch e) fun _ => h2
theorem sq_if_no (h : EtD L tt Γ false) (h2 : SG L a z Γ N Rt) : SG L a (tSeq (tIfS tt ts tNext) z) Γ N Rt := sq_if h (fun e => nomatch e) fun _ => h2
theorem sg_ifG {P : Bool → Prop} (h : EtG L a tt Γ P) (h2 : ∀ k, P k → k = false) (h3 : SG L b u Γ N Rt) : SG L (a + b) (tIfS tt ts u) Γ N Rt := fun A σ H hi he hg D q1 q2 => h A σ H hi he (L.gle (Nat.le_add_right _ _) hg) _ fun k H1 r1 pk => by
  rw [h2 k pk]
  exact h3 A σ H1 (hi.r r1) (he.r r1) (Rl.gR hg r1) D (fun σ2 H2 Γ2 r2 e2 p2 => q1 σ2 H2 Γ2 (L.tr r1 r2) e2 p2) fun v d H2 r2 e2 p2 => q2 v d H2 (L.tr r1 r2) e2 p2

/-! ### loops -/
theorem sg_forG {wi : TI} {g : TG} {js : List Nat} {PI1 : List PyData → Prop} (I : List PyData → Nat → List (Option PyData) → Prop) (hw : WkG L a wi Γ PI1) (hlen : ∀ items, PI1 items → items.length ≤ b) (h0 : ∀ items, PI1 items → I items 0 Γ)
    (hb : ∀ items, PI1 items → ∀ (i : Nat) d Γi, items[i]? = some d → I items i Γi → ∃ Γ', TgG L g js d Γi Γ' ∧ SG L c ts Γ' (I items (i + 1)) Rt) (hN : ∀ items, PI1 items → ∀ Γe, I items items.length Γe → N Γe) : SG L (a + b * c) (tFor wi g ts) Γ N Rt := fun A σ H hi he hg D q1 q2 =>
  hw A σ H hi he (L.gle (Nat.le_add_right _ _) hg) _ fun J H1 items r1 hp jk => by
  have hl := hlen items hp
  refine ⟨fun i m σ2 H2 => m = items.length - i ∧ i ≤ items.length ∧ L.R (a + i * c) H H2 ∧ Kp A H1 H2 ∧ ∃ Γi, EnvOk L A σ2 H2 Γi ∧ I items i Γi, ⟨items.length, ?_⟩, ?_⟩
  · refine ⟨by omega, Nat.zero_le _, ?_, fun b o _ e k => e, Γ, he.r r1, h0 items hp⟩
    have e0 : a + 0 * c = a := by rw [Nat.zero_mul, Nat.add_zero]
    rw [e0]
    exact r1
  · rintro i m σ2 H2 ⟨rfl, hle, r2, k2, Γi, e2, p2⟩
    by_cases hlt : i < items.length
    · refine .inr ⟨jk.go i H2 k2 hlt, fun σ3 H3 => i + 1 ≤ items.length ∧ L.R (a + (i + 1) * c) H H3 ∧ Kp A H1 H3 ∧ ∃ Γi, EnvOk L A σ3 H3 Γi ∧ I items (i + 1) Γi, fun σ3 H3 h3 => ⟨items.length - (i + 1), by omega, rfl, h3⟩, fun x H3 y => ?_⟩
      have naD : ∀ b, A b → H2 b ≠ none := fun b z => hi.r r2 b z
      obtain ⟨d, hd, sm, hdv⟩ := jk.yld i H2 x H3 k2 naD y hlt
      obtain ⟨Γ', htg, hs⟩ := hb items hp i d Γi hd p2
      have e5 : a + (i + 1) * c = a + i * c + 0 + c := by rw [Nat.succ_mul]; omega
      have g0 : L.G (c + 0) H2 := by
        refine Rl.gR (a := a + i * c) ?_ r2
        refine L.gle ?_ hg
        have h1 : (i + 1) * c ≤ b * c := Nat.mul_le_mul_right _ (by omega)
        have h2 : (i + 1) * c = i * c + c := Nat.succ_mul _ _
        omega
      have r3 : L.R 0 H2 H3 := L.same (L.g0 g0) sm
      have g3 : L.G c H3 := Rl.gR (a := 0) (by rw [Nat.zero_add]; exact g0) r3
      have dx : Dv L.K A H3 x d := hdv A naD fun b o na e _ => na
      refine htg A x σ2 H3 dx (e2.r r3) _ fun σ4 e4 _ => ?_
      refine hs A σ4 H3 (fun b z y => naD b z (L.free r3 y)) e4 g3 { D with nx := _, ct := _, bk := D.nx } (fun σ5 H5 Γ5 r5 e6 p5 => ?_) fun v d5 H5 r5 hv p5 => ?_
      · refine ⟨hlt, ?_, fun b o na e k => L.keep r5 (sm _ _ (k2 b o na e k)) k, Γ5, e6, p5⟩
        rw [e5]
        exact L.tr (L.tr r2 r3) r5
      · refine q2 v d5 H5 (L.rle ?_ (L.tr (L.tr r2 r3) r5)) hv p5
        have h1 : (i + 1) * c ≤ b * c := Nat.mul_le_mul_right _ (by omega)
        have h2 : (i + 1) * c = i * c + c := Nat.succ_mul _ _
        omega
    · have e : i = items.length := by omega
      subst e
      refine .inl ⟨jk.stop H2 k2, q1 σ2 H2 Γi (L.rle ?_ r2) e2 (hN items hp Γi p2)⟩
      have := Nat.mul_le_mul_right c hl
      omega
theorem sg_for {wi : TI} {g : TG} {js : List Nat} {items : List PyData} (I : Nat → List (Option PyData) → Prop) (hw : WkD L wi Γ items) (h0 : I 0 Γ)
    (hb : ∀ (i : Nat) d Γi, items[i]? = some d → I i Γi → ∃ Γ', TgG L g js d Γi Γ' ∧ SG L 0 ts Γ' (I (i + 1)) Rt) (hN : ∀ Γe, I items.length Γe → N Γe) : SG L 0 (tFor wi g ts) Γ N Rt :=
  (sg_forG (a := 0) (b := items.length) (c := 0) (fun _ => I) hw (fun its e => by rw [e]; exact Nat.le_refl _) (fun _ _ => h0) (fun its e i d Γi hd hI => by subst e; exact hb i d Γi hd hI) fun its e Γe hI => by subst e; exact hN Γe hI).mono (Nat.le_of_eq (by simp)) (fun _ x => x) fun _ x => x
theorem sg_while (I : List (Option PyData) → Prop) (μ : List (Option PyData) → Nat) (h0 : I Γ) (hs : ∀ Γi, I Γi → ∃ k, EtD L tt Γi k ∧ (k = true → SG L 0 ts Γi (fun Γ' => I Γ' ∧ μ Γ' < μ Γi) Rt) ∧ (k = false → N Γi)) : SG L 0 (tWhile tt ts) Γ N Rt := fun A σ H hi he hg D q1 q2 => by
  refine ⟨fun m σ2 H2 => L.R 0 H H2 ∧ ∃ Γi, EnvOk L A σ2 H2 Γi ∧ I Γi ∧ m = μ Γi, ⟨μ Γ, Rl.refl hg, Γ, he, h0, rfl⟩, ?_⟩
  rintro m σ2 H2 ⟨r2, Γi, e2, p2, rfl⟩
  obtain ⟨k, hk, h1, h2⟩ := hs Γi p2
  have g2 : L.G 0 H2 := Rl.gR (a := 0) (b := 0) hg r2
  refine hk A σ2 H2 (hi.r r2) e2 g2 _ fun H3 r3 => ?_
  have r23 : L.R 0 H H3 := L.tr (a := 0) (b := 0) r2 r3
  cases k with
  | true =>
    refine ⟨fun σ4 H4 => ∃ m', m' < μ Γi ∧ (L.R 0 H H4 ∧ ∃ Γi, EnvOk L A σ4 H4 Γi ∧ I Γi ∧ m' = μ Γi), fun σ4 H4 x => x, ?_⟩
    refine h1 rfl A σ2 H3 ((hi.r r2).r r3) (e2.r r3) (Rl.gR (a := 0) (b := 0) g2 r3) { D with nx := _, ct := _, bk := D.nx } (fun σ4 H4 Γ4 r4 e4 p4 => ⟨_, p4.2, L.tr (a := 0) (b := 0) r23 r4, Γ4, e4, p4.1, rfl⟩) fun v d H4 r4 hv p4 => q2 v d H4 (L.tr (a := 0) (b := 0) r23 r4) hv p4
  | false => exact q1 σ2 H3 Γi r23 (e2.r r3) (h2 rfl)
theorem et_orG {a b : Nat} (h : EtG L a tt Γ (fun k => k = false)) (h2 : EtG L b tu Γ (fun k => k = false)) : EtG L (a + b) (tOr tt tu) Γ (fun k => k = false) := fun A σ H hi he hg Q q => h A σ H hi he (L.gle (Nat.le_add_right _ _) hg) _ fun k H1 r1 e => by
  subst e
  show tu σ H1 Q
  exact h2 A σ H1 (hi.r r1) (he.r r1) (Rl.gR hg r1) Q fun k H2 r2 e => q k H2 (L.tr r1 r2) e
theorem et_notG {a : Nat} {te : TE} (h : EvG L a te Γ (fun d => d = .bool true)) : EtG L a (tNot (tB te)) Γ (fun k => k = false) := fun A σ H hi he hg Q q => h A σ H hi he hg _ fun v d H1 r1 hv p => by
  subst p
  obtain rfl := hv.bool
  exact ⟨true, rfl, q false H1 r1 rfl⟩
end

/-! ### a def's promise by its body -/
def Ga (m : Nat) (ds : List PyData) : List (Option PyData) := ds.map some ++ List.replicate (m - ds.length) none
theorem start_ok {L : Rl} {A : Addr → Prop} {H : Hp} {Nm : List Str} {vs : List V} {ds : List PyData} (hl : vs.length = ds.length) (h : ∀ (i : Nat) d, ds[i]? = some d → ∃ v, vs[i]? = some v ∧ Dq L A H v d) : EnvOk L A (L2.start Nm vs) H (Ga Nm.length ds) := by
  refine ⟨by unfold L2.start Ga; rw [List.length_append, List.length_append, List.length_map, List.length_map, List.length_replicate, List.length_replicate, hl], fun i d e => ?_⟩
  unfold Ga at e
  by_cases hi : i < ds.length
  · rw [List.getElem?_append_left (by rw [List.length_map]; exact hi), List.getElem?_map] at e
    cases e2 : ds[i]? with
    | none => rw [e2] at e; cases e
    | some d' =>
      rw [e2] at e
      have e3 : d' = d := Option.some.inj (Option.some.inj e)
      subst e3
      obtain ⟨v, h1, h2⟩ := h i d' e2
      refine ⟨v, ?_, h2⟩
      unfold L2.start
      rw [List.getElem?_append_left (by rw [List.length_map, hl]; exact hi), List.getElem?_map, h1]
      rfl
  · rw [List.getElem?_append_right (by rw [List.length_map]; omega), List.getElem?_replicate] at e
    split at e <;> cases e
section
variable {P : Program} {w : World} {K : PySem.W.Frag} {mg : Str → Option Value} {base : Heap}
theorem ok_of {S : Rl → Prop} {x : Str} {st : Stmt} {f : Addr} {fd : FuncData} {N ps : List Str} {k n : Nat} {Pre : List PyData → Prop} {Post : List PyData → PyData → Prop} (F : Fun K x x st f fd) (Sc : FnScope N ps (defScope st)) (hlen : ∀ ds, Pre ds → ds.length = ps.length)
    (hb : ∀ (cdv : Value) (A : Around) (outer : List Env) (s : Shared) (H : Hp) (E : XK), A.guards = some [] → Room k (A.deeper (envOfC x (defScope st) s.heap.objs.size f cdv)) →
      ∃ t, PSs (cxOf CX0 P w K mg base N x (defScope st) f cdv A outer s H E).nox (defBody st) t ∧ ∀ L, S L → ∀ ds, Pre ds → SG L n t (Ga N.length ds) (fun _ => Post ds .none) (Post ds)) : FnG P w K mg base (k + 1) f fd ps (spA S n Pre Post) := by
  refine okG F Sc (fun vs H Q E h => ?_) (fun cdv A outer s H vs Q E hg hr h => ?_)
  · obtain ⟨L, _, A, ds, _, hl, _, hp, _⟩ := h
    rw [hl, hlen ds hp]
  · obtain ⟨L, hS, Av, ds, hi, hl, hv, hp, hgg, q⟩ := h
    obtain ⟨t, h1, h2⟩ := hb cdv A outer s H E hg hr
    refine ⟨t, h1, h2 L hS ds hp Av (L2.start N vs) H hi (start_ok hl hv) hgg _ (fun σ' H' Γ' r e p => ?_) fun v d H' r hd p => q v d H' r hd p⟩
    exact q .non .none H' r (.inr .non) p
theorem FnG.imp {k : Nat} {f : Addr} {fd : FuncData} {ps : List Str} {sp sp' : Sp} (F : FnG P w K mg base k f fd ps sp) (h : ∀ vs H Q E, sp' vs H Q E → sp vs H Q E) : FnG P w K mg base k f fd ps sp' :=
  ⟨fun vs H Q E z => F.len vs H Q E (h _ _ _ _ z), fun A outer s H args us vs Q E hg hr e0 hb r z => F.run A outer s H args us vs Q E hg hr e0 hb r (h _ _ _ _ z)⟩
/-- a def that leaves the heap as it is, whose answer is F of its arguments -/
theorem ok_fn {x : Str} {st : Stmt} {f : Addr} {fd : FuncData} {N ps : List Str} {k : Nat} {Pre : List PyData → Prop} {Fv : List PyData → PyData} (F : Fun K x x st f fd) (Sc : FnScope N ps (defScope st)) (hlen : ∀ ds, Pre ds → ds.length = ps.length)
    (hb : ∀ (cdv : Value) (A : Around) (outer : List Env) (s : Shared) (H : Hp) (E : XK), A.guards = some [] → Room k (A.deeper (envOfC x (defScope st) s.heap.objs.size f cdv)) →
      ∃ t, PSs (cxOf CX0 P w K mg base N x (defScope st) f cdv A outer s H E).nox (defBody st) t ∧ ∀ ds, Pre ds → SG (pureL K) 0 t (Ga N.length ds) (fun _ => .none = Fv ds) (fun d => d = Fv ds)) : FnG P w K mg base (k + 1) f fd ps (spL (pureL K) 0 Pre fun ds d => d = Fv ds) :=
  (ok_of (S := fun L => L = (pureL K)) F Sc hlen fun cdv A outer s H E hg hr => by
    obtain ⟨t, h1, h2⟩ := hb cdv A outer s H E hg hr
    exact ⟨t, h1, fun L e ds hp => by subst e; exact h2 ds hp⟩).imp fun vs H Q E h => ⟨(pureL K), rfl, h⟩
end
end V1
set_option Elab.async false
set_option linter.all false
set_option maxRecDepth 100000
set_option maxHeartbeats 4000000
/-! Fractions, points and rows as rational numbers. -/
namespace V1
open PySem

/-! ### greatest common divisors of lists -/
def gcdl (ns : List Int) : Nat := ns.foldl (fun g n => Nat.gcd g n.natAbs) 0
def lcml (bs : List Nat) : Nat := bs.foldl (fun l b => Nat.lcm l b) 1
theorem gcd_fold (ns : List Int) : ∀ g : Nat, ns.foldl (fun g n => Nat.gcd g n.natAbs) g = Nat.gcd g (gcdl ns) := by
  unfold gcdl
  induction ns with
  | nil => intro g; simp
  | cons n r ih =>
    intro g
    rw [List.foldl_cons, List.foldl_cons, ih, ih (Nat.gcd 0 n.natAbs), Nat.gcd_zero_left, Nat.gcd_assoc]
theorem gcdl_cons (n : Int) (r : List Int) : gcdl (n :: r) = Nat.gcd n.natAbs (gcdl r) := by
  show List.foldl _ (Nat.gcd 0 n.natAbs) r = _
  rw [gcd_fold, Nat.gcd_zero_left]
theorem gcdl_dvd {ns : List Int} : ∀ n ∈ ns, (gcdl ns : Int) ∣ n := by
  induction ns with
  | nil => intro n h; simp at h
  | cons a r ih =>
    intro n h
    rw [gcdl_cons]
    rcases List.mem_cons.mp h with rfl | h
    · exact Int.ofNat_dvd_left.mpr (Nat.gcd_dvd_left _ _)
    · exact Int.dvd_trans (Int.natCast_dvd_natCast.mpr (Nat.gcd_dvd_right _ _)) (ih n h)
theorem dvd_gcdl {ns : List Int} {k : Nat} (h : ∀ n ∈ ns, (k : Int) ∣ n) : k ∣ gcdl ns := by
  induction ns with
  | nil => exact Nat.dvd_zero k
  | cons a r ih =>
    rw [gcdl_cons]
    exact Nat.dvd_gcd (Int.ofNat_dvd_left.mp (h a List.mem_cons_self)) (ih fun n hn => h n (List.mem_cons_of_mem _ hn))
theorem gcdl_mul (c : Nat) (ns : List Int) : gcdl (ns.map fun n => (c : Int) * n) = c * gcdl ns := by
  induction ns with
  | nil => simp [gcdl]
  | cons a r ih => rw [List.map_cons, gcdl_cons, gcdl_cons, ih, Int.natAbs_mul, Int.natAbs_natCast, Nat.gcd_mul_left]
theorem gcdl_pos {ns : List Int} {n : Int} (h : n ∈ ns) (hn : n ≠ 0) : 0 < gcdl ns := by
  rcases Nat.eq_zero_or_pos (gcdl ns) with z | z
  · have := gcdl_dvd n h
    rw [z] at this
    exact absurd (Int.zero_dvd.mp this) hn
  · exact z
theorem lcm_fold (bs : List Nat) : ∀ l : Nat, bs.foldl (fun l b => Nat.lcm l b) l = Nat.lcm l (lcml bs) := by
  unfold lcml
  induction bs with
  | nil => intro l; simp
  | cons b r ih =>
    intro l
    rw [List.foldl_cons, List.foldl_cons, ih, ih (Nat.lcm 1 b), Nat.lcm_one_left, Nat.lcm_assoc]
theorem lcml_cons (b : Nat) (r : List Nat) : lcml (b :: r) = Nat.lcm b (lcml r) := by
  show List.foldl _ (Nat.lcm 1 b) r = _
  rw [lcm_fold, Nat.lcm_one_left]
theorem dvd_lcml {bs : List Nat} : ∀ b ∈ bs, b ∣ lcml bs := by
  induction bs with
  | nil => intro b h; simp at h
  | cons a r ih =>
    intro b h
    rw [lcml_cons]
    rcases List.mem_cons.mp h with rfl | h
    · exact Nat.dvd_lcm_left _ _
    · exact Nat.dvd_trans (ih b h) (Nat.dvd_lcm_right _ _)
theorem lcml_dvd {bs : List Nat} {k : Nat} (h : ∀ b ∈ bs, b ∣ k) : lcml bs ∣ k := by
  induction bs with
  | nil => exact Nat.one_dvd k
  | cons a r ih =>
    rw [lcml_cons]
    exact Nat.lcm_dvd (h a List.mem_cons_self) (ih fun b hb => h b (List.mem_cons_of_mem _ hb))
theorem lcml_pos {bs : List Nat} (h : ∀ b ∈ bs, 0 < b) : 0 < lcml bs := by
  induction bs with
  | nil => exact Nat.one_pos
  | cons a r ih =>
    rw [lcml_cons]
    exact Nat.lcm_pos (h a List.mem_cons_self) (ih fun b hb => h b (List.mem_cons_of_mem _ hb))

/-! ### fractions -/
def fq (q : Rat) : PyData := .tuple [.int q.num, .int (q.den : Int)]
abbrev rat (a : Int) (b : Nat) : Rat := mkRat a b
theorem fq_of {a : Int} {b : Nat} (hb : 0 < b) : PyData.tuple [.int (a / (Nat.gcd a.natAbs b : Nat)), .int ((b : Int) / (Nat.gcd a.natAbs b : Nat))] = fq (rat a b) := by
  unfold fq rat
  rw [Rat.num_mkRat, Rat.den_mkRat, if_neg (by omega), if_neg (by omega), Nat.gcd_comm]
  rfl
theorem rat_mul_den {a : Int} {b : Nat} (hb : 0 < b) : (rat a b).num * b = a * (rat a b).den := by
  have h := Rat.mkRat_self (rat a b)
  exact (Rat.mkRat_eq_iff (Rat.den_nz _) (by omega)).mp h
theorem den_dvd (a : Int) (b : Nat) (hb : 0 < b) : (rat a b).den ∣ b := by
  unfold rat
  rw [Rat.den_mkRat, if_neg (by omega)]
  exact Nat.div_dvd_of_dvd (Nat.gcd_dvd_left _ _)
theorem rat_eq {a c : Int} {b d : Nat} (hb : 0 < b) (hd : 0 < d) (h : a * d = c * b) : rat a b = rat c d := (Rat.mkRat_eq_iff (by omega) (by omega)).mpr h
theorem rat_div (a : Int) (b : Nat) : rat a b = (a : Rat) / (b : Rat) := Rat.mkRat_eq_div a b

/-! ### points and rows: the primitive integers of rational numbers -/
def lq (qs : List Rat) : Nat := lcml (qs.map fun q => q.den)
def topQ (qs : List Rat) : List Int := qs.map fun q => q.num * ((lq qs / q.den : Nat) : Int)
def rowQ (qs : List Rat) : List Int := topQ qs ++ [(lq qs : Int)]
def tI (ns : List Int) : PyData := .tuple (ns.map .int)
def lI (ns : List Int) : PyData := .list (ns.map .int)
def rowD (qs : List Rat) : PyData := tI (rowQ qs)
def prim (ns : List Int) : List Int := ns.map fun n => n / (gcdl ns : Int)
theorem lq_pos (qs : List Rat) : 0 < lq qs := lcml_pos fun b hb => by
  obtain ⟨q, _, rfl⟩ := List.mem_map.mp hb
  exact q.den_pos
theorem lq_dvd {qs : List Rat} {q : Rat} (h : q ∈ qs) : q.den ∣ lq qs := dvd_lcml _ (List.mem_map.mpr ⟨q, h, rfl⟩)
theorem topQ_len (qs : List Rat) : (topQ qs).length = qs.length := List.length_map _
theorem rowQ_len (qs : List Rat) : (rowQ qs).length = qs.length + 1 := by unfold rowQ; rw [List.length_append, topQ_len]; rfl
/-- n over w, the list of them -/
def over (ns : List Int) (w : Nat) : List Rat := ns.map fun n => rat n w
theorem prim_over (ns : List Int) {w : Nat} (hw : 0 < w) : prim (ns ++ [(w : Int)]) = rowQ (over ns w) := by
  generalize hg : gcdl (ns ++ [(w : Int)]) = g
  have hgp : 0 < g := by rw [← hg]; exact gcdl_pos (n := (w : Int)) (by simp) (by omega)
  have dv : ∀ n ∈ ns ++ [(w : Int)], (g : Int) ∣ n := by rw [← hg]; exact gcdl_dvd
  obtain ⟨k, hk⟩ : g ∣ w := Int.natCast_dvd_natCast.mp (dv w (by simp))
  have hkp : 0 < k := Nat.pos_of_ne_zero fun z => by rw [z] at hk; omega
  have hns : ∀ n ∈ ns, n = (g : Int) * (n / g) := fun n hn => (Int.mul_ediv_cancel' (dv n (by simp [hn]))).symm
  have hq : ∀ n ∈ ns, rat n w = rat (n / g) k := fun n hn => rat_eq hw hkp (by
    have e := hns n hn
    rw [hk, Int.natCast_mul]
    calc n * (k : Int) = ((g : Int) * (n / g)) * k := by rw [← e]
      _ = n / g * ((g : Int) * k) := by rw [Int.mul_comm (g : Int) (n / g), Int.mul_assoc])
  -- the primitive ones have no common divisor
  have g1 : gcdl (ns.map (fun n => n / (g : Int)) ++ [(k : Int)]) = 1 := by
    have e : (ns.map (fun n => n / (g : Int)) ++ [(k : Int)]).map (fun n => (g : Int) * n) = ns ++ [(w : Int)] := by
      rw [List.map_append, List.map_map]
      congr 1
      · calc ns.map ((fun n => (g : Int) * n) ∘ fun n => n / (g : Int)) = ns.map id := List.map_congr_left fun n hn => (hns n hn).symm
          _ = ns := List.map_id ns
      · show [(g : Int) * (k : Int)] = [(w : Int)]
        rw [hk, Int.natCast_mul]
    have h := gcdl_mul g (ns.map (fun n => n / (g : Int)) ++ [(k : Int)])
    rw [e, hg] at h
    exact Nat.eq_of_mul_eq_mul_left hgp (by rw [Nat.mul_one]; exact h.symm)
  -- the common bottom is k
  have hl : lq (over ns w) = k := by
    refine Nat.dvd_antisymm (lcml_dvd fun b hb => ?_) ?_
    · obtain ⟨q, hq1, rfl⟩ := List.mem_map.mp hb
      obtain ⟨n, hn, rfl⟩ := List.mem_map.mp hq1
      rw [hq n hn]
      exact den_dvd _ _ hkp
    · have key : k ∣ gcdl ((ns.map (fun n => n / (g : Int)) ++ [(k : Int)]).map fun n => ((lq (over ns w) : Nat) : Int) * n) := dvd_gcdl fun m hm => by
        obtain ⟨m', hm', rfl⟩ := List.mem_map.mp hm
        rcases List.mem_append.mp hm' with z | z
        · obtain ⟨n, hn, rfl⟩ := List.mem_map.mp z
          have hd : (rat n w).den ∣ lq (over ns w) := lq_dvd (List.mem_map.mpr ⟨n, hn, rfl⟩)
          obtain ⟨c, hc⟩ := hd
          have h1 := rat_mul_den (a := n / g) hkp
          rw [← hq n hn] at h1
          refine ⟨(rat n w).num * c, ?_⟩
          rw [hc, Int.natCast_mul]
          calc ((rat n w).den : Int) * c * (n / g) = (n / g * (rat n w).den) * c := by grind
            _ = ((rat n w).num * k) * c := by rw [h1]
            _ = (k : Int) * ((rat n w).num * c) := by grind
        · have e : m' = (k : Int) := by simpa using z
          subst e
          exact ⟨_, Int.mul_comm _ _⟩
      rw [gcdl_mul, g1, Nat.mul_one] at key
      exact key
  unfold prim rowQ
  rw [hg, List.map_append, hl]
  congr 1
  · unfold topQ over
    rw [List.map_map]
    refine List.map_congr_left fun n hn => ?_
    show n / (g : Int) = (rat n w).num * ((lq (over ns w) / (rat n w).den : Nat) : Int)
    rw [hl]
    have hd : (rat n w).den ∣ k := by rw [hq n hn]; exact den_dvd _ _ hkp
    obtain ⟨c, hc⟩ := hd
    have hdp := (rat n w).den_pos
    have e1 : k / (rat n w).den = c := by rw [hc, Nat.mul_div_cancel_left _ hdp]
    rw [e1]
    have h1 := rat_mul_den (a := n / g) hkp
    rw [← hq n hn, hc, Int.natCast_mul] at h1
    have h2 : ((rat n w).den : Int) * (n / g) = ((rat n w).den : Int) * ((rat n w).num * c) := by
      calc ((rat n w).den : Int) * (n / g) = n / g * (rat n w).den := Int.mul_comm _ _
        _ = (rat n w).num * (((rat n w).den : Int) * c) := h1.symm
        _ = ((rat n w).den : Int) * ((rat n w).num * c) := by grind
    exact Int.eq_of_mul_eq_mul_left (by omega) h2
  · show [(w : Int) / (g : Int)] = [(k : Int)]
    rw [hk, Int.natCast_mul, Int.mul_ediv_cancel_left _ (by omega)]
/-- the integers of a row, over the bottom, are its numbers -/
theorem over_top (qs : List Rat) : over (topQ qs) (lq qs) = qs := by
  unfold over topQ
  rw [List.map_map]
  calc qs.map ((fun n => rat n (lq qs)) ∘ fun q => q.num * ((lq qs / q.den : Nat) : Int)) = qs.map id := List.map_congr_left fun q hq => by
        show rat (q.num * ((lq qs / q.den : Nat) : Int)) (lq qs) = q
        have hd := lq_dvd hq
        obtain ⟨c, hc⟩ := hd
        have hdp := q.den_pos
        have hlp := lq_pos qs
        have e1 : lq qs / q.den = c := by rw [hc, Nat.mul_div_cancel_left _ hdp]
        rw [e1]
        calc rat (q.num * c) (lq qs) = rat q.num q.den := rat_eq hlp hdp (by rw [hc, Int.natCast_mul]; grind)
          _ = q := Rat.mkRat_self q
    _ = qs := List.map_id qs
theorem prim_rowQ (qs : List Rat) : prim (rowQ qs) = rowQ qs := by
  have h := prim_over (topQ qs) (lq_pos qs)
  rw [over_top] at h
  exact h
theorem gcdl_rowQ (qs : List Rat) : gcdl (rowQ qs) = 1 := by
  have h := prim_rowQ qs
  have hm : (lq qs : Int) ∈ rowQ qs := by simp [rowQ]
  have hp : 0 < gcdl (rowQ qs) := gcdl_pos hm (by have := lq_pos qs; omega)
  have e : (prim (rowQ qs)).getLast? = (rowQ qs).getLast? := by rw [h]
  unfold prim at e
  rw [List.getLast?_map] at e
  have e2 : (rowQ qs).getLast? = some (lq qs : Int) := by simp [rowQ]
  rw [e2] at e
  have e3 : (lq qs : Int) / (gcdl (rowQ qs) : Int) = (lq qs : Int) := by simpa using e
  have hl := lq_pos qs
  have d := gcdl_dvd _ hm
  obtain ⟨c, hc⟩ := d
  rw [hc, Int.mul_ediv_cancel_left _ (by omega)] at e3
  have h4 : (1 : Int) * c = (gcdl (rowQ qs) : Int) * c := by rw [Int.one_mul]; exact e3
  have hcz : c ≠ 0 := fun z => by rw [z] at hc; omega
  have h5 := Int.eq_of_mul_eq_mul_right hcz h4
  omega
end V1
set_option Elab.async false
set_option linter.all false
set_option maxRecDepth 100000
set_option maxHeartbeats 4000000
/-! The text of the law k02 by places; what the top has left. -/
namespace V1
open PySem PySem.Spec PyProof.Rows L2

/-- built-in names, and the two of math -/
structure Bt (K : PySem.W.Frag) (mg : Str → Option Value) : Prop where
  len : mg "len" = none
  abs : mg "abs" = none
  sum : mg "sum" = none
  min : mg "min" = none
  max : mg "max" = none
  repr : mg "repr" = none
  int : mg "int" = none
  bool : mg "bool" = none
  tuple : mg "tuple" = none
  zip : mg "zip" = none
  enumerate : mg "enumerate" = none
  range : mg "range" = none
  isinstance : mg "isinstance" = none
  str : mg "str" = none
  list : mg "list" = none
  all : mg "all" = none
  set : mg "set" = none
  sorted : mg "sorted" = none
/-- a def of the top as it stands -/
structure Df (K : PySem.W.Frag) (mg : Str → Option Value) (x : Str) (st : Stmt) (ps : List Str) (f : Addr) (fd : FuncData) : Prop where
  gm : mg x = some (.ref f)
  F : Fun K x x st f fd
  b : Binds K fd ps []
/-- .. and what it promises -/
structure Cal (P : Program) (w : World) (K : PySem.W.Frag) (mg : Str → Option Value) (base : Heap) (x : Str) (st : Stmt) (ps : List Str) (k : Nat) (sp : Sp) (f : Addr) (fd : FuncData) : Prop where
  gm : mg x = some (.ref f)
  F : Fun K x x st f fd
  b : Binds K fd ps []
  G : FnG P w K mg base k f fd ps sp
theorem Cal.kp {P : Program} {w : World} {K : PySem.W.Frag} {mg : Str → Option Value} {base : Heap} {x : Str} {st : Stmt} {ps : List Str} {k : Nat} {sp : Sp} {f : Addr} {fd : FuncData} (c : Cal P w K mg base x st ps k sp f fd) : PySem.W.keepIn K (.ref f) = true := c.F.kp
/-- a list or a tuple, walked -/
def iAny (K : PySem.W.Frag) (tl : TE) : TI := fun σ H R => tl σ H fun x H1 => ∃ a, x = .ref a ∧ ((∃ xs, SqL K H1 a xs) ∧ R (Itl K a) H1 ∨ (∃ xs, SqT K H1 a xs) ∧ R (Itt K a) H1)
theorem pi_any {X : Cx} {tg l : Expr} {tl : TE} (hl : PE X l tl) : PI X tg l (iAny X.K tl) := by
  refine ⟨fun pins s σ H R I h => thn (hl.run pins s σ H _ I h) fun v s1 ⟨x, H1, I1, r1, q1⟩ => ?_⟩
  obtain ⟨a, rfl, q1⟩ := q1
  cases r1
  have fr : ∀ b ∈ [s1.heap.objs.size], FpOk X pins H1 b := fun b hb => by
    have e : b = s1.heap.objs.size := by simpa using hb
    subst e
    exact I1.fpOk (Nat.le_refl _) (I1.hok.fresh (Nat.le_refl _))
  rcases q1 with ⟨⟨xs, hq⟩, q⟩ | ⟨⟨xs, hq⟩, q⟩
  · obtain ⟨its, rv, p, hz⟩ := I1.list hq
    exact wpAny_pyIter_list p.isList ⟨s1.heap.objs.size, [s1.heap.objs.size], _, _, H1, rfl, I1.kept (t' := s1.toks) (fun b o e => Heap.get?_push_of_some _ e), turn_list a _, ⟨_, Heap.get?_push_size _ rfl, rfl, rfl⟩, fr, q⟩
  · obtain ⟨its, rv, p, hz⟩ := I1.tuple hq
    exact wpAny_pyIter_tuple (show s1.heap.IsTuple a its.toArray from p) ⟨s1.heap.objs.size, [s1.heap.objs.size], _, _, H1, rfl, I1.kept (t' := s1.toks) (fun b o e => Heap.get?_push_of_some _ e), turn_tuple a _, ⟨_, Heap.get?_push_size _ rfl, rfl, rfl⟩, fr, q⟩
section
variable {L : Rl} {Γ : List (Option PyData)} {K : PySem.W.Frag} {tl te : TE}
theorem wk_any {k : Bool} {ds : List PyData} (h : EvD L tl Γ (sqD k ds)) : WkD L (iAny L.K tl) Γ ds := fun A σ H hi he hg R q => h A σ H hi he hg _ fun x d H1 r1 hx p => by
  subst p
  obtain ⟨p, xs, rfl, e, r⟩ := sq_dq hx
  refine ⟨p, rfl, ?_⟩
  cases k with
  | true => exact .inl ⟨⟨xs, e.now⟩, q _ H1 ds r1 rfl (jok_seq true e r _ rfl)⟩
  | false => exact .inr ⟨⟨xs, e.now⟩, q _ H1 ds r1 rfl (jok_seq false e r _ rfl)⟩
/-- the name of a value's class -/
def kindN : PyData → String
  | .none => "NoneType"
  | .bool _ => "bool"
  | .int _ => "int"
  | .str _ => "str"
  | .list _ => "list"
  | .tuple _ => "tuple"
  | .dict ((.int _, _) :: _) => "?"
  | .dict _ => "dict"
theorem dv_ty {A : Addr → Prop} {H : Hp} {x : V} {d : PyData} (h : Dv L.K A H x d) (hk : kindN d ≠ "?") : TyX L.K H x (.type (kindN d)) := by
  cases h with
  | non => exact .base .non
  | bl b => exact .base (.bl b)
  | int i => exact .base (.int i)
  | str z => exact .base (.str z)
  | lst _ e _ => exact .base (.lst e)
  | tup _ e _ => exact .base (.tup e)
  | ktup e _ =>
    obtain ⟨o, its, n, e1, e2, _⟩ := e
    exact .kTuple e1 e2
  | emp _ e => exact .fDict e
  | exc _ _ _ _ _ => exact absurd rfl hk
  | exn _ _ => exact absurd rfl hk
theorem kit_q {n : String} {b : Bool} (hk : kitB "?" n = some b) (hn : (n == "?") = false) : False := by
  have e0 : PySem.fastBuiltinMro "?" = none := by decide +kernel
  unfold kitB at hk
  rw [e0] at hk
  have e1 : ((Value.type "?" : Value) == Value.type n) = false := by
    rw [beq_eq_false_iff_ne] at hn ⊢
    exact fun z => hn (by injection z with z; exact z.symm)
  rw [e1] at hk
  simp at hk
/-- isinstance of any data -/
theorem eg_isi {d : PyData} {b : Bool} {n : String} (h : EvD L te Γ d) (hd : d ≠ mark) (hk : kitB (kindN d) n = some b) (hn : (n == "?") = false := by rfl) : EvD L (tCB (rIsi L.K) (tCons te (tCons (tC (.ty n)) tNil))) Γ (.bool b) := fun A σ H hi he hg Q q => h A σ H hi he hg _ fun x d1 H1 r1 hx p => by
  subst p
  have hq : kindN d1 ≠ "?" := fun z => kit_q (z ▸ hk) hn
  exact ⟨x, .ty n, .type (kindN d1), .type n, b, rfl, .ty n, dv_ty (hx.ne hd) hq, kit_ty hk, q _ _ H1 r1 (.inr (.bl b)) rfl⟩
theorem eg_isiI {i : Int} {b : Bool} {n : String} (h : EvD L te Γ (.int i)) (hk : kitB "int" n = some b) (hn : (n == "?") = false := by rfl) : EvD L (tCB (rIsi L.K) (tCons te (tCons (tC (.ty n)) tNil))) Γ (.bool b) := eg_isi h (by intro z; cases z) hk hn
theorem eg_isiT {ds : List PyData} {b : Bool} {n : String} (h : EvD L te Γ (.tuple ds)) (hk : kitB "tuple" n = some b) (hn : (n == "?") = false := by rfl) : EvD L (tCB (rIsi L.K) (tCons te (tCons (tC (.ty n)) tNil))) Γ (.bool b) := eg_isi h (by intro z; cases z) hk hn
/-- and, or: the right one is looked at where the left one asks it -/
theorem eg_andC {a b : Bool} {ta tb : TE} (ha : EvD L ta Γ (.bool a)) (hb : a = true → EvD L tb Γ (.bool b)) : EvD L (tAndV ta tb) Γ (.bool (a && b)) := fun A σ H hi he hg Q q => ha A σ H hi he hg _ fun x d H1 r1 hx p => by
  subst p
  obtain rfl := hx.bool
  refine ⟨a, rfl, ?_⟩
  cases a with
  | true => exact hb rfl A σ H1 (hi.r r1) (he.r r1) (Rl.gR (b := 0) hg r1) _ fun y d H2 r2 hy p => q y d H2 (L.tr (a := 0) (b := 0) r1 r2) hy p
  | false => exact q _ _ H1 r1 (.inr (.bl false)) rfl
theorem eg_and {a b : Bool} {ta tb : TE} (ha : EvD L ta Γ (.bool a)) (hb : EvD L tb Γ (.bool b)) : EvD L (tAndV ta tb) Γ (.bool (a && b)) := fun A σ H hi he hg Q q => ha A σ H hi he hg _ fun x d H1 r1 hx p => by
  subst p
  obtain rfl := hx.bool
  refine ⟨a, rfl, ?_⟩
  cases a with
  | true => exact hb A σ H1 (hi.r r1) (he.r r1) (Rl.gR (b := 0) hg r1) _ fun y d H2 r2 hy p => q y d H2 (L.tr (a := 0) (b := 0) r1 r2) hy p
  | false => exact q _ _ H1 r1 (.inr (.bl false)) rfl
theorem eg_not {a : Bool} {ta : TE} (ha : EvD L ta Γ (.bool a)) : EvD L (tNotV ta) Γ (.bool (!a)) := fun A σ H hi he hg Q q => ha A σ H hi he hg _ fun x d H1 r1 hx p => by
  subst p
  obtain rfl := hx.bool
  exact ⟨a, rfl, q _ _ H1 r1 (.inr (.bl _)) rfl⟩
end
end V1
namespace V1
open PySem PySem.Spec PyProof.Rows L2
/-- a def whose answer is told for each a -/
def spR (K : PySem.W.Frag) {α : Type} (args : α → List PyData) (ok : α → Prop) (val : α → PyData) : Sp := fun vs H Q E => ∃ a, ok a ∧ spL (pureL K) 0 (fun ds => ds = args a) (fun _ d => d = val a) vs H Q E
section
variable {L : Rl} {Γ : List (Option PyData)} {t tk : TA} {E : XK} {α : Type} {args : α → List PyData} {ok : α → Prop} {val : α → PyData}
theorem eg_callR (a : α) (ha : EaD L t Γ (args a)) (ho : ok a) (hn : nomk (args a) = true := by rfl) : EvD L (tCall (spR L.K args ok val) [] E t) Γ (val a) := fun A σ H hi he hg Q q => ha A σ H hi he hg _ fun vs ds H1 r1 l hv p => by
  subst p
  show spR L.K args ok val (vs ++ []) H1 Q E
  rw [List.append_nil]
  refine ⟨a, ho, A, args a, hi.r r1, l, fun i d e => ?_, rfl, trivial, fun v d H2 r2 hd hpo => q v d H2 (L.tr (a := 0) (b := 0) r1 (L.same (Rl.gR (b := 0) hg r1) r2)) (pure_dq hd) hpo⟩
  obtain ⟨v, e1, e2⟩ := hv i d e
  exact ⟨v, e1, .inr (e2.ne (nomk_ne hn i d e))⟩
/-- with keywords alone, in an order of their own -/
theorem eg_callRK (a : α) {ds : List PyData} {gV : List V → List V → List V} (ha : EaD L tk Γ ds) (hg2 : ∀ zs : List V, zs.length = ds.length → (gV [] zs).length = (args a).length ∧ ∀ (i : Nat) d, (args a)[i]? = some d → ∃ j : Nat, ds[j]? = some d ∧ (gV [] zs)[i]? = zs[j]?) (ho : ok a) (hn : nomk (args a) = true := by rfl) :
    EvD L (tCallK (spR L.K args ok val) gV E tNil tk) Γ (val a) := fun A σ H hi he hg Q q => ha A σ H hi he hg _ fun vs ds' H1 r1 l hv p => by
  subst p
  obtain ⟨g1, g2⟩ := hg2 vs l
  refine ⟨a, ho, A, args a, hi.r r1, g1, fun i d e => ?_, rfl, trivial, fun v d H2 r2 hd hpo => q v d H2 (L.tr (a := 0) (b := 0) r1 (L.same (Rl.gR (b := 0) hg r1) r2)) (pure_dq hd) hpo⟩
  obtain ⟨j, e1, e2⟩ := g2 i d e
  obtain ⟨v, e3, e4⟩ := hv j d e1
  exact ⟨v, by rw [e2]; exact e3, .inr (e4.ne (nomk_ne hn i d e))⟩
end
section
variable {P : Program} {w : World} {K : PySem.W.Frag} {mg : Str → Option Value} {base : Heap}
theorem ok_R {α : Type} {args : α → List PyData} {ok : α → Prop} {val : α → PyData} {x : Str} {st : Stmt} {f : Addr} {fd : FuncData} {N ps : List Str} {k : Nat} (D : Df K mg x st ps f fd) (Sc : FnScope N ps (defScope st)) (hlen : ∀ a, (args a).length = ps.length)
    (hb : ∀ (cdv : Value) (A : Around) (outer : List Env) (s : Shared) (H : Hp) (E : XK), (cxOf CX0 P w K mg base N x (defScope st) f cdv A outer s H E).nox.A.guards = some [] → Room k (cxOf CX0 P w K mg base N x (defScope st) f cdv A outer s H E).nox.A →
      ∃ t, PSs (cxOf CX0 P w K mg base N x (defScope st) f cdv A outer s H E).nox (defBody st) t ∧ ∀ a, ok a → SG (pureL K) 0 t (Ga N.length (args a)) (fun _ => .none = val a) (fun d => d = val a)) : Cal P w K mg base x st ps (k + 1) (spR K args ok val) f fd := by
  refine ⟨D.gm, D.F, D.b, okG D.F Sc (fun vs H Q E h => ?_) (fun cdv A outer s H vs Q E hg hr h => ?_)⟩
  · obtain ⟨a, _, Av, ds, _, hl, _, hp, _⟩ := h
    rw [hl, hp, hlen a]
  · obtain ⟨a, ho, Av, ds, hi, hl, hv, hp, hgg, q⟩ := h
    subst hp
    obtain ⟨t, h1, h2⟩ := hb cdv A outer s H E hg hr
    refine ⟨t, h1, h2 a ho Av _ H hi (start_ok hl hv) hgg _ (fun σ' H' Γ' r e p => ?_) fun v d H' r hd p => q v d H' r hd p⟩
    exact q .non .none H' r (.inr .non) p
end
def Bn (n : Nat) (ns : List Int) : Prop := ∀ z ∈ ns, z.natAbs < 2 ^ n
end V1
set_option Elab.async false
set_option linter.all false
set_option maxRecDepth 100000
set_option maxHeartbeats 4000000
/-! Rows as data; slices of them; helpers for comprehensions. -/
namespace V1
open PySem PySem.Spec PyProof.Rows L2
/-- the integer of q over the bottom l -/
def tq (l : Nat) (q : Rat) : Int := q.num * ((l / q.den : Nat) : Int)
theorem tq_rat {l : Nat} {q : Rat} (hl : 0 < l) (h : q.den ∣ l) : rat (tq l q) l = q := by
  obtain ⟨c, hc⟩ := h
  have hdp := q.den_pos
  have e1 : l / q.den = c := by rw [hc, Nat.mul_div_cancel_left _ hdp]
  unfold tq
  rw [e1]
  calc rat (q.num * c) l = rat q.num q.den := rat_eq hl hdp (by rw [hc, Int.natCast_mul]; grind)
    _ = q := Rat.mkRat_self q
theorem rat_cast {a : Int} {b : Nat} (hb : 0 < b) : ((a : Int) : Rat) = rat a b * (b : Rat) := by
  rw [rat_div]
  have : (b : Rat) ≠ 0 := by
    intro z
    have : b = 0 := by exact_mod_cast z
    omega
  grind
theorem tq_cast {l : Nat} {q : Rat} (hl : 0 < l) (h : q.den ∣ l) : ((tq l q : Int) : Rat) = q * (l : Rat) := by
  rw [rat_cast (a := tq l q) hl, tq_rat hl h]
theorem natne {b : Nat} (hb : 0 < b) : (b : Rat) ≠ 0 := by
  intro z
  have : b = 0 := by exact_mod_cast z
  omega
/-- an integer over a bottom is q if it is q times the bottom -/
theorem rat_of {a : Int} {b : Nat} {q : Rat} (hb : 0 < b) (h : ((a : Int) : Rat) = q * (b : Rat)) : rat a b = q := by
  rw [rat_div, h]
  have := natne hb
  grind
theorem topQ_eq (qs : List Rat) : topQ qs = qs.map (tq (lq qs)) := rfl
def iv (l : Nat) (q : Rat) : PyData := .int (tq l q)
theorem rowD_one (x : List Rat) : rowD x = .tuple (x.map (iv (lq x)) ++ [.int (lq x : Int)]) := by
  unfold rowD tI rowQ
  rw [topQ_eq, List.map_append, List.map_map]
  rfl
theorem rowD_two (r : List Rat) (c : Rat) : rowD (r ++ [c]) = .tuple (r.map (iv (lq (r ++ [c]))) ++ [iv (lq (r ++ [c])) c, .int (lq (r ++ [c]) : Int)]) := by
  rw [rowD_one, List.map_append, List.append_assoc]
  rfl
/-- bounds -/
def rb (n : Nat) (r : List Rat) : Prop := r.length ≤ 50 ∧ Bn n (rowQ r)
theorem rb_lq {n : Nat} {r : List Rat} (h : rb n r) : lq r < 2 ^ n := by
  have := h.2 (lq r : Int) (by simp [rowQ])
  simpa using this
theorem rb_tq {n : Nat} {r : List Rat} (h : rb n r) {q : Rat} (hq : q ∈ r) : (tq (lq r) q).natAbs < 2 ^ n := h.2 _ (by
  unfold rowQ
  rw [topQ_eq]
  exact List.mem_append_left _ (List.mem_map.mpr ⟨q, hq, rfl⟩))
theorem bn_prim {n : Nat} {ns : List Int} (h : Bn n ns) : Bn n (prim ns) := fun z hz => by
  unfold prim at hz
  obtain ⟨m, hm, rfl⟩ := List.mem_map.mp hz
  have h1 := h m hm
  have h2 := Int.natAbs_ediv_le_natAbs m (gcdl ns : Int)
  omega
theorem rb_over {n : Nat} {ns : List Int} {w : Nat} (hw : 0 < w) (h : Bn n (ns ++ [(w : Int)])) (hl : ns.length ≤ 50) : rb n (over ns w) := by
  refine ⟨by unfold over; rw [List.length_map]; exact hl, ?_⟩
  rw [← prim_over ns hw]
  exact bn_prim h
theorem Bn.mono {a b : Nat} {ns : List Int} (h : Bn a ns) (hab : a ≤ b) : Bn b ns := fun z hz => Nat.lt_of_lt_of_le (h z hz) (Nat.pow_le_pow_right (by decide) hab)
theorem rb.mono {a b : Nat} {r : List Rat} (h : rb a r) (hab : a ≤ b) : rb b r := ⟨h.1, h.2.mono hab⟩

theorem ix_tupK {X : Cx} {K : PySem.W.Frag} (h : X.K = K) : IxR X (rIxT K) := h ▸ ix_tup
theorem ix_listK {X : Cx} {K : PySem.W.Frag} (h : X.K = K) : IxR X (rIxL K) := h ▸ ix_list
section
variable {L : Rl} {Γ : List (Option PyData)} {te : TE} {t : TA}
theorem cut1 (xs : List PyData) (a : PyData) : cutD (xs ++ [a]) none (some (-1)) = xs := by
  rw [show (-1 : Int) = -((1 : Nat) : Int) from rfl, cut_neg (by decide) (by simp)]
  simp
theorem cut2 (xs : List PyData) (a b : PyData) : cutD (xs ++ [a, b]) none (some (-2)) = xs := by
  rw [show (-2 : Int) = -((2 : Nat) : Int) from rfl, cut_neg (by decide) (by simp)]
  simp
theorem eg_init1 {xs : List PyData} {a : PyData} (h : EvD L te Γ (.tuple (xs ++ [a]))) : EvD L (tSl (rSlT L.K) te tNoPart (tPart (tUn (rU fun i => .int (-i)) (tC (.int 1))))) Γ (.tuple xs) := by
  have h1 := eg_slT h eo_none (eo_some (eg_neg (eg_int (i := 1)))) (by
    rintro ⟨_, z⟩
    have z2 : (if (-1 : Int) < 0 then ((-1 : Int) + ((xs ++ [a]).length : Int)).toNat else min (-1 : Int).toNat (xs ++ [a]).length) = (xs ++ [a]).length := z
    rw [if_pos (by omega)] at z2
    simp at z2
    omega)
  rw [cut1] at h1
  exact h1
theorem eg_init2 {xs : List PyData} {a b : PyData} (h : EvD L te Γ (.tuple (xs ++ [a, b]))) : EvD L (tSl (rSlT L.K) te tNoPart (tPart (tUn (rU fun i => .int (-i)) (tC (.int 2))))) Γ (.tuple xs) := by
  have h1 := eg_slT h eo_none (eo_some (eg_neg (eg_int (i := 2)))) (by
    rintro ⟨_, z⟩
    have z2 : (if (-2 : Int) < 0 then ((-2 : Int) + ((xs ++ [a, b]).length : Int)).toNat else min (-2 : Int).toNat (xs ++ [a, b]).length) = (xs ++ [a, b]).length := z
    rw [if_pos (by omega)] at z2
    simp at z2
    omega)
  rw [cut2] at h1
  exact h1
theorem at_last2 (xs : List PyData) (a b : PyData) : atI (xs ++ [a, b]) (-1) = some b := by
  rw [show xs ++ [a, b] = (xs ++ [a]) ++ [b] by simp]
  exact atI_last _ _
theorem at_last3 (xs : List PyData) (a b : PyData) : atI (xs ++ [a, b]) (-2) = some a := by
  have e : ixN (xs ++ [a, b]).length (-2) = some xs.length := by
    unfold ixN
    rw [if_neg (by omega), if_pos (by simp; omega)]
    simp
    omega
  unfold atI
  rw [e]
  simp
/-- a comprehension over things that stand for data -/
theorem eg_lcm {α : Type} {wi : TI} {g : TG} {js vs : List Nat} {xs : List α} {enc res : α → PyData} (hw : WkD L wi Γ (xs.map enc)) (hj : ∀ j ∈ js, j ∈ vs) (hlen : xs.length ≤ 1000)
    (hb : ∀ x ∈ xs, res x ≠ mark ∧ ∃ Γ', TgG L g js (enc x) (wipeD Γ vs) Γ' ∧ EvD L te Γ' (res x)) : EvD L (tLc wi g tYes te vs) Γ (.list (xs.map res)) :=
  eg_lc hw hj (by rw [List.length_map]; exact hlen) (by rw [List.length_map, List.length_map]) fun i d r hd hr => by
    rw [List.getElem?_map] at hd hr
    cases hx : xs[i]? with
    | none => rw [hx] at hd; cases hd
    | some x =>
      rw [hx] at hd hr
      have e1 : enc x = d := Option.some.inj hd
      have e2 : res x = r := Option.some.inj hr
      subst e1 e2
      exact hb x (List.mem_of_getElem? hx)
theorem zipD_map {α β : Type} (e1 : α → PyData) (e2 : β → PyData) : ∀ (xs : List α) (ys : List β), zipD (xs.map e1) (ys.map e2) = (xs.zip ys).map fun p => PyData.tuple [e1 p.1, e2 p.2]
  | [], ys => by cases ys <;> rfl
  | x :: xs, [] => rfl
  | x :: xs, y :: ys => by
    have h := zipD_map e1 e2 xs ys
    unfold zipD at h ⊢
    rw [List.map_cons, List.map_cons, List.zipWith_cons_cons, h, List.zip_cons_cons, List.map_cons]
theorem eg_notN (h : EvD L te Γ .none) : EvD L (tOp (fun x y H Q => y = V.non ∧ Q (.bl (!decide (x = .non))) H) te (tC .non)) Γ (.bool false) := fun A σ H hi he hg Q q => h A σ H hi he hg _ fun x d H1 r1 hx p => by
  subst p
  have hx1 := hx.ne (by intro z; cases z)
  cases hx1
  exact ⟨rfl, q _ _ H1 r1 (.inr (.bl false)) rfl⟩
theorem eg_mulN {C : Int → Int → Prop} {i j : Int} {ta tb : TE} (ha : EvD L ta Γ (.int i)) (hb : EvD L tb Γ (.int j)) (hc : C i j) : EvD L (tOp (rI C fun i j => .int (i * j)) ta tb) Γ (.int (i * j)) := eg_op ha hb (os_I hc)
end
/-- products of bounded numbers -/
theorem mw {i j : Int} {a b : Nat} (ha : i.natAbs < 2 ^ a) (hb : j.natAbs < 2 ^ b) (h0 : 0 < a := by decide) (h1 : 0 < b := by decide) (h : a + b ≤ 1000000 := by decide) : CMulW i j := wide_mul ha hb h0 h1 h
theorem nb {b n : Nat} (h : b < 2 ^ n) : ((b : Int)).natAbs < 2 ^ n := by rw [Int.natAbs_natCast]; exact h
theorem nat_mul_lt {a b n m : Nat} (ha : a < 2 ^ n) (hb : b < 2 ^ m) : a * b < 2 ^ (n + m) := by
  rw [Nat.pow_add]
  exact Nat.mul_lt_mul'' ha hb
/-! ### the inner product -/
def dot (r x : List Rat) : Rat := (List.zipWith (fun a b => a * b) r x).sum
def dotI (l w : Nat) (r x : List Rat) : Int := ((r.zip x).map fun p => tq l p.1 * tq w p.2).sum
theorem dotI_cast {l w : Nat} (hl : 0 < l) (hw : 0 < w) : ∀ (r x : List Rat), (∀ q ∈ r, q.den ∣ l) → (∀ q ∈ x, q.den ∣ w) → ((dotI l w r x : Int) : Rat) = dot r x * ((l : Rat) * (w : Rat))
  | [], x, _, _ => by simp [dotI, dot]
  | a :: r, [], _, _ => by simp [dotI, dot]
  | a :: r, b :: x, h1, h2 => by
    have ih := dotI_cast hl hw r x (fun q hq => h1 q (List.mem_cons_of_mem _ hq)) (fun q hq => h2 q (List.mem_cons_of_mem _ hq))
    have e1 : dotI l w (a :: r) (b :: x) = tq l a * tq w b + dotI l w r x := by simp [dotI]
    have e2 : dot (a :: r) (b :: x) = a * b + dot r x := by simp [dot]
    rw [e1, e2, Rat.intCast_add, Rat.intCast_mul, ih, tq_cast hl (h1 a List.mem_cons_self), tq_cast hw (h2 b List.mem_cons_self)]
    grind
end V1
set_option Elab.async false
set_option linter.all false
set_option maxRecDepth 100000
set_option maxHeartbeats 4000000
/-! A list made here is written. -/
namespace V1
open PySem PySem.Spec PyProof.Rows L2
def FrS (H0 : Hp) (j : Nat) (σ : L2.St) : Prop := ∃ p, σ[j]? = some (some (V.ref p)) ∧ H0 p = none
def SF (L : Rl) (j : Nat) (ts : TS) (Γ : List (Option PyData)) (N : List (Option PyData) → Prop) : Prop := ∀ (H0 : Hp) A σ H, Inn A H → EnvOk L A σ H Γ → L.G 0 H → L.R 0 H0 H → FrS H0 j σ → ∀ D : Ends,
  (∀ σ' H' Γ', L.R 0 H H' → EnvOk L A σ' H' Γ' → FrS H0 j σ' → N Γ' → D.nx σ' H') → ts D σ H
def SW (L : Rl) (j : Nat) (ts : TS) (Γ : List (Option PyData)) (N : List (Option PyData) → Prop) : Prop := ∀ (H0 : Hp) A σ H, Inn A H → EnvOk L A σ H Γ → L.G 0 H → L.R 0 H0 H → FrS H0 j σ → ∀ D : Ends,
  (∀ σ' H' Γ', L.R 0 H0 H' → EnvOk L A σ' H' Γ' → N Γ' → D.nx σ' H') → ts D σ H
section
variable {L : Rl} {Γ : List (Option PyData)} {te : TE} {ts tf ta u : TS} {d : PyData} {i j : Nat} {N N1 N2 : List (Option PyData) → Prop} {Rt : PyData → Prop}
theorem sf_asg (hij : i ≠ j) (h : EvD L te Γ d) (k : N (Γ.set i (some d))) : SF L j (tAsg te (gName i)) Γ N := fun H0 A σ H hi he hg r0 ⟨p, hp, hn⟩ D q => h A σ H hi he hg _ fun v d' H1 r hv e => by
  subst e
  exact q _ H1 _ r ((he.r r).set hv i) ⟨p, by rw [List.getElem?_set_ne hij]; exact hp, hn⟩ k
theorem sf_asgF (h : EvF L 0 te Γ (fun x => x = d)) (k : N (Γ.set j (some d))) : SF L j (tAsg te (gName j)) Γ N := fun H0 A σ H hi he hg r0 ⟨p, hp, hn⟩ D q => h A σ H hi he hg _ fun p1 d' H1 r hf hv e => by
  subst e
  exact q _ H1 _ r ((he.r r).set hv j) ⟨p1, List.getElem?_set_self (List.getElem?_eq_some_iff.mp hp).1, L.free r0 hf⟩ k
theorem sf_seq (h : SF L j ts Γ N1) (k : ∀ G, N1 G → SF L j u G N) : SF L j (tSeq ts u) Γ N := fun H0 A σ H hi he hg r0 hf D q => h H0 A σ H hi he hg r0 hf { D with nx := u D } fun σ1 H1 G r e f p =>
  k G p H0 A σ1 H1 (hi.r r) e (Rl.gR (b := 0) hg r) (L.tr (a := 0) (b := 0) r0 r) f D fun σ2 H2 G2 r2 e2 f2 p2 => q σ2 H2 G2 (L.tr (a := 0) (b := 0) r r2) e2 f2 p2
theorem wipe_get {σ : L2.St} {j : Nat} : ∀ {vs : List Nat}, j ∉ vs → (wipe σ vs)[j]? = σ[j]?
  | [], _ => rfl
  | v :: vs, h => by
    show ((wipe σ vs).set v none)[j]? = _
    rw [List.getElem?_set_ne (fun z => h (by rw [z]; exact List.mem_cons_self))]
    exact wipe_get fun z => h (List.mem_cons_of_mem _ z)
theorem sf_for {wi : TI} {g : TG} {js : List Nat} {items : List PyData} (I : Nat → List (Option PyData) → Prop) (hjs : j ∉ js) (hw : WkD L wi Γ items) (h0 : I 0 Γ)
    (hb : ∀ (i : Nat) d Γi, items[i]? = some d → I i Γi → ∃ Γ', TgG L g js d Γi Γ' ∧ SF L j ts Γ' (I (i + 1))) (hN : ∀ Γe, I items.length Γe → N Γe) : SF L j (tFor wi g ts) Γ N := fun H0 A σ H hi he hg r0 hf D q1 =>
  hw A σ H hi he hg _ fun J H1 its r1 hp jk => by
  subst hp
  refine ⟨fun i m σ2 H2 => m = its.length - i ∧ i ≤ its.length ∧ L.R 0 H H2 ∧ Kp A H1 H2 ∧ FrS H0 j σ2 ∧ ∃ Γi, EnvOk L A σ2 H2 Γi ∧ I i Γi, ⟨its.length, ?_⟩, ?_⟩
  · exact ⟨by omega, Nat.zero_le _, r1, fun b o _ e k => e, hf, Γ, he.r r1, h0⟩
  · rintro i m σ2 H2 ⟨rfl, hle, r2, k2, f2, Γi, e2, p2⟩
    have g2 : L.G 0 H2 := Rl.gR (b := 0) hg r2
    by_cases hlt : i < its.length
    · refine .inr ⟨jk.go i H2 k2 hlt, fun σ3 H3 => i + 1 ≤ its.length ∧ L.R 0 H H3 ∧ Kp A H1 H3 ∧ FrS H0 j σ3 ∧ ∃ Γi, EnvOk L A σ3 H3 Γi ∧ I (i + 1) Γi, fun σ3 H3 h3 => ⟨its.length - (i + 1), by omega, rfl, h3⟩, fun x H3 y => ?_⟩
      have naD : ∀ b, A b → H2 b ≠ none := fun b z => hi.r r2 b z
      obtain ⟨d, hd, sm, hdv⟩ := jk.yld i H2 x H3 k2 naD y hlt
      obtain ⟨Γ', htg, hs⟩ := hb i d Γi hd p2
      have r3 : L.R 0 H2 H3 := L.same g2 sm
      have r23 : L.R 0 H H3 := L.tr (a := 0) (b := 0) r2 r3
      have dx : Dv L.K A H3 x d := hdv A naD fun b o na e _ => na
      refine htg A x σ2 H3 dx (e2.r r3) _ fun σ4 e4 w4 => ?_
      obtain ⟨p, hp, hn⟩ := f2
      have f4 : FrS H0 j σ4 := by
        refine ⟨p, ?_, hn⟩
        have hw4 := w4 js fun k hk => hk
        rw [← wipe_get hjs, hw4, wipe_get hjs]
        exact hp
      refine hs H0 A σ4 H3 (fun b z y => naD b z (L.free r3 y)) e4 (Rl.gR (b := 0) g2 r3) (L.tr (a := 0) (b := 0) r0 r23) f4 { D with nx := _, ct := _, bk := D.nx } (fun σ5 H5 Γ5 r5 e6 f5 p5 => ?_)
      exact ⟨hlt, L.tr (a := 0) (b := 0) r23 r5, fun b o na e k => L.keep r5 (sm _ _ (k2 b o na e k)) k, f5, Γ5, e6, p5⟩
    · have e : i = its.length := by omega
      subst e
      exact .inl ⟨jk.stop H2 k2, q1 σ2 H2 Γi r2 e2 f2 (hN Γi p2)⟩
/-- made, filled, written, and on -/
theorem sg_grown (hj : j < Γ.length) (h1 : EvF L 0 te Γ (fun x => x = d)) (h2 : SF L j tf (Γ.set j (some d)) N1) (h3 : ∀ G, N1 G → SW L j ta G N2) (h4 : ∀ G, N2 G → SG L 0 u G N Rt) : SG L 0 (tSeq (tAsg te (gName j)) (tSeq tf (tSeq ta u))) Γ N Rt := fun A σ H hi he hg D q1 q2 =>
  h1 A σ H hi he hg _ fun p d' H1 r1 hf hv e => by
  subst e
  have fr : FrS H j (σ.set j (some (V.ref p))) := ⟨p, List.getElem?_set_self (by rw [he.1]; exact hj), hf⟩
  refine h2 H A _ H1 (hi.r r1) ((he.r r1).set hv j) (Rl.gR (b := 0) hg r1) r1 fr { D with nx := _ } fun σ2 H2 G2 r2 e2 f2 p2 => ?_
  have r12 : L.R 0 H H2 := L.tr (a := 0) (b := 0) r1 r2
  refine h3 G2 p2 H A σ2 H2 (hi.r r12) e2 (Rl.gR (b := 0) hg r12) r12 f2 { D with nx := _ } fun σ3 H3 G3 r3 e3 p3 => ?_
  exact h4 G3 p3 A σ3 H3 (hi.r r3) e3 (Rl.gR (b := 0) hg r3) D (fun σ4 H4 G4 r4 e4 p4 => q1 σ4 H4 G4 (L.tr (a := 0) (b := 0) r3 r4) e4 p4) fun v d H4 r4 e4 p4 => q2 v d H4 (L.tr (a := 0) (b := 0) r3 r4) e4 p4
theorem DvAll.ofInts {K : PySem.W.Frag} {A : Addr → Prop} {H : Hp} (ns : List Int) : DvAll K A H (ns.map V.int) (ns.map PyData.int) := by
  induction ns with
  | nil => exact .nil
  | cons n r ih => exact .cons (.int n) ih
theorem sw_aug {ti : TE} {ns : List Int} {m e : Int} {Γ2 : List (Option PyData)} (hΓ : Γ[j]? = some (some (lI (ns ++ [m])))) (hi2 : EvD L ti Γ (.int (-1))) (he2 : EvD L te Γ (.int e)) (hl : Γ2.length = Γ.length)
    (h2 : ∀ (i : Nat) d, Γ2[i]? = some (some d) → (i = j ∧ d = lI (ns ++ [m + e])) ∨ (Γ[i]? = some (some d) ∧ ((∃ zs, d = tI zs) ∨ ∃ z, d = .int z))) :
    SW L j (tAugS (tVar j) ti te (rIxL L.K) (ipI fun i j => i + j) rSetL) Γ (fun G => G = Γ2) := fun H0 A σ H hi he hg r0 ⟨p, hp, hn⟩ D q => by
  obtain ⟨v, hv, dv⟩ := he.2 j _ hΓ
  rw [hp] at hv
  have ev : V.ref p = v := Option.some.inj (Option.some.inj hv)
  subst ev
  refine ⟨V.ref p, hp, ?_⟩
  refine hi2 A σ H hi he hg _ fun vi d1 H1 r1 hvi p1 => ?_
  subst p1
  obtain rfl := hvi.int
  obtain ⟨p', xs, ep, na, eH, rr⟩ := (dv.r r1).list
  have ep' : p = p' := by injection ep
  subst ep'
  have ex := rr.ints
  subst ex
  have hix : ixN ((ns ++ [m]).map V.int).length (-1) = some ns.length := by
    unfold ixN
    rw [List.length_map, List.length_append]
    rw [List.length_singleton, if_neg (by decide), if_pos (by omega)]
    congr 1
    omega
  refine ⟨p, (ns ++ [m]).map V.int, -1, .int m, rfl, rfl, SqL.of eH, ?_, ?_⟩
  · unfold atI
    rw [hix]
    simp
  refine he2 A σ H1 (hi.r r1) (he.r r1) (Rl.gR (b := 0) hg r1) _ fun vy d2 H2 r2 hvy p2 => ?_
  subst p2
  obtain rfl := hvy.int
  have eH2 : H2 p = some (.lst ((ns ++ [m]).map V.int)) := L.keep r2 eH fxLst
  have r02 : L.R 0 H0 H2 := L.tr (a := 0) (b := 0) (L.tr (a := 0) (b := 0) r0 r1) r2
  have he3 : EnvOk L A σ H2 Γ := (he.r r1).r r2
  refine ⟨m, e, rfl, rfl, p, _, -1, ns.length, rfl, rfl, eH2, hix, ?_⟩
  refine q σ _ Γ2 (L.fresh r02 hn (.inr ⟨_, eH2⟩)) ⟨by rw [hl]; exact he.1, fun i d hd => ?_⟩ rfl
  have es : ((ns ++ [m]).map V.int).set ns.length (V.int (m + e)) = (ns ++ [m + e]).map V.int := by simp
  rw [es]
  rcases h2 i d hd with ⟨rfl, rfl⟩ | ⟨h3, h4⟩
  · exact ⟨V.ref p, hp, .inr (.lst na upd_same (DvAll.ofInts _))⟩
  · obtain ⟨v, hv, dv⟩ := he3.2 i d h3
    refine ⟨v, hv, ?_⟩
    rcases h4 with ⟨zs, rfl⟩ | ⟨z, rfl⟩
    · obtain ⟨a, xs, rfl, ea, ra⟩ := dv.tuple
      rw [ra.ints] at ea
      refine .inr (TpAt.dv ?_ (DvAll.ofInts _))
      rcases ea with ⟨na2, ea⟩ | ea
      · have ne : a ≠ p := fun z => by
          rw [z, eH2] at ea
          cases ea
        exact .inl ⟨na2, by rw [upd_ne ne]; exact ea⟩
      · exact .inr ea
    · obtain rfl := dv.int
      exact .inr (.int z)
theorem os_repF {ds : List PyData} {i : Int} {ta tb : TE} (ha : EvD L ta Γ (.list ds)) (hb : EvD L tb Γ (.int i)) (h0 : 0 ≤ i) (h1 : i ≤ 1000) (hl : ds.length ≤ 100) : EvF L 0 (tOp rRep ta tb) Γ (fun x => x = .list (List.replicate i.toNat ds).flatten) := fun A σ H hi he hg Q q =>
  ha A σ H hi he hg _ fun x d1 H1 r1 hx p1 => hb A σ H1 (hi.r r1) (he.r r1) (Rl.gR (b := 0) hg r1) _ fun y d2 H2 r2 hy p2 => by
    subst p1 p2
    obtain ⟨p, xs, rfl, na, e, r⟩ := (hx.r r2).list
    obtain rfl := hy.int
    have r12 : L.R 0 H H2 := L.tr (a := 0) (b := 0) r1 r2
    refine ⟨p, i, xs, rfl, rfl, e, by omega, by omega, Nat.le_trans (Nat.mul_le_mul (by rw [r.length]; exact hl) (show i.toNat ≤ 1000 by omega)) (by decide), fun l hl2 => ?_⟩
    have rr := Rl.newR (o := .lst (List.replicate i.toNat xs).flatten) (Rl.gR (b := 0) hg r12) hl2
    exact q l _ _ (L.tr (a := 0) (b := 0) r12 rr) (L.free r12 hl2) (.inr (.lst ((hi.r r12).no hl2) upd_same ((r.rep _).r rr))) rfl
theorem eg_lcmF {α : Type} {wi : TI} {g : TG} {js vs : List Nat} {xs : List α} {enc res : α → PyData} (hw : WkD L wi Γ (xs.map enc)) (hj : ∀ j ∈ js, j ∈ vs) (hlen : xs.length ≤ 1000)
    (hb : ∀ x ∈ xs, res x ≠ mark ∧ ∃ Γ', TgG L g js (enc x) (wipeD Γ vs) Γ' ∧ EvD L te Γ' (res x)) : EvF L 0 (tLc wi g tYes te vs) Γ (fun x => x = .list (xs.map res)) :=
  eg_lcF hw hj (by rw [List.length_map]; exact hlen) (by rw [List.length_map, List.length_map]) fun i d r hd hr => by
    rw [List.getElem?_map] at hd hr
    cases hx : xs[i]? with
    | none => rw [hx] at hd; cases hd
    | some x =>
      rw [hx] at hd hr
      have e1 : enc x = d := Option.some.inj hd
      have e2 : res x = r := Option.some.inj hr
      subst e1 e2
      exact hb x (List.mem_of_getElem? hx)
end
end V1
set_option Elab.async false
set_option linter.all false
set_option maxRecDepth 100000
set_option maxHeartbeats 4000000
/-! The dict of the draws. -/
namespace V1
open PySem PySem.Spec PyProof.Rows L2
def dct (l sd : Int) (c : Addr) (s : Int) : List (Key × V) := [(.inr "left", .int l), (.inr "seed", .int sd), (.inr "cells", .ref c), (.inr "spot", .int s)]
def mG (T : List (Addr × Str)) (p c : Addr) (ns : List Int) (n : Nat) (H : Hp) : Prop := (∃ l sd s : Int, H p = some (.dK (dct l sd c s)) ∧ H c = some (.lst (ns.map V.int)) ∧ 0 ≤ s ∧ s + (n : Int) ≤ 2 ^ 50) ∧ LamX.Tabs T H
/-- all but the dict at p and the tables of code objects stays; the tables go on -/
structure mR (T : List (Addr × Str)) (p c : Addr) (n : Nat) (H H' : Hp) : Prop where
  st : ∀ b o, H b = some o → (b ≠ p ∨ ∀ kvs, o ≠ .dK kvs) → (∀ ps, o ≠ .tbl ps) → H' b = some o
  sp : ∀ l sd s : Int, H p = some (.dK (dct l sd c s)) → ∃ l' s' : Int, H' p = some (.dK (dct l' sd c s')) ∧ s ≤ s' ∧ s' ≤ s + (n : Int)
  nn : ∀ b, H b ≠ none → H' b ≠ none
  tb : LamX.Tabs T H'
theorem tabs_fresh {T : List (Addr × Str)} {H' : Hp} {q : Addr} {o : HO} (t : LamX.Tabs T H') (hq : H' q = none ∨ ∃ xs, H' q = some (.lst xs)) : LamX.Tabs T (upd H' q o) := fun r hr => by
  obtain ⟨ps, h1, h2, h3⟩ := t r hr
  have ne : ∀ b u, H' b = some u → (∀ xs, u ≠ .lst xs) → b ≠ q := fun b u e k z => by
    rw [z] at e
    rcases hq with y | ⟨xs, y⟩
    · rw [y] at e
      cases e
    · rw [y] at e
      exact k xs (Option.some.inj e).symm
  refine ⟨ps, by rw [upd_ne (ne _ _ h1 (fun xs z => by cases z))]; exact h1, h2, fun pos cv hc => ?_⟩
  obtain ⟨c, e1, e2⟩ := h3 pos cv hc
  refine ⟨c, e1, ?_⟩
  rw [upd_ne (ne _ _ e2 (fun xs z => by unfold LamX.CodeO at z; cases z))]
  exact e2
theorem same_nn {H H' : Hp} (s : Same H H') (b : Addr) (z : H b ≠ none) : H' b ≠ none := fun y => by
  cases e : H b with
  | none => exact z e
  | some o => rw [s _ _ e] at y; cases y
def mL (K : PySem.W.Frag) (T : List (Addr × Str)) (p c : Addr) (ns : List Int) : Rl where
  K := K
  G := mG T p c ns
  R := mR T p c
  M := fun v => v = .ref p
  gle := fun h ⟨⟨l, sd, s, h1, h2, h3, h4⟩, t⟩ => ⟨⟨l, sd, s, h1, h2, h3, by omega⟩, t⟩
  rle := fun h r => ⟨r.st, fun l sd s e => let ⟨l', s', e1, e2, e3⟩ := r.sp l sd s e; ⟨l', s', e1, e2, by omega⟩, r.nn, r.tb⟩
  gr := fun ⟨⟨l, sd, s, g1, g2, g3, g4⟩, t⟩ r => by
    obtain ⟨l', s', e1, e2, e3⟩ := r.sp l sd s g1
    exact ⟨⟨l', sd, s', e1, r.st _ _ g2 (.inr fun kvs z => by cases z) (fun ps z => by cases z), by omega, by omega⟩, r.tb⟩
  tr := fun {a b H H1 H2} r k => ⟨fun q o e z y => k.st q o (r.st q o e z y) z y, fun l sd s e => by
    obtain ⟨l', s', e1, e2, e3⟩ := r.sp l sd s e
    obtain ⟨l2, s2, f1, f2, f3⟩ := k.sp l' sd s' e1
    exact ⟨l2, s2, f1, by omega, by omega⟩, fun b z => k.nn b (r.nn b z), k.tb⟩
  same := fun g s => ⟨fun b o e _ _ => s b o e, fun l sd sp e => ⟨l, sp, s _ _ e, by omega, by omega⟩, same_nn s, g.2.ext s⟩
  fresh := fun {a H H' q o} r hq h2 => ⟨fun b u e z y => by rw [upd_ne (ne_of_none e hq)]; exact r.st b u e z y, fun l sd s e => by
    have ne := ne_of_none e hq
    rw [upd_ne ne]
    exact r.sp l sd s e, fun b z => by
    have ne : b ≠ q := fun y => z (by rw [y]; exact hq)
    rw [upd_ne ne]
    exact r.nn b z, tabs_fresh r.tb h2⟩
  keep := fun r e k => r.st _ _ e (.inr k.1) k.2
  free := fun {a H H' q} r e => Classical.byContradiction fun z => r.nn q z e
  mref := fun h => ⟨p, h⟩
/-- what lambdas may be made in -/
structure LamL (L : Rl) (T : List (Addr × Str)) : Prop where
  tb : ∀ {n H}, L.G n H → LamX.Tabs T H
  of : ∀ {n H H'}, L.G n H → LamX.ExtN H H' → LamX.Tabs T H' → (∀ b, H b ≠ none → H' b ≠ none) → L.R 0 H H'
theorem lamL_m {K : PySem.W.Frag} {T : List (Addr × Str)} {p c : Addr} {ns : List Int} : LamL (mL K T p c ns) T := ⟨fun g => (show mG T p c ns _ _ from g).2, fun _ e t' nn =>
  (show mR T p c 0 _ _ from ⟨fun b o h _ k => e b o h k, fun l sd s h => ⟨l, s, e _ _ h (fun ps z => by cases z), by omega, by omega⟩, nn, t'⟩)⟩
/-- nothing but the tables changes -/
def tabL (K : PySem.W.Frag) (T : List (Addr × Str)) : Rl where
  K := K
  G := fun _ H => LamX.Tabs T H
  R := fun _ H H' => LamX.ExtN H H' ∧ (∀ b, H b ≠ none → H' b ≠ none) ∧ LamX.Tabs T H'
  M := fun _ => False
  gle := fun _ h => h
  rle := fun _ r => r
  gr := fun _ r => r.2.2
  tr := fun a b => ⟨a.1.trans b.1, fun q z => b.2.1 q (a.2.1 q z), b.2.2⟩
  same := fun g s => ⟨LamX.ExtN.of s, same_nn s, g.ext s⟩
  fresh := fun r hq h2 => ⟨fun b u e y => by rw [upd_ne (ne_of_none e hq)]; exact r.1 b u e y, fun b z => by
    rw [upd_ne (fun y => z (by rw [y]; exact hq))]
    exact r.2.1 b z, tabs_fresh r.2.2 h2⟩
  keep := fun r e k => r.1 _ _ e k.2
  free := fun {a H H' q} r e => Classical.byContradiction fun z => r.2.1 q z e
  mref := fun h => h.elim
theorem lamL_t {K : PySem.W.Frag} {T : List (Addr × Str)} : LamL (tabL K T) T := ⟨fun g => g, fun _ e t nn => ⟨e, nn, t⟩⟩
/-- the way of some dict of draws -/
def SM (L : Rl) : Prop := ∃ K T p c ns, ns ≠ [] ∧ L = mL K T p c ns
/-- a def that draws -/
def spM (K : PySem.W.Frag) {α : Type} (n : Nat) (args : α → List PyData) (ok : α → Prop) (post : α → PyData → Prop) : Sp := fun vs H Q E => ∃ L a, L.K = K ∧ SM L ∧ ok a ∧ spL L n (fun ds => ds = args a) (fun _ d => post a d) vs H Q E
section
variable {P : Program} {w : World} {K : PySem.W.Frag} {mg : Str → Option Value} {base : Heap}
theorem ok_A {α : Type} {args : α → List PyData} {ok : α → Prop} {post : α → PyData → Prop} {n : Nat} {x : Str} {st : Stmt} {f : Addr} {fd : FuncData} {N ps : List Str} {k : Nat} (D : Df K mg x st ps f fd) (Sc : FnScope N ps (defScope st)) (hlen : ∀ a, (args a).length = ps.length)
    (hb : ∀ (cdv : Value) (A : Around) (outer : List Env) (s : Shared) (H : Hp) (E : XK), (cxOf CX0 P w K mg base N x (defScope st) f cdv A outer s H E).nox.A.guards = some [] → Room k (cxOf CX0 P w K mg base N x (defScope st) f cdv A outer s H E).nox.A →
      ∃ t, PSs (cxOf CX0 P w K mg base N x (defScope st) f cdv A outer s H E).nox (defBody st) t ∧ ∀ L, L.K = K → SM L → ∀ a, ok a → SG L n t (Ga N.length (args a)) (fun _ => False) (post a)) : Cal P w K mg base x st ps (k + 1) (spM K n args ok post) f fd := by
  refine ⟨D.gm, D.F, D.b, okG D.F Sc (fun vs H Q E h => ?_) (fun cdv A outer s H vs Q E hg hr h => ?_)⟩
  · obtain ⟨L, a, _, _, _, Av, ds, _, hl, _, e, _⟩ := h
    rw [hl, e, hlen a]
  · obtain ⟨L, a, hK, hS, ha, Av, ds, hi, hl, hv, e, hgg, q⟩ := h
    obtain ⟨t, h1, h2⟩ := hb cdv A outer s H E hg hr
    subst e
    exact ⟨t, h1, h2 L hK hS a ha Av (L2.start N vs) H hi (start_ok hl hv) hgg _ (fun σ' H' Γ' r e p => p.elim) fun v d H' r hd p => q v d H' r hd p⟩
end
section
variable {L : Rl} {Γ : List (Option PyData)} {t : TA} {te ta tb : TE} {E : XK} {α : Type} {args : α → List PyData} {ok : α → Prop} {val : α → PyData} {post : α → PyData → Prop} {a m n : Nat} {P1 P2 : PyData → Prop} {PA : List PyData → Prop}
theorem eg_callM (hS : SM L) (x : α) (ha : EaD L t Γ (args x)) (ho : ok x) : EvG L n (tCall (spM L.K n args ok post) [] E t) Γ (post x) := fun A σ H hi he hg Q q => ha A σ H hi he (L.g0 hg) _ fun vs ds H1 r1 l hv p => by
  subst p
  show spM L.K n args ok post (vs ++ []) H1 Q E
  rw [List.append_nil]
  exact ⟨L, x, rfl, hS, ho, A, args x, hi.r r1, l, hv, rfl, Rl.gR (a := 0) (by rw [Nat.zero_add]; exact hg) r1, fun v d H2 r2 hd hpo => q v d H2 (L.rle (Nat.le_of_eq (Nat.zero_add _)) (L.tr r1 r2)) hd hpo⟩
/-- a def that leaves all, called with drawn things -/
theorem eg_callRG (ha : EaG L m t Γ PA) (hp : ∀ ds, PA ds → nomk ds = true ∧ ∃ x, ok x ∧ ds = args x) : EvG L m (tCall (spR L.K args ok val) [] E t) Γ (fun d => ∃ x, PA (args x) ∧ ok x ∧ d = val x) := fun A σ H hi he hg Q q => ha A σ H hi he hg _ fun vs ds H1 r1 l hv p => by
  obtain ⟨hn, x, ho, e⟩ := hp ds p
  subst e
  show spR L.K args ok val (vs ++ []) H1 Q E
  rw [List.append_nil]
  refine ⟨x, ho, A, args x, hi.r r1, l, fun i d e => ?_, rfl, trivial, fun v d H2 r2 hd hpo => q v d H2 (L.tr (b := 0) r1 (L.same (Rl.gR (b := 0) hg r1) r2)) (pure_dq hd) ⟨x, p, ho, hpo⟩⟩
  obtain ⟨v, e1, e2⟩ := hv i d e
  exact ⟨v, e1, .inr (e2.ne (nomk_ne hn i d e))⟩
theorem eg_addG {P1 P2 : Int → Prop} (ha : EvG L m ta Γ (fun d => ∃ i, P1 i ∧ d = .int i)) (hb : EvG L n tb Γ (fun d => ∃ i, P2 i ∧ d = .int i)) : EvG L (m + n) (tOp (rI0 fun i j => .int (i + j)) ta tb) Γ (fun d => ∃ i, (∃ x y, P1 x ∧ P2 y ∧ i = x + y) ∧ d = .int i) :=
  eg_opG ha hb fun d1 d2 ⟨i, p1, e1⟩ ⟨j, p2, e2⟩ => by
    subst e1 e2
    exact fun A H x y hi hg hx hy Q q => os_I0 A H x y hi hg hx hy Q fun v d H' r hv e => q v d H' r hv ⟨i + j, ⟨i, j, p1, p2, rfl⟩, e⟩
theorem eg_subG {P1 P2 : Int → Prop} (ha : EvG L m ta Γ (fun d => ∃ i, P1 i ∧ d = .int i)) (hb : EvG L n tb Γ (fun d => ∃ i, P2 i ∧ d = .int i)) : EvG L (m + n) (tOp (rI0 fun i j => .int (i - j)) ta tb) Γ (fun d => ∃ i, (∃ x y, P1 x ∧ P2 y ∧ i = x - y) ∧ d = .int i) :=
  eg_opG ha hb fun d1 d2 ⟨i, p1, e1⟩ ⟨j, p2, e2⟩ => by
    subst e1 e2
    exact fun A H x y hi hg hx hy Q q => os_I0 A H x y hi hg hx hy Q fun v d H' r hv e => q v d H' r hv ⟨i - j, ⟨i, j, p1, p2, rfl⟩, e⟩
theorem eg_intG {i : Int} : EvG L 0 (tC (.int i)) Γ (fun d => ∃ j, j = i ∧ d = .int j) := EvG.mono eg_int (Nat.le_refl _) fun d e => ⟨i, rfl, e⟩
end
end V1
set_option Elab.async false
set_option linter.all false
set_option maxRecDepth 100000
set_option maxHeartbeats 4000000
/-! What readings share. -/
namespace V1
open PySem PySem.Spec PyProof.Rows L2
theorem take_next {α : Type} {xs : List α} {i : Nat} {x : α} (h : xs[i]? = some x) : xs.take (i + 1) = xs.take i ++ [x] := by
  rw [List.take_add_one, h]
  rfl
theorem map_at {α : Type} {xs : List α} {enc : α → PyData} {i : Nat} {d : PyData} (h : (xs.map enc)[i]? = some d) : ∃ x, xs[i]? = some x ∧ x ∈ xs ∧ d = enc x := by
  rw [List.getElem?_map] at h
  cases hx : xs[i]? with
  | none => rw [hx] at h; cases h
  | some x =>
    rw [hx] at h
    exact ⟨x, rfl, List.mem_of_getElem? hx, (Option.some.inj h).symm⟩
/-- what repr may be asked of -/
structure Sh (d : PyData) : Prop where
  seq : (∃ ds, d = .list ds) ∨ ∃ ds, d = .tuple ds
  show1 : d.showable = true
  nd : d.hasDict = false
  dep : d.depth ≤ 60
  len : d.shown.length ≤ sizeLine

theorem atI_zero {α : Type} (x : α) (xs : List α) : atI (x :: xs) 0 = some x := by
  unfold atI ixN
  rw [if_pos (by decide), if_pos (by rw [List.length_cons]; omega)]
  rfl
theorem split_last {α : Type} {xs : List α} {n : Nat} (h : xs.length = n + 1) : ∃ ys y, xs = ys ++ [y] ∧ ys.length = n := by
  refine ⟨xs.take n, xs[n], ?_, by rw [List.length_take]; omega⟩
  have := List.take_append_drop n xs
  rw [List.drop_eq_getElem_cons (by omega), List.drop_of_length_le (by omega)] at this
  exact this.symm
structure Shn (b k : Nat) (d : PyData) : Prop where
  s : d.showable = true
  nd : d.hasDict = false
  dp : d.depth ≤ k
  sh : d.leavesShort 1921 = true
  bk : d.bulk ≤ b
theorem shn_int {i : Int} {b k : Nat} (h : i.natAbs < 2 ^ 1900) : Shn b k (.int i) := by
  have hlog : i.natAbs.log2 < 1920 := by
    by_cases z : i.natAbs = 0
    · rw [z]; decide
    · exact Nat.lt_of_lt_of_le ((Nat.log2_lt z).mpr h) (by decide)
  refine ⟨by simp only [PyData.showable, decide_eq_true_eq]; exact hlog, by simp only [PyData.hasDict], by simp only [PyData.depth]; omega, ?_, by simp only [PyData.bulk]; omega⟩
  simp only [PyData.leavesShort, decide_eq_true_eq]
  show (Str.ofString (toString i)).length ≤ 1921
  rw [PySem.ofString_length]
  exact int_text_length_le (by decide) hlog
theorem shn_all {b k : Nat} : ∀ {ds : List PyData}, (∀ d ∈ ds, Shn b k d) → PyData.showableAll ds = true ∧ PyData.hasDictAll ds = false ∧ PyData.depthAll ds ≤ k ∧ PyData.leavesShortAll 1921 ds = true ∧ PyData.bulkAll ds ≤ ds.length * (b + 1)
  | [], _ => ⟨by simp only [PyData.showableAll], by simp only [PyData.hasDictAll], by simp only [PyData.depthAll]; omega, by simp only [PyData.leavesShortAll], by simp only [PyData.bulkAll]; omega⟩
  | d :: ds, h => by
    have h1 := h d List.mem_cons_self
    obtain ⟨a1, a2, a3, a4, a5⟩ := shn_all (ds := ds) fun x hx => h x (List.mem_cons_of_mem _ hx)
    refine ⟨?_, ?_, ?_, ?_, ?_⟩
    · simp only [PyData.showableAll, h1.s, a1, Bool.and_self]
    · simp only [PyData.hasDictAll, h1.nd, a2, Bool.or_self]
    · simp only [PyData.depthAll]
      have := h1.dp
      omega
    · simp only [PyData.leavesShortAll, h1.sh, a4, Bool.and_self]
    · simp only [PyData.bulkAll, List.length_cons]
      have := h1.bk
      rw [Nat.succ_mul]
      omega
theorem shn_tup {b k m : Nat} {ds : List PyData} (h : ∀ d ∈ ds, Shn b k d) (hl : ds.length ≤ m) : Shn (m * (b + 1)) (k + 1) (.tuple ds) := by
  obtain ⟨a1, a2, a3, a4, a5⟩ := shn_all h
  exact ⟨by simpa only [PyData.showable] using a1, by simpa only [PyData.hasDict] using a2, by simp only [PyData.depth]; omega, by simpa only [PyData.leavesShort] using a4, by simp only [PyData.bulk]; exact Nat.le_trans a5 (Nat.mul_le_mul_right _ hl)⟩
theorem shn_lst {b k m : Nat} {ds : List PyData} (h : ∀ d ∈ ds, Shn b k d) (hl : ds.length ≤ m) : Shn (m * (b + 1)) (k + 1) (.list ds) := by
  obtain ⟨a1, a2, a3, a4, a5⟩ := shn_all h
  exact ⟨by simpa only [PyData.showable] using a1, by simpa only [PyData.hasDict] using a2, by simp only [PyData.depth]; omega, by simpa only [PyData.leavesShort] using a4, by simp only [PyData.bulk]; exact Nat.le_trans a5 (Nat.mul_le_mul_right _ hl)⟩
theorem Shn.mono {b k b' k' : Nat} {d : PyData} (h : Shn b k d) (hb : b ≤ b' := by decide) (hk : k ≤ k' := by decide) : Shn b' k' d := ⟨h.s, h.nd, Nat.le_trans h.dp hk, h.sh, Nat.le_trans h.bk hb⟩
theorem Shn.fits {b k : Nat} {d : PyData} (h : Shn b k d) (hb : b ≤ 8000) : d.shown.length ≤ sizeLine := by
  have h1 := PyData.shown_le_bulk 1921 (by decide) d h.sh
  have h2 : (1921 + 2) * d.bulk ≤ 1923 * 8000 := Nat.mul_le_mul (by decide) (Nat.le_trans h.bk hb)
  rw [sizeLine_eq]
  omega
theorem sh_lst {b k : Nat} {ds : List PyData} (h : Shn b k (.list ds)) (hb : b ≤ 8000 := by decide) (hk : k ≤ 60 := by decide) : Sh (.list ds) := ⟨.inl ⟨ds, rfl⟩, h.s, h.nd, Nat.le_trans h.dp hk, h.fits hb⟩
theorem sh_tup {b k : Nat} {ds : List PyData} (h : Shn b k (.tuple ds)) (hb : b ≤ 8000 := by decide) (hk : k ≤ 60 := by decide) : Sh (.tuple ds) := ⟨.inr ⟨ds, rfl⟩, h.s, h.nd, Nat.le_trans h.dp hk, h.fits hb⟩
theorem p1900 {i : Int} {n : Nat} (h : i.natAbs < 2 ^ n) (hn : n ≤ 1900 := by decide) : i.natAbs < 2 ^ 1900 := Nat.lt_of_lt_of_le h (Nat.pow_le_pow_right (by decide) hn)
section
variable {L : Rl} {Γ : List (Option PyData)} {t : TA} {te ta tb : TE} {E : XK} {a b c m n : Nat} {P1 P2 P3 P4 : PyData → Prop}
theorem ea2G (h1 : EvG L a ta Γ P1) (h2 : EvG L b tb Γ P2) : EaG L (a + (b + 0)) (tCons ta (tCons tb tNil)) Γ (fun ds => ∃ d1 d2, ds = [d1, d2] ∧ P1 d1 ∧ P2 d2) :=
  EaG.mono (ea_consG h1 (ea_consG h2 ea_nil)) (Nat.le_refl _) fun ds ⟨d1, r, e, p1, d2, r2, e2, p2, e3⟩ => ⟨d1, d2, by rw [e, e2, e3], p1, p2⟩
theorem ea1G (h1 : EvG L a ta Γ P1) : EaG L (a + 0) (tCons ta tNil) Γ (fun ds => ∃ d1, ds = [d1] ∧ P1 d1) :=
  EaG.mono (ea_consG h1 ea_nil) (Nat.le_refl _) fun ds ⟨d1, r, e, p1, e2⟩ => ⟨d1, by rw [e, e2], p1⟩
theorem enc_of {α : Type} {enc : α → PyData} {P : α → Prop} : ∀ {rs : List PyData}, (∀ (i : Nat) d, rs[i]? = some d → ∃ x, P x ∧ d = enc x) → ∃ xs : List α, rs = xs.map enc ∧ xs.length = rs.length ∧ ∀ x ∈ xs, P x
  | [], _ => ⟨[], rfl, rfl, fun x h => by simp at h⟩
  | d :: r, h => by
    obtain ⟨x, hx, e⟩ := h 0 d rfl
    obtain ⟨xs, e2, hl, hP⟩ := enc_of (rs := r) fun i d' e => h (i + 1) d' (by simpa using e)
    refine ⟨x :: xs, by rw [e, e2]; rfl, by rw [List.length_cons, List.length_cons, hl], fun y hy => ?_⟩
    rcases List.mem_cons.mp hy with rfl | hy
    · exact hx
    · exact hP y hy
/-- a comprehension of drawn things -/
theorem eg_lcX {α : Type} {enc : α → PyData} {P : α → Prop} {wi : TI} {g : TG} {js vs : List Nat} {items : List PyData} (henc : ∀ x, enc x ≠ mark) (hw : WkD L wi Γ items) (hj : ∀ j ∈ js, j ∈ vs) (hlen : items.length ≤ b) (hb1 : b ≤ 1000)
    (hb : ∀ (i : Nat) d, items[i]? = some d → ∃ Γ', TgG L g js d (wipeD Γ vs) Γ' ∧ EvG L c te Γ' (fun r => ∃ x, P x ∧ r = enc x)) : EvG L (0 + b * c) (tLc wi g tYes te vs) Γ (fun r => ∃ xs : List α, r = .list (xs.map enc) ∧ xs.length = items.length ∧ ∀ x ∈ xs, P x) :=
  EvG.mono (eg_lcG (a := 0) (b := b) (c := c) (Pt := fun _ _ r => ∃ x, P x ∧ r = enc x) hw hj (fun its e => by rw [e]; exact ⟨hlen, hb1⟩) fun its e i d hd => by
    subst e
    obtain ⟨Γ', h1, h2⟩ := hb i d hd
    exact ⟨Γ', h1, EvG.mono h2 (Nat.le_refl _) fun r ⟨x, hx, e⟩ => ⟨by rw [e]; exact henc x, x, hx, e⟩⟩) (Nat.le_refl _) fun r ⟨its, rs, e1, e2, e3, e4⟩ => by
    obtain ⟨xs, f1, f2, f3⟩ := enc_of e4
    exact ⟨xs, by rw [e2, f1], by rw [f2, e3, e1], f3⟩
end
theorem rng_len (n : Nat) : (rngD 0 n).length = n := by unfold rngD; rw [List.length_map, List.length_range]
section
variable {L : Rl} {Γ : List (Option PyData)} {t : TA} {te ta tb : TE} {E : XK} {a b c m n j : Nat} {P P1 P2 : PyData → Prop} {N N2 : List (Option PyData) → Prop} {Rt : PyData → Prop} {u us : TS} {d : PyData}
theorem eg_tupG {PA : List PyData → Prop} (h : EaG L a t Γ PA) (hn : ∀ ds, PA ds → nomk ds = true ∧ ds.length ≤ 1000) : EvG L a (tTup t) Γ (fun d => ∃ ds, PA ds ∧ d = .tuple ds) := fun A σ H hi he hg Q q => h A σ H hi he hg _ fun vs ds' H1 r1 l hv p => by
  obtain ⟨h1, h2⟩ := hn ds' p
  refine ⟨Nat.le_trans (by rw [l]; exact h2) (by decide), fun p1 hp => ?_⟩
  have rr := Rl.newR (o := .tup vs) (Rl.gR (b := 0) hg r1) hp
  exact q _ _ _ (L.tr (b := 0) r1 rr) (.inr (.tup ((hi.r r1).no hp) upd_same ((all_of l hv h1).r rr))) ⟨ds', p, rfl⟩
theorem eg_lstF {ds : List PyData} (h : EaD L t Γ ds) (hn : nomk ds = true := by rfl) (hl : ds.length ≤ 1000 := by simp) : EvF L 0 (tLst t) Γ (fun x => x = .list ds) := fun A σ H hi he hg Q q => h A σ H hi he hg _ fun vs ds' H1 r1 l hv p => by
  subst p
  refine ⟨Nat.le_trans (by rw [l]; exact hl) (by decide), fun p hp => ?_⟩
  have rr := Rl.newR (o := .lst vs) (Rl.gR (b := 0) hg r1) hp
  exact q p _ _ (L.tr (a := 0) (b := 0) r1 rr) (L.free r1 hp) (.inr (.lst ((hi.r r1).no hp) upd_same ((all_of l hv hn).r rr))) rfl
theorem sq_tgG {g : TG} {js : List Nat} (h : EvG L a te Γ P) (hm : ∀ d, P d → d ≠ mark) (k : ∀ d, P d → ∃ Γ', TgG L g js d Γ Γ' ∧ SG L b u Γ' N Rt) : SG L (a + b) (tSeq (tAsg te g) u) Γ N Rt := fun A σ H hi he hg D q1 q2 =>
  h A σ H hi he (L.gle (Nat.le_add_right _ _) hg) _ fun v d H1 r hv p => by
    obtain ⟨Γ', h1, h2⟩ := k d p
    exact h1 A v σ H1 (hv.ne (hm d p)) (he.r r) _ fun σ' e' _ => h2 A σ' H1 (hi.r r) e' (Rl.gR hg r) D (fun σ2 H2 Γ2 r2 e2 p2 => q1 σ2 H2 Γ2 (L.tr r r2) e2 p2) fun v d H2 r2 e2 p2 => q2 v d H2 (L.tr r r2) e2 p2
/-- made, written, and on -/
theorem sg_grown2 {n : Nat} (hj : j < Γ.length) (h1 : EvF L 0 te Γ (fun x => x = d)) (h3 : SW L j us (Γ.set j (some d)) N2) (h4 : ∀ G, N2 G → SG L n u G N Rt) : SG L n (tSeq (tAsg te (gName j)) (tSeq us u)) Γ N Rt := fun A σ H hi he hg D q1 q2 =>
  h1 A σ H hi he (L.g0 hg) _ fun p d' H1 r1 hf hv e => by
  subst e
  have fr : FrS H j (σ.set j (some (V.ref p))) := ⟨p, List.getElem?_set_self (by rw [he.1]; exact hj), hf⟩
  refine h3 H A _ H1 (hi.r r1) ((he.r r1).set hv j) (Rl.gR (b := 0) (L.g0 hg) r1) r1 fr { D with nx := _ } fun σ3 H3 G3 r3 e3 p3 => ?_
  have e0 : n = 0 + n := (Nat.zero_add n).symm
  have g3 : L.G n H3 := Rl.gR (a := 0) (by rw [Nat.zero_add]; exact hg) r3
  exact h4 G3 p3 A σ3 H3 (hi.r r3) e3 g3 D (fun σ4 H4 G4 r4 e4 p4 => q1 σ4 H4 G4 (L.rle (Nat.le_of_eq (Nat.zero_add n)) (L.tr r3 r4)) e4 p4) fun v d H4 r4 e4 p4 => q2 v d H4 (L.rle (Nat.le_of_eq (Nat.zero_add n)) (L.tr r3 r4)) e4 p4
theorem flat_upd {K : PySem.W.Frag} {A : Addr → Prop} {H : Hp} {v : V} {zs : List Int} {p : Addr} {xs : List V} {o : HO} (h : Dv K A H v (tI zs)) (e : H p = some (.lst xs)) : Dv K A (upd H p o) v (tI zs) := by
  cases h with
  | @tup a ys ds na ea ra =>
    have ne : a ≠ p := fun z => by
      rw [z, e] at ea
      cases ea
    refine .tup na (by rw [upd_ne ne]; exact ea) ?_
    rw [ra.ints]
    exact DvAll.ofInts _
  | @ktup a ys ds ea ra =>
    rw [ra.ints] at ea
    exact .ktup ea (DvAll.ofInts _)
theorem flats_upd {A : Addr → Prop} {H : Hp} {p : Addr} {xs : List V} {o : HO} (e : H p = some (.lst xs)) : ∀ {zss : List (List Int)} {vs : List V}, DvAll L.K A H vs (zss.map tI) → DvAll L.K A (upd H p o) vs (zss.map tI)
  | [], _, h => by cases h; exact .nil
  | z :: zs, _, h => by
    cases h with
    | cons h1 h2 => exact .cons (flat_upd h1 e) (flats_upd e h2)
theorem sw_app {zss : List (List Int)} {zs : List Int} {Γ2 : List (Option PyData)} (hj : Γ[j]? = some (some (.list (zss.map tI)))) (hlen : zss.length ≤ 1000) (he2 : EvD L te Γ (tI zs)) (hl : Γ2.length = Γ.length)
    (h2 : ∀ (i : Nat) d, Γ2[i]? = some (some d) → (i = j ∧ d = .list ((zss ++ [zs]).map tI)) ∨ (Γ[i]? = some (some d) ∧ ((∃ zs, d = tI zs) ∨ (∃ z, d = .int z) ∨ d = mark))) :
    SW L j (tDrop (tBM L.K "list" rAppend (tVar j) (tCons te tNil))) Γ (fun G => G = Γ2) := fun H0 A σ H hi he hg r0 ⟨p, hp, hn⟩ D q => by
  obtain ⟨v, hv, dv⟩ := he.2 j _ hj
  rw [hp] at hv
  have ev : V.ref p = v := Option.some.inj (Option.some.inj hv)
  subst ev
  obtain ⟨p', xs, ep, na, eH, rr⟩ := dv.list
  have ep' : p = p' := by injection ep
  subst ep'
  refine ⟨V.ref p, hp, .inl ⟨rfl, xs, SqL.of eH⟩, ?_⟩
  refine he2 A σ H hi he hg _ fun vy d2 H2 r2 hvy p2 => ?_
  subst p2
  have eH2 : H2 p = some (.lst xs) := L.keep r2 eH fxLst
  have r02 : L.R 0 H0 H2 := L.tr (a := 0) (b := 0) r0 r2
  have he3 : EnvOk L A σ H2 Γ := he.r r2
  have rr2 := rr.r r2
  have hlx : xs.length = zss.length := by rw [rr.length, List.length_map]
  refine ⟨p, xs, vy, rfl, rfl, eH2, Nat.lt_of_le_of_lt (show xs.length ≤ 1000 by omega) (by decide), ?_⟩
  refine q σ _ Γ2 (L.fresh r02 hn (.inr ⟨_, eH2⟩)) ⟨by rw [hl]; exact he.1, fun i d hd => ?_⟩ rfl
  rcases h2 i d hd with ⟨rfl, rfl⟩ | ⟨h3, h4⟩
  · refine ⟨V.ref p, hp, .inr (.lst na upd_same ?_)⟩
    rw [List.map_append]
    have hvy2 : Dv L.K A H2 vy (tI zs) := hvy.ne (by unfold tI; intro z; cases z)
    exact (flats_upd eH2 rr2).app (.cons (flat_upd hvy2 eH2) .nil)
  · obtain ⟨v, hv, dv⟩ := he3.2 i d h3
    refine ⟨v, hv, ?_⟩
    rcases h4 with ⟨zs, rfl⟩ | ⟨z, rfl⟩ | rfl
    · exact .inr (flat_upd (dv.ne (by unfold tI; intro z; cases z)) eH2)
    · obtain rfl := dv.int
      exact .inr (.int z)
    · rcases dv with dv | dv
      · exact .inl dv
      · cases dv
end

end V1
set_option Elab.async false
set_option linter.all false
set_option maxRecDepth 100000
set_option maxHeartbeats 4000000
/-! The script: a list that is read alone. -/
namespace V1
open PySem PySem.Spec PyProof.Rows L2
theorem SqL.same {K : PySem.W.Frag} {H H' : Hp} {a : Addr} {xs : List V} (h : SqL K H a xs) (s : Same H H') : SqL K H' a xs := by
  rcases h with (e | ⟨o, e⟩) | h
  · exact .inl (.inl (s _ _ e))
  · exact .inl (.inr ⟨o, s _ _ e⟩)
  · exact .inr h
theorem SqL.ext {K : PySem.W.Frag} {H H' : Hp} {a : Addr} {xs : List V} (h : SqL K H a xs) (s : LamX.ExtN H H') : SqL K H' a xs := by
  rcases h with (e | ⟨o, e⟩) | h
  · exact .inl (.inl (s _ _ e (fun ps z => by cases z)))
  · exact .inl (.inr ⟨o, s _ _ e (fun ps z => by cases z)⟩)
  · exact .inr h
def scL (K : PySem.W.Frag) (T : List (Addr × Str)) (a : Addr) (sc : List Int) : Rl where
  K := K
  G := fun _ H => SqL K H a (sc.map V.int) ∧ LamX.Tabs T H
  R := (tabL K T).R
  M := fun v => v = .ref a
  gle := fun _ h => h
  rle := fun _ r => r
  gr := fun g r => ⟨SqL.ext g.1 r.1, r.2.2⟩
  tr := fun a b => (tabL K T).tr a b
  same := fun g s => (tabL K T).same g.2 s
  fresh := fun r hq h2 => (tabL K T).fresh r hq h2
  keep := fun r e k => (tabL K T).keep r e k
  free := fun r e => (tabL K T).free r e
  mref := fun h => ⟨a, h⟩
theorem lamL_s {K : PySem.W.Frag} {T : List (Addr × Str)} {a : Addr} {sc : List Int} : LamL (scL K T a sc) T := ⟨fun g => g.2, fun _ e t nn => (show (tabL K T).R 0 _ _ from ⟨e, nn, t⟩)⟩
section
variable {T : List (Addr × Str)} {K : PySem.W.Frag} {L : Rl} {Γ : List (Option PyData)} {a : Addr} {sc : List Int} {i : Nat} {te : TE} {tt : TT}
theorem dq_mark {A : Addr → Prop} {H : Hp} {v : V} (h : Dq (scL K T a sc) A H v mark) : v = .ref a := by
  rcases h with ⟨_, h⟩ | h
  · exact h
  · cases h
theorem cut_ints (xs : List Int) (lo hi : Option Int) : ∃ zs : List Int, cutV (xs.map V.int) lo hi = zs.map V.int ∧ zs.length ≤ xs.length := by
  refine ⟨(xs.drop (HT.sIx (xs.map V.int).length 0 lo)).take (HT.sIx (xs.map V.int).length (xs.map V.int).length hi - HT.sIx (xs.map V.int).length 0 lo), ?_, ?_⟩
  · unfold cutV
    rw [List.map_take, List.map_drop]
  · rw [List.length_take, List.length_drop]
    omega
theorem eg_slS {tl th : TO} {lo hi0 : Option Int} (e : Γ[i]? = some (some mark)) (h1 : EoD (scL K T a sc) tl Γ lo) (h2 : EoD (scL K T a sc) th Γ hi0) : EvG (scL K T a sc) 0 (tSl (rSlL K) (tVar i) tl th) Γ (fun d => ∃ zs : List Int, zs.length ≤ sc.length ∧ d = lI zs) := fun A σ H hi he hg Q q => by
  obtain ⟨v, hv, dv⟩ := he.2 i _ e
  have ev := dq_mark dv
  subst ev
  refine ⟨_, hv, h1 A σ H hi he hg _ fun H1 r1 => h2 A σ H1 (hi.r r1) (he.r r1) (Rl.gR (a := 0) (b := 0) hg r1) _ fun H2 r2 => ?_⟩
  have r12 : (scL K T a sc).R 0 H H2 := (scL K T a sc).tr (a := 0) (b := 0) r1 r2
  have g2 : (scL K T a sc).G 0 H2 := Rl.gR (a := 0) (b := 0) hg r12
  obtain ⟨zs, e1, e2⟩ := cut_ints sc lo hi0
  refine ⟨a, sc.map V.int, rfl, g2.1, fun p hp => ?_⟩
  have rr := Rl.newR (L := scL K T a sc) (o := .lst (cutV (sc.map V.int) lo hi0)) g2 hp
  rw [e1] at rr ⊢
  exact q _ _ _ ((scL K T a sc).tr (a := 0) (b := 0) r12 rr) (.inr (.lst ((hi.r r12).no hp) upd_same (DvAll.ofInts zs))) ⟨zs, e2, rfl⟩
theorem cs_lenS (e : Γ[i]? = some (some mark)) : EvD (scL K T a sc) (tCB (fun xs H Q => ∃ p ys, xs = [.ref p] ∧ (SqL K H p ys ∨ SqT K H p ys) ∧ Q (.int ys.length) H) (tCons (tVar i) tNil)) Γ (.int (sc.length : Int)) := fun A σ H hi he hg Q q => by
  obtain ⟨v, hv, dv⟩ := he.2 i _ e
  have ev := dq_mark dv
  subst ev
  refine ⟨_, hv, a, sc.map V.int, rfl, .inl hg.1, ?_⟩
  rw [List.length_map]
  exact q _ _ H (Rl.refl hg) (.inr (.int _)) rfl
/-- a comprehension with a test -/
theorem eg_lcT {wi : TI} {g : TG} {js vs : List Nat} {items : List PyData} {Pt : PyData → Prop} (hw : WkD L wi Γ items) (hj : ∀ j ∈ js, j ∈ vs) (hlen : items.length ≤ 1000)
    (hb : ∀ (i : Nat) d, items[i]? = some d → ∃ Γ', TgG L g js d (wipeD Γ vs) Γ' ∧ (∃ k, EtD L tt Γ' k) ∧ EvG L 0 te Γ' (fun r => r ≠ mark ∧ Pt r)) :
    EvG L 0 (tLc wi g tt te vs) Γ (fun r => ∃ rs, r = .list rs ∧ rs.length ≤ items.length ∧ ∀ (i : Nat) d, rs[i]? = some d → Pt d) := fun A σ H hi he hg Q q => hw A σ H hi he hg _ fun J H1 its r1 hp jk D hD => by
  subst hp
  have hD0 : H D = none := L.free r1 hD
  have g1 : L.G 0 H1 := Rl.gR (b := 0) hg r1
  refine ⟨fun i m H2 => m = its.length - i ∧ i ≤ its.length ∧ L.R 0 H H2 ∧ Kp A H1 H2 ∧ ∃ acc rs, H2 D = some (.lst acc) ∧ DvAll L.K (fun b => A b ∨ b = D) H2 acc rs ∧ rs.length ≤ i ∧ ∀ (j : Nat) d, rs[j]? = some d → Pt d, ⟨its.length, ?_⟩, ?_⟩
  · exact ⟨by omega, Nat.zero_le _, L.fresh r1 hD0 (.inl hD), fun b o _ e k => by rw [upd_ne (ne_of_none e hD)]; exact e, [], [], upd_same, .nil, Nat.le_refl _, fun j d e => by simp at e⟩
  · rintro i m H2 ⟨rfl, hle, r2, k2, acc, rs, eD, dv, hrl, hpt⟩
    have naD : ∀ b, A b → H2 b ≠ none := fun b z => hi.r r2 b z
    by_cases hlt : i < its.length
    · refine .inr ⟨jk.go i H2 k2 hlt, fun H3 => i + 1 ≤ its.length ∧ L.R 0 H H3 ∧ Kp A H1 H3 ∧ ∃ acc rs, H3 D = some (.lst acc) ∧ DvAll L.K (fun b => A b ∨ b = D) H3 acc rs ∧ rs.length ≤ i + 1 ∧ ∀ (j : Nat) d, rs[j]? = some d → Pt d,
        fun H3 h3 => ⟨its.length - (i + 1), by omega, rfl, h3⟩, fun x H3 y => ?_⟩
      obtain ⟨d, hd, sm, hdv⟩ := jk.yld i H2 x H3 k2 naD y hlt
      obtain ⟨Γ', htg, ⟨kk, htt⟩, hev⟩ := hb i d hd
      have innA' : ∀ b, (A b ∨ b = D) → H2 b ≠ none := fun b z => z.elim (naD b) fun e => by rw [e, eD]; simp
      have dx : Dv L.K (fun b => A b ∨ b = D) H3 x d := hdv _ innA' fun b o na e _ z => z.elim na (ne_of_none e hD)
      have ev2 : EnvOk L (fun b => A b ∨ b = D) (wipe σ vs) H3 (wipeD Γ vs) := by
        have h0 : EnvOk L (fun b => A b ∨ b = D) (wipe σ vs) (upd H1 D (.lst [])) (wipeD Γ vs) := ((he.r r1).wipe vs).avoid hD
        refine ⟨h0.1, fun j d' e => ?_⟩
        obtain ⟨v, e1, e2⟩ := h0.2 j d' e
        refine ⟨v, e1, e2.imp (fun z => z) fun z => z.map fun b o na eb kd => ⟨na, sm _ _ (k2 b o (fun w => na (.inl w)) ?_ kd)⟩⟩
        rwa [upd_ne (fun w => na (.inr w))] at eb
      refine htg (fun b => A b ∨ b = D) x (wipe σ vs) H3 dx ev2 _ fun σ2 e3 w3 => ⟨?_, ?_⟩
      · rw [w3 vs hj, wipe_wipe vs fun v hv => hv]
      · have g2 : L.G 0 H2 := Rl.gR (b := 0) hg r2
        have r3 : L.R 0 H2 H3 := L.same g2 sm
        have g3 : L.G 0 H3 := Rl.gR (b := 0) g2 r3
        have inn3 : Inn (fun b => A b ∨ b = D) H3 := fun b z y => innA' b z (L.free r3 y)
        refine htt (fun b => A b ∨ b = D) σ2 H3 inn3 e3 g3 _ fun H4 r4 => ?_
        have r34 : L.R 0 H2 H4 := L.tr (a := 0) (b := 0) r3 r4
        have k4 : Kp A H1 H4 := fun b o na e k => L.keep r34 (k2 b o na e k) k
        have eD4 : H4 D = some (.lst acc) := L.keep r34 eD fxLst
        cases kk with
        | false =>
          show i + 1 ≤ its.length ∧ _
          exact ⟨hlt, L.tr (a := 0) (b := 0) r2 r34, k4, acc, rs, eD4, dv.r r34, by omega, hpt⟩
        | true =>
          show te σ2 H4 _
          refine hev (fun b => A b ∨ b = D) σ2 H4 (inn3.r r4) (e3.r r4) (Rl.gR (b := 0) g3 r4) _ fun y dy H5 r5 hy pw => ?_
          obtain ⟨hmk, hpt4⟩ := pw
          have eD5 : H5 D = some (.lst acc) := L.keep r5 eD4 fxLst
          have r25 : L.R 0 H2 H5 := L.tr (a := 0) (b := 0) r34 r5
          refine ⟨acc, eD5, Nat.lt_of_le_of_lt (show acc.length ≤ 1000 by rw [dv.length]; omega) (by decide), hlt, L.fresh (L.tr (a := 0) (b := 0) r2 r25) hD0 (.inr ⟨_, eD5⟩), ?_, acc ++ [y], rs ++ [dy], upd_same, ?_, by rw [List.length_append]; show _ + 1 ≤ _; omega, fun j d' e => ?_⟩
          · intro b o na e k
            have ne : b ≠ D := ne_of_none e hD
            rw [upd_ne ne]
            exact L.keep r25 (k2 b o na e k) k
          · exact ((dv.r r25).app (.cons (hy.ne hmk) .nil)).off
          · by_cases hj2 : j < rs.length
            · rw [List.getElem?_append_left hj2] at e
              exact hpt j d' e
            · rw [List.getElem?_append_right (by omega)] at e
              have hj3 : j - rs.length = 0 := by
                have := (List.getElem?_eq_some_iff.mp e).1
                simp at this
                omega
              rw [hj3] at e
              simp at e
              subst e
              exact hpt4
    · have e : i = its.length := by omega
      subst e
      refine .inl ⟨jk.stop H2 k2, ?_⟩
      have nD : ¬ A D := hi.no hD0
      exact q (.ref D) (.list rs) H2 r2 (.inr (.lst nD eD (dv.map fun b o na e _ => ⟨fun z => na (.inl z), e⟩))) ⟨rs, rfl, hrl, hpt⟩
theorem eg_catG {P1 P2 : List Int → Prop} {ta tb : TE} {m n : Nat} (ha : EvG L m ta Γ (fun d => ∃ zs, P1 zs ∧ d = lI zs)) (hb : EvG L n tb Γ (fun d => ∃ zs, P2 zs ∧ d = lI zs)) (hl : ∀ xs ys, P1 xs → P2 ys → xs.length + ys.length ≤ 100000) : EvG L (m + n) (tOp rCat ta tb) Γ (fun d => ∃ xs ys, P1 xs ∧ P2 ys ∧ d = lI (xs ++ ys)) :=
  eg_opG ha hb fun d1 d2 ⟨xs, p1, e1⟩ ⟨ys, p2, e2⟩ => by
    subst e1 e2
    exact fun A H x y hi hg hx hy Q q => os_cat (by rw [List.length_map, List.length_map]; exact hl xs ys p1 p2) A H x y hi hg hx hy Q fun v d H' r hv e => q v d H' r hv ⟨xs, ys, p1, p2, by rw [e]; unfold lI; rw [List.map_append]⟩
theorem dp_nil {K : PySem.W.Frag} {A : Addr → Prop} {H : Hp} {p : Addr} (h : H p = some (.lst [])) : Dp K H (.ref p) (.list []) := .lst (SqL.of h) .nil
theorem eqv_nil (ds : List PyData) : PyData.eqv (.list ds) (.list []) = ds.isEmpty := by
  cases ds with
  | nil => rfl
  | cons d ds => rfl
theorem canlay_ints : ∀ zs : List Int, PyData.canLayAll0 (zs.map .int) = true
  | [] => rfl
  | z :: zs => by simp only [List.map_cons, PyData.canLayAll0, PyData.canLay0, canlay_ints zs, Bool.and_self]
theorem depth_ints : ∀ zs : List Int, PyData.depthAll (zs.map .int) = 0
  | [] => rfl
  | z :: zs => by simp only [List.map_cons, PyData.depthAll, PyData.depth, depth_ints zs, Nat.max_self]
theorem shaped_ints (zs : List Int) : SeqAt.shaped (lI zs) = true := by
  unfold SeqAt.shaped lI
  rw [Bool.and_eq_true]
  refine ⟨by simp only [PyData.canLay0]; exact canlay_ints zs, decide_eq_true ?_⟩
  simp only [PyData.depth, depth_ints]
  omega
theorem nd_ints (zs : List Int) : (lI zs).hasDict = false := by
  unfold lI
  simp only [PyData.hasDict]
  induction zs with
  | nil => simp only [List.map_nil, PyData.hasDictAll]
  | cons z zs ih => simp only [List.map_cons, PyData.hasDictAll, PyData.hasDict, ih, Bool.or_self]
/-- xs != [] -/
theorem eg_neNil {ta : TE} {zs : List Int} (h : EvD L ta Γ (lI zs)) : EvD L (tOp (rNeD L.K) ta (tLst tNil)) Γ (.bool (!zs.isEmpty)) := fun A σ H hi he hg Q q => h A σ H hi he hg _ fun x d H1 r1 hx p => by
  subst p
  refine eg_lst (L := L) (Γ := Γ) (t := tNil) (ds := []) ea_nil rfl (by decide) A σ H1 (hi.r r1) (he.r r1) (Rl.gR (b := 0) hg r1) _ fun y d2 H2 r2 hy p2 => ?_
  subst p2
  have dx : Dp L.K H2 x (lI zs) := ((hx.r r2).ne (by unfold lI; intro z; cases z)).dp (nd_ints zs)
  have dy : Dp L.K H2 y (.list []) := (hy.ne (by intro z; cases z)).dp (by simp only [PyData.hasDict, PyData.hasDictAll])
  refine ⟨lI zs, .list [], dx, dy, shaped_ints zs, rfl, ?_⟩
  have e : PyData.eqv (lI zs) (.list []) = zs.isEmpty := by
    unfold lI
    rw [eqv_nil]
    cases zs <;> rfl
  rw [e]
  exact q _ _ H2 (L.tr (a := 0) (b := 0) r1 r2) (.inr (.bl _)) rfl
/-- a way through statements, to an end of its own -/
def SX (L : Rl) (A : Addr → Prop) (H0 : Hp) (D : Ends) (ts : TS) (Γ : List (Option PyData)) : Prop := ∀ σ H, Inn A H → EnvOk L A σ H Γ → L.G 0 H → L.R 0 H0 H → ts D σ H
theorem sx_asgG {A : Addr → Prop} {H0 : Hp} {D : Ends} {u : TS} {P : PyData → Prop} {j : Nat} (h : EvG L 0 te Γ P) (k : ∀ d, P d → SX L A H0 D u (Γ.set j (some d))) : SX L A H0 D (tSeq (tAsg te (gName j)) u) Γ := fun σ H hi he hg r0 =>
  h A σ H hi he hg _ fun v d H1 r1 hv p => k d p _ H1 (hi.r r1) ((he.r r1).set hv j) (Rl.gR (b := 0) hg r1) (L.tr (a := 0) (b := 0) r0 r1)
theorem sx_sg {A : Addr → Prop} {H0 : Hp} {D : Ends} {ts u : TS} {N : List (Option PyData) → Prop} (h : SG L 0 ts Γ N (fun _ => False)) (k : ∀ Γ', N Γ' → SX L A H0 D u Γ') : SX L A H0 D (tSeq ts u) Γ := fun σ H hi he hg r0 =>
  h A σ H hi he hg { D with nx := u D } (fun σ' H' Γ' r e p => k Γ' p σ' H' (hi.r r) e (Rl.gR (b := 0) hg r) (L.tr (a := 0) (b := 0) r0 r)) fun v d H' r hd z => z.elim
end
end V1
set_option Elab.async false
set_option linter.all false
set_option maxRecDepth 100000
set_option maxHeartbeats 4000000
/-! A way that leaves one slot as it is. -/
namespace V1
open PySem PySem.Spec PyProof.Rows L2
def SK (L : Rl) (j : Nat) (v0 : V) (n : Nat) (ts : TS) (Γ : List (Option PyData)) (N : List (Option PyData) → Prop) : Prop := ∀ A σ H, Inn A H → EnvOk L A σ H Γ → L.G n H → σ[j]? = some (some v0) → ∀ D : Ends,
  (∀ σ' H' Γ', L.R n H H' → EnvOk L A σ' H' Γ' → σ'[j]? = some (some v0) → N Γ' → D.nx σ' H') → ts D σ H
section
variable {L : Rl} {Γ : List (Option PyData)} {te : TE} {t : TA} {tt : TT} {ts u : TS} {i j a b c : Nat} {v0 : V} {N : List (Option PyData) → Prop} {P : PyData → Prop}
theorem sk_asgG (hij : i ≠ j) (h : EvG L a te Γ P) (k : ∀ d, P d → SK L j v0 b u (Γ.set i (some d)) N) : SK L j v0 (a + b) (tSeq (tAsg te (gName i)) u) Γ N := fun A σ H hi he hg hs D q =>
  h A σ H hi he (L.gle (Nat.le_add_right _ _) hg) _ fun v d H1 r hv p => k d p A _ H1 (hi.r r) ((he.r r).set hv i) (Rl.gR hg r) (by rw [List.getElem?_set_ne hij]; exact hs) D fun σ2 H2 Γ2 r2 e2 s2 p2 => q σ2 H2 Γ2 (L.tr r r2) e2 s2 p2
theorem sk_parG {i2 : Nat} {PP : List PyData → Prop} (h1 : i ≠ j) (h2 : i2 ≠ j) (h : EaG L a t Γ PP) (k : ∀ ds, PP ds → ∃ d1 d2, ds = [d1, d2] ∧ SK L j v0 b u ((Γ.set i (some d1)).set i2 (some d2)) N) : SK L j v0 (a + b) (tSeq (tPar i i2 t) u) Γ N := fun A σ H hi he hg hs D q =>
  h A σ H hi he (L.gle (Nat.le_add_right _ _) hg) _ fun vs ds H1 r hl hv p => by
    obtain ⟨d1, d2, rfl, k⟩ := k ds p
    obtain ⟨v, w, rfl, h3, h4⟩ := two_of hl hv
    exact ⟨v, w, rfl, k A _ H1 (hi.r r) (((he.r r).set h3 i).set h4 i2) (Rl.gR hg r) (by rw [List.getElem?_set_ne h2, List.getElem?_set_ne h1]; exact hs) D fun σ2 H2 Γ2 r2 e2 s2 p2 => q σ2 H2 Γ2 (L.tr r r2) e2 s2 p2⟩
theorem sk_ifn (h : EtG L a tt Γ (fun k => k = false)) (k : N Γ) : SK L j v0 a (tIfS tt ts tNext) Γ N := fun A σ H hi he hg hs D q => h A σ H hi he hg _ fun b H1 r1 e => by
  subst e
  exact q σ H1 Γ r1 (he.r r1) hs k
theorem sk_for {wi : TI} {g : TG} {js : List Nat} {items : List PyData} (I : Nat → List (Option PyData) → Prop) (hjs : j ∉ js) (hw : WkD L wi Γ items) (hlen : items.length ≤ b) (h0 : I 0 Γ)
    (hb : ∀ (i : Nat) d Γi, items[i]? = some d → I i Γi → ∃ Γ', TgG L g js d Γi Γ' ∧ SK L j v0 c ts Γ' (I (i + 1))) (hN : ∀ Γe, I items.length Γe → N Γe) : SK L j v0 (b * c) (tFor wi g ts) Γ N := fun A σ H hi he hg hs D q1 =>
  hw A σ H hi he (L.g0 hg) _ fun J H1 its r1 hp jk => by
  subst hp
  refine ⟨fun i m σ2 H2 => m = its.length - i ∧ i ≤ its.length ∧ L.R (i * c) H H2 ∧ Kp A H1 H2 ∧ σ2[j]? = some (some v0) ∧ ∃ Γi, EnvOk L A σ2 H2 Γi ∧ I i Γi, ⟨its.length, ?_⟩, ?_⟩
  · refine ⟨by omega, Nat.zero_le _, ?_, fun b o _ e k => e, hs, Γ, he.r r1, h0⟩
    rw [Nat.zero_mul]
    exact r1
  · rintro i m σ2 H2 ⟨rfl, hle, r2, k2, s2, Γi, e2, p2⟩
    by_cases hlt : i < its.length
    · refine .inr ⟨jk.go i H2 k2 hlt, fun σ3 H3 => i + 1 ≤ its.length ∧ L.R ((i + 1) * c) H H3 ∧ Kp A H1 H3 ∧ σ3[j]? = some (some v0) ∧ ∃ Γi, EnvOk L A σ3 H3 Γi ∧ I (i + 1) Γi, fun σ3 H3 h3 => ⟨its.length - (i + 1), by omega, rfl, h3⟩, fun x H3 y => ?_⟩
      have naD : ∀ b, A b → H2 b ≠ none := fun b z => hi.r r2 b z
      obtain ⟨d, hd, sm, hdv⟩ := jk.yld i H2 x H3 k2 naD y hlt
      obtain ⟨Γ', htg, hs'⟩ := hb i d Γi hd p2
      have e5 : (i + 1) * c = i * c + 0 + c := by rw [Nat.succ_mul]; omega
      have g0 : L.G (c + 0) H2 := by
        refine Rl.gR (a := i * c) ?_ r2
        refine L.gle ?_ hg
        have h1 : (i + 1) * c ≤ b * c := Nat.mul_le_mul_right _ (by omega)
        have h2 : (i + 1) * c = i * c + c := Nat.succ_mul _ _
        omega
      have r3 : L.R 0 H2 H3 := L.same (L.g0 g0) sm
      have g3 : L.G c H3 := Rl.gR (a := 0) (by rw [Nat.zero_add]; exact g0) r3
      have dx : Dv L.K A H3 x d := hdv A naD fun b o na e _ => na
      refine htg A x σ2 H3 dx (e2.r r3) _ fun σ4 e4 w4 => ?_
      have s4 : σ4[j]? = some (some v0) := by
        have hw4 := w4 js fun k hk => hk
        rw [← wipe_get hjs, hw4, wipe_get hjs]
        exact s2
      refine hs' A σ4 H3 (fun b z y => naD b z (L.free r3 y)) e4 g3 s4 { D with nx := _, ct := _, bk := D.nx } (fun σ5 H5 Γ5 r5 e6 s5 p5 => ?_)
      refine ⟨hlt, ?_, fun b o na e k => L.keep r5 (sm _ _ (k2 b o na e k)) k, s5, Γ5, e6, p5⟩
      rw [e5]
      exact L.tr (L.tr r2 r3) r5
    · have e : i = its.length := by omega
      subst e
      exact .inl ⟨jk.stop H2 k2, q1 σ2 H2 Γi (L.rle (Nat.mul_le_mul_right c hlen) r2) e2 s2 (hN Γi p2)⟩
end
end V1
set_option Elab.async false
set_option linter.all false
set_option maxRecDepth 100000
set_option maxHeartbeats 4000000
/-! max of a list with a default. -/
namespace V1
open PySem PySem.Spec PyProof.Rows L2
def maxI (d : Int) : List Int → Int
  | [] => d
  | n :: r => r.foldl max n
theorem dpAll_ints {K : PySem.W.Frag} {H : Hp} : ∀ ns : List Int, DpAll K H (ns.map V.int) (ns.map PyData.int)
  | [] => .nil
  | n :: r => .cons (.int n) (dpAll_ints r)
theorem alike_ints (ns : List Int) : PySem.W.AlikeAll (ns.map PyData.int) := by
  refine ⟨fun x hx y hy => ?_, fun x hx => ?_⟩
  · obtain ⟨a, _, rfl⟩ := List.mem_map.mp hx
    obtain ⟨b, _, rfl⟩ := List.mem_map.mp hy
    rfl
  · obtain ⟨a, _, rfl⟩ := List.mem_map.mp hx
    intro z
    cases z
theorem cr_maxDef {X : Cx} {K : PySem.W.Frag} (hK : X.K = K) (hc : X.calm = true) (hu : X.A.units + 64 < cLine) : CallRK X (.builtin "max") [Str.ofString "default"] (fun vs zs H Q => ∃ (a : Addr) (ns : List Int) (d : Int), vs = [.ref a] ∧ zs = [.int d] ∧ SqL K H a (ns.map V.int) ∧ Q (.int (maxI d ns)) H) := by
  subst hK
  intro pins s σ H vs zs us ws Q I r rz h
  obtain ⟨a, ns, d, rfl, rfl, hs, q⟩ := h
  obtain rfl := Vals.ref1 r
  obtain ⟨w1, rfl, e1⟩ := vals1 rz
  obtain ⟨t, rfl⟩ := e1
  obtain ⟨its, rv, pl, hz⟩ := I.list hs
  obtain ⟨as, ra⟩ := Dp.readsAll I _ _ _ (dpAll_ints ns) rv
  refine PySem.W.max_list_default (vs := its.toArray) (I.ok.hd hc) pl.isList (by simpa using ra) (alike_ints ns) (by rw [depth_ints]; omega) (fun e h' tk hk => ?_) fun y ys i v h' tk bs e hv rr hk => ?_
  · have e2 : ns = [] := by simpa using e
    subst e2
    exact ⟨.int d, H, I.kept hk, ⟨_, rfl⟩, q⟩
  · cases ns with
    | nil => cases e
    | cons n r =>
      rw [List.map_cons] at e
      injection e with e2 e3
      subst e2 e3
      rw [PySem.W.maxD_ints] at rr
      cases rr
      exact ⟨.int (r.foldl max n), H, I.kept hk, ⟨_, rfl⟩, q⟩
section
variable {L : Rl} {Γ : List (Option PyData)} {ta : TE}
theorem eg_maxDef {ns : List Int} {d : Int} (h : EvD L ta Γ (lI ns)) : EvD L (tCKw (fun vs zs H Q => ∃ (a : Addr) (ns : List Int) (d : Int), vs = [.ref a] ∧ zs = [.int d] ∧ SqL L.K H a (ns.map V.int) ∧ Q (.int (maxI d ns)) H) (tCons ta tNil) (tCons (tC (.int d)) tNil)) Γ (.int (maxI d ns)) := fun A σ H hi he hg Q q => h A σ H hi he hg _ fun v d1 H1 r1 hv p => by
  subst p
  obtain ⟨p, xs, rfl, na, e, r⟩ := hv.list
  rw [r.ints] at e
  exact ⟨p, ns, d, rfl, rfl, SqL.of e, q _ _ H1 r1 (.inr (.int _)) rfl⟩
/-- a tuple of texts of the written part, by its address -/
theorem eg_gtup {a : Addr} {ws : List Str} (h : ∀ H, SqT L.K H a (ws.map V.str)) : EvD L (tC (.ref a)) Γ (.tuple (ws.map .str)) := fun A σ H hi he hg Q q => by
  have hk : KT L.K a (ws.map V.str) := by
    rcases h (fun _ => none) with (e | ⟨o, e⟩) | e
    · cases e
    · cases e
    · exact e
  refine q _ _ H (Rl.refl hg) (.inr (.ktup hk ?_)) rfl
  clear h hk q
  induction ws with
  | nil => exact .nil
  | cons w r ih => exact .cons (.str w) ih
end
end V1
set_option Elab.async false
set_option linter.all false
set_option maxRecDepth 100000
set_option maxHeartbeats 4000000
/-! A text, or None, in a dict of the written part. -/
namespace V1
open PySem PySem.Spec PyProof.Rows L2
theorem none_mapK {P : Program} {w : World} {K : PySem.W.Frag} {h : Heap} {d : Addr} {es : Array DictEntry} {n : Nat} (X : K.In h) (D : KDict K w d es n) : ∃ f, h.MapOf (noneKind P w) d f ∧ f none = none := by
  refine ⟨fun k => findBy (noneKind P w).is es k, ⟨_, es, n, X _ _ D.at_, ⟨rfl, rfl, rfl⟩, rfl, fun e he => ?_, fun k => rfl⟩, ?_⟩
  · obtain ⟨x, t, e1, e2⟩ := D.lit.all e (Array.mem_toList_iff.mpr he)
    refine ⟨some (.inr x), ?_, e2⟩
    show keyIs (.inr x) e.key = true
    rw [e1]
    exact PySem.strKind_is P w x t
  · have q : (es.find? fun e => nkIs none e.key) = none := by
      rw [Array.find?_eq_none]
      intro e he hq
      obtain ⟨x, t, e1, _⟩ := D.lit.all e (Array.mem_toList_iff.mpr he)
      rw [nk_none hq] at e1
      cases e1
    show (es.find? fun e => nkIs none e.key).map (·.val) = none
    rw [q] <;> rfl
section
variable {X : Cx} {d : Addr} {es : Array DictEntry} {n : Nat}
theorem op_in_kdN (D : KDict X.K X.w d es n) : OpR X (compareOp .In) (fun x y H Q => y = .ref d ∧ ((∃ (z : Str) (r : Option Value), x = .str z ∧ PySem.W.nsIn X.K d z = some r ∧ Q (.bl r.isSome) H) ∨ (x = .non ∧ Q (.bl false) H))) := by
  intro pins s σ H x y v u Q I rx ry h
  obtain ⟨rfl, h⟩ := h
  rcases h with ⟨z, r, rfl, e, q⟩ | ⟨rfl, q⟩
  · exact op_in_kd D pins s σ H _ _ v u Q I rx ry ⟨z, r, rfl, rfl, e, q⟩
  · cases ry
    obtain rfl : v = Value.none := rx
    obtain ⟨f, hm, hf⟩ := none_mapK (P := X.prog) (w := X.w) I.kIn D
    refine wpAny_in_of (show (noneKind X.prog X.w).is none .none = true from rfl) D.low hm ?_
    rw [hf]
    exact ⟨.bl false, H, I.tok _, rfl, q⟩
end
end V1
set_option Elab.async false
set_option linter.all false
set_option maxRecDepth 100000
set_option maxHeartbeats 4000000
/-! A list made here that grows in a loop. -/
namespace V1
open PySem PySem.Spec PyProof.Rows L2
/-- a new list whose things stand away from it -/
def EvL (L : Rl) (te : TE) (Γ : List (Option PyData)) (ds : List PyData) : Prop := ∀ A σ H, Inn A H → EnvOk L A σ H Γ → L.G 0 H → ∀ Q : VK, (∀ p xs H', L.R 0 H H' → H p = none → H' p = some (.lst xs) → DvAll L.K (fun b => A b ∨ b = p) H' xs ds → Q (.ref p) H') → te σ H Q
section
variable {L : Rl} {Γ : List (Option PyData)} {t : TA} {te te2 : TE} {B u : TS} {j : Nat} {N : List (Option PyData) → Prop} {Rt : PyData → Prop}
theorem evl_lst {ds : List PyData} (h : EaD L t Γ ds) (hn : nomk ds = true := by rfl) (hl : ds.length ≤ 1000 := by simp) : EvL L (tLst t) Γ ds := fun A σ H hi he hg Q q => h A σ H hi he hg _ fun vs ds' H1 r1 l hv p => by
  subst p
  refine ⟨Nat.le_trans (by rw [l]; exact hl) (by decide), fun p hp => ?_⟩
  have rr := Rl.newR (o := .lst vs) (Rl.gR (b := 0) hg r1) hp
  refine q p vs _ (L.tr (a := 0) (b := 0) r1 rr) (L.free r1 hp) upd_same ((all_of l hv hn).map fun b o na e k => ⟨fun z => z.elim na (ne_of_none e hp), ?_⟩)
  rw [upd_ne (ne_of_none e hp)]
  exact e
theorem EnvOk.less {A A' : Addr → Prop} {σ : L2.St} {H : Hp} (h : EnvOk L A' σ H Γ) (f : ∀ b, A b → A' b) : EnvOk L A σ H Γ := ⟨h.1, fun i d e => let ⟨v, h1, h2⟩ := h.2 i d e; ⟨v, h1, h2.imp (fun z => z) fun z => z.map fun b o na e k => ⟨fun w => na (f b w), e⟩⟩⟩
theorem sg_growE {wi : TI} {g : TG} {js : List Nat} {items ds0 : List PyData} {acc : Nat → List PyData} (I : Nat → List (Option PyData) → Prop) (hj : j < Γ.length) (hjs : j ∉ js) (h1 : EvL L te Γ ds0) (ha0 : acc 0 = ds0) (hlen : ∀ i, (acc i).length ≤ 100000)
    (hw : WkD L wi (Γ.set j none) items) (h0 : I 0 (Γ.set j none))
    (hb : ∀ (i : Nat) d Γi, items[i]? = some d → I i Γi → ∃ Γ' N1, TgG L g js d Γi Γ' ∧ (∀ v0, SK L j v0 0 B Γ' N1) ∧ ∀ G, N1 G → ∃ es, EvD L te2 G (.list es) ∧ es.length ≤ 100000 ∧ acc (i + 1) = acc i ++ es ∧ I (i + 1) G)
    (hN : ∀ Γe, I items.length Γe → SG L 0 u (Γe.set j (some (.list (acc items.length)))) N Rt) :
    SG L 0 (tSeq (tAsg te (gName j)) (tSeq (tFor wi g (tSeq B (tDrop (tBM L.K "list" rExtend (tVar j) (tCons te2 tNil))))) u)) Γ N Rt := fun A σ H hi he hg D q1 q2 => h1 A σ H hi he hg _ fun p xs0 H1 r1 hp0 eP dv0 => by
  have nAp : ¬ A p := fun z => hi p z hp0
  have g1 : L.G 0 H1 := Rl.gR (b := 0) hg r1
  have hi1 : Inn (fun b => A b ∨ b = p) H1 := fun b z y => z.elim (fun z => (hi.r r1) b z y) fun z => by rw [z, eP] at y; cases y
  have sj : (σ.set j (some (V.ref p)))[j]? = some (some (V.ref p)) := List.getElem?_set_self (by rw [he.1]; exact hj)
  have he1 : EnvOk L (fun b => A b ∨ b = p) (σ.set j (some (V.ref p))) H1 (Γ.set j none) := by
    refine ⟨by rw [List.length_set, List.length_set]; exact he.1, fun i d e => ?_⟩
    by_cases hij : j = i
    · subst hij
      rw [List.getElem?_set_self hj] at e
      cases e
    · rw [List.getElem?_set_ne hij] at e
      obtain ⟨v, e1, e2⟩ := he.2 i d e
      refine ⟨v, by rw [List.getElem?_set_ne hij]; exact e1, e2.imp (fun z => z) fun z => z.map fun b o na eb k => ⟨fun w => w.elim na (ne_of_none eb hp0), L.keep r1 eb k⟩⟩
  refine hw (fun b => A b ∨ b = p) _ H1 hi1 he1 g1 _ fun J H2 its r2 hits jk => ?_
  subst hits
  have eP2 : H2 p = some (.lst xs0) := L.keep r2 eP fxLst
  refine ⟨fun i m σ3 H3 => m = its.length - i ∧ i ≤ its.length ∧ L.R 0 H H3 ∧ Kp (fun b => A b ∨ b = p) H2 H3 ∧ σ3[j]? = some (some (V.ref p)) ∧ (∃ xs, H3 p = some (.lst xs) ∧ DvAll L.K (fun b => A b ∨ b = p) H3 xs (acc i)) ∧ ∃ Γi, EnvOk L (fun b => A b ∨ b = p) σ3 H3 Γi ∧ I i Γi, ⟨its.length, ?_⟩, ?_⟩
  · exact ⟨by omega, Nat.zero_le _, L.tr (a := 0) (b := 0) r1 r2, fun b o _ e _ => e, sj, ⟨xs0, eP2, by rw [ha0]; exact dv0.r r2⟩, _, he1.r r2, h0⟩
  · rintro i m σ3 H3 ⟨rfl, hle, r3, k3, s3, ⟨xs, eP3, dv3⟩, Γi, e3, p3⟩
    have g3 : L.G 0 H3 := Rl.gR (b := 0) hg r3
    have hi3 : Inn (fun b => A b ∨ b = p) H3 := fun b z y => z.elim (fun z => (hi.r r3) b z y) fun z => by rw [z, eP3] at y; cases y
    by_cases hlt : i < its.length
    · refine .inr ⟨jk.go i H3 k3 hlt, fun σ4 H4 => i + 1 ≤ its.length ∧ L.R 0 H H4 ∧ Kp (fun b => A b ∨ b = p) H2 H4 ∧ σ4[j]? = some (some (V.ref p)) ∧ (∃ xs, H4 p = some (.lst xs) ∧ DvAll L.K (fun b => A b ∨ b = p) H4 xs (acc (i + 1))) ∧ ∃ Γi, EnvOk L (fun b => A b ∨ b = p) σ4 H4 Γi ∧ I (i + 1) Γi, fun σ4 H4 h4 => ⟨its.length - (i + 1), by omega, rfl, h4⟩, fun x H4 y => ?_⟩
      obtain ⟨d, hd, sm, hdv⟩ := jk.yld i H3 x H4 k3 hi3 y hlt
      obtain ⟨Γ', N1, htg, hB, hes⟩ := hb i d Γi hd p3
      have r34 : L.R 0 H3 H4 := L.same g3 sm
      have dx : Dv L.K (fun b => A b ∨ b = p) H4 x d := hdv _ hi3 fun b o na e _ => na
      refine htg _ x σ3 H4 dx (e3.r r34) _ fun σ5 e5 w5 => ?_
      have s5 : σ5[j]? = some (some (V.ref p)) := by
        have hw5 := w5 js fun k hk => hk
        rw [← wipe_get hjs, hw5, wipe_get hjs]
        exact s3
      have g4 : L.G 0 H4 := Rl.gR (b := 0) g3 r34
      refine hB (V.ref p) _ σ5 H4 (hi3.r r34) e5 g4 s5 { nx := _, rt := _, bk := _, ct := _ } fun σ6 H6 Γ6 r6 e6 s6 p6 => ?_
      obtain ⟨es, he2, hl2, hacc, hI⟩ := hes Γ6 p6
      have r36 : L.R 0 H3 H6 := L.tr (a := 0) (b := 0) r34 r6
      have eP6 : H6 p = some (.lst xs) := L.keep r36 eP3 fxLst
      refine ⟨V.ref p, s6, .inl ⟨rfl, xs, SqL.of eP6⟩, ?_⟩
      refine he2 _ σ6 H6 (hi3.r r36) e6 (Rl.gR (b := 0) g3 r36) _ fun v d7 H7 r7 hv7 ed => ?_
      subst ed
      obtain ⟨b7, zs, rfl, nb7, eb7, dz⟩ := hv7.list
      have r37 : L.R 0 H3 H7 := L.tr (a := 0) (b := 0) r36 r7
      have eP7 : H7 p = some (.lst xs) := L.keep r37 eP3 fxLst
      have dv7 := dv3.r r37
      refine ⟨p, b7, xs, zs, rfl, rfl, eP7, eb7, ?_, ?_⟩
      · rw [dv7.length, dz.length]
        exact Nat.le_trans (Nat.add_le_add (hlen i) hl2) (by decide)
      · refine ⟨hlt, L.fresh (L.tr (a := 0) (b := 0) r3 r37) hp0 (.inr ⟨_, eP7⟩), fun b o na e k => ?_, s6, ⟨xs ++ zs, upd_same, ?_⟩, Γ6, (e6.r r7).off, hI⟩
        · rw [upd_ne (fun z => na (.inr z))]
          exact L.keep r37 (k3 b o na e k) k
        · rw [hacc]
          exact (dv7.app dz).off
    · have e : i = its.length := by omega
      subst e
      refine .inl ⟨jk.stop H3 k3, ?_⟩
      have e4 : EnvOk L A σ3 H3 Γi := e3.less fun b z => .inl z
      have dA : DvAll L.K A H3 xs (acc its.length) := dv3.map fun b o na e k => ⟨fun z => na (.inl z), e⟩
      have hlj : j < σ3.length := (List.getElem?_eq_some_iff.mp s3).1
      have e5 : EnvOk L A σ3 H3 (Γi.set j (some (.list (acc its.length)))) := by
        have h5 := e4.set (d := .list (acc its.length)) (v := V.ref p) (.inr (.lst nAp eP3 dA)) j
        have hs : σ3.set j (some (V.ref p)) = σ3 := by
          refine List.ext_getElem? fun i => ?_
          by_cases hij : j = i
          · subst hij
            rw [List.getElem?_set_self hlj, s3]
          · rw [List.getElem?_set_ne hij]
        rwa [hs] at h5
      exact hN Γi p3 A σ3 H3 (hi.r r3) e5 g3 D (fun σ6 H6 G6 r6 e6 p6 => q1 σ6 H6 G6 (L.tr (a := 0) (b := 0) r3 r6) e6 p6) fun v d H6 r6 e6 p6 => q2 v d H6 (L.tr (a := 0) (b := 0) r3 r6) e6 p6
end
end V1
set_option Elab.async false
set_option linter.all false
set_option maxRecDepth 100000
set_option maxHeartbeats 4000000
/-! A comprehension with two walks. -/
namespace V1
open PySem PySem.Spec PyProof.Rows L2
theorem EnvOk.kp {L : Rl} {Γ : List (Option PyData)} {A : Addr → Prop} {σ : L2.St} {H H' : Hp} (h : EnvOk L A σ H Γ) (k : Kp A H H') : EnvOk L A σ H' Γ := ⟨h.1, fun i d e => let ⟨v, h1, h2⟩ := h.2 i d e; ⟨v, h1, h2.imp (fun z => z) fun z => z.map fun b o na e kd => ⟨na, k b o na e kd⟩⟩⟩
def rowR (res : Nat → Nat → PyData) (i k : Nat) : List PyData := (List.range k).map (res i)
def flatR (inn : Nat → List PyData) (res : Nat → Nat → PyData) (n : Nat) : List PyData := (List.range n).flatMap fun i => rowR res i (inn i).length
theorem flatR_succ (inn : Nat → List PyData) (res : Nat → Nat → PyData) (n : Nat) : flatR inn res (n + 1) = flatR inn res n ++ rowR res n (inn n).length := by
  unfold flatR
  rw [List.range_succ, List.flatMap_append]
  simp
theorem rowR_succ (res : Nat → Nat → PyData) (i k : Nat) : rowR res i (k + 1) = rowR res i k ++ [res i k] := by
  unfold rowR
  rw [List.range_succ, List.map_append]
  rfl
section
variable {L : Rl} {Γ : List (Option PyData)} {te : TE}
theorem eg_lc2 {wi wi1 : TI} {g g1 : TG} {js js1 vs vs1 : List Nat} {items : List PyData} {inn : Nat → List PyData} {res : Nat → Nat → PyData} (hw : WkD L wi Γ items) (hj : ∀ j ∈ js, j ∈ vs) (hj1 : ∀ j ∈ js1, j ∈ vs1) (hl : items.length ≤ 1000) (hl2 : ∀ i, (inn i).length ≤ 1000)
    (hb : ∀ (i : Nat) d, items[i]? = some d → ∃ Γ', TgG L g js d (wipeD Γ vs) Γ' ∧ WkD L wi1 Γ' (inn i) ∧ ∀ (k : Nat) e, (inn i)[k]? = some e → ∃ Γ'', TgG L g1 js1 e (wipeD Γ' vs1) Γ'' ∧ res i k ≠ mark ∧ EvD L te Γ'' (res i k)) :
    EvD L (tLc2 wi g tYes wi1 g1 tYes te vs vs1) Γ (.list (flatR inn res items.length)) := fun A σ H hi he hg Q q => hw A σ H hi he hg _ fun J H1 its r1 hits jk D hD => by
  subst hits
  have hD0 : H D = none := L.free r1 hD
  have g1' : L.G 0 H1 := Rl.gR (b := 0) hg r1
  have lenF : ∀ n, n ≤ its.length → (flatR inn res n).length ≤ n * 1000 := by
    intro n
    induction n with
    | zero => intro _; exact Nat.le_refl _
    | succ n ih =>
      intro hn
      have h1 := ih (by omega)
      have h2 := hl2 n
      rw [flatR_succ, List.length_append]
      unfold rowR
      rw [List.length_map, List.length_range]
      omega
  refine ⟨fun i m H2 => m = its.length - i ∧ i ≤ its.length ∧ L.R 0 H H2 ∧ Kp A H1 H2 ∧ ∃ acc, H2 D = some (.lst acc) ∧ DvAll L.K (fun b => A b ∨ b = D) H2 acc (flatR inn res i), ⟨its.length, ?_⟩, ?_⟩
  · exact ⟨by omega, Nat.zero_le _, L.fresh r1 hD0 (.inl hD), fun b o _ e k => by rw [upd_ne (ne_of_none e hD)]; exact e, [], upd_same, .nil⟩
  · rintro i m H2 ⟨rfl, hle, r2, k2, acc, eD, dv⟩
    have naD : ∀ b, A b → H2 b ≠ none := fun b z => hi.r r2 b z
    by_cases hlt : i < its.length
    · refine .inr ⟨jk.go i H2 k2 hlt, fun H3 => i + 1 ≤ its.length ∧ L.R 0 H H3 ∧ Kp A H1 H3 ∧ ∃ acc, H3 D = some (.lst acc) ∧ DvAll L.K (fun b => A b ∨ b = D) H3 acc (flatR inn res (i + 1)),
        fun H3 h3 => ⟨its.length - (i + 1), by omega, rfl, h3⟩, fun x H3 y => ?_⟩
      obtain ⟨d, hd, sm, hdv⟩ := jk.yld i H2 x H3 k2 naD y hlt
      obtain ⟨Γ', htg, hw1, hin⟩ := hb i d hd
      have innA' : ∀ b, (A b ∨ b = D) → H2 b ≠ none := fun b z => z.elim (naD b) fun e => by rw [e, eD]; simp
      have dx : Dv L.K (fun b => A b ∨ b = D) H3 x d := hdv _ innA' fun b o na e _ z => z.elim na (ne_of_none e hD)
      have ev2 : EnvOk L (fun b => A b ∨ b = D) (wipe σ vs) H3 (wipeD Γ vs) := by
        have h0 : EnvOk L (fun b => A b ∨ b = D) (wipe σ vs) (upd H1 D (.lst [])) (wipeD Γ vs) := ((he.r r1).wipe vs).avoid hD
        refine ⟨h0.1, fun j d' e => ?_⟩
        obtain ⟨v, e1, e2⟩ := h0.2 j d' e
        refine ⟨v, e1, e2.imp (fun z => z) fun z => z.map fun b o na eb kd => ⟨na, sm _ _ (k2 b o (fun w => na (.inl w)) ?_ kd)⟩⟩
        rwa [upd_ne (fun w => na (.inr w))] at eb
      refine htg (fun b => A b ∨ b = D) x (wipe σ vs) H3 dx ev2 _ fun σ2 e3 w3 => ⟨?_, ?_⟩
      · rw [w3 vs hj, wipe_wipe vs fun v hv => hv]
      · show wi1 σ2 H3 _
        have g2 : L.G 0 H2 := Rl.gR (b := 0) hg r2
        have r3 : L.R 0 H2 H3 := L.same g2 sm
        have g3 : L.G 0 H3 := Rl.gR (b := 0) g2 r3
        have inn3 : Inn (fun b => A b ∨ b = D) H3 := fun b z y => innA' b z (L.free r3 y)
        refine hw1 (fun b => A b ∨ b = D) σ2 H3 inn3 e3 g3 _ fun J1 H4 its1 r4 hits1 jk1 => ?_
        subst hits1
        have r24 : L.R 0 H2 H4 := L.tr (a := 0) (b := 0) r3 r4
        have eD4 : H4 D = some (.lst acc) := L.keep r24 eD fxLst
        have e4 : EnvOk L (fun b => A b ∨ b = D) σ2 H4 Γ' := e3.r r4
        refine ⟨fun j k H5 => k = (inn i).length - j ∧ j ≤ (inn i).length ∧ L.R 0 H H5 ∧ Kp A H1 H5 ∧ Kp (fun b => A b ∨ b = D) H4 H5 ∧ ∃ acc, H5 D = some (.lst acc) ∧ DvAll L.K (fun b => A b ∨ b = D) H5 acc (flatR inn res i ++ rowR res i j), ⟨(inn i).length, ?_⟩, ?_⟩
        · exact ⟨by omega, Nat.zero_le _, L.tr (a := 0) (b := 0) r2 r24, fun b o na e k => L.keep r24 (k2 b o na e k) k, fun b o _ e _ => e, acc, eD4, by
            have e : rowR res i 0 = [] := rfl
            rw [e, List.append_nil]
            exact dv.r r24⟩
        · rintro j k H5 ⟨rfl, hle5, r5, k5, k45, acc5, eD5, dv5⟩
          have inn5 : ∀ b, (A b ∨ b = D) → H5 b ≠ none := fun b z => z.elim (fun z => hi.r r5 b z) fun e => by rw [e, eD5]; simp
          have g5 : L.G 0 H5 := Rl.gR (b := 0) hg r5
          by_cases hlt5 : j < (inn i).length
          · refine .inr ⟨jk1.go j H5 k45 hlt5, fun H6 => j + 1 ≤ (inn i).length ∧ L.R 0 H H6 ∧ Kp A H1 H6 ∧ Kp (fun b => A b ∨ b = D) H4 H6 ∧ ∃ acc, H6 D = some (.lst acc) ∧ DvAll L.K (fun b => A b ∨ b = D) H6 acc (flatR inn res i ++ rowR res i (j + 1)),
              fun H6 h6 => ⟨(inn i).length - (j + 1), by omega, rfl, h6⟩, fun x1 H6 y1 => ?_⟩
            obtain ⟨d1, hd1, sm1, hdv1⟩ := jk1.yld j H5 x1 H6 k45 inn5 y1 hlt5
            obtain ⟨Γ'', htg1, hmk, hev⟩ := hin j d1 hd1
            have dx1 : Dv L.K (fun b => A b ∨ b = D) H6 x1 d1 := hdv1 _ inn5 fun b o na e _ => na
            have r6 : L.R 0 H5 H6 := L.same g5 sm1
            have e6 : EnvOk L (fun b => A b ∨ b = D) (wipe σ2 vs1) H6 (wipeD Γ' vs1) := ((e4.kp k45).r r6).wipe vs1
            have inn6 : Inn (fun b => A b ∨ b = D) H6 := fun b z y => inn5 b z (L.free r6 y)
            refine htg1 (fun b => A b ∨ b = D) x1 (wipe σ2 vs1) H6 dx1 e6 _ fun σ3 e7 w7 => ⟨?_, ?_⟩
            · rw [w7 vs1 hj1, wipe_wipe vs1 fun v hv => hv]
            · show te σ3 H6 _
              refine hev (fun b => A b ∨ b = D) σ3 H6 inn6 e7 (Rl.gR (b := 0) g5 r6) _ fun yv dy H7 r7 hy ed => ?_
              subst ed
              have r57 : L.R 0 H5 H7 := L.tr (a := 0) (b := 0) r6 r7
              have eD7 : H7 D = some (.lst acc5) := L.keep r57 eD5 fxLst
              have hlen5 : acc5.length ≤ 2000000 := by
                rw [dv5.length, List.length_append]
                have h1 := lenF i hle
                have h2 := hl2 i
                unfold rowR
                rw [List.length_map, List.length_range]
                have h3 : i * 1000 ≤ 1000 * 1000 := Nat.mul_le_mul_right _ (by omega)
                omega
              refine ⟨acc5, eD7, Nat.lt_of_le_of_lt hlen5 (by decide), hlt5, L.fresh (L.tr (a := 0) (b := 0) r5 r57) hD0 (.inr ⟨_, eD7⟩), ?_, ?_, acc5 ++ [yv], upd_same, ?_⟩
              · intro b o na e k
                rw [upd_ne (ne_of_none e hD)]
                exact L.keep r57 (k5 b o na e k) k
              · intro b o na e k
                rw [upd_ne (fun z => na (.inr z))]
                exact L.keep r57 (k45 b o na e k) k
              · rw [rowR_succ, ← List.append_assoc]
                exact ((dv5.r r57).app (.cons (hy.ne hmk) .nil)).off
          · have e : j = (inn i).length := by omega
            subst e
            refine .inl ⟨jk1.stop H5 k45, ?_⟩
            show i + 1 ≤ its.length ∧ _
            exact ⟨hlt, r5, k5, acc5, eD5, by rw [flatR_succ]; exact dv5⟩
    · have e : i = its.length := by omega
      subst e
      refine .inl ⟨jk.stop H2 k2, ?_⟩
      have nD : ¬ A D := hi.no hD0
      exact q (.ref D) _ H2 r2 (.inr (.lst nD eD (dv.map fun b o na e _ => ⟨fun z => na (.inl z), e⟩))) rfl
end
end V1
set_option Elab.async false
set_option linter.all false
set_option maxRecDepth 100000
set_option maxHeartbeats 4000000
/-! A walk over range(a, b). -/
namespace V1
open PySem PySem.Spec PyProof.Rows L2
section
variable {L : Rl} {Γ : List (Option PyData)} {t : TA}
theorem wk_rng2 {i0 j0 : Int} (h : EaD L t Γ [.int i0, .int j0]) (hb : -(2 ^ 62) ≤ i0 ∧ i0 < 2 ^ 62 ∧ -(2 ^ 62) ≤ j0 ∧ j0 < 2 ^ 62) : WkD L (iRng2 t) Γ (rngD i0 (j0 - i0).toNat) := fun A σ H hi he hg R q => h A σ H hi he hg _ fun vs ds' H1 r1 hl hv p => by
  have p' : ds' = [.int i0, .int j0] := p
  subst p'
  obtain ⟨v, w, rfl, hx, hy⟩ := two_of hl hv
  obtain rfl := hx.int
  obtain rfl := hy.int
  refine ⟨i0, j0, rfl, hb, q _ H1 _ r1 rfl ⟨fun i H' k hi => ?_, fun i H' x H'' k hA y hi => ?_, fun H' k => ?_⟩⟩
  · have hi' : i < (j0 - i0).toNat := by simpa [rngD] using hi
    exact hi'
  · obtain ⟨rfl, rfl⟩ := y
    have hi' : i < (j0 - i0).toNat := by simpa [rngD] using hi
    refine ⟨.int (i0 + (i : Int)), ?_, Same.refl _, fun A' _ _ => .int _⟩
    unfold rngD
    rw [List.getElem?_map, List.getElem?_range hi']
    rfl
  · show (j0 - i0).toNat ≤ (rngD i0 (j0 - i0).toNat).length
    simp [rngD]
end
end V1
set_option Elab.async false
set_option linter.all false
set_option maxRecDepth 100000
set_option maxHeartbeats 4000000
/-! Comprehensions over longer walks. -/
namespace V1
open PySem PySem.Spec PyProof.Rows L2
section
variable {L : Rl} {A : Addr → Prop} {H H' H1 : Hp} {v : V} {d : PyData} {σ : L2.St} {Γ : List (Option PyData)} {n a b c : Nat} {te ta tb tl : TE} {t : TA} {tt tu : TT} {P P1 P2 : PyData → Prop}
theorem eg_lcGFW {wi : TI} {g : TG} {js vs : List Nat} {PI1 : List PyData → Prop} {Pt : List PyData → Nat → PyData → Prop} (hw : WkG L a wi Γ PI1) (hj : ∀ j ∈ js, j ∈ vs) (hlen : ∀ items, PI1 items → items.length ≤ b ∧ b ≤ 100000)
    (hb : ∀ items, PI1 items → ∀ (i : Nat) d, items[i]? = some d → ∃ Γ', TgG L g js d (wipeD Γ vs) Γ' ∧ EvG L c te Γ' (fun r => r ≠ mark ∧ Pt items i r)) :
    EvF L (a + b * c) (tLc wi g tYes te vs) Γ (fun r => ∃ items rs, PI1 items ∧ r = .list rs ∧ rs.length = items.length ∧ ∀ (i : Nat) d, rs[i]? = some d → Pt items i d) := fun A σ H hi he hg Q q => hw A σ H hi he (L.gle (Nat.le_add_right _ _) hg) _ fun J H1 items r1 hp jk D hD => by
  have hD0 : H D = none := L.free r1 hD
  obtain ⟨hl, hl2⟩ := hlen items hp
  have g1 : L.G (b * c) H1 := Rl.gR hg r1
  -- the walk's word
  refine ⟨fun i m H2 => m = items.length - i ∧ i ≤ items.length ∧ L.R (a + i * c) H H2 ∧ Kp A H1 H2 ∧ ∃ acc rs, H2 D = some (.lst acc) ∧ DvAll L.K (fun b => A b ∨ b = D) H2 acc rs ∧ rs.length = i ∧ ∀ (j : Nat) d, rs[j]? = some d → Pt items j d, ⟨items.length, ?_⟩, ?_⟩
  · refine ⟨by omega, Nat.zero_le _, ?_, fun b o _ e k => by rw [upd_ne (ne_of_none e hD)]; exact e, [], [], upd_same, .nil, rfl, fun j d e => by simp at e⟩
    have e0 : a + 0 * c = a := by rw [Nat.zero_mul, Nat.add_zero]
    rw [e0]
    exact L.fresh r1 hD0 (.inl hD)
  · rintro i m H2 ⟨rfl, hle, r2, k2, acc, rs, eD, dv, hrl, hpt⟩
    have naD : ∀ b, A b → H2 b ≠ none := fun b z => hi.r r2 b z
    by_cases hlt : i < items.length
    · refine .inr ⟨jk.go i H2 k2 hlt, fun H3 => i + 1 ≤ items.length ∧ L.R (a + (i + 1) * c) H H3 ∧ Kp A H1 H3 ∧ ∃ acc rs, H3 D = some (.lst acc) ∧ DvAll L.K (fun b => A b ∨ b = D) H3 acc rs ∧ rs.length = i + 1 ∧ ∀ (j : Nat) d, rs[j]? = some d → Pt items j d,
        fun H3 h3 => ⟨items.length - (i + 1), by omega, rfl, h3⟩, fun x H3 y => ?_⟩
      obtain ⟨d, hd, sm, hdv⟩ := jk.yld i H2 x H3 k2 naD y hlt
      obtain ⟨Γ', htg, hev⟩ := hb items hp i d hd
      have innA' : ∀ b, (A b ∨ b = D) → H2 b ≠ none := fun b z => z.elim (naD b) fun e => by rw [e, eD]; simp
      have dx : Dv L.K (fun b => A b ∨ b = D) H3 x d := hdv _ innA' fun b o na e _ z => z.elim na (ne_of_none e hD)
      -- the names, away from the new list
      have ev2 : EnvOk L (fun b => A b ∨ b = D) (wipe σ vs) H3 (wipeD Γ vs) := by
        have h0 : EnvOk L (fun b => A b ∨ b = D) (wipe σ vs) (upd H1 D (.lst [])) (wipeD Γ vs) := ((he.r r1).wipe vs).avoid hD
        refine ⟨h0.1, fun j d' e => ?_⟩
        obtain ⟨v, e1, e2⟩ := h0.2 j d' e
        refine ⟨v, e1, e2.imp (fun z => z) fun z => z.map fun b o na eb kd => ⟨na, sm _ _ (k2 b o (fun w => na (.inl w)) ?_ kd)⟩⟩
        rwa [upd_ne (fun w => na (.inr w))] at eb
      refine htg (fun b => A b ∨ b = D) x (wipe σ vs) H3 dx ev2 _ fun σ2 e3 w3 => ⟨?_, ?_⟩
      · rw [w3 vs hj, wipe_wipe vs fun v hv => hv]
      · show te σ2 H3 _
        have g0 : L.G (c + 0) H2 := by
          refine Rl.gR (a := a + i * c) ?_ r2
          refine L.gle ?_ hg
          have h1 : (i + 1) * c ≤ b * c := Nat.mul_le_mul_right _ (by omega)
          have h2 : (i + 1) * c = i * c + c := Nat.succ_mul _ _
          omega
        have r3 : L.R 0 H2 H3 := L.same (L.g0 g0) sm
        have g3 : L.G c H3 := Rl.gR (a := 0) (by rw [Nat.zero_add]; exact g0) r3
        refine hev (fun b => A b ∨ b = D) σ2 H3 (fun b z y => innA' b z (L.free r3 y)) e3 g3 _ fun y dy H4 r4 hy pw => ?_
        obtain ⟨hmk, hpt4⟩ := pw
        have eD4 : H4 D = some (.lst acc) := L.keep r4 (sm _ _ eD) fxLst
        refine ⟨acc, eD4, Nat.lt_of_le_of_lt (show acc.length ≤ 100000 by rw [dv.length, hrl]; omega) (by decide), hlt, ?_, ?_, acc ++ [y], rs ++ [dy], upd_same, ?_, by rw [List.length_append, hrl]; rfl, fun j d' e => ?_⟩
        · have hh : L.R (a + i * c + 0 + c) H H4 := L.tr (L.tr r2 r3) r4
          have e5 : a + (i + 1) * c = a + i * c + 0 + c := by rw [Nat.succ_mul]; omega
          rw [e5]
          exact L.fresh hh hD0 (.inr ⟨_, eD4⟩)
        · intro b o na e k
          have ne : b ≠ D := ne_of_none e hD
          rw [upd_ne ne]
          exact L.keep r4 (sm _ _ (k2 b o na e k)) k
        · have dv4 : DvAll L.K (fun b => A b ∨ b = D) H4 acc rs := (dv.map (fun b o na e k => ⟨na, sm _ _ e⟩) : DvAll L.K (fun b => A b ∨ b = D) H3 acc rs).r r4
          exact (dv4.app (.cons (hy.ne hmk) .nil)).off
        · by_cases hj2 : j < rs.length
          · rw [List.getElem?_append_left hj2] at e
            exact hpt j d' e
          · rw [List.getElem?_append_right (by omega)] at e
            have hj3 : j - rs.length = 0 := by
              have := (List.getElem?_eq_some_iff.mp e).1
              simp at this
              omega
            rw [hj3] at e
            simp at e
            subst e
            have : j = i := by omega
            subst this
            exact hpt4
    · have e : i = items.length := by omega
      subst e
      refine .inl ⟨jk.stop H2 k2, ?_⟩
      have nD : ¬ A D := hi.no hD0
      refine q D (.list rs) H2 (L.rle ?_ r2) hD0 (.inr (.lst nD eD (dv.map fun b o na e _ => ⟨fun z => na (.inl z), e⟩))) ⟨items, rs, hp, rfl, hrl, hpt⟩
      have := Nat.mul_le_mul_right c hl
      omega
theorem eg_lcGW {wi : TI} {g : TG} {js vs : List Nat} {PI1 : List PyData → Prop} {Pt : List PyData → Nat → PyData → Prop} (hw : WkG L a wi Γ PI1) (hj : ∀ j ∈ js, j ∈ vs) (hlen : ∀ items, PI1 items → items.length ≤ b ∧ b ≤ 100000)
    (hb : ∀ items, PI1 items → ∀ (i : Nat) d, items[i]? = some d → ∃ Γ', TgG L g js d (wipeD Γ vs) Γ' ∧ EvG L c te Γ' (fun r => r ≠ mark ∧ Pt items i r)) :
    EvG L (a + b * c) (tLc wi g tYes te vs) Γ (fun r => ∃ items rs, PI1 items ∧ r = .list rs ∧ rs.length = items.length ∧ ∀ (i : Nat) d, rs[i]? = some d → Pt items i d) := (eg_lcGFW hw hj hlen hb).eg
/-- each item comes to one thing -/
theorem eg_lcFW {wi : TI} {g : TG} {js vs : List Nat} {items rs : List PyData} (hw : WkD L wi Γ items) (hj : ∀ j ∈ js, j ∈ vs) (hlen : items.length ≤ 100000) (hr : rs.length = items.length)
    (hb : ∀ (i : Nat) d r, items[i]? = some d → rs[i]? = some r → r ≠ mark ∧ ∃ Γ', TgG L g js d (wipeD Γ vs) Γ' ∧ EvD L te Γ' r) : EvF L 0 (tLc wi g tYes te vs) Γ (fun x => x = .list rs) := by
  have h := eg_lcGFW (a := 0) (b := items.length) (c := 0) (te := te) (Pt := fun its i r => rs[i]? = some r) hw hj (fun its e => by rw [e]; exact ⟨Nat.le_refl _, hlen⟩) (fun its e i d hd => by
    subst e
    have hi : i < rs.length := by rw [hr]; exact (List.getElem?_eq_some_iff.mp hd).1
    obtain ⟨nm, Γ', h1, h2⟩ := hb i d rs[i] hd (List.getElem?_eq_getElem hi)
    refine ⟨Γ', h1, EvG.mono h2 (Nat.le_refl _) fun r e => ?_⟩
    rw [e]
    exact ⟨nm, List.getElem?_eq_getElem hi⟩)
  intro A σ H hi he hg Q q
  refine h A σ H hi he (L.gle (Nat.le_of_eq (by simp)) hg) Q fun p r H' rr hp hv ⟨its, rs', e1, e2, e3, e4⟩ => q p r H' (L.rle (Nat.le_of_eq (by simp)) rr) hp hv ?_
  rw [e2]
  congr 1
  subst e1
  refine List.ext_getElem? fun i => ?_
  by_cases hi : i < rs'.length
  · have z := e4 i rs'[i] (List.getElem?_eq_getElem hi)
    rw [z, List.getElem?_eq_getElem hi]
  · rw [List.getElem?_eq_none (by omega), List.getElem?_eq_none (by omega)]
theorem eg_lcW {wi : TI} {g : TG} {js vs : List Nat} {items rs : List PyData} (hw : WkD L wi Γ items) (hj : ∀ j ∈ js, j ∈ vs) (hlen : items.length ≤ 100000) (hr : rs.length = items.length)
    (hb : ∀ (i : Nat) d r, items[i]? = some d → rs[i]? = some r → r ≠ mark ∧ ∃ Γ', TgG L g js d (wipeD Γ vs) Γ' ∧ EvD L te Γ' r) : EvD L (tLc wi g tYes te vs) Γ (.list rs) := (eg_lcFW hw hj hlen hr hb).eg
end
end V1
set_option Elab.async false
set_option linter.all false
set_option maxRecDepth 100000
set_option maxHeartbeats 4000000
/-! A comprehension with a test, told for each item; targets of three. -/
namespace V1
open PySem PySem.Spec PyProof.Rows L2
def fil (keep : Nat → Bool) (res : Nat → PyData) (n : Nat) : List PyData := ((List.range n).filter keep).map res
theorem fil_succ (keep : Nat → Bool) (res : Nat → PyData) (n : Nat) : fil keep res (n + 1) = fil keep res n ++ (if keep n then [res n] else []) := by
  unfold fil
  rw [List.range_succ, List.filter_append, List.map_append]
  congr 1
  cases h : keep n <;> simp [List.filter, h]
theorem fil_len (keep : Nat → Bool) (res : Nat → PyData) (n : Nat) : (fil keep res n).length ≤ n := by
  unfold fil
  rw [List.length_map]
  exact Nat.le_trans (List.length_filter_le _ _) (by rw [List.length_range]; exact Nat.le_refl _)
section
variable {L : Rl} {Γ : List (Option PyData)} {te : TE} {tt : TT}
theorem eg_lcTD {wi : TI} {g : TG} {js vs : List Nat} {items : List PyData} {keep : Nat → Bool} {res : Nat → PyData} (hw : WkD L wi Γ items) (hj : ∀ j ∈ js, j ∈ vs) (hlen : items.length ≤ 100000)
    (hb : ∀ (i : Nat) d, items[i]? = some d → ∃ Γ', TgG L g js d (wipeD Γ vs) Γ' ∧ EtD L tt Γ' (keep i) ∧ (keep i = true → EvD L te Γ' (res i) ∧ res i ≠ mark)) :
    EvD L (tLc wi g tt te vs) Γ (.list (fil keep res items.length)) := fun A σ H hi he hg Q q => hw A σ H hi he hg _ fun J H1 its r1 hp jk D hD => by
  subst hp
  have hD0 : H D = none := L.free r1 hD
  have g1 : L.G 0 H1 := Rl.gR (b := 0) hg r1
  refine ⟨fun i m H2 => m = its.length - i ∧ i ≤ its.length ∧ L.R 0 H H2 ∧ Kp A H1 H2 ∧ ∃ acc, H2 D = some (.lst acc) ∧ DvAll L.K (fun b => A b ∨ b = D) H2 acc (fil keep res i), ⟨its.length, ?_⟩, ?_⟩
  · exact ⟨by omega, Nat.zero_le _, L.fresh r1 hD0 (.inl hD), fun b o _ e k => by rw [upd_ne (ne_of_none e hD)]; exact e, [], upd_same, .nil⟩
  · rintro i m H2 ⟨rfl, hle, r2, k2, acc, eD, dv⟩
    have naD : ∀ b, A b → H2 b ≠ none := fun b z => hi.r r2 b z
    by_cases hlt : i < its.length
    · refine .inr ⟨jk.go i H2 k2 hlt, fun H3 => i + 1 ≤ its.length ∧ L.R 0 H H3 ∧ Kp A H1 H3 ∧ ∃ acc, H3 D = some (.lst acc) ∧ DvAll L.K (fun b => A b ∨ b = D) H3 acc (fil keep res (i + 1)),
        fun H3 h3 => ⟨its.length - (i + 1), by omega, rfl, h3⟩, fun x H3 y => ?_⟩
      obtain ⟨d, hd, sm, hdv⟩ := jk.yld i H2 x H3 k2 naD y hlt
      obtain ⟨Γ', htg, htt, hev⟩ := hb i d hd
      have innA' : ∀ b, (A b ∨ b = D) → H2 b ≠ none := fun b z => z.elim (naD b) fun e => by rw [e, eD]; simp
      have dx : Dv L.K (fun b => A b ∨ b = D) H3 x d := hdv _ innA' fun b o na e _ z => z.elim na (ne_of_none e hD)
      have ev2 : EnvOk L (fun b => A b ∨ b = D) (wipe σ vs) H3 (wipeD Γ vs) := by
        have h0 : EnvOk L (fun b => A b ∨ b = D) (wipe σ vs) (upd H1 D (.lst [])) (wipeD Γ vs) := ((he.r r1).wipe vs).avoid hD
        refine ⟨h0.1, fun j d' e => ?_⟩
        obtain ⟨v, e1, e2⟩ := h0.2 j d' e
        refine ⟨v, e1, e2.imp (fun z => z) fun z => z.map fun b o na eb kd => ⟨na, sm _ _ (k2 b o (fun w => na (.inl w)) ?_ kd)⟩⟩
        rwa [upd_ne (fun w => na (.inr w))] at eb
      refine htg (fun b => A b ∨ b = D) x (wipe σ vs) H3 dx ev2 _ fun σ2 e3 w3 => ⟨?_, ?_⟩
      · rw [w3 vs hj, wipe_wipe vs fun v hv => hv]
      · have g2 : L.G 0 H2 := Rl.gR (b := 0) hg r2
        have r3 : L.R 0 H2 H3 := L.same g2 sm
        have g3 : L.G 0 H3 := Rl.gR (b := 0) g2 r3
        have inn3 : Inn (fun b => A b ∨ b = D) H3 := fun b z y => innA' b z (L.free r3 y)
        refine htt (fun b => A b ∨ b = D) σ2 H3 inn3 e3 g3 _ fun H4 r4 => ?_
        have r34 : L.R 0 H2 H4 := L.tr (a := 0) (b := 0) r3 r4
        have k4 : Kp A H1 H4 := fun b o na e k => L.keep r34 (k2 b o na e k) k
        have eD4 : H4 D = some (.lst acc) := L.keep r34 eD fxLst
        rw [fil_succ]
        have hal : acc.length ≤ 100000 := by
          rw [dv.length]
          have := fil_len keep res i
          omega
        cases hk : keep i with
        | false =>
          show i + 1 ≤ its.length ∧ _
          refine ⟨hlt, L.tr (a := 0) (b := 0) r2 r34, k4, acc, eD4, ?_⟩
          have e : (if false = true then [res i] else []) = ([] : List PyData) := rfl
          rw [e, List.append_nil]
          exact dv.r r34
        | true =>
          obtain ⟨hev1, hmk⟩ := hev hk
          show te σ2 H4 _
          refine hev1 (fun b => A b ∨ b = D) σ2 H4 (inn3.r r4) (e3.r r4) (Rl.gR (b := 0) g3 r4) _ fun y dy H5 r5 hy pw => ?_
          have pw' : dy = res i := pw
          subst pw'
          have eD5 : H5 D = some (.lst acc) := L.keep r5 eD4 fxLst
          have r25 : L.R 0 H2 H5 := L.tr (a := 0) (b := 0) r34 r5
          refine ⟨acc, eD5, Nat.lt_of_le_of_lt hal (by decide), hlt, L.fresh (L.tr (a := 0) (b := 0) r2 r25) hD0 (.inr ⟨_, eD5⟩), ?_, acc ++ [y], upd_same, ?_⟩
          · intro b o na e k
            have ne : b ≠ D := ne_of_none e hD
            rw [upd_ne ne]
            exact L.keep r25 (k2 b o na e k) k
          · exact ((dv.r r25).app (.cons (hy.ne hmk) .nil)).off
    · have e : i = its.length := by omega
      subst e
      refine .inl ⟨jk.stop H2 k2, ?_⟩
      have nD : ¬ A D := hi.no hD0
      exact q (.ref D) _ H2 r2 (.inr (.lst nD eD (dv.map fun b o na e _ => ⟨fun z => na (.inl z), e⟩))) rfl
theorem tg_three {i j k : Nat} {d1 d2 d3 : PyData} : TgG L (gTup L.K 3 (gCons (gName i) (gCons (gName j) (gCons (gName k) gNil)))) [i, j, k] (.tuple [d1, d2, d3]) Γ (((Γ.set i (some d1)).set j (some d2)).set k (some d3)) := fun A x σ H hx he Q q => by
  obtain ⟨p, xs, rfl, e, r⟩ := Dq.tuple (L := L) (.inr hx)
  cases r with
  | cons r1 r =>
    cases r with
    | cons r2 r =>
      cases r with
      | cons r3 r =>
        cases r
        refine ⟨p, _, rfl, e.sq, rfl, _, _, rfl, _, _, rfl, _, _, rfl, rfl, ?_⟩
        refine q _ (((he.set (.inr r1) i).set (.inr r2) j).set (.inr r3) k) fun vs hv => ?_
        rw [wipe_set (hv k (by simp)), wipe_set (hv j (by simp)), wipe_set (hv i (by simp))]
end
end V1
set_option Elab.async false
set_option linter.all false
set_option maxRecDepth 100000
set_option maxHeartbeats 4000000
/-! Lambdas, with default values at dV: made, and called. -/
namespace V1
open PySem PySem.Spec PySem.Calls PyProof.Rows L2
/-- a lambda's function data, its default values at dV -/
abbrev lamF (q : Str) (pa : Arguments) (b : Expr) (sc : Scope) (cl : List (Str × Addr)) (dV pm cd ct : Value) : FuncData := { PySem.W.kla_fn "<lambda>" q pa b sc cl pm cd ct with defaults := dV }
abbrev lamO (q : Str) (pa : Arguments) (b : Expr) (sc : Scope) (cl : List (Str × Addr)) (dV pm : Value) (c' : Addr) (ct : Value) : Obj := { cls := .type "function", data := .func (lamF q pa b sc cl dV pm (.ref c') ct) }
/-- the record of a code object -/
def RecAt (h : Heap) (c : Addr) (q : Str) : Prop := ∃ (oc : Obj) (vs : Array Value) (t : Tok), h.get? c = some oc ∧ oc.data = .fields vs ∧ vs[1]? = some (.str q t)
/-- what is left behind a lambda's code: found in the table, or the table one longer -/
inductive Left (P : Addr) (ps : Array Value) (q : Str) (h h' : Heap) (c' : Addr) : Prop
  | old : (∀ b o, h.get? b = some o → h'.get? b = some o) → (∃ pos, codeAmong pos ps.toList = some (.ref c')) → h.objs.size ≤ h'.objs.size → Left P ps q h h' c'
  | new (pos : Pos) : (∀ b o, b ≠ P → h.get? b = some o → h'.get? b = some o) → h.objs.size ≤ c' → c' < h'.objs.size → RecAt h' c' q → h'.get? P = some { cls := .none, data := .fields (ps ++ #[rawInt pos.line, rawInt pos.col, .ref c']) } → Left P ps q h h' c'
/-- the end of a lambda's making, its closure's tuple made -/
def tailC (q : Str) (pa : Arguments) (b : Expr) (sc : Scope) (env : Env) (cl : List (Str × Addr)) (dV : Value) (pos : Pos) (fl : Nat) (ct : Value) : Sem Value := do
  let code ← functionCode env pos fl "<lambda>" q pa sc (.expr b)
  let bl ← builtinsFor mainGlobals env.builtins
  let pm ← nsGet mainGlobals "__name__"
  let doc ← (pure .none : Sem Value)
  newObj (.type "function") (.func { name := "<lambda>", qualname := q, params := pa, body := .expr b, scope := sc, globals := mainGlobals, closure := cl, closureTuple := ct, code := code, builtins := bl, defaults := dV, kwdefaults := .none, annotations := none, pyModule := pm.getD .none, doc := doc })
section
variable {M : Model} {A : Around} {E : Value → Shared → Prop} {s : Shared} {q : Str} {pa : Arguments} {b : Expr} {sc : Scope} {env : Env} {c P : Addr} {ps : Array Value} {pos : Pos} {fl : Nat} {mg : Str → Option Value} {cl : List (Str × Addr)} {dV ct : Value} {Q : Value → Shared → Prop}
theorem tail_c (hg : s.heap.Ns mainGlobals mg) (ec : env.code = .ref c) (C : PySem.W.CodeHd s.heap c P) (tP : s.heap.get? P = some { cls := .none, data := .fields ps }) (ht : TriplesOk ps.toList) (nP : mainGlobals ≠ P) (hb : s.heap.BuiltinsAt mg P)
    (ha : ∀ (p' : Pos) (cv : Value), codeAmong p' ps.toList = some cv → ∃ c', cv = .ref c')
    (h : ∀ (c' : Addr) (h' : Heap) (tk : Tok), Left P ps q s.heap h' c' → Q (.ref h'.objs.size) { s with heap := h'.push (lamO q pa b sc cl dV ((mg "__name__").getD .none) c' ct), toks := tk }) :
    wpAny M A (tailC q pa b sc env cl dV pos fl ct) Q E s := by
  obtain ⟨bm, ob, b1, b2, b3, b4, b5, b6, b7, b8⟩ := hb
  unfold tailC
  cases hc : codeAmong pos ps.toList with
  | some cv =>
    obtain ⟨c', rfl⟩ := ha pos cv hc
    refine wpAny_bind (wpAny_functionCode_hit ec (C.code tP ht) hc ?_)
    refine wpAny_bind (wpAny_builtinsFor hg b1 b2 b5 b6 b7 b8 ?_)
    refine wpAny_bind (wpAny_nsGet hg (wpAny_bind (wpAny_pure ?_)))
    exact wpAny_newObj_type (h c' s.heap s.toks (.old (fun _ _ e => e) ⟨pos, hc⟩ (Nat.le_refl _))) (by size_fits)
  | none =>
    refine wpAny_bind (wpAny_functionCodeX ec (C.code tP ht) (C.tab tP) hc fun c' h' tk hx g1 g2 _ hr tb _ => ?_)
    have hg2 := hg.extBut hx nP
    refine wpAny_bind (wpAny_builtinsFor hg2 b1 b2 (hx _ _ b4 b5) b6 b7 b8 ?_)
    refine wpAny_bind (wpAny_nsGet hg2 (wpAny_bind (wpAny_pure ?_)))
    obtain ⟨c2, oc, vs, t, z, z1, z2, z3⟩ := hr
    cases z
    exact wpAny_newObj_type (h c' h' tk (.new pos hx g1 g2 ⟨oc, vs, t, z1, z2, z3⟩ tb.2)) (by size_fits)
theorem lam_tail (hcl : closureFor sc env = pure cl) (ge : env.globals = mainGlobals) (hg : s.heap.Ns mainGlobals mg) (ec : env.code = .ref c) (C : PySem.W.CodeHd s.heap c P) (tP : s.heap.get? P = some { cls := .none, data := .fields ps }) (ht : TriplesOk ps.toList) (nP : mainGlobals ≠ P) (hb : s.heap.BuiltinsAt mg P)
    (ha : ∀ (p' : Pos) (cv : Value), codeAmong p' ps.toList = some cv → ∃ c', cv = .ref c')
    (h : ∀ (c' : Addr) (ct : Value) (h' : Heap) (tk : Tok), Left P ps q s.heap h' c' → Q (.ref h'.objs.size) { s with heap := h'.push (lamO q pa b sc cl dV ((mg "__name__").getD .none) c' ct), toks := tk }) :
    wpAny M A (makeTail "<lambda>" q pa (.expr b) sc env dV .none none pos fl) Q E s := by
  unfold makeTail
  rw [hcl, ge]
  refine wpAny_bind (wpAny_pure ?_)
  cases cl with
  | nil =>
    simp only [List.isEmpty_nil, if_true]
    refine wpAny_bind (wpAny_pure ?_)
    exact tail_c hg ec C tP ht nP hb ha fun c' h' tk l => h c' _ h' tk l
  | cons y r =>
    simp only [List.isEmpty_cons, Bool.false_eq_true, if_false]
    refine wpAny_bind (wpAny_newTextTuple ?_)
    have kp : ∀ (o : Obj) (b : Addr) (u : Obj), s.heap.get? b = some u → (s.heap.push o).get? b = some u := fun o b u e => Heap.get?_push_of_some _ e
    refine tail_c (s := { s with heap := s.heap.push _ }) (hg.push _) ec (C.keeps (kp _)) (kp _ _ _ tP) ht nP (hb.keeps (kp _)) ha fun c' h' tk l => h c' _ h' tk ?_
    cases l with
    | old k1 k2 k3 => exact .old (fun b o e => k1 b o (kp _ b o e)) k2 (Nat.le_trans (by rw [Heap.size_push]; omega) k3)
    | new p2 k1 k2 k3 k4 k5 => exact .new p2 (fun b o n e => k1 b o n (kp _ b o e)) (Nat.le_trans (by rw [Heap.size_push]; omega) k2) k3 k4 k5
end
end V1
set_option Elab.async false
set_option linter.all false
set_option maxRecDepth 100000
set_option maxHeartbeats 4000000
namespace V1
open PySem PySem.Spec PySem.Calls PyProof.Rows L2 LamX
section
variable {X : Cx} {pins : List (Addr × Obj)} {σ : L2.St} {H : Hp} {s : Shared}
/-- a lambda is made: what holds of the function object at f -/
structure Made (X : Cx) (T : List (Addr × Str)) (H H1 : Hp) (q : Str) (f c' : Addr) : Prop where
  ext : ExtN H H1
  nn : ∀ b, H b ≠ none → H1 b ≠ none
  tabs : Tabs T H1
  free : H1 f = none
  nofr : f ∉ frs X.stack
  code : H1 c' = some (CodeO c' q)
theorem lam_mk {T : List (Addr × Str)} {c P : Addr} {pa : Arguments} {b : Expr} {sc : Scope} {pos : Pos} {fl : Nat} {dV : Value} {E : Value → Shared → Prop} {Q : Value → Shared → Prop} (I : Inv X pins σ H s) (TB : TabB X.base X.mg c P) (ec : X.env.code = .ref c)
    (hm : (P, X.env.qual ++ "<lambda>") ∈ T) (hu : ∀ p ∈ T, p.1 = P → p.2 = X.env.qual ++ "<lambda>") (hT : Tabs T H) (hfree : ∀ y ∈ sc.names, y.2 = .free → ∃ c, X.env.cells.lookup y.1 = some c)
    (h : ∀ (f c' : Addr) (pm ct : Value) (H1 : Hp) (s' : Shared), Inv X pins σ H1 s' → Made X T H H1 (X.env.qual ++ "<lambda>") f c' →
      s'.heap.get? f = some (lamO (X.env.qual ++ "<lambda>") pa b sc (cloFrom X.env.cells sc.names []) dV pm c' ct) → Q (.ref f) s') :
    wpAny (model X.prog X.w) X.A (makeTail "<lambda>" (X.env.qual ++ "<lambda>") pa (.expr b) sc X.env dV .none none pos fl) Q E s := by
  obtain ⟨ps, hP, ht, ha⟩ := hT _ hm
  have tP : s.heap.get? P = some { cls := .none, data := .fields ps } := I.hok P _ hP
  have nof : ∀ f, s.heap.objs.size ≤ f → f ∉ frs X.stack := fun f hf z => by
    rcases List.mem_cons.mp (I.stkSub _ z) with e | e
    · have l2 := I.lt
      rw [← e] at l2
      exact absurd hf (Nat.not_le.mpr l2)
    · exact I.nofs hf e
  refine lam_tail (mg := X.mg) (c := c) (P := P) (ps := ps) (closure_ok hfree) I.ok.glob (I.mod.glob.keeps I.bk) ec (TB.code.keeps I.bk) tP ht TB.gP (TB.bm.keeps I.bk) (fun p' cv e => ?_) fun c' ct h' tk l => ?_
  · obtain ⟨c', e1, _⟩ := ha p' cv e
    exact ⟨c', e1⟩
  cases l with
  | old k1 k2 k3 =>
    obtain ⟨p2, e2⟩ := k2
    obtain ⟨c3, e3, e4⟩ := ha p2 _ e2
    cases e3
    have I1 := I.kept (t' := tk) (h' := h'.push (lamO (X.env.qual ++ "<lambda>") pa b sc (cloFrom X.env.cells sc.names []) dV ((X.mg "__name__").getD .none) c' ct)) fun b o e => Heap.get?_push_of_some _ (k1 b o e)
    exact h _ c' _ ct H _ I1 ⟨ExtN.refl H, fun b z => z, hT, I.hok.fresh k3, nof _ k3, e4⟩ (Heap.get?_push_size _ rfl)
  | new p2 k1 k2 k3 k4 k5 =>
    have hsz := Nat.le_trans k2 (Nat.le_of_lt k3)
    have nC : H c' = none := I.hok.fresh k2
    have nPc : P ≠ c' := ne_of_none hP nC
    obtain ⟨oc, vs, t, r1, r2, r3⟩ := k4
    have I1 := inv_table (t' := tk) (more := #[rawInt p2.line, rawInt p2.col, .ref c']) (h' := h'.push (lamO (X.env.qual ++ "<lambda>") pa b sc (cloFrom X.env.cells sc.names []) dV ((X.mg "__name__").getD .none) c' ct)) I hP
      (fun b o n e => Heap.get?_push_of_some _ (k1 b o n e)) (Heap.get?_push_of_some _ k5) k2 ⟨oc, vs, t, Heap.get?_push_of_some _ r1, r2, r3⟩
    generalize hH1 : upd (upd H P (.tbl (ps ++ #[rawInt p2.line, rawInt p2.col, .ref c']))) c' (CodeO c' (X.env.qual ++ "<lambda>")) = H1 at I1
    have at1 : ∀ b, b ≠ P → b ≠ c' → H1 b = H b := fun b n1 n2 => by rw [← hH1, upd_ne n2, upd_ne n1]
    have atP : H1 P = some (.tbl (ps ++ #[rawInt p2.line, rawInt p2.col, .ref c'])) := by rw [← hH1, upd_ne nPc, upd_same]
    have atC : H1 c' = some (CodeO c' (X.env.qual ++ "<lambda>")) := by rw [← hH1, upd_same]
    have hE : ExtN H H1 := fun b o e n => by
      rw [at1 b (fun z => n ps (by rw [z, hP] at e; exact (Option.some.inj e).symm)) (ne_of_none e nC)]
      exact e
    have hN : ∀ b, H b ≠ none → H1 b ≠ none := fun b z y => by
      by_cases n1 : b = P
      · rw [n1, atP] at y
        cases y
      · by_cases n2 : b = c'
        · rw [n2, atC] at y
          cases y
        · rw [at1 b n1 n2] at y
          exact z y
    have eL : (ps ++ #[rawInt p2.line, rawInt p2.col, .ref c']).toList = ps.toList ++ [rawInt p2.line, rawInt p2.col, .ref c'] := by simp
    refine h _ c' _ ct H1 _ I1 ⟨hE, hN, fun p hp => ?_, ?_, nof _ hsz, atC⟩ (Heap.get?_push_size _ rfl)
    · by_cases hb : p.1 = P
      · rw [hu p hp hb, hb]
        refine ⟨_, atP, by rw [eL]; exact PySem.TriplesOk_snoc _ _ _ _ ht, fun p' cv hcv => ?_⟩
        rw [eL] at hcv
        rcases among_app _ ht hcv with z | z
        · obtain ⟨c0, e1, e2⟩ := ha p' cv z
          exact ⟨c0, e1, hE _ _ e2 codeO_ne⟩
        · exact ⟨c', z, atC⟩
      · obtain ⟨ps', a1, a2, a3⟩ := hT p hp
        refine ⟨ps', by rw [at1 _ hb (ne_of_none a1 nC)]; exact a1, a2, fun p' cv hcv => ?_⟩
        obtain ⟨c0, e1, e2⟩ := a3 p' cv hcv
        exact ⟨c0, e1, hE _ _ e2 codeO_ne⟩
    · have n1 : h'.objs.size ≠ c' := Nat.ne_of_gt k3
      have n2 : h'.objs.size ≠ P := Nat.ne_of_gt (Nat.lt_of_lt_of_le (Heap.lt_size tP) hsz)
      rw [at1 _ n2 n1]
      exact I.hok.fresh hsz
end
end V1
set_option Elab.async false
set_option linter.all false
set_option maxRecDepth 100000
set_option maxHeartbeats 4000000
namespace V1
open PySem PySem.Spec PySem.Calls PyProof.Rows L2 LamX
/-- a lambda's names: captured ones, globals, its own parameters, which are no slots of the maker (N) -/
structure LamN (N : List Str) (sc scope : Scope) : Prop where
  kind : scope.kind = .function
  co : scope.isCoroutine = false
  gen : scope.isGenerator = false
  cell : ∀ y ∈ scope.names, y.2 ≠ .cell
  loc : ∀ y ∈ scope.names, y.2 = .local → y.1 ∉ N
  free : ∀ y ∈ scope.names, y.2 = .free → sc.names.lookup y.1 = some .cell ∨ sc.names.lookup y.1 = some .free
def lamNB (N : List Str) (sc scope : Scope) : Bool :=
  decide (scope.kind = .function) && (!scope.isCoroutine && (!scope.isGenerator && (scope.names.all (fun y => !decide (y.2 = .cell)) && (scope.names.all (fun y => !decide (y.2 = .local) || !decide (y.1 ∈ N)) && scope.names.all fun y => !decide (y.2 = .free) || (decide (sc.names.lookup y.1 = some .cell) || decide (sc.names.lookup y.1 = some .free))))))
theorem lamN_by {N : List Str} {sc scope : Scope} (h : lamNB N sc scope = true) : LamN N sc scope := by
  unfold lamNB at h
  simp only [Bool.and_eq_true, Bool.or_eq_true, Bool.not_eq_true', decide_eq_true_eq, decide_eq_false_iff_not, List.all_eq_true] at h
  obtain ⟨a1, a2, a3, a4, a5, a6⟩ := h
  exact ⟨a1, a2, a3, a4, fun y hy e => (a5 y hy).elim (fun z => absurd e z) id, fun y hy e => (a6 y hy).elim (fun z => absurd e z) id⟩
section
variable {X : Cx} {pins : List (Addr × Obj)} {σ : L2.St} {H HZ : Hp} {s s1 : Shared}
theorem LamN.has {scope : Scope} (L : LamN X.N X.env.scope scope) (ok : X.Ok) (y : Str × NameKind) (hy : y ∈ scope.names) (e : y.2 = .free) : ∃ c, X.env.cells.lookup y.1 = some c :=
  (L.free y hy e).elim (fun k => ok.has _ (.inl k)) fun k => ok.has _ (.inr k)
theorem lam_in {A : Around} {outer : List Env} {E : XK} {scope : Scope} {f c' : Addr} {h₁ : Heap} {tk : Nat} {mm : Str → Option Value} (I : Inv X pins σ H s) (L : LamN X.N X.env.scope scope) (e0 : Env0 X.prog X.w X.K X.mg X.base A outer s1 HZ) (hd : A.handled = none)
    (un : Un (frs X.stack) [] H HZ s.heap s1.heap) (hns : h₁.Ns s1.heap.objs.size mm) (kp : ∀ b o, s1.heap.get? b = some o → h₁.get? b = some o) :
    Inv (lamCx X A outer s1 HZ E scope f c') [] σ HZ { s1 with heap := h₁, toks := tk } := by
  have hfree := L.has I.ok
  have cm : ∀ {y c}, (cloFrom X.env.cells scope.names []).lookup y = some c → X.env.cells.lookup y = some c := by
    intro y c e
    rcases cloFrom_mem (PySem.mem_of_lookup e) with hm | ⟨g1, g2⟩
    · cases hm
    · obtain ⟨c1, hc⟩ := hfree _ g1 rfl
      have hc1 : X.env.cells.lookup y = some c1 := hc
      have ee : c = c1 := by
        rw [g2, hc1]
        rfl
      rw [ee]
      exact hc1
  have look : ∀ {y}, scope.names.lookup y = some .free → ∃ c, (cloFrom X.env.cells scope.names []).lookup y = some c := fun {y} hl =>
    mem_lookup (cloFrom_has (cells := X.env.cells) (acc := []) (show (y, NameKind.free) ∈ scope.names from PySem.mem_of_lookup hl))
  have cellK : ∀ {c : Addr} {v : Option Value}, H c = none → s.heap.IsCell c v → h₁.IsCell c v := by
    intro c v n ⟨o, ho, q⟩
    obtain ⟨sl, z⟩ := un.any ho n (by simp)
    exact ⟨_, kp _ _ z, q⟩
  have noE : ∀ b : Addr, b ∉ (lamCx X A outer s1 HZ E scope f c').ex := fun b z => absurd (show b ∈ ([] : List Addr) from z) (by simp)
  have ok : (lamCx X A outer s1 HZ E scope f c').Ok := {
    mod := e0.mod
    kind := L.kind
    glob := rfl
    blt := rfl
    above := Nat.le_refl _
    inj := fun y z c e1 e2 => I.ok.inj y z c (cm e1) (cm e2)
    has := fun y hy => by
      have hy2 : scope.names.lookup y = some .cell ∨ scope.names.lookup y = some .free := hy
      rcases hy2 with z | z
      · exact absurd rfl (L.cell _ (PySem.mem_of_lookup z))
      · exact look z
    cab := fun y c z _ => by
      have z2 : false = true := z
      cases z2
    hd := fun _ => hd
    frames := Around.frames_deeper e0.frames
    stk := .inr ⟨rfl, rfl⟩
    exf := fun b z => absurd z (noE b)
    bs := e0.bs
    bsz := e0.bsz
    noex := fun b _ _ => noE b
    exfs := fun b z => absurd z (noE b)
    funs := e0.funs
    frf := e0.frf }
  refine { ok := ok, os := rfl, bare := e0.bare, base := Un.kept kp, loc := ⟨mm, hns, fun i y v e1 e2 e3 => ?_⟩, cell := fun y c e => ?_, free := e0.hok.fresh (Nat.le_refl _), freeC := fun y c e => ?_, pin := fun q hq => absurd (show q ∈ ([] : List (Addr × Obj)) ++ [] from hq) (by simp), hok := e0.hok.kept kp, len := I.len }
  · have e4 : Vis scope y := e3
    have hyN : y ∈ X.N := List.mem_of_getElem? (show X.N[i]? = some y from e1)
    rcases e4 with k | k | k
    · exact absurd hyN (L.loc _ (PySem.mem_of_lookup k) rfl)
    · exact absurd rfl (L.cell _ (PySem.mem_of_lookup k))
    · obtain ⟨m, hn, hl⟩ := I.loc
      have fr := L.free _ (PySem.mem_of_lookup k) rfl
      obtain ⟨u, r, q⟩ := hl i y v e1 e2 (fr.elim (fun z => .inr (.inl z)) fun z => .inr (.inr z))
      obtain ⟨c2, h2⟩ := look k
      refine ⟨u, r, .inr ⟨.inr k, c2, h2, ?_⟩⟩
      have c1 := cm h2
      rcases q with ⟨k1, _⟩ | ⟨_, c3, e5, z⟩
      · have k2 : X.env.scope.names.lookup y = some .local := k1
        rcases fr with f1 | f1
        · rw [show X.env.scope.names.lookup y = _ from f1] at k2
          cases k2
        · rw [show X.env.scope.names.lookup y = _ from f1] at k2
          cases k2
      · rw [c1] at e5
        cases e5
        exact cellK (I.freeC y _ c1) z
  · obtain ⟨u, z⟩ := I.cell y c (cm e)
    exact ⟨u, cellK (I.freeC y c (cm e)) z⟩
  · obtain ⟨v, o, ho, q⟩ := I.cell y c (cm e)
    exact un.free c o ho (I.freeC y c (cm e)) (by simp)
end
end V1
set_option Elab.async false
set_option linter.all false
set_option maxRecDepth 100000
set_option maxHeartbeats 4000000
namespace V1
open PySem PySem.Spec PySem.Calls PyProof.Rows L2 LamX
/-- what a call without arguments binds, the tuples of H being there -/
def BindL (H : Hp) (fd : FuncData) : Prop := ∀ (P : Program) (w : World) (HZ : Hp) (h : Heap), (∀ b xs, H b = some (.tup xs) → HZ b = some (.tup xs)) → HOk P w HZ h → ∃ bs : List (Str × Value), (∀ M, PySem.W.Looks M h (bindArgs fd ⟨[], []⟩) bs) ∧ ∀ y ∈ bs, fd.scope.names.lookup y.1 = some .local
theorem bindL_pure {H : Hp} {fd : FuncData} (h : bindArgs fd ⟨[], []⟩ = pure []) : BindL H fd := fun _ _ _ _ _ _ => ⟨[], fun M => PySem.W.Looks.of_pure h, fun y hy => by cases hy⟩
section
variable {X : Cx} {pins : List (Addr × Obj)} {σ : L2.St} {H : Hp} {s : Shared}
/-- call(), in the def that got the lambda at f -/
theorem pe_actD {CXg : CXT} {Eg : XK} {Ng : List Str} {qg : Str} {sg : Scope} {g f c' : Addr} {cdg pm ct dV : Value} {pa : Arguments} {body : Expr} {scope : Scope} {k i : Nat} {a : Str} {pn : List (Addr × Obj)} {xe : Value → Shared → Prop} {W : WX} {tb : XK → TE} {p1 p2 : Pos}
    (I : Inv X pins σ H s) (L : LamN X.N X.env.scope scope) (hf : s.heap.get? f = some (lamO (X.env.qual ++ "<lambda>") pa body scope (cloFrom X.env.cells scope.names []) dV pm c' ct)) (hfn : H f = none) (hfr : f ∉ frs X.stack)
    (hb : BindL H (lamF (X.env.qual ++ "<lambda>") pa body scope (cloFrom X.env.cells scope.names []) dV pm (.ref c') ct))
    (tk : Takes ((cxOf CXg X.prog X.w X.K X.mg X.base Ng qg sg g cdg X.A X.stack s H Eg).tr pn xe) W) (hr : Room (k + 1) (X.A.deeper (envOfC qg sg s.heap.objs.size g cdg)))
    (hbody : ∀ (A : Around) (outer : List Env) (s2 : Shared) (H2 : Hp) (E : XK), A = X.A.deeper (envOfC qg sg s.heap.objs.size g cdg) → Room k (A.deeper (lamEnv X scope s2.heap.objs.size f c')) → PE (lamCx X A outer s2 H2 E scope f c') body (tb E))
    (hN : Ng[i]? = some a) (hv : Vis sg a) (hd : (a == ("__debug__" : Str)) = false) (hcd : (a == ("__classdict__" : Str)) = false) :
    PE ((cxOf CXg X.prog X.w X.K X.mg X.base Ng qg sg g cdg X.A X.stack s H Eg).tr pn xe) (.Call (.Name a p1) [] [] p2)
      (fun σZ HZ Q => σZ[i]? = some (some (.ref f)) ∧ HZ c' = some (CodeO c' (X.env.qual ++ "<lambda>")) ∧ tb (WE W σZ) σ HZ Q) := by
  refine ⟨fun pZ sZ σZ HZ Q IZ ⟨hs, hc, ht⟩ => ?_⟩
  refine wpAny_Call_Name_kw (thn ((pe_var (pos := p1) (i := i) hN hv hd hcd).run pZ sZ σZ HZ (fun v H1 => v = .ref f ∧ H1 = HZ) IZ ⟨.ref f, hs, rfl, rfl⟩) fun u s1 ⟨v, H1, I1, r1, ev, eH⟩ => ?_)
  subst ev eH
  obtain rfl : u = Value.ref f := r1
  have un : Un (frs X.stack) [] H H1 s.heap s1.heap := I1.base
  have of1 : s1.heap.get? f = some (lamO (X.env.qual ++ "<lambda>") pa body scope (cloFrom X.env.cells scope.names []) dV pm c' ct) := un.keep f _ hf hfn hfr (fun z => nomatch (show f ∈ ([] : List Addr) from z))
  refine PySem.W.callWith_F0 ⟨_, _, _, _, of1⟩ ?_
  obtain ⟨⟨oc, vs, t, z1, z2, z3⟩, _, _⟩ := I1.hok c' _ hc
  obtain ⟨bs, b1, b2⟩ := hb _ _ H1 s1.heap un.tups I1.hok
  have rc : codeAny (model X.prog X.w) (X.A.deeper (envOfC qg sg s.heap.objs.size g cdg)) (.call (.ref f) ⟨[], []⟩) (CR (L2.CX X.prog X.w) (envOfC qg sg s.heap.objs.size g cdg :: X.stack) X.prog X.w H1 s1 Q (WE W σZ)) s1 := by
    refine PySem.W.kla_callFunE hr.depth of1 rfl L.co L.gen rfl ⟨c', oc, vs, t, rfl, z1, z2, z3⟩ ((b1 _).here ?_)
    refine wpAny_newFunctionEnv L.cell b2 (fun h₁ hns hsb => ⟨I1.nolimit.fresh _ hsb, ?_⟩) L.kind
    have kp : ∀ b o, s1.heap.get? b = some o → h₁.get? b = some o := fun b o e => hsb.extBut b o (Nat.ne_of_lt (Heap.lt_size e)) (Heap.get?_push_of_some _ e)
    have J := lam_in (E := WE W σZ) (f := f) (c' := c') (tk := s1.toks + bs.length) I L I1.env0 hr.hd un hns kp
    show codeAny _ _ (.expr body (lamEnv X scope _ f c')) _ _
    refine PySem.W.kla_codeExpr (wpAny_mono ((hbody _ _ s1 H1 (WE W σZ) rfl (hr.deeper _)).run [] _ _ H1 Q J ht) (fun v s' hq => ?_) fun e s' hq => hq)
    obtain ⟨w', H', J', rv, q⟩ := hq
    exact ⟨w', H', J'.os, J'.bare, J'.base, J'.hok, rv, q⟩
  refine wpAny_call (codeAny_mono rc fun r s' hq => ?_)
  match r, hq with
  | .error e, hq => exact passAt tk σZ pZ H1 s1 e s' I1 hq
  | .ok (.ret u), hq => exact I1.after hq
  | .ok .next, hq => exact hq.elim
  | .ok .brk, hq => exact hq.elim
  | .ok .cont, hq => exact hq.elim
end
end V1
set_option Elab.async false
set_option linter.all false
set_option maxRecDepth 100000
set_option maxHeartbeats 4000000
namespace V1
open PySem PySem.Spec PySem.Calls PyProof.Rows L2 LamX
/-- a lambda expression: it makes a function object whose call without arguments binds -/
def MkL (X : Cx) (T : List (Addr × Str)) (e : Expr) (pa : Arguments) (body : Expr) (sc : Scope) : Prop := ∀ (pins : List (Addr × Obj)) (σ : L2.St) (H : Hp) (s : Shared) (E Q : Value → Shared → Prop), Inv X pins σ H s → Tabs T H →
  (∀ (f c' : Addr) (pm ct dV : Value) (H1 : Hp) (s' : Shared), Inv X pins σ H1 s' → Made X T H H1 (X.env.qual ++ "<lambda>") f c' → s'.heap.get? f = some (lamO (X.env.qual ++ "<lambda>") pa body sc (cloFrom X.env.cells sc.names []) dV pm c' ct) →
    BindL H1 (lamF (X.env.qual ++ "<lambda>") pa body sc (cloFrom X.env.cells sc.names []) dV pm (.ref c') ct) → Q (.ref f) s') → wpAny (model X.prog X.w) X.A (eval e X.env) Q E s
/-- where the maker's lambdas stand: its code object, its table -/
structure LamP (X : Cx) (T : List (Addr × Str)) : Prop where
  ex : ∃ c P, TabB X.base X.mg c P ∧ X.env.code = .ref c ∧ (P, X.env.qual ++ "<lambda>") ∈ T ∧ ∀ p ∈ T, p.1 = P → p.2 = X.env.qual ++ "<lambda>"
section
variable {X : Cx} {T : List (Addr × Str)} {pa : Arguments} {body : Expr} {sc : Scope} {pos : Pos}
theorem mkl0 (LP : LamP X T) (L : LamN X.N X.env.scope sc) (hd : defaultsOf pa X.env = ([], []))
    (hb : ∀ (q : Str) (cl : List (Str × Addr)) (pm cv ct : Value), bindArgs (lamF q pa body sc cl .none pm cv ct) ⟨[], []⟩ = pure []) : MkL X T (.Lambda pa body sc pos) pa body sc := fun pins σ H s E Q I hT h => by
  obtain ⟨c, P, TB, ec, hm, hu⟩ := LP.ex
  refine PySem.W.kla_eval hd ?_
  rw [makeFunction_eq]
  simp only [List.zip_nil_right, List.filterMap_nil, List.isEmpty_nil, if_true, pure_bind]
  exact lam_mk I TB ec hm hu hT (L.has I.ok) fun f c' pm ct H1 s' I1 md e => h f c' pm ct .none H1 s' I1 md e (bindL_pure (hb _ _ _ _ _))
theorem mkl1 {a : Str} {i : Int} {j : Nat} {p2 : Pos} (LP : LamP X T) (L : LamN X.N X.env.scope sc) (hd : pa.defaults = [.Constant (.int i) j p2]) (hk : pa.kw_defaults = [])
    (hl : sc.names.lookup a = some .local)
    (hb : ∀ (q : Str) (cl : List (Str × Addr)) (tp : Addr) (pm cv ct u : Value), ∃ k, bindArgs (lamF q pa body sc cl (.ref tp) pm cv ct) ⟨[], []⟩ = seqItems? (.ref tp) >>= k ∧ k (some #[u]) = pure [(a, u)]) : MkL X T (.Lambda pa body sc pos) pa body sc := fun pins σ H s E Q I hT h => by
  obtain ⟨c, P, TB, ec, hm, hu⟩ := LP.ex
  refine PySem.W.kdv_lam (by rw [hd]; rfl) hk ?_
  rw [hd]
  refine PySem.W.kdv_all1 ?_
  refine wpAny_Constant_int ?_
  have I0 := I.tok (s.toks + 1)
  refine PyProof.Rows.evalAll_nil ?_
  rw [makeFunction_eq]
  simp only [List.zip_nil_right, List.filterMap_nil, List.isEmpty_nil, List.isEmpty_cons, Bool.false_eq_true, if_true, if_false, pure_bind]
  refine wpAny_bind (wpAny_newTextTuple ?_)
  generalize htp : s.heap.objs.size = tp
  have hn : H tp = none := I0.hok.fresh (Nat.le_of_eq htp)
  have hs : (s.heap.push { cls := .type "tuple", data := .seq (#[Value.int i s.toks]) }).get? tp = some { cls := .type "tuple", data := .seq (#[Value.int i s.toks]) } := by
    rw [← htp]
    exact Heap.get?_push_size _ rfl
  have I1 : Inv X pins σ (upd H tp (.tup [.int i])) { { s with toks := s.toks + 1 } with heap := s.heap.push { cls := .type "tuple", data := .seq (#[Value.int i s.toks]) }, toks := s.toks + 1 } :=
    I0.laid (fun b u e => Heap.get?_push_of_some _ e) (Nat.le_of_eq htp) ⟨(show 1 ≤ sizeLine by decide), [Value.int i s.toks], .cons ⟨_, rfl⟩ .nil, _, hs, rfl, _, rfl⟩
  have kp : ∀ b o, H b = some o → upd H tp (.tup [.int i]) b = some o := fun b o e => by
    rw [upd_ne (ne_of_none e hn)]
    exact e
  have hT1 : Tabs T (upd H tp (.tup [.int i])) := hT.ext kp
  refine lam_mk I1 TB ec hm hu hT1 (L.has I.ok) fun f c' pm ct H1 s' I2 md e => h f c' pm ct (.ref tp) H1 s' I2 ⟨(ExtN.of kp).trans md.ext, fun b z => md.nn b (same_nn kp b z), md.tabs, md.free, md.nofr, md.code⟩ e ?_
  intro P2 w2 HZ hz ht hok
  have et : HZ tp = some (.tup [.int i]) := ht _ _ (md.ext _ _ upd_same (fun ps z => by cases z))
  obtain ⟨_, its, r, o, e1, e2, n, e3⟩ := hok tp _ et
  cases r with
  | cons r1 r2 =>
    cases r2
    rename_i u
    obtain ⟨k, b1, b2⟩ := hb (X.env.qual ++ "<lambda>") (cloFrom X.env.cells sc.names []) tp pm (.ref c') ct u
    refine ⟨[(a, u)], fun M => ?_, fun y hy => ?_⟩
    · rw [b1]
      exact fun A Q E s kq q => wpAny_bind (wpAny_seqItems (kq _ _ e1) e3 (by rw [b2]; exact wpAny_pure q))
    · rcases List.mem_cons.mp hy with rfl | hy
      · exact hl
      · cases hy
end
end V1
set_option Elab.async false
set_option linter.all false
set_option maxRecDepth 100000
set_option maxHeartbeats 4000000
namespace V1
open PySem PySem.Spec PySem.Calls PyProof.Rows L2 LamX
/-- what a def that gets a lambda makes of its reading -/
abbrev HT : Type := (XK → Hp → VK → Prop) → Hp → VK → Prop
def Hears (X : Cx) (Ng : List Str) (x : Str) (sg : Scope) (g : Addr) (cdg : Value) (bg : List Stmt) (a q : Str) (TT : HT) : Prop :=
  ∀ (f c' : Addr) (s : Shared) (H : Hp) (Q : VK) (tl : XK → Hp → VK → Prop),
    (∀ (W : WX) (pn : List (Addr × Obj)) (xe : Value → Shared → Prop) (p1 p2 : Pos), Takes ((cxOf CX0 X.prog X.w X.K X.mg X.base Ng x sg g cdg X.A X.stack s H E0).tr pn xe) W →
      PE ((cxOf CX0 X.prog X.w X.K X.mg X.base Ng x sg g cdg X.A X.stack s H E0).tr pn xe) (.Call (.Name a p1) [] [] p2) (fun σZ HZ Q => σZ[0]? = some (some (.ref f)) ∧ HZ c' = some (CodeO c' q) ∧ tl (WE W σZ) HZ Q)) →
    H c' = some (CodeO c' q) → TT tl H Q →
    ∃ t, PSs (cxOf CX0 X.prog X.w X.K X.mg X.base Ng x sg g cdg X.A X.stack s H E0).nox bg t ∧ t { nx := fun _ H' => Q .non H', rt := Q } (L2.start Ng [.ref f]) H
def tHd (T : List (Addr × Str)) (TT : HT) (t : XK → TE) : TE := fun σ H Q => Tabs T H ∧ ∀ H1, ExtN H H1 → (∀ b, H b ≠ none → H1 b ≠ none) → Tabs T H1 → TT (fun E H' Q' => t E σ H' Q') H1 Q
section
variable {X : Cx} {T : List (Addr × Str)} {TT : HT} {x a : Str} {g : Addr} {fd : FuncData} {st : Stmt} {Ng : List Str} {e : Expr} {pa : Arguments} {body : Expr} {sc : Scope} {t : XK → TE} {k : Nat} {p pos : Pos}
/-- x(lambda: ..) -/
theorem pe_heard (hg : Gl X x) (hm : X.mg x = some (.ref g)) (F : Fun X.K x x st g fd) (hb : Binds X.K fd [a] []) (Sg : FnScope Ng [a] (defScope st)) (h0 : Ng[0]? = some a) (hva : Vis (defScope st) a)
    (M : MkL X T e pa body sc) (L : LamN X.N X.env.scope sc) (hr : Room (k + 2) X.A) (hgd : X.A.guards = some [])
    (hG : ∀ cdv, Hears X Ng x (defScope st) g cdv (defBody st) a (X.env.qual ++ "<lambda>") TT)
    (hbody : ∀ (A : Around) (outer : List Env) (s2 : Shared) (H2 : Hp) (E : XK) (f c' : Addr), (lamCx X A outer s2 H2 E sc f c').A.guards = some [] → Room k (lamCx X A outer s2 H2 E sc f c').A → PE (lamCx X A outer s2 H2 E sc f c') body (t E))
    (hdb : (x == ("__debug__" : Str)) = false := by decide) (hd : (a == ("__debug__" : Str)) = false := by decide) (hcd : (a == ("__classdict__" : Str)) = false := by decide)
    (hs : starEach [e] X.env = (false, eval e X.env) :: starEach [] X.env := by rfl) : PE X (.Call (.Name x p) [e] [] pos) (tHd T TT t) := by
  refine ⟨fun pins s σ H Q I ⟨hT, h⟩ => ?_⟩
  refine wpAny_Call_Name_kw (ld_glob I hg hm ?_ hdb)
  refine PySem.W.callWith_K (h₀ := X.base) I.ok.mod.kin F.kp ?_ hs (by rfl)
  rw [hs]
  show wpAny _ _ (spliced ((false, eval e X.env) :: backTo pos (starEach [] X.env))) _ _ s
  refine PySem.Calls.spliced_cons (M pins σ H s _ _ I hT fun f c' pm ct dV H1 s' I1 md hf hB => ?_)
  refine PySem.Calls.spliced_nil ⟨I1.kIn, ?_⟩
  have b1 := hb s' [.ref f] I1.kIn rfl
  obtain ⟨oc, od, kV, doc, pm2, an, cdv, ct2, osl, e1, lk, hcd2⟩ := F.ex
  have rc : codeAny (model X.prog X.w) X.A (.call (.ref g) ⟨[.ref f], []⟩) (CR CX0 X.stack X.prog X.w H1 s' Q E0) s' := by
    subst e1
    refine LamX.run_ofS (k := k + 1) (N := Ng) (ps := [a]) (us := [.ref f]) (vs := [.ref f]) lk hcd2 Sg hr I1.env0 b1 (.cons rfl .nil) rfl fun hr2 => ?_
    obtain ⟨t2, ht, hq⟩ := hG cdv f c' s' H1 Q (fun E H' Q' => t E σ H' Q') (fun W pn xe p1 p2 tk => pe_actD (k := k) (i := 0) (tb := t) I1 L hf md.free md.nofr hB tk hr2 (fun A outer s2 H2 E eA hr3 => hbody A outer s2 H2 E f c' (by subst eA; exact hgd) hr3) h0 hva hd hcd) md.code (h H1 md.ext md.nn md.tabs)
    exact ⟨t2, ht.nox, hq⟩
  refine wpAny_call (codeAny_mono rc fun r s2 hq => ?_)
  match r, hq with
  | .error e, hq => exact (show False from hq).elim
  | .ok (.ret u), hq => exact I1.after hq
  | .ok .next, hq => exact hq.elim
  | .ok .brk, hq => exact hq.elim
  | .ok .cont, hq => exact hq.elim
end
end V1
set_option Elab.async false
set_option linter.all false
set_option maxRecDepth 100000
set_option maxHeartbeats 4000000
/-! try: return [call()] / except C as caught: return (word, caught.field) -/
namespace V1
open PySem PySem.Spec PySem.Calls PyProof.Rows L2 LamX
def TT1 (C : Addr) (wd fld : Str) : HT := fun tl H Q => ∀ (E : XK) (Q' : VK), (∀ (dd : Addr) (fs : List (Str × V)) (v : V) (H' : Hp), H' dd = some (.xd fs) → fs.lookup fld = some v → (∀ p, H' p = none → Q (.ref p) (upd H' p (.tup [.str wd, v]))) → E (.ref C) (some dd) H') →
  (∀ (v : V) (H1 : Hp), (∀ p, H1 p = none → Q (.ref p) (upd H1 p (.lst [v]))) → Q' v H1) → tl E H Q'
theorem hears1 {X : Cx} {x a q ec cn wd fld : Str} {sg : Scope} {g C : Addr} {cdg : Value} {j n9 : Nat} {p1 p2 p3 p4 p5 p6 p7 p8 p9 p10 p11 p12 : Pos} (hge : sg.names.lookup ec = some .globalImplicit) (hme : X.mg ec = some (.ref C)) (hde : (ec == ("__debug__" : Str)) = false)
    (ht : PySem.W.exmOne X.K (.ref C) (.ref C) = some true) (XF : XfC X.K C) (no : PySem.W.findIn X.K (.ref C) fld = some none) (hac : (a == cn) = false) (hlc : sg.names.lookup cn = some .local) (hcn1 : (cn == ("__debug__" : Str)) = false) (hcn2 : (cn == ("__classdict__" : Str)) = false)
    (hat : ∀ env : Env, attributeBase (.Name cn p7) fld env (eval (.Name cn p7) env) = eval (.Name cn p7) env) :
    Hears X [a, cn] x sg g cdg [.Try [.Return (some (.List [.Call (.Name a p1) [] [] p2] p3)) p4] [.ExceptHandler (some (.Name ec p5)) (some cn) [.Return (some (.Tuple [.Constant (.str wd) j p6, .Attribute (.Name cn p7) fld p8] n9 p9)) p10] p11] [] [] p12] a q (TT1 C wd fld) := by
  intro f c' s H Q tl act hc h
  have hnd : ([a, cn] : List Str).Nodup := by
    simp only [List.nodup_cons, List.mem_singleton, List.not_mem_nil, not_false_eq_true, List.nodup_nil, and_true]
    intro z
    subst z
    simp at hac
  have hgl : Gl (cxOf CX0 X.prog X.w X.K X.mg X.base [a, cn] x sg g cdg X.A X.stack s H E0).nox ec := hge
  refine ⟨_, pss_one (ps_try_as (X := (cxOf CX0 X.prog X.w X.K X.mg X.base [a, cn] x sg g cdg X.A X.stack s H E0).nox) (c := .ref C) (i := 1) (Wout := fun _ _ _ _ => False)
      (tb := fun W D σ H => σ[0]? = some (some (.ref f)) ∧ H c' = some (CodeO c' q) ∧ tl (WE W σ) H fun v H1 => (1 ≤ sizeLine ∧ ∀ p, H1 p = none → D.rt (.ref p) (upd H1 p (.lst [v]))))
      (ts := fun a' cls d => tRet (tTup (tCons (tC (.str wd)) (tCons (tXf a' cls d C fld (tVar 1)) tNil))))
      rfl rfl hnd rfl hlc ⟨hgl, hde, .inl hme⟩ L2.takes0 (fun W pn xe tk _ => ?_) (fun a' oe cls d pn hz hf => pss_one (ps_ret (pe_tup (pa_cons pe_str (pa_cons (pe_xf (X := (cxOf CX0 X.prog X.w X.K X.mg X.base [a, cn] x sg g cdg X.A X.stack s H E0).nox) XF no hz hf (pe_var (i := 1) rfl (Or.inl hlc) hcn1 hcn2) (hat _)) pa_nil)))))), ?_⟩
  · refine ⟨fun pins s' σ H' D I ⟨h1, h2, h3⟩ => ?_⟩
    have hq := pss_one (ps_ret (pos := p4) (pe_lst (pos := p3) (pa_cons (act W pn xe p1 p2 tk) pa_nil)))
    exact hq.run pins s' σ H' D I ⟨h1, h2, h3⟩
  · refine ⟨rfl, hc, h _ _ (fun dd fs v H' e1 e2 e3 => ?_) fun v H1 hq => ⟨(show 1 ≤ sizeLine by decide), hq⟩⟩
    refine ⟨true, ht, fun _ a' ha => ?_, fun z => by cases z⟩
    exact ⟨.ref a', rfl, rfl, rfl, dd, fs, v, rfl, e1, e2, (show 2 ≤ sizeLine by decide), e3⟩
end V1
set_option Elab.async false
set_option linter.all false
set_option maxRecDepth 100000
set_option maxHeartbeats 4000000
/-! By data: what a def that gets a lambda tells; defs that may raise. -/
namespace V1
open PySem PySem.Spec PySem.Calls PyProof.Rows L2 LamX
/-- by data: it raises C, its field holding dq -/
def RzD (L : Rl) (C : Addr) (fld : Str) (t : XK → TE) (Γ : List (Option PyData)) (dq : PyData) : Prop := ∀ (E : XK) (A : Addr → Prop) (σ : L2.St) (H : Hp), Inn A H → EnvOk L A σ H Γ → L.G 0 H →
  (∀ (v : V) (dd : Addr) (H' : Hp), L.R 0 H H' → H' dd = some (.xd [(fld, v)]) → Dv L.K A H' v dq → E (.ref C) (some dd) H') → ∀ Q : VK, t E σ H Q
section
variable {L : Rl} {Γ : List (Option PyData)} {T : List (Addr × Str)} {C : Addr} {wd fld : Str} {t : XK → TE} {d dq : PyData}
theorem laid_same {H : Hp} {p : Addr} {o : HO} (hp : H p = none) : Same H (upd H p o) := fun b u e => by
  rw [upd_ne (ne_of_none e hp)]
  exact e
theorem eg_heardV (LL : LamL L T) (hd : d ≠ mark) (h : ∀ E : XK, EvD L (t E) Γ d) : EvD L (tHd T (TT1 C wd fld) t) Γ (.list [d]) := fun A σ H hi he hg Q q => by
  refine ⟨LL.tb hg, fun H1 e nn tb E Q' hE hQ => ?_⟩
  have r1 : L.R 0 H H1 := LL.of hg e tb nn
  refine h E A σ H1 (hi.r r1) (he.r r1) (Rl.gR (b := 0) hg r1) Q' fun v d' H2 r2 hv ed => hQ v H2 fun p hp => ?_
  subst ed
  have r12 := L.tr (a := 0) (b := 0) r1 r2
  have sm := laid_same (o := .lst [v]) hp
  have r3 := L.same (Rl.gR (b := 0) hg r12) sm
  have hi2 := hi.r r12
  exact q _ _ _ (L.tr (a := 0) (b := 0) r12 r3) (.inr (.lst (hi2.no hp) upd_same (.cons ((hv.ne hd).map fun b o na e k => ⟨na, sm b o e⟩) .nil))) rfl
theorem eg_heardX (LL : LamL L T) (h : RzD L C fld t Γ dq) : EvD L (tHd T (TT1 C wd fld) t) Γ (.tuple [.str wd, dq]) := fun A σ H hi he hg Q q => by
  refine ⟨LL.tb hg, fun H1 e nn tb E Q' hE hQ => ?_⟩
  have r1 : L.R 0 H H1 := LL.of hg e tb nn
  refine h E A σ H1 (hi.r r1) (he.r r1) (Rl.gR (b := 0) hg r1) (fun v dd H2 r2 hx hv => hE dd _ v H2 hx (by simp [List.lookup]) fun p hp => ?_) Q'
  have r12 := L.tr (a := 0) (b := 0) r1 r2
  have sm := laid_same (o := .tup [.str wd, v]) hp
  have r3 := L.same (Rl.gR (b := 0) hg r12) sm
  have hi2 := hi.r r12
  exact q _ _ _ (L.tr (a := 0) (b := 0) r12 r3) (.inr (.tup (hi2.no hp) upd_same (.cons (.str wd) (.cons (hv.map fun b o na e k => ⟨na, sm b o e⟩) .nil)))) rfl
end
/-- a def that leaves all, and answers or raises C -/
def spX (K : PySem.W.Frag) (C : Addr) (fld : Str) {α : Type} (args : α → List PyData) (ok : α → Prop) (res : α → Except PyData PyData) : Sp := fun vs H Q E => ∃ (a : α) (A : Addr → Prop), ok a ∧ Inn A H ∧ vs.length = (args a).length ∧ (∀ (i : Nat) d, (args a)[i]? = some d → ∃ v, vs[i]? = some v ∧ Dv K A H v d) ∧
  (∀ d, res a = .ok d → ∀ v H', Same H H' → Dv K A H' v d → Q v H') ∧ ∀ q, res a = .error q → ∀ v dd H', Same H H' → H' dd = some (.xd [(fld, v)]) → Dv K A H' v q → E (.ref C) (some dd) H'
section
variable {L : Rl} {Γ : List (Option PyData)} {C : Addr} {fld : Str} {α : Type} {args : α → List PyData} {ok : α → Prop} {res : α → Except PyData PyData} {ta : TA} {d dq : PyData}
theorem eg_callXv {E : L2.St → XK} (a : α) (ha : EaD L ta Γ (args a)) (ho : ok a) (hr : res a = .ok d) (hn : nomk (args a) = true := by rfl) : EvD L (tCallS (spX L.K C fld args ok res) E ta) Γ d := fun A σ H hi he hg Q q => ha A σ H hi he hg _ fun vs ds H1 r1 l hv p => by
  subst p
  refine ⟨a, A, ho, hi.r r1, l, fun i d e => ?_, fun d2 e v H' sm hd => ?_, fun q2 e => by rw [hr] at e; cases e⟩
  · obtain ⟨v, e1, e2⟩ := hv i d e
    exact ⟨v, e1, e2.ne (nomk_ne hn i d e)⟩
  · rw [hr] at e
    cases e
    exact q v _ H' (L.tr (a := 0) (b := 0) r1 (L.same (Rl.gR (b := 0) hg r1) sm)) (.inr hd) rfl
theorem rz_callX (a : α) (ha : EaD L ta Γ (args a)) (ho : ok a) (hr : res a = .error dq) (hn : nomk (args a) = true := by rfl) : RzD L C fld (fun E => tCallS (spX L.K C fld args ok res) (fun _ => E) ta) Γ dq := fun E A σ H hi he hg hE Q => ha A σ H hi he hg _ fun vs ds H1 r1 l hv p => by
  subst p
  refine ⟨a, A, ho, hi.r r1, l, fun i d e => ?_, fun d2 e => (by rw [hr] at e; cases e), fun q2 e v dd H' sm hx hv2 => ?_⟩
  · obtain ⟨v, e1, e2⟩ := hv i d e
    exact ⟨v, e1, e2.ne (nomk_ne hn i d e)⟩
  · rw [hr] at e
    cases e
    exact hE v dd H' (L.tr (a := 0) (b := 0) r1 (L.same (Rl.gR (b := 0) hg r1) sm)) hx hv2
end
end V1
set_option Elab.async false
set_option linter.all false
set_option maxRecDepth 100000
set_option maxHeartbeats 4000000
/-! The end of a law row with tables of code objects, by a promise that knows the guards. -/
namespace V1
open PySem PySem.Spec PyProof.Rows L2 LamX
/-- the tables at the head: code objects and their tables, empty, off the written part -/
structure Tb0 (K : PySem.W.Frag) (h : Heap) (cs : List (Addr × Addr)) : Prop where
  emp : ∀ p ∈ cs, h.get? p.2 = some { cls := .none, data := .fields #[] }
  off : ∀ p ∈ cs, K.lookup p.2 = none
  hd : ∀ p ∈ cs, PySem.W.CodeHd h p.1 p.2
/-- the tracked things at the law's call: the script, the tables -/
structure Trk (cs : List (Addr × Addr)) (a : Addr) (H : Hp) : Prop where
  tb : ∀ p ∈ cs, H p.2 = some (.tbl #[])
  kd : ∀ b, H b = none ∨ b ∈ cs.map (·.2) ∨ ∃ o xs, H b = some (.frz o (.lst xs))
  at_ : ∀ b, H b ≠ none → b = a ∨ b ∈ cs.map (·.2)
theorem not_fields {d : Data} (h : ∀ vs, d ≠ .fields vs) : d ≠ .fields #[] := h _
section
variable {P : Program} {w : World} {K : PySem.W.Frag} {mg mb : Str → Option Value} {k : Nat} {fa a : Addr} {cs : List (Addr × Addr)} {fd : FuncData} {x : Str} {sp : Sp} {s1 : Shared} {vs : List Value} {ns : List Int}
theorem tb_in {h : Heap} (t : Tb0 K h cs) (b : Addr) (hb : b ∈ cs.map (·.2)) : h.get? b = some { cls := .none, data := .fields #[] } := by
  obtain ⟨p, hp, e⟩ := List.mem_map.mp hb
  subst e
  exact t.emp p hp
/-- what is neither a list nor an empty record is not tracked -/
theorem trk_no {H : Hp} (t : Tb0 K s1.heap cs) (R : Trk cs a H) (ha : s1.heap.get? a = some { cls := .type "list", data := .seq vs.toArray }) {b : Addr} {o : Obj} (e : s1.heap.get? b = some o) (h1 : ∀ us n, o.data ≠ .seq us n) (h2 : o.data ≠ .fields #[]) : H b = none := by
  cases q : H b with
  | none => rfl
  | some u =>
    rcases R.at_ b (by rw [q]; exact Option.some_ne_none _) with z | z
    · subst z
      rw [ha] at e
      cases e
      exact (h1 _ _ rfl).elim
    · rw [tb_in t b z] at e
      cases e
      exact (h2 rfl).elim
theorem end_core {H : Hp} (KX : K.In s1.heap) (hns : s1.heap.Ns mainGlobals mg) (hb : s1.heap.Ns builtinsNs mb) (hbb : ∀ x : Str, x ≠ "__name__" → mb x = bootBuiltins x) (nl : s1.heap.NoLimit) (hg : s1.gens = #[]) (t : Tb0 K s1.heap cs)
    (hbm : ∃ (bm : Addr) (ob : Obj), mg "__builtins__" = some (.ref bm) ∧ bm ≠ builtinsNs ∧ s1.heap.get? bm = some ob ∧ ob.cls = .type "module" ∧ ob.dict = some builtinsNs ∧ ob.data = .plain)
    (ha : s1.heap.get? a = some { cls := .type "list", data := .seq vs.toArray }) (hr : Room k callerA)
    (F : ∀ base : Heap, K.In base → base.Ns mainGlobals mg → (∀ p ∈ cs, TabB base mg p.1 p.2) → FnG P w K mg base k fa fd [x] sp) (bnd : ∀ (s : Shared) (u : Value), BindsTo s fd ⟨[u], []⟩ [(x, u)])
    (R : Trk cs a H) (ok : HOk P w H s1.heap) (nk : H a ≠ none → K.lookup a = none) (hsp : sp [.ref a] H (fun v _ => v = .bl true) fun _ _ _ => False) :
    codeAny (model P w) callerA (.call (.ref fa) ⟨[.ref a], []⟩) (fun r t => r = .ok (.ret (.bool true)) ∧ OldK s1.heap t.heap ∧ t.os = s1.os ∧ AllBare t.gens) s1 := by
  have dk : ∀ {b : Addr} {o : Obj} {es : Array DictEntry} {ep : Nat}, s1.heap.get? b = some o → o.data = .dict es ep → H b = none := by
    intro b o es ep e d
    refine trk_no t R ha e (fun us n z => ?_) (fun z => ?_) <;> · rw [d] at z; cases z
  have nsK : ∀ {b : Addr} {m : Str → Option Value}, s1.heap.Ns b m → (hidT s1.heap H).Ns b m := by
    rintro b m ⟨o, es, ep, e, d, r⟩
    exact ⟨o, es, ep, hidT_get e (dk e d), d, r⟩
  have hK2 : K.In (hidT s1.heap H) := by
    intro b o e
    refine hidT_get (KX b o e) ?_
    cases q : H b with
    | none => rfl
    | some u =>
      rcases R.at_ b (by rw [q]; exact Option.some_ne_none _) with z | z
      · subst z
        rw [nk (by rw [q]; exact Option.some_ne_none _)] at e
        cases e
      · obtain ⟨p, hp, ep⟩ := List.mem_map.mp z
        subst ep
        rw [t.off p hp] at e
        cases e
  have hM : Mod K mg (hidT s1.heap H) := ⟨hK2, nsK hns, ⟨mb, nsK hb, hbb⟩, let ⟨mc, g1, g2⟩ := nl; ⟨mc, nsK g1, g2⟩⟩
  obtain ⟨og, eg, pg, ng1, ng2, ng3⟩ := hns
  have TB : ∀ p ∈ cs, TabB (hidT s1.heap H) mg p.1 p.2 := by
    intro p hp
    have hE := t.emp p hp
    constructor
    · obtain ⟨o, us, file, tf, fl, tg, inF, tx, tt, e1, r1, r2, r3, r4⟩ := t.hd p hp
      refine ⟨o, us, file, tf, fl, tg, inF, tx, tt, hidT_get e1 (trk_no t R ha e1 (fun vs n z => ?_) fun z => ?_), r1, r2, r3, r4⟩
      · rw [r2] at z
        cases z
      · rw [r2] at z
        cases z
        simp at r3
    · obtain ⟨bm, ob, b1, b2, b3, b4, b5, b6⟩ := hbm
      refine ⟨bm, ob, b1, b2, fun q => ?_, fun q => ?_, hidT_get b3 (trk_no t R ha b3 (fun vs n z => ?_) fun z => ?_), b4, b5, b6⟩
      · subst q
        rw [ng1] at b3
        cases b3
        rw [ng2] at b6
        cases b6
      · subst q
        rw [hE] at b3
        cases b3
        cases b6
      · rw [b6] at z
        cases z
      · rw [b6] at z
        cases z
    · intro z
      rw [z, hE] at ng1
      cases ng1
      cases ng2
  have e0 : Env0 P w K mg (hidT s1.heap H) callerA [] s1 H := { frames := rfl, mod := hM, bs := fun b o e => of_hidT e, bsz := Nat.le_of_eq (hidT_size _ _), funs := trivial, frf := fun b hb => absurd (show b ∈ ([] : List Addr) from hb) (by simp), hok := ok, bare := .of_eq hg }
  refine codeAny_mono ((F _ hK2 (nsK ⟨og, eg, pg, ng1, ng2, ng3⟩) TB).run callerA [] s1 H ⟨[.ref a], []⟩ [.ref a] [.ref a] _ _ rfl hr e0 (bnd s1 (.ref a)) (.cons rfl .nil) hsp) fun r t2 h => ?_
  match r, h with
  | .error e, h => exact h.elim
  | .ok .next, h => exact h.elim
  | .ok .brk, h => exact h.elim
  | .ok .cont, h => exact h.elim
  | .ok (.ret u), h =>
    obtain ⟨v, H2, os, bare, un, ok2, r2, q⟩ := h
    obtain rfl : v = .bl true := q
    obtain rfl : u = Value.bool true := r2
    have kept : ∀ b o, b ∉ cs.map (·.2) → s1.heap.get? b = some o → t2.heap.get? b = some o := by
      intro b o nb e
      rcases R.kd b with z | z | ⟨ob, xs, z⟩
      · exact un.keep b o e z (fun y => absurd (show b ∈ ([] : List Addr) from y) (by simp)) (by simp)
      · exact absurd z nb
      · have e1 := (ok b _ z).1
        have e2 := (ok2 b _ (un.frzs b ob _ z)).1
        rw [e] at e1
        cases e1
        exact e2
    have grow : ∀ p ∈ cs, ∃ more : Array Value, t2.heap.get? p.2 = some { cls := .none, data := .fields more } := by
      intro p hp
      obtain ⟨more, z⟩ := un.tbls p.2 #[] (R.tb p hp)
      exact ⟨_, ok2 p.2 _ z⟩
    refine ⟨rfl, ⟨fun b o e => ?_, fun b o e => ?_⟩, os, bare⟩
    · by_cases hb : b ∈ cs.map (·.2)
      · obtain ⟨p, hp, ep⟩ := List.mem_map.mp hb
        subst ep
        obtain ⟨more, hm⟩ := grow p hp
        have eo : o = { cls := .none, data := .fields #[] } := Option.some.inj (e.symm.trans (t.emp p hp))
        subst eo
        refine .inr (.inl ⟨((t.hd p hp).tab (t.emp p hp)).isCodeTable, rfl, #[], more, rfl, ?_⟩)
        rw [Array.empty_append]
        exact hm
      · exact .inl (kept b o hb e)
    · by_cases hb : b ∈ cs.map (·.2)
      · obtain ⟨p, hp, ep⟩ := List.mem_map.mp hb
        subst ep
        obtain ⟨more, hm⟩ := grow p hp
        exact ⟨_, hm⟩
      · exact ⟨o, kept b o hb e⟩
end
end V1
set_option Elab.async false
set_option linter.all false
set_option maxRecDepth 100000
set_option maxHeartbeats 4000000
namespace V1
open PySem PySem.Spec PyProof.Rows L2 LamX
section
variable {P : Program} {w : World} {K : PySem.W.Frag} {mg mb : Str → Option Value} {k : Nat} {fa a : Addr} {cs : List (Addr × Addr)} {fd : FuncData} {x : Str} {sp : Sp} {s1 : Shared} {vs : List Value} {ns : List Int}
theorem endGT (KX : K.In s1.heap) (hns : s1.heap.Ns mainGlobals mg) (hb : s1.heap.Ns builtinsNs mb) (hbb : ∀ x : Str, x ≠ "__name__" → mb x = bootBuiltins x) (nl : s1.heap.NoLimit) (hg : s1.gens = #[]) (t : Tb0 K s1.heap cs)
    (hbm : ∃ (bm : Addr) (ob : Obj), mg "__builtins__" = some (.ref bm) ∧ bm ≠ builtinsNs ∧ s1.heap.get? bm = some ob ∧ ob.cls = .type "module" ∧ ob.dict = some builtinsNs ∧ ob.data = .plain)
    (ha : s1.heap.get? a = some { cls := .type "list", data := .seq vs.toArray }) (hi : IntsAre vs ns) (hl : ns.length ≤ sizeLine) (hr : Room k callerA)
    (F : ∀ base : Heap, K.In base → base.Ns mainGlobals mg → (∀ p ∈ cs, TabB base mg p.1 p.2) → FnG P w K mg base k fa fd [x] sp) (bnd : ∀ (s : Shared) (u : Value), BindsTo s fd ⟨[u], []⟩ [(x, u)])
    (hsp : ∀ H : Hp, (∀ p ∈ cs, H p.2 = some (.tbl #[])) → SqL K H a (ns.map V.int) → sp [.ref a] H (fun v _ => v = .bl true) fun _ _ _ => False) :
    codeAny (model P w) callerA (.call (.ref fa) ⟨[.ref a], []⟩) (fun r t => r = .ok (.ret (.bool true)) ∧ OldK s1.heap t.heap ∧ t.os = s1.os ∧ AllBare t.gens) s1 := by
  have rv := vals_ints hi
  have lenV := hi.length
  have aT : a ∉ cs.map (·.2) := by
    intro z
    have q := tb_in t a z
    rw [ha] at q
    cases q
  have mT : ∀ p ∈ cs, p.2 ∈ cs.map (·.2) := fun p hp => List.mem_map.mpr ⟨p, hp, rfl⟩
  have nT : ∀ p ∈ cs, p.2 ≠ a := fun p hp z => aT (by rw [← z]; exact mT p hp)
  generalize hfz : ({ cls := .type "list", data := .seq vs.toArray } : Obj) = fz at ha
  generalize hH0 : (fun b => if b ∈ cs.map (·.2) then some (HO.tbl #[]) else none : Hp) = H0
  have t0 : ∀ b, b ∈ cs.map (·.2) → H0 b = some (.tbl #[]) := fun b hb => by rw [← hH0]; exact if_pos hb
  have n0 : ∀ b, b ∉ cs.map (·.2) → H0 b = none := fun b hb => by rw [← hH0]; exact if_neg hb
  have ok0 : ∀ b u, H0 b = some u → b ∈ cs.map (·.2) ∧ u = .tbl #[] := fun b u e => by
    by_cases hb : b ∈ cs.map (·.2)
    · rw [t0 b hb] at e
      exact ⟨hb, (Option.some.inj e).symm⟩
    · rw [n0 b hb] at e
      cases e
  cases hk : K.lookup a with
  | some o =>
    have e := KX a o hk
    rw [ha] at e
    have eo : fz = o := Option.some.inj e
    subst eo
    refine end_core (vs := vs) (H := H0) KX hns hb hbb nl hg t hbm (by rw [hfz]; exact ha) hr F bnd ⟨fun p hp => t0 _ (mT p hp), fun b => ?_, fun b z => ?_⟩ (fun b u e => ?_) (fun z => absurd (n0 a aT) z) (hsp H0 (fun p hp => t0 _ (mT p hp)) (.inr ⟨_, vs.toArray, _, hk, by rw [← hfz], by rw [← hfz], by rw [← hfz], by rw [List.size_toArray, lenV]; exact hl, by simpa using rv⟩))
    · by_cases hb : b ∈ cs.map (·.2)
      · exact .inr (.inl hb)
      · exact .inl (n0 b hb)
    · by_cases hb : b ∈ cs.map (·.2)
      · exact .inr hb
      · exact absurd (n0 b hb) z
    · obtain ⟨m, rfl⟩ := ok0 b u e
      exact tb_in t b m
  | none =>
    have hH : ∀ b, b ≠ a → upd H0 a (.frz fz (.lst (ns.map V.int))) b = H0 b := fun b n => upd_ne n
    refine end_core (vs := vs) (H := upd H0 a (.frz fz (.lst (ns.map V.int)))) KX hns hb hbb nl hg t hbm (by rw [hfz]; exact ha) hr F bnd ⟨fun p hp => by rw [hH _ (nT p hp)]; exact t0 _ (mT p hp), fun b => ?_, fun b z => ?_⟩ (fun b u e => ?_) (fun _ => hk) (hsp _ (fun p hp => by rw [hH _ (nT p hp)]; exact t0 _ (mT p hp)) (.inl (.inr ⟨fz, upd_same⟩)))
    · by_cases hba : b = a
      · subst hba
        exact .inr (.inr ⟨_, _, upd_same⟩)
      · rw [hH b hba]
        by_cases hb : b ∈ cs.map (·.2)
        · exact .inr (.inl hb)
        · exact .inl (n0 b hb)
    · by_cases hba : b = a
      · exact .inl hba
      · rw [hH b hba] at z
        by_cases hb : b ∈ cs.map (·.2)
        · exact .inr hb
        · exact absurd (n0 b hb) z
    · by_cases hba : b = a
      · subst hba
        rw [upd_same] at e
        have eu := Option.some.inj e
        subst eu
        exact ⟨ha, by rw [List.length_map]; exact hl, vs, _, rv, by rw [ha, ← hfz]⟩
      · rw [hH b hba] at e
        obtain ⟨m, rfl⟩ := ok0 b u e
        exact tb_in t b m
end
/-- the end, where the defs make lambdas -/
theorem walkGT {l : PySem.W.OpenLaw} {n k : Nat} {q : Program} {loose : List Str} {XP : (Str → Option Value) → Heap → Prop} {YP : World → Heap → Prop} {d : DefRec} {x : Str}
    (hn : l.most = some n) (hn2 : n ≤ sizeLine) (hdf : d.params.defaults = []) (hr : Room k callerA)
    (F : ∀ (w : World) (mg : Str → Option Value) (fa : Addr) (h : Heap), YP w h → h.Ns mainGlobals mg → mg d.name = some (.ref fa) →
      ∃ (K : PySem.W.Frag) (fd : FuncData) (sp : Sp) (cs : List (Addr × Addr)), K.In h ∧ Tb0 K h cs ∧ (∀ (s : Shared) (u : Value), BindsTo s fd ⟨[u], []⟩ [(x, u)]) ∧
        (∀ (H : Hp) (a : Addr) (ns : List Int), ns.length ≤ n → (∀ p ∈ cs, H p.2 = some (.tbl #[])) → SqL K H a (ns.map V.int) → sp [.ref a] H (fun v _ => v = .bl true) fun _ _ _ => False) ∧
        ∀ base : Heap, K.In base → base.Ns mainGlobals mg → (∀ p ∈ cs, TabB base mg p.1 p.2) → FnG l.prog w K mg base k fa fd [x] sp) :
    PySem.W.WalkO q loose XP YP l.row.toRowW d [] (fun f vs => PySem.call f vs) := by
  refine Att.attach_call hn hdf fun w s0 s1 mg mb fa o pm cd doc a vs ns G Y ho hd hcd hmg hobj hints hlen hg => ?_
  obtain ⟨K, fd, sp, cs, KX, t, hb, hsp, hF⟩ := F w mg fa _ Y G.T.g hmg
  exact endGT KX G.T.g G.T.b G.T.builtins G.T.nolimit hg t G.T.bmain hobj hints (Nat.le_trans hlen hn2) hr hF hb fun H hT hS => hsp H a ns hlen hT hS
end V1
set_option Elab.async false
set_option linter.all false
set_option maxRecDepth 100000
set_option maxHeartbeats 4000000
/-! Defs that make lambdas: the code object is told; promises that leave all but the tables. -/
namespace V1
open PySem PySem.Spec PyProof.Rows L2 LamX
section
variable {P : Program} {w : World} {K : PySem.W.Frag} {mg : Str → Option Value} {base : Heap}
theorem okGc {x qual : Str} {st : Stmt} {f : Addr} {fd : FuncData} {N ps : List Str} {k : Nat} {sp : Sp} (F : Fun K x qual st f fd) (S : FnScope N ps (defScope st)) (hlen : ∀ vs H Q E, sp vs H Q E → vs.length = ps.length)
    (bd : ∀ (cdv : Value) (A : Around) (outer : List Env) (s : Shared) (H : Hp) (vs : List V) (Q : VK) (E : XK), fd.code = cdv → A.guards = some [] → Room k (A.deeper (envOfC qual (defScope st) s.heap.objs.size f cdv)) → sp vs H Q E →
      ∃ t, PSs (cxOf CX0 P w K mg base N qual (defScope st) f cdv A outer s H E).nox (defBody st) t ∧ t { nx := fun _ H' => Q .non H', rt := Q } (start N vs) H) : FnG P w K mg base (k + 1) f fd ps sp := by
  obtain ⟨oc, od, kV, doc, pm, an, cdv, ct, osl, e1, lk, hcd⟩ := F.ex
  have ec : fd.code = cdv := by rw [e1]
  have bd2 := fun A outer s H vs Q E => bd cdv A outer s H vs Q E ec
  subst e1
  constructor
  · exact hlen
  · intro A outer s H args us vs Q E hgd hr e0 hb r hs0
    have kin := e0.mod.kin.keeps (fun b o z => (e0.bs b o z).1)
    have lim := e0.mod.nolimit.keeps (fun b o z => (e0.bs b o z).1)
    have par : ∀ y ∈ ps.zip us, (defScope st).names.lookup y.1 = some .local ∨ ((defScope st).names.lookup y.1 = some .cell ∧ ((cellsFrom (s.heap.objs.size + 1) (defScope st).names []).lookup y.1).isSome = true) := by
      rintro ⟨n, v⟩ hy
      exact (S.par n (List.of_mem_zip hy).1).imp id fun q => ⟨q, PySem.W.cellsFrom_some _ _ _ (.inl q)⟩
    refine codeAny_call_function hr.depth (kin _ _ lk) rfl S.co S.gen rfl (PySem.W.codeRec_of kin hcd) (hb _ _ _ _ (wpAny_newFunctionEnv_cells S.kind par fun env he s1 y => ?_))
    subst he
    refine ⟨lim.keeps y.toInCall.keep, codeAny_func ?_⟩
    obtain ⟨t, ht, hq⟩ := bd2 A outer s H vs Q E hgd (hr.deeper _) hs0
    have I := inv_start (CX := CX0) (E := E) S hr.hd e0 (hlen _ _ _ _ hs0) r y
    refine wpAny_mono (ht.nox.run [] s1 (start N vs) H _ I hq) (fun fl s2 z => ?_) fun e s2 z => z
    match fl, z with
    | .ret u, ⟨v, σ2, H2, J, rv, q⟩ => exact ⟨v, H2, J.os, J.bare, J.base, J.hok, rv, q⟩
    | .next, ⟨σ2, H2, J, q⟩ => exact ⟨V.non, H2, J.os, J.bare, J.base, J.hok, rfl, q⟩
    | .brk, ⟨_, _, _, q⟩ => exact q.elim
    | .cont, ⟨_, _, _, q⟩ => exact q.elim
/-- a def whose answer is told for each a, and that leaves all but the tables -/
def spT (K : PySem.W.Frag) (T : List (Addr × Str)) {α : Type} (args : α → List PyData) (ok : α → Prop) (val : α → PyData) : Sp := fun vs H Q E => ∃ a, ok a ∧ spL (tabL K T) 0 (fun ds => ds = args a) (fun _ d => d = val a) vs H Q E
/-- a def that draws, and makes lambdas -/
def spMT (K : PySem.W.Frag) (T : List (Addr × Str)) {α : Type} (n : Nat) (args : α → List PyData) (ok : α → Prop) (post : α → PyData → Prop) : Sp := fun vs H Q E => ∃ (L : Rl) (a : α), L.K = K ∧ SM L ∧ LamL L T ∧ ok a ∧ spL L n (fun ds => ds = args a) (fun _ d => post a d) vs H Q E
theorem ok_T {T : List (Addr × Str)} {α : Type} {args : α → List PyData} {ok : α → Prop} {val : α → PyData} {x : Str} {st : Stmt} {f : Addr} {fd : FuncData} {N ps : List Str} {k : Nat} (D : Df K mg x st ps f fd) (Sc : FnScope N ps (defScope st)) (hlen : ∀ a, (args a).length = ps.length)
    (hb : ∀ (cdv : Value) (A : Around) (outer : List Env) (s : Shared) (H : Hp) (E : XK), fd.code = cdv → (cxOf CX0 P w K mg base N x (defScope st) f cdv A outer s H E).nox.A.guards = some [] → Room k (cxOf CX0 P w K mg base N x (defScope st) f cdv A outer s H E).nox.A →
      ∃ t, PSs (cxOf CX0 P w K mg base N x (defScope st) f cdv A outer s H E).nox (defBody st) t ∧ ∀ a, ok a → SG (tabL K T) 0 t (Ga N.length (args a)) (fun _ => .none = val a) (fun d => d = val a)) : Cal P w K mg base x st ps (k + 1) (spT K T args ok val) f fd := by
  refine ⟨D.gm, D.F, D.b, okGc D.F Sc (fun vs H Q E ⟨a, _, Av, ds, _, hl, _, hp, _⟩ => by rw [hl, hp, hlen a]) fun cdv A outer s H vs Q E ec hg hr ⟨a, ho, Av, ds, hi, hl, hv, hp, hgg, q⟩ => ?_⟩
  subst hp
  obtain ⟨t, h1, h2⟩ := hb cdv A outer s H E ec hg hr
  exact ⟨t, h1, h2 a ho Av _ H hi (start_ok hl hv) hgg _ (fun σ' H' Γ' r e p => q .non .none H' r (.inr .non) p) fun v d H' r hd p => q v d H' r hd p⟩
theorem ok_MT {T : List (Addr × Str)} {α : Type} {args : α → List PyData} {ok : α → Prop} {post : α → PyData → Prop} {n : Nat} {x : Str} {st : Stmt} {f : Addr} {fd : FuncData} {N ps : List Str} {k : Nat} (D : Df K mg x st ps f fd) (Sc : FnScope N ps (defScope st)) (hlen : ∀ a, (args a).length = ps.length)
    (hb : ∀ (cdv : Value) (A : Around) (outer : List Env) (s : Shared) (H : Hp) (E : XK), fd.code = cdv → (cxOf CX0 P w K mg base N x (defScope st) f cdv A outer s H E).nox.A.guards = some [] → Room k (cxOf CX0 P w K mg base N x (defScope st) f cdv A outer s H E).nox.A →
      ∃ t, PSs (cxOf CX0 P w K mg base N x (defScope st) f cdv A outer s H E).nox (defBody st) t ∧ ∀ L, L.K = K → SM L → LamL L T → ∀ a, ok a → SG L n t (Ga N.length (args a)) (fun _ => False) (post a)) : Cal P w K mg base x st ps (k + 1) (spMT K T n args ok post) f fd := by
  refine ⟨D.gm, D.F, D.b, okGc D.F Sc (fun vs H Q E ⟨L, a, _, _, _, _, Av, ds, _, hl, _, hp, _⟩ => by rw [hl, hp, hlen a]) fun cdv A outer s H vs Q E ec hg hr ⟨L, a, hK, hS, hL, ho, Av, ds, hi, hl, hv, hp, hgg, q⟩ => ?_⟩
  subst hp
  obtain ⟨t, h1, h2⟩ := hb cdv A outer s H E ec hg hr
  exact ⟨t, h1, h2 L hK hS hL a ho Av _ H hi (start_ok hl hv) hgg _ (fun σ' H' Γ' r e p => p.elim) fun v d H' r hd p => q v d H' r hd p⟩
end
section
variable {L : Rl} {T : List (Addr × Str)} {Γ : List (Option PyData)} {t : TA} {E : XK} {α : Type} {args : α → List PyData} {ok : α → Prop} {val : α → PyData} {post : α → PyData → Prop} {n : Nat}
theorem tab_dq {K : PySem.W.Frag} {A : Addr → Prop} {H : Hp} {v : V} {d : PyData} (h : Dq (tabL K T) A H v d) : Dv K A H v d := h.elim (fun z => z.2.elim) id
theorem eg_callT (LL : LamL L T) (a : α) (ha : EaD L t Γ (args a)) (ho : ok a) (hn : nomk (args a) = true := by rfl) : EvD L (tCall (spT L.K T args ok val) [] E t) Γ (val a) := fun A σ H hi he hg Q q => ha A σ H hi he hg _ fun vs ds H1 r1 l hv p => by
  subst p
  show spT L.K T args ok val (vs ++ []) H1 Q E
  rw [List.append_nil]
  have g1 := Rl.gR (b := 0) hg r1
  refine ⟨a, ho, A, args a, hi.r r1, l, fun i d e => ?_, rfl, LL.tb g1, fun v d H2 r2 hd hpo => q v d H2 (L.tr (a := 0) (b := 0) r1 (LL.of g1 r2.1 r2.2.2 r2.2.1)) (.inr (tab_dq hd)) hpo⟩
  obtain ⟨v, e1, e2⟩ := hv i d e
  exact ⟨v, e1, .inr (e2.ne (nomk_ne hn i d e))⟩
theorem eg_callMT (hS : SM L) (LL : LamL L T) (x : α) (ha : EaD L t Γ (args x)) (ho : ok x) : EvG L n (tCall (spMT L.K T n args ok post) [] E t) Γ (post x) := fun A σ H hi he hg Q q => ha A σ H hi he (L.g0 hg) _ fun vs ds H1 r1 l hv p => by
  subst p
  show spMT L.K T n args ok post (vs ++ []) H1 Q E
  rw [List.append_nil]
  exact ⟨L, x, rfl, hS, LL, ho, A, args x, hi.r r1, l, hv, rfl, Rl.gR (a := 0) (by rw [Nat.zero_add]; exact hg) r1, fun v d H2 r2 hd hpo => q v d H2 (L.rle (Nat.le_of_eq (Nat.zero_add _)) (L.tr r1 r2)) hd hpo⟩
end
end V1
set_option Elab.async false
set_option linter.all false
set_option maxRecDepth 100000
set_option maxHeartbeats 4000000
/-! Lambdas in whose bodies something is drawn. -/
namespace V1
open PySem PySem.Spec PyProof.Rows L2 LamX
def RzG (L : Rl) (n : Nat) (C : Addr) (fld : Str) (t : XK → TE) (Γ : List (Option PyData)) (dq : PyData) : Prop := ∀ (E : XK) (A : Addr → Prop) (σ : L2.St) (H : Hp), Inn A H → EnvOk L A σ H Γ → L.G n H →
  (∀ (v : V) (dd : Addr) (H' : Hp), L.R n H H' → H' dd = some (.xd [(fld, v)]) → Dv L.K A H' v dq → E (.ref C) (some dd) H') → ∀ Q : VK, t E σ H Q
section
variable {L : Rl} {n : Nat} {Γ : List (Option PyData)} {T : List (Addr × Str)} {C : Addr} {wd fld : Str} {t : XK → TE} {dq : PyData} {Pd : PyData → Prop}
theorem eg_heardXG (LL : LamL L T) (h : RzG L n C fld t Γ dq) : EvG L n (tHd T (TT1 C wd fld) t) Γ (fun y => y = .tuple [.str wd, dq]) := fun A σ H hi he hg Q q => by
  refine ⟨LL.tb hg, fun H1 e nn tb E Q' hE hQ => ?_⟩
  have r1 : L.R 0 H H1 := LL.of hg e tb nn
  have g1 : L.G n H1 := L.gr (a := 0) (by rw [Nat.zero_add]; exact hg) r1
  refine h E A σ H1 (hi.r r1) (he.r r1) g1 (fun v dd H2 r2 hx hv => hE dd _ v H2 hx (by simp [List.lookup]) fun p hp => ?_) Q'
  have r12 : L.R n H H2 := L.rle (Nat.le_of_eq (Nat.zero_add n)) (L.tr r1 r2)
  have g2 : L.G 0 H2 := L.gr (a := n) (b := 0) hg r12
  have sm := laid_same (o := .tup [.str wd, v]) hp
  have r3 := L.same g2 sm
  have hi2 := hi.r r12
  exact q _ _ _ (L.tr (b := 0) r12 r3) (.inr (.tup (hi2.no hp) upd_same (.cons (.str wd) (.cons (hv.map fun b o na e k => ⟨na, sm b o e⟩) .nil)))) rfl
theorem eg_heardVG (LL : LamL L T) (hd : ∀ d, Pd d → d ≠ mark) (h : ∀ E : XK, EvG L n (t E) Γ Pd) : EvG L n (tHd T (TT1 C wd fld) t) Γ (fun y => ∃ d, Pd d ∧ y = .list [d]) := fun A σ H hi he hg Q q => by
  refine ⟨LL.tb hg, fun H1 e nn tb E Q' hE hQ => ?_⟩
  have r1 : L.R 0 H H1 := LL.of hg e tb nn
  have g1 : L.G n H1 := L.gr (a := 0) (by rw [Nat.zero_add]; exact hg) r1
  refine h E A σ H1 (hi.r r1) (he.r r1) g1 Q' fun v d H2 r2 hv pd => hQ v H2 fun p hp => ?_
  have r12 : L.R n H H2 := L.rle (Nat.le_of_eq (Nat.zero_add n)) (L.tr r1 r2)
  have g2 : L.G 0 H2 := L.gr (a := n) (b := 0) hg r12
  have sm := laid_same (o := .lst [v]) hp
  have r3 := L.same g2 sm
  have hi2 := hi.r r12
  exact q _ _ _ (L.tr (b := 0) r12 r3) (.inr (.lst (hi2.no hp) upd_same (.cons ((hv.ne (hd d pd)).map fun b o na e k => ⟨na, sm b o e⟩) .nil))) ⟨d, pd, rfl⟩
theorem rz_callXG {α : Type} {args : α → List PyData} {ok : α → Prop} {res : α → Except PyData PyData} {ta : TA} {PA : List PyData → Prop} (ha : EaG L n ta Γ PA) (hp : ∀ ds, PA ds → ∃ a, ds = args a ∧ ok a ∧ res a = .error dq ∧ nomk (args a) = true) :
    RzG L n C fld (fun E => tCallS (spX L.K C fld args ok res) (fun _ => E) ta) Γ dq := fun E A σ H hi he hg hE Q => ha A σ H hi he hg _ fun vs ds H1 r1 l hv p => by
  obtain ⟨a, e, ho, hr, hn⟩ := hp ds p
  subst e
  have g1 : L.G 0 H1 := L.gr (a := n) (b := 0) hg r1
  refine ⟨a, A, ho, hi.r r1, l, fun i d e => ?_, fun d2 e => (by rw [hr] at e; cases e), fun q2 e v dd H' sm hx hv2 => ?_⟩
  · obtain ⟨v, e1, e2⟩ := hv i d e
    exact ⟨v, e1, e2.ne (nomk_ne hn i d e)⟩
  · rw [hr] at e
    cases e
    exact hE v dd H' (L.tr (b := 0) r1 (L.same g1 sm)) hx hv2
end
end V1
namespace V1
open PySem
def top (i : Nat) : Stmt := PySem.Challenge.pw_everyfont_k00_numbers_and_errors.main.body.getD i (.Pass ⟨0, 0, 0, 0⟩)
end V1
set_option Elab.async false
set_option linter.all false
set_option maxRecDepth 100000
set_option maxHeartbeats 4000000
namespace V1
open PySem PySem.Spec PyProof.Rows L2
variable {P : Program} {w : World} {K : PySem.W.Frag} {mg : Str → Option Value} {base : Heap}
theorem v_left (l sd : Int) (c : Addr) (s : Int) : valV (dct l sd c s) (.inr "left") = some (.int l) := rfl
theorem v_seed (l sd : Int) (c : Addr) (s : Int) : valV (dct l sd c s) (.inr "seed") = some (.int sd) := rfl
theorem v_cells (l sd : Int) (c : Addr) (s : Int) : valV (dct l sd c s) (.inr "cells") = some (.ref c) := rfl
theorem v_spot (l sd : Int) (c : Addr) (s : Int) : valV (dct l sd c s) (.inr "spot") = some (.int s) := rfl
theorem p_left (l sd : Int) (c : Addr) (s x : Int) : putK (dct l sd c s) (.inr "left") (.int x) = dct x sd c s := rfl
theorem p_spot (l sd : Int) (c : Addr) (s x : Int) : putK (dct l sd c s) (.inr "spot") (.int x) = dct l sd c x := rfl
theorem h_get {σ : L2.St} {H : Hp} {p : Addr} {kvs : List (Key × V)} {x : Str} {v : V} {Q : VK} (h0 : σ[0]? = some (some (V.ref p))) (e : H p = some (.dK kvs)) (hv : valV kvs (.inr x) = some v) (q : Q v H) : tDGet (tVar 0) (tC (.str x)) σ H Q :=
  ⟨V.ref p, h0, p, v, rfl, by rw [← hv]; exact DGet.k (k := .inr x) e, q⟩
theorem h_put {σ : L2.St} {H H1 : Hp} {p : Addr} {kvs : List (Key × V)} {x : Str} {v : V} {te : TE} {D : Ends} (h0 : σ[0]? = some (some (V.ref p))) (e : H p = some (.dK kvs)) (hl : kvs.length < sizeLine) (ht : ∀ Q : VK, Q v H → te σ H Q) (q : D.nx σ (upd H p (.dK (putK kvs (.inr x) v)))) : sDPut (tVar 0) (tC (.str x)) te D σ H :=
  ht _ ⟨V.ref p, h0, p, _, rfl, DPut.k (k := .inr x) e hl, q⟩
theorem dct_len (l sd : Int) (c : Addr) (s : Int) : (dct l sd c s).length < sizeLine := by
  show 4 < sizeLine
  exact Nat.lt_of_lt_of_le (by decide) (show 100000 ≤ sizeLine by decide)
theorem mR_put {T : List (Addr × Str)} {p c : Addr} {n : Nat} {H : Hp} {l sd s l' s' : Int} (hP : H p = some (.dK (dct l sd c s))) (hT : LamX.Tabs T H) (h1 : s ≤ s') (h2 : s' ≤ s + (n : Int)) : mR T p c n H (upd H p (.dK (dct l' sd c s'))) := by
  have ne : ∀ b u, H b = some u → (∀ kvs, u ≠ .dK kvs) → b ≠ p := fun b u e k z => by
    rw [z, hP] at e
    exact k _ (Option.some.inj e).symm
  refine ⟨fun q o e z _ => ?_, fun l2 sd2 s2 e => ?_, fun b z => ?_, fun r hr => ?_⟩
  · have hq : q ≠ p := z.elim id fun k => ne q o e k
    rw [upd_ne hq]
    exact e
  · rw [hP] at e
    have e2 : dct l sd c s = dct l2 sd2 c s2 := HO.dK.inj (Option.some.inj e)
    unfold dct at e2
    simp at e2
    obtain ⟨rfl, rfl, rfl⟩ := e2
    exact ⟨l', s', upd_same, h1, h2⟩
  · by_cases hb : b = p
    · rw [hb, upd_same]
      simp
    · rw [upd_ne hb]
      exact z
  · obtain ⟨ps, a1, a2, a3⟩ := hT r hr
    refine ⟨ps, by rw [upd_ne (ne _ _ a1 (fun kvs z => by cases z))]; exact a1, a2, fun pos cv hc => ?_⟩
    obtain ⟨c0, e1, e2⟩ := a3 pos cv hc
    refine ⟨c0, e1, ?_⟩
    rw [upd_ne (ne _ _ e2 (fun kvs z => by unfold LamX.CodeO at z; cases z))]
    exact e2
theorem cmul_l {i j : Int} (h1 : 0 ≤ i) (h2 : i < 2 ^ 64) : CMul i j := .inl ⟨by omega, h2⟩
theorem cmul_r {i j : Int} (h1 : 0 ≤ j) (h2 : j < 2 ^ 64) : CMul i j := .inr ⟨by omega, h2⟩

abbrev s_law_draw : Stmt := top 34
abbrev n_law_draw : List Str := ["m", "bound", "found", "spot", "cells", "extra", "cell", "blend"]
theorem sc_law_draw : FnScope n_law_draw ["m", "bound"] (defScope s_law_draw) := ⟨rfl, rfl, rfl, by decide +kernel, rfl, by decide +kernel, by decide +kernel⟩
def sp_law_draw (K : PySem.W.Frag) : Sp := spM K 1 (fun b : Nat => [mark, .int (b : Int)]) (fun b => 0 < b ∧ b < 2 ^ 30) fun b d => ∃ r : Nat, r < b ∧ d = .int (r : Int)
theorem ok_law_draw {f : Addr} {fd : FuncData} (T : Bt K mg) (D : Df K mg "_law_draw" s_law_draw ["m", "bound"] f fd) : Cal P w K mg base "_law_draw" s_law_draw ["m", "bound"] 1 (sp_law_draw K) f fd := by
  refine ok_A D sc_law_draw (fun _ => rfl) fun cdv A outer s H E hgd hr => ⟨_, (pss_cons (ps_if (pt_cmpR op_gt (pe_dget (hu_of hr) (pv 0) pe_str (fun _ _ => rfl)) pe_int (nomark _)) (pss_cons (ps_set (i := 2) sc_law_draw.nd rfl (Or.inl rfl) (pe_op op_modN (pe_callTy call_int1 (by rfl) T.int (by decide +kernel) (pa_cons (pe_dget (hu_of hr) (pv 0) pe_str (fun _ _ => rfl)) pa_nil)) (pv 1)))
        (pss_cons (ps_dput (hu_of hr) (pv 0) pe_str (pe_op op_fdivW (pe_dget (hu_of hr) (pv 0) pe_str (fun _ _ => rfl)) (pv 1)) rfl)
        (pss_one (ps_ret (pv 2))))) pss_nil)
        (pss_cons (ps_set (i := 3) sc_law_draw.nd rfl (Or.inl rfl) (pe_dget (hu_of hr) (pv 0) pe_str (fun _ _ => rfl)))
        (pss_cons (ps_dput (hu_of hr) (pv 0) pe_str (pe_op op_add (pv 3) pe_int) rfl)
        (pss_cons (ps_par (i := 4) (j := 5) rfl sc_law_draw.nd rfl rfl (by decide) rfl rfl (pa_cons (pe_dget (hu_of hr) (pv 0) pe_str (fun _ _ => rfl)) (pa_cons (pe_op op_add (pe_dget (hu_of hr) (pv 0) pe_str (fun _ _ => rfl)) (pe_op op_mul (pe_op op_mul pe_int (pv 3)) (pv 3))) pa_nil)) (by rfl))
        (pss_cons (ps_set (i := 6) sc_law_draw.nd rfl (Or.inl rfl) (pe_ix (ix_listK (K := K) rfl) (pv 4) (pe_op op_modN (pe_callTy call_int1 (by rfl) T.int (by decide +kernel) (pa_cons (pv 3) pa_nil)) (pe_callB call_len_seq (by rfl) T.len PySem.boot_len (pa_cons (pv 4) pa_nil))) (fun _ _ => rfl)))
        (pss_cons (ps_set (i := 7) sc_law_draw.nd rfl (Or.inl rfl) (pe_op op_modN (pe_callTy call_int1 (by rfl) T.int (by decide +kernel) (pa_cons (pe_op op_add (pe_op op_mul (pv 6) (pe_op op_add (pe_op op_mul pe_int (pv 3)) pe_int)) (pv 5)) pa_nil)) pe_int))
        (pss_cons (ps_set (i := 7) sc_law_draw.nd rfl (Or.inl rfl) (pe_op op_modN (pe_callTy call_int1 (by rfl) T.int (by decide +kernel) (pa_cons (pe_op op_add (pe_op op_add (pe_op op_mul (pv 7) (pv 7)) (pe_op op_mul pe_int (pv 3))) (pe_dget (hu_of hr) (pv 0) pe_str (fun _ _ => rfl))) pa_nil)) pe_int))
        (pss_one (ps_ret (pe_op op_modN (pe_op op_fdivW (pe_op op_modN (pe_callTy call_int1 (by rfl) T.int (by decide +kernel) (pa_cons (pe_op op_add (pe_op op_mul (pv 7) pe_int) (pv 3)) pa_nil)) pe_int) pe_int) (pv 1))))))))))), ?_⟩
  rintro L hK ⟨K', T', p, c, ns, hne, rfl⟩ b ⟨hb0, hb1⟩ A σ H hi he hg DD q1 q2
  have hK2 : K' = K := hK
  subst hK2
  obtain ⟨v0, hv0, d0⟩ := he.2 0 mark rfl
  obtain ⟨v1, hv1, d1⟩ := he.2 1 (.int (b : Int)) rfl
  obtain rfl := d1.int
  have hp0 : v0 = .ref p := by
    rcases d0 with ⟨_, h⟩ | h
    · exact h
    · cases h
  subst hp0
  have hl : σ.length = 8 := he.1
  obtain ⟨a0, a1, a2, a3, a4, a5, a6, a7, rfl⟩ : ∃ a0 a1 a2 a3 a4 a5 a6 a7, σ = [a0, a1, a2, a3, a4, a5, a6, a7] := by
    match σ, hl with
    | [a0, a1, a2, a3, a4, a5, a6, a7], _ => exact ⟨a0, a1, a2, a3, a4, a5, a6, a7, rfl⟩
  have e0 : a0 = some (.ref p) := Option.some.inj hv0
  have e1 : a1 = some (.int (b : Int)) := Option.some.inj hv1
  subst e0 e1
  clear hi he d0 d1 hv0 hv1 hl q1
  obtain ⟨⟨l, sd, s, hP, hC, hs0, hs1⟩, hTb⟩ := hg
  have hb : (b : Int) ≠ 0 := by omega
  have hbp : (0 : Int) < (b : Int) := by omega
  have mod_b : ∀ x : Int, ∃ r : Nat, r < b ∧ x.fmod (b : Int) = (r : Int) := fun x => by
    rw [Int.fmod_eq_emod_of_nonneg _ (by omega)]
    have h1 := Int.emod_nonneg x hb
    have h2 := Int.emod_lt_of_pos x hbp
    exact ⟨(x % (b : Int)).toNat, by omega, by omega⟩
  have hcd : ∀ x : Int, CDivW x (b : Int) := fun x => wide_div (b := 30) hbp (nb hb1) (by decide) (by decide)
  refine h_get rfl hP (v_left l sd c s) ⟨l, 0, rfl, rfl, _, rfl, ?_⟩
  by_cases hl0 : (0 : Int) < l
  · rw [decide_eq_true hl0]
    obtain ⟨r, hr1, hr2⟩ := mod_b l
    refine h_get rfl hP (v_left l sd c s) (.inl ⟨l, rfl, ⟨.int (b : Int), rfl, l, b, rfl, rfl, hb, ?_⟩⟩)
    refine h_get rfl hP (v_left l sd c s) ⟨.int (b : Int), rfl, l, b, rfl, rfl, hcd l, .ref p, rfl, p, _, rfl, DPut.k (k := .inr "left") hP (dct_len l sd c s), ?_⟩
    refine ⟨.int (l.fmod b), rfl, q2 _ (.int (r : Int)) _ ?_ (by rw [hr2]; exact .inr (.int _)) ⟨r, hr1, rfl⟩⟩
    rw [p_left]
    exact mR_put hP hTb (Int.le_refl _) (by omega)
  · rw [decide_eq_false hl0]
    have hs2 : s < 2 ^ 50 := by omega
    have hn0 : 0 < ns.length := List.length_pos_iff.mpr hne
    refine h_get rfl hP (v_spot l sd c s) ?_
    refine ⟨.int s, rfl, s, 1, rfl, rfl, .ref p, rfl, p, _, rfl, DPut.k (k := .inr "spot") hP (dct_len l sd c s), ?_⟩
    rw [p_spot]
    have hne2 : c ≠ p := fun z => by
      rw [z, hP] at hC
      cases hC
    generalize hH1 : upd H p (.dK (dct l sd c (s + 1))) = H1
    have hP1 : H1 p = some (.dK (dct l sd c (s + 1))) := by rw [← hH1]; exact upd_same
    have hC1 : H1 c = some (.lst (ns.map V.int)) := by rw [← hH1, upd_ne hne2]; exact hC
    have c1 : CMul 40503 s := cmul_l (by decide) (by decide)
    refine h_get rfl hP1 (v_cells l sd c _) (h_get rfl hP1 (v_seed l sd c _) ⟨.int s, rfl, 40503, s, rfl, rfl, c1, ⟨.int s, rfl, _, s, rfl, rfl, cmul_r hs0 (by omega), sd, _, rfl, rfl, _, _, rfl, ?_⟩⟩)
    refine ⟨.ref c, rfl, .int s, rfl, .inl ⟨s, rfl, .ref c, rfl, c, ns.map V.int, rfl, .inl (SqL.of hC1), s, _, rfl, rfl, by rw [List.length_map]; omega, ?_⟩⟩
    have hmod : ∀ (x y : Int), 0 < y → 0 ≤ x.fmod y ∧ x.fmod y < y := fun x y hy => by
      rw [Int.fmod_eq_emod_of_nonneg _ (by omega)]
      exact ⟨Int.emod_nonneg x (by omega), Int.emod_lt_of_pos x hy⟩
    obtain ⟨m1, m2⟩ := hmod s ((ns.map V.int).length : Nat) (by rw [List.length_map]; omega)
    generalize hk : s.fmod ((ns.map V.int).length : Nat) = k at m1 m2
    obtain ⟨cell, hcell⟩ : ∃ cell : Int, atI (ns.map V.int) k = some (.int cell) := by
      unfold atI ixN
      rw [if_pos m1, if_pos m2]
      have hkn : k.toNat < ns.length := by rw [List.length_map] at m2; omega
      refine ⟨ns[k.toNat], ?_⟩
      show (ns.map V.int)[k.toNat]? = _
      rw [List.getElem?_map, List.getElem?_eq_getElem hkn]
      rfl
    refine ⟨c, ns.map V.int, k, .int cell, rfl, congrArg V.int hk, SqL.of hC1, hcell, ?_⟩
    refine ⟨.int cell, rfl, .int s, rfl, 2, s, rfl, rfl, cmul_l (by decide) (by decide), 2 * s, 3, rfl, rfl, cell, 2 * s + 3, rfl, rfl, cmul_r (by omega) (by omega), V.int (sd + 40503 * s * s), rfl, cell * (2 * s + 3), sd + 40503 * s * s, rfl, rfl, .inl ⟨_, rfl, cell * (2 * s + 3) + (sd + 40503 * s * s), 2147483647, rfl, rfl, (show (2147483647 : Int) ≠ 0 by decide), ?_⟩⟩
    obtain ⟨b1, b2⟩ := hmod (cell * (2 * s + 3) + (sd + 40503 * s * s)) 2147483647 (by decide)
    generalize hbl : (cell * (2 * s + 3) + (sd + 40503 * s * s)).fmod 2147483647 = bl at b1 b2
    refine ⟨.int bl, congrArg (fun z => some (some (V.int z))) hbl, .int bl, congrArg (fun z => some (some (V.int z))) hbl, bl, bl, rfl, rfl, cmul_l b1 (by omega), .int s, rfl, 69621, s, rfl, rfl, cmul_l (by decide) (by decide), bl * bl, 69621 * s, rfl, rfl, ?_⟩
    refine h_get rfl hP1 (v_seed l sd c _) ⟨_, _, rfl, rfl, .inl ⟨_, rfl, bl * bl + 69621 * s + sd, 2147483629, rfl, rfl, (show (2147483629 : Int) ≠ 0 by decide), ?_⟩⟩
    obtain ⟨d1, d2⟩ := hmod (bl * bl + 69621 * s + sd) 2147483629 (by decide)
    generalize hbl2 : (bl * bl + 69621 * s + sd).fmod 2147483629 = bl2 at d1 d2
    have hcd11 : ∀ x : Int, CDivW x 11 := fun x => wide_div (b := 30) (by decide) (by decide) (by decide) (by decide)
    refine ⟨.int bl2, congrArg (fun z => some (some (V.int z))) hbl2, bl2, 48271, rfl, rfl, cmul_r (by decide) (by decide), .int s, rfl, bl2 * 48271, s, rfl, rfl, .inl ⟨_, rfl, bl2 * 48271 + s, 2147483647, rfl, rfl, (show (2147483647 : Int) ≠ 0 by decide), (bl2 * 48271 + s).fmod 2147483647, 11, rfl, rfl, hcd11 _, .int (b : Int), rfl, (bl2 * 48271 + s).fmod 2147483647 / 11, b, rfl, rfl, hb, ?_⟩⟩
    obtain ⟨r, hr1, hr2⟩ := mod_b ((bl2 * 48271 + s).fmod 2147483647 / 11)
    refine q2 _ (.int (r : Int)) _ ?_ (by show Dq _ A H1 (V.int (((bl2 * 48271 + s).fmod 2147483647 / 11).fmod (b : Int))) _; rw [hr2]; exact .inr (.int _)) ⟨r, hr1, rfl⟩
    rw [← hH1]
    exact mR_put hP hTb (by omega) (by omega)

abbrev s_law_begun : Stmt := top 33
abbrev n_law_begun : List Str := ["script", "k", "cells", "great", "seed", "cell"]
theorem sc_law_begun : FnScope n_law_begun ["script", "k"] (defScope s_law_begun) := ⟨rfl, rfl, rfl, by decide +kernel, rfl, by decide +kernel, by decide +kernel⟩
def sp_law_begun (K : PySem.W.Frag) : Sp := fun vs H Q _ => ∃ (T' : List (Addr × Str)) (a : Addr) (sc : List Int) (k : Nat), vs = [.ref a, .int (k : Int)] ∧ SqL K H a (sc.map V.int) ∧ LamX.Tabs T' H ∧ k ≤ 4 ∧ sc.length ≤ 63 ∧
  ∀ p c l sd ns H', (tabL K T').R 0 H H' → H p = none → ns ≠ [] → H' p = some (.dK (dct l sd c 0)) → H' c = some (.lst (ns.map V.int)) → Q (.ref p) H'
theorem len_law_begun : ∀ vs H Q E, sp_law_begun K vs H Q E → vs.length = (["script", "k"] : List Str).length := fun vs H Q E ⟨T', a, sc, k, e, _⟩ => by rw [e]; rfl
theorem tab_put {T : List (Addr × Str)} {p : Addr} {H H7 : Hp} {kvs kvs' : List (Key × V)} (r : (tabL K T).R 0 H H7) (hp : H p = none) (h7 : H7 p = some (.dK kvs)) : (tabL K T).R 0 H (upd H7 p (.dK kvs')) := by
  have ne : ∀ b u, H7 b = some u → (∀ kvs, u ≠ .dK kvs) → b ≠ p := fun b u e k z => by
    rw [z, h7] at e
    exact k _ (Option.some.inj e).symm
  refine ⟨fun b o e n => by rw [upd_ne (ne_of_none e hp)]; exact r.1 b o e n, fun b z => ?_, fun x hx => ?_⟩
  · rw [upd_ne (fun y => z (by rw [y]; exact hp))]
    exact r.2.1 b z
  · obtain ⟨ps, a1, a2, a3⟩ := r.2.2 x hx
    refine ⟨ps, by rw [upd_ne (ne _ _ a1 (fun kvs z => by cases z))]; exact a1, a2, fun pos cv hc => ?_⟩
    obtain ⟨c0, e1, e2⟩ := a3 pos cv hc
    refine ⟨c0, e1, ?_⟩
    rw [upd_ne (ne _ _ e2 (fun kvs z => by unfold LamX.CodeO at z; cases z))]
    exact e2
theorem ok_law_begun {f : Addr} {fd : FuncData} (T : Bt K mg) (D : Df K mg "_law_begun" s_law_begun ["script", "k"] f fd) : Cal P w K mg base "_law_begun" s_law_begun ["script", "k"] 1 (sp_law_begun K) f fd := by
  refine ⟨D.gm, D.F, D.b, okG D.F sc_law_begun len_law_begun (fun cdv A outer s H vs Q E hgd hr h => ⟨_, (pss_cons (ps_set (i := 2) sc_law_begun.nd rfl (Or.inl rfl) (pe_op op_cat (pe_slice sl_list (pv 0) (po_some (pv 1)) po_none) (pe_slice sl_list (pv 0) po_none (po_some (pv 1)))))
        (pss_cons (ps_setLc (i := 3) (own := [("cell", 5)]) (g := gName 5) rfl sc_law_begun.nd rfl rfl (sw_true rfl rfl rfl (by decide +kernel)) (pi_list (pv 2)) (blkOk_by (own := [("cell", 5)]) (N := n_law_begun) (sc := defScope s_law_begun) (by decide +kernel)) (fun _ _ _ _ _ => (pg_name (i := 5) sc_law_begun.nd rfl (Or.inl rfl))) (fun _ _ _ _ _ => (pts_one (pt_cmpR op_ge (pv 5) (pe_op op_pow pe_int pe_int) (nomark _)))) (fun _ _ _ _ _ => (pv 5)))
        (pss_cons (ps_set (i := 4) sc_law_begun.nd rfl (Or.inl rfl) (pe_op op_add pe_int (pv 1)))
        (pss_cons (ps_for PassesOwn.never rfl (pi_list (pv 2)) (pg_name (i := 5) sc_law_begun.nd rfl (Or.inl rfl))
        (pss_one (ps_set (i := 4) sc_law_begun.nd rfl (Or.inl rfl) (pe_op op_modN (pe_callTy call_int1 (by rfl) T.int (by decide +kernel) (pa_cons (pe_op op_add (pe_op op_mul (pv 4) pe_int) (pv 5)) pa_nil)) pe_int))))
        (pss_one (ps_ret (pe_disp (pps_cons pe_str (pe_ifExp (pt_cmpR (op_neD hr.units) (pv 3) (pe_lst pa_nil) (nomark _)) (pe_ix (ix_listK (K := K) rfl) (pv 3) pe_int (fun _ _ => rfl)) pe_int) (pps_cons pe_str (pv 4) (pps_cons pe_str (pe_op op_cat (pv 2) (pe_lst (pa_cons (pe_op op_add (pe_op op_mul pe_int (pv 1)) pe_int) pa_nil))) (pps_cons pe_str pe_int pps_nil)))) (by rfl) (by rfl) (fun z => by cases z) (by decide)))))))), ?_⟩)⟩
  obtain ⟨T', a, sc, k, rfl, hsc, hT, hk, hl, q⟩ := h
  have he : EnvOk (scL K T' a sc) (fun _ => False) (L2.start n_law_begun [V.ref a, .int (k : Int)]) H [some mark, some (.int (k : Int)), none, none, none, none] := ⟨rfl, fun i d e => by
    match i, e with
    | 0, e =>
      have e1 : mark = d := Option.some.inj (Option.some.inj e)
      subst e1
      exact ⟨_, rfl, .inl ⟨rfl, rfl⟩⟩
    | 1, e =>
      have e1 : PyData.int (k : Int) = d := Option.some.inj (Option.some.inj e)
      subst e1
      exact ⟨_, rfl, .inr (.int _)⟩
    | 2, e => cases e
    | 3, e => cases e
    | 4, e => cases e
    | 5, e => cases e
    | i + 6, e => cases e⟩
  have hi : Inn (fun _ => False) H := fun b z => z.elim
  refine (?run : SX (scL K T' a sc) (fun _ => False) H _ _ [some mark, some (.int (k : Int)), none, none, none, none]) _ H hi he ⟨hsc, hT⟩ ((tabL K T').same (H := H) hT (Same.refl H))
  case run =>
    refine sx_asgG (eg_catG (P1 := fun zs => zs.length ≤ sc.length) (P2 := fun zs => zs.length ≤ sc.length) (eg_slS (i := 0) rfl (eo_some (eg_var (i := 1) rfl)) eo_none) (eg_slS (i := 0) rfl eo_none (eo_some (eg_var (i := 1) rfl))) (fun xs ys h1 h2 => by omega)) ?_
    rintro d ⟨xs, ys, hx, hy, rfl⟩
    generalize hc : xs ++ ys = cs
    have hcl : cs.length ≤ 126 := by rw [← hc, List.length_append]; omega
    clear hc hx hy
    refine sx_asgG (eg_lcT (js := [5]) (vs := [5]) (items := cs.map .int) (Pt := fun r => ∃ z : Int, r = .int z) (wk_list (eg_var (i := 2) rfl)) (by simp) (by rw [List.length_map]; omega) (fun i d hd => ?_)) ?_
    · obtain ⟨n, _, _, rfl⟩ := map_at hd
      exact ⟨_, tg_name, ⟨_, et_test (eg_ge (eg_var rfl) (eg_pow eg_int eg_int (by unfold CPow; decide)))⟩, EvG.mono (eg_var rfl) (Nat.le_refl _) fun r e => by rw [e]; exact ⟨(fun z => by cases z), n, rfl⟩⟩
    rintro d ⟨rs, rfl, hrl, hrs⟩
    obtain ⟨gs, rfl, hgl, _⟩ := enc_of (enc := PyData.int) (P := fun _ : Int => True) (rs := rs) fun i d e => let ⟨z, hz⟩ := hrs i d e; ⟨z, trivial, hz⟩
    refine sx_asgG (EvG.mono (eg_add (eg_int (i := 91)) (eg_var (i := 1) rfl)) (Nat.le_refl _) fun d e => e) ?_
    rintro d rfl
    refine sx_sg (N := fun G => ∃ s x, G = [some mark, some (.int (k : Int)), some (lI cs), some (.list (gs.map .int)), some (.int s), x]) (sg_for (js := [5]) (fun i G => ∃ s x, G = [some mark, some (.int (k : Int)), some (lI cs), some (.list (gs.map .int)), some (.int s), x]) (wk_list (eg_var (i := 2) rfl)) ⟨_, none, rfl⟩ (fun i d G hd ⟨s, x, eG⟩ => by
      subst eG
      obtain ⟨n, hn, _, rfl⟩ := map_at hd
      exact ⟨_, tg_name (j := 5), sg_asg (i := 4) (eg_mod (eg_cb (ea_cons (eg_add (eg_mulN (C := CMul) (eg_var (i := 4) rfl) (eg_int (i := 48271)) (cmul_r (by decide) (by decide))) (eg_var (i := 5) rfl)) ea_nil) cs_int) (eg_int (i := 2147483647)) (by decide)) ⟨_, _, rfl⟩⟩) fun G hG => hG) ?_
    rintro G ⟨sd, x, rfl⟩ σ3 H3 hi3 he3 hg3 r3
    have r13 : (tabL K T').R 0 H H3 := r3
    -- the dict
    intro p hp
    have rp : Same H3 (upd H3 p (.dK [])) := fun b o z => by rw [upd_ne (ne_of_none z hp)]; exact z
    have he4 : EnvOk (scL K T' a sc) (fun _ => False) σ3 (upd H3 p (.dK [])) _ := he3.r (L := scL K T' a sc) (n := 0) ((tabL K T').same (H := H3) hg3.2 rp)
    have hP4 : (upd H3 p (.dK [])) p = some (.dK []) := upd_same
    have hg4 : (scL K T' a sc).G 0 (upd H3 p (.dK [])) := ⟨SqL.same hg3.1 rp, hg3.2.ext rp⟩
    have rp2 : (tabL K T').R 0 H3 (upd H3 p (.dK [])) := (tabL K T').same (H := H3) hg3.2 rp
    generalize upd H3 p (.dK []) = H4 at rp rp2 he4 hP4 hg4
    have left : EvG (scL K T' a sc) 0 (tIf (tTest (tOp (rNeD K) (tVar 3) (tLst tNil))) (tOp (rIxL K) (tVar 3) (tC (.int 0))) (tC (.int 0))) [some mark, some (.int (k : Int)), some (lI cs), some (.list (gs.map .int)), some (.int sd), x] (fun d => ∃ l : Int, d = .int l) := by
      cases gs with
      | nil => exact EvG.mono (eg_if (d := .int 0) (et_test (eg_neNil (zs := []) (eg_var (i := 3) rfl))) (fun z => by cases z) fun _ => eg_int) (Nat.le_refl _) fun d e => ⟨0, e⟩
      | cons g gs => exact EvG.mono (eg_if (d := .int g) (et_test (eg_neNil (zs := g :: gs) (eg_var (i := 3) rfl))) (fun _ => eg_ixL (eg_var (i := 3) rfl) eg_int (atI_zero _ _)) fun z => by cases z) (Nat.le_refl _) fun d e => ⟨g, e⟩
    show tIf _ _ _ σ3 H4 _
    refine left _ σ3 H4 (fun b z => z.elim) he4 hg4 _ fun v1 d H5 r5 hv1 ⟨l, e⟩ => ?_
    subst e
    obtain rfl := hv1.int
    have he5 := he4.r r5
    obtain ⟨v2, hs2, hv2⟩ := he5.2 4 (.int sd) rfl
    obtain rfl := hv2.int
    refine ⟨_, hs2, ?_⟩
    show tOp rCat _ _ σ3 H5 _
    refine eg_cat (L := scL K T' a sc) (ds := cs.map .int) (es := [.int (61 * (k : Int) + 17)]) (eg_var (i := 2) rfl) (eg_lst (ea_cons (eg_add (eg_mulN (C := CMul) (eg_int (i := 61)) (eg_var (i := 1) rfl) (cmul_l (by decide) (by decide))) (eg_int (i := 17))) ea_nil)) (by rw [List.length_map]; show _ + 1 ≤ _; omega) _ σ3 H5 (fun b z => z.elim) he5 ⟨SqL.ext hg4.1 r5.1, r5.2.2⟩ _ fun v3 d H7 r7 hv3 e => ?_
    subst e
    obtain ⟨c, xs7, rfl, _, e7, r7'⟩ := hv3.list
    have e8 : (cs.map PyData.int ++ [.int (61 * (k : Int) + 17)]) = (cs ++ [61 * (k : Int) + 17]).map .int := by rw [List.map_append]; rfl
    rw [e8] at r7'
    rw [r7'.ints] at e7
    have r47 : (tabL K T').R 0 H4 H7 := (tabL K T').tr (a := 0) (b := 0) r5 r7
    have hP7 := r47.1 _ _ hP4 (fun ps z => by cases z)
    refine ⟨hP7, [(.inr "left", .int l), (.inr "seed", .int sd), (.inr "cells", .ref c), (.inr "spot", .int 0)], rfl, (show 4 ≤ 15 by decide), ?_⟩
    have hcp : c ≠ p := fun z => by
      rw [z, hP7] at e7
      cases e7
    have r17 : (tabL K T').R 0 H H7 := (tabL K T').tr (a := 0) (b := 0) r13 ((tabL K T').tr (a := 0) (b := 0) rp2 r47)
    refine q p c l sd (cs ++ [61 * (k : Int) + 17]) _ (tab_put r17 ((tabL K T').free (a := 0) r13 hp) hP7) ((tabL K T').free (a := 0) r13 hp) (by simp) upd_same (by rw [upd_ne hcp]; exact e7)

abbrev s_law_like : Stmt := top 36
abbrev n_law_like : List Str := ["told", "due"]
theorem sc_law_like : FnScope n_law_like ["told", "due"] (defScope s_law_like) := ⟨rfl, rfl, rfl, by decide +kernel, rfl, by decide +kernel, by decide +kernel⟩
def sp_law_like (K : PySem.W.Frag) : Sp := spR K (fun d : PyData => [d, d]) Sh fun _ => .bool true
theorem ok_law_like {f : Addr} {fd : FuncData} (T : Bt K mg) (D : Df K mg "_law_like" s_law_like ["told", "due"] f fd) : Cal P w K mg base "_law_like" s_law_like ["told", "due"] 1 (sp_law_like K) f fd := by
  refine ok_R D sc_law_like (fun _ => rfl) fun cdv A outer s H E hgd hr => ⟨_, (pss_one (ps_ret (pe_cmpR op_eq (pe_callB (call_repr hgd hr.units) (by rfl) T.repr (by decide +kernel) (pa_cons (pv 0) pa_nil)) (pe_callB (call_repr hgd hr.units) (by rfl) T.repr (by decide +kernel) (pa_cons (pv 1) pa_nil)) (nomark _)))), ?_⟩
  rintro d ⟨h0, h1, h2, h3, h4⟩
  show SG (pureL K) 0 _ [some d, some d] _ _
  have e : PyData.bool (decide (d.shown = d.shown)) = .bool true := by rw [decide_eq_true rfl]
  rcases h0 with ⟨ds, rfl⟩ | ⟨ds, rfl⟩
  · exact sg_ret ((eg_eqS (eg_cb (ea_cons (eg_var rfl) ea_nil) (cs_reprL h1 h2 h3 h4)) (eg_cb (ea_cons (eg_var rfl) ea_nil) (cs_reprL h1 h2 h3 h4))).to e) rfl
  · exact sg_ret ((eg_eqS (eg_cb (ea_cons (eg_var rfl) ea_nil) (cs_reprT h1 h2 h3 h4)) (eg_cb (ea_cons (eg_var rfl) ea_nil) (cs_reprT h1 h2 h3 h4))).to e) rfl

section
variable {L : Rl} {Γ : List (Option PyData)} {t : TA} {te ta tb : TE} {E : XK} {a b c m n : Nat} {P1 P2 P3 P4 : PyData → Prop}
theorem eg_draw (hS : SM L) {b : Nat} (hb : 0 < b ∧ b < 2 ^ 30) (h0 : Γ[0]? = some (some mark)) : EvG L 1 (tCall (sp_law_draw L.K) [] E (tCons (tVar 0) (tCons (tC (.int (b : Int))) tNil))) Γ (fun d => ∃ z : Int, (0 ≤ z ∧ z < (b : Int)) ∧ d = .int z) :=
  EvG.mono (eg_callM hS b (ea_cons (eg_var h0) (ea_cons eg_int ea_nil)) hb) (Nat.le_refl _) fun d ⟨r, h1, e⟩ => ⟨(r : Int), ⟨by omega, by omega⟩, e⟩
end

end V1
set_option Elab.async false
set_option linter.all false
set_option maxRecDepth 100000
set_option maxHeartbeats 4000000
namespace V1
open PySem PySem.Spec PyProof.Rows L2
variable {P : Program} {w : World} {K : PySem.W.Frag} {mg : Str → Option Value} {base : Heap}
abbrev s_law_of : Stmt := top 35
abbrev n_law_of : List Str := ["m", "some"]
theorem sc_law_of : FnScope n_law_of ["m", "some"] (defScope s_law_of) := ⟨rfl, rfl, rfl, by decide +kernel, rfl, by decide +kernel, by decide +kernel⟩
def sp_law_of (K : PySem.W.Frag) : Sp := spM K 1 (fun ds : List PyData => [mark, .list ds]) (fun ds => ds ≠ [] ∧ ds.length ≤ 100) fun ds d => d ∈ ds
theorem ok_law_of {f : Addr} {fd : FuncData} (T : Bt K mg) (D : Df K mg "_law_of" s_law_of ["m", "some"] f fd)
    {f_law_draw : Addr} {d_law_draw : FuncData} (h_law_draw : Cal P w K mg base "_law_draw" s_law_draw ["m", "bound"] 1 (sp_law_draw K) f_law_draw d_law_draw) : Cal P w K mg base "_law_of" s_law_of ["m", "some"] 2 (sp_law_of K) f fd := by
  refine ok_A D sc_law_of (fun _ => rfl) fun cdv A outer s H E hgd hr => ⟨_, (pss_one (ps_ret (pe_ix (ix_listK (K := K) rfl) (pv 1) (pe_fn (E := E0) h_law_draw.G hgd (hr.mono (by decide)) (by rfl) h_law_draw.gm h_law_draw.kp h_law_draw.b (pa_cons (pv 0) (pa_cons (pe_callB call_len_seq (by rfl) T.len PySem.boot_len (pa_cons (pv 1) pa_nil)) pa_nil))) (fun _ _ => rfl)))), ?_⟩
  rintro L rfl hS ds ⟨h1, h2⟩
  show SG L 1 _ [some mark, some (.list ds)] _ _
  have hl : 0 < ds.length := List.length_pos_iff.mpr h1
  refine sg_retG (EvG.mono (a := 0 + 1) (eg_opG (P := fun d => d ∈ ds) (eg_var rfl) (EvG.mono (eg_callM hS ds.length (ea_cons (eg_var rfl) (ea_cons (eg_cb (ea_cons (eg_var rfl) ea_nil) cs_lenL) ea_nil)) ⟨hl, Nat.lt_of_le_of_lt h2 (by decide)⟩) (Nat.le_refl _) fun d h => h) ?_) (Nat.le_refl _) fun d h => h) fun d h => h
  rintro d1 d2 rfl ⟨r, hr, rfl⟩
  have hat : atI ds (r : Int) = some ds[r] := by
    unfold atI ixN
    rw [if_pos (by omega), if_pos (by omega)]
    show ds[(r : Int).toNat]? = _
    rw [Int.toNat_natCast, List.getElem?_eq_getElem hr]
  exact fun A H x y hi hg hx hy Q q => os_ixL hat A H x y hi hg hx hy Q fun v d H' r' hv e => q v d H' r' hv (by rw [e]; exact List.getElem_mem hr)

end V1
set_option Elab.async false
set_option linter.all false
set_option maxRecDepth 100000
set_option maxHeartbeats 4000000
namespace V1
open PySem PySem.Spec PyProof.Rows L2
variable {P : Program} {w : World} {K : PySem.W.Frag} {mg : Str → Option Value} {base : Heap}
theorem call_tupleK {X : Cx} {K : PySem.W.Frag} (h : X.K = K) : CallR X (.type "tuple") (fun xs H Q => ∃ p ys, xs = [.ref p] ∧ ((SqL K H p ys ∧ ∀ l, H l = none → Q (.ref l) (upd H l (.tup ys))) ∨ (SqT K H p ys ∧ Q (.ref p) H))) := h ▸ call_tuple_of
theorem call_lenK {X : Cx} {K : PySem.W.Frag} (h : X.K = K) : CallR X (.builtin "len") (fun xs H Q => ∃ p ys, xs = [.ref p] ∧ (SqL K H p ys ∨ SqT K H p ys) ∧ Q (.int ys.length) H) := h ▸ call_len_seq
section
variable {L : Rl} {Γ : List (Option PyData)} {t : TA} {te ta tb : TE} {tt tu : TT} {ts u z : TS} {E : XK} {a b c m n : Nat} {N : List (Option PyData) → Prop} {Rt : PyData → Prop}
/-- tuples, one behind the other; the left one isn't empty -/
theorem eg_catTG {P1 P2 : List PyData → Prop} (ha : EvG L a ta Γ (fun d => ∃ ds, d = .tuple ds ∧ P1 ds)) (hb : EvG L b tb Γ (fun d => ∃ ds, d = .tuple ds ∧ P2 ds)) (h1 : ∀ ds, P1 ds → ds ≠ [] ∧ ds.length ≤ 100000) (h2 : ∀ ds, P2 ds → ds.length ≤ 100000) : EvG L (a + b) (tOp (rCatT L.K) ta tb) Γ (fun d => ∃ ds es, d = .tuple (ds ++ es) ∧ P1 ds ∧ P2 es) :=
  eg_opG ha hb fun d1 d2 ⟨ds, e1, p1⟩ ⟨es, e2, p2⟩ => by
    subst e1 e2
    intro A H x y hi hg hx hy Q q
    obtain ⟨p, xs, rfl, e, r⟩ := hx.tuple
    obtain ⟨p2', ys, rfl, e2, r2⟩ := hy.tuple
    obtain ⟨n1, l1⟩ := h1 ds p1
    have l2 := h2 es p2
    have hxs : xs ≠ [] := fun z => n1 (List.length_eq_zero_iff.mp (by rw [← r.length, z]; rfl))
    refine ⟨p, p2', xs, ys, rfl, rfl, e.sq, e2.sq, hxs, Nat.le_trans (by rw [r.length, r2.length]; exact Nat.add_le_add l1 l2) (by decide), fun z => ?_, fun z l hl => ?_⟩
    · have e3 : es = [] := List.length_eq_zero_iff.mp (by rw [← r2.length, z]; rfl)
      subst e3
      exact q _ (.tuple ds) H (Rl.refl hg) (.inr (e.dv r)) ⟨ds, [], by rw [List.append_nil], p1, p2⟩
    · have rr := Rl.newR (o := .tup (xs ++ ys)) hg hl
      exact q _ (.tuple (ds ++ es)) _ rr (.inr (.tup (hi.no hl) upd_same ((r.app r2).r rr))) ⟨ds, es, rfl, p1, p2⟩
theorem eg_tupleG {P : List PyData → Prop} (h : EvG L a te Γ (fun d => ∃ ds, d = .list ds ∧ P ds)) : EvG L a (tCB (fun xs H Q => ∃ p ys, xs = [.ref p] ∧ ((SqL L.K H p ys ∧ ∀ l, H l = none → Q (.ref l) (upd H l (.tup ys))) ∨ (SqT L.K H p ys ∧ Q (.ref p) H))) (tCons te tNil)) Γ (fun d => ∃ ds, d = .tuple ds ∧ P ds) := fun A σ H hi he hg Q q =>
  h A σ H hi he hg _ fun v d H1 r1 hv ⟨ds, e, p⟩ => by
    subst e
    obtain ⟨b, xs, rfl, na, e, r⟩ := hv.list
    refine ⟨b, xs, rfl, .inl ⟨SqL.of e, fun l hl2 => ?_⟩⟩
    have rr := Rl.newR (o := .tup xs) (Rl.gR (b := 0) hg r1) hl2
    exact q _ _ _ (L.tr (b := 0) r1 rr) (.inr (.tup ((hi.r r1).no hl2) upd_same (r.r rr))) ⟨ds, rfl, p⟩
/-- a comprehension: things of one kind -/
theorem eg_lcP {P : PyData → Prop} {PI1 : List PyData → Prop} {wi : TI} {g : TG} {js vs : List Nat} (hP : ∀ d, P d → d ≠ mark) (hw : WkG L a wi Γ PI1) (hj : ∀ j ∈ js, j ∈ vs) (hlen : ∀ items, PI1 items → items.length ≤ b) (hb1 : b ≤ 1000)
    (hb : ∀ items, PI1 items → ∀ (i : Nat) d, items[i]? = some d → ∃ Γ', TgG L g js d (wipeD Γ vs) Γ' ∧ EvG L c te Γ' P) : EvG L (a + b * c) (tLc wi g tYes te vs) Γ (fun r => ∃ ds, r = .list ds ∧ ∃ items, PI1 items ∧ ds.length = items.length ∧ ∀ d ∈ ds, P d) :=
  EvG.mono (eg_lcG (a := a) (b := b) (c := c) (Pt := fun _ _ r => P r) hw hj (fun its e => ⟨hlen its e, hb1⟩) fun its e i d hd => by
    obtain ⟨Γ', h1, h2⟩ := hb its e i d hd
    exact ⟨Γ', h1, EvG.mono h2 (Nat.le_refl _) fun r h => ⟨hP r h, h⟩⟩) (Nat.le_refl _) fun r ⟨its, rs, e1, e2, e3, e4⟩ => ⟨rs, e2, its, e1, e3, fun d hd => by
    obtain ⟨i, hi⟩ := List.getElem?_of_mem hd
    exact e4 i d hi⟩
theorem inV_str (w : Str) (ws : List Str) : inV (.str w) (ws.map V.str) = decide (w ∈ ws) := by
  unfold inV
  induction ws with
  | nil => rfl
  | cons x r ih =>
    rw [List.map_cons, List.any_cons, ih]
    by_cases h : w = x
    · subst h
      have e : eqV (.str w) (.str w) = true := by simp [eqV]
      rw [e]
      simp
    · have e : eqV (.str x) (.str w) = false := by
        simp [eqV]
        exact fun z => h z.symm
      rw [e]
      simp [h]
theorem DvAll.strs {K : PySem.W.Frag} {A : Addr → Prop} {H : Hp} {xs : List V} {ws : List Str} (h : DvAll K A H xs (ws.map PyData.str)) : xs = ws.map V.str := by
  induction ws generalizing xs with
  | nil => cases h; rfl
  | cons n ns ih =>
    cases h with
    | cons a b =>
      cases a
      rw [ih b]
      rfl
theorem flat_strs (ws : List Str) : (ws.map V.str).all flatV = true := by
  induction ws with
  | nil => rfl
  | cons w r ih => rw [List.map_cons, List.all_cons, ih]; rfl
theorem eg_inS {w : Str} {ws : List Str} (ha : EvD L ta Γ (.str w)) (hb : EvD L tb Γ (.tuple (ws.map .str))) : EvD L (tOp (rIn L.K false) ta tb) Γ (.bool (decide (w ∈ ws))) := eg_op ha hb fun A H x y hi hg hx hy Q q => by
  obtain rfl := hx.str
  obtain ⟨p, xs, rfl, e, r⟩ := hy.tuple
  have ex := r.strs
  subst ex
  refine ⟨p, _, rfl, .inr e.sq, rfl, flat_strs ws, ?_⟩
  show Q (.bl (inV (.str w) (ws.map V.str))) H
  rw [inV_str]
  exact q _ _ H (Rl.refl hg) (.inr (.bl _)) rfl
theorem et_orD {k : Bool} {P : Bool → Prop} (h : EtD L tt Γ k) (h1 : k = true → P true) (h2 : k = false → EtG L a tu Γ P) : EtG L a (tOr tt tu) Γ P := fun A σ H hi he hg Q q => h A σ H hi he (L.g0 hg) _ fun H1 r1 => by
  cases k with
  | true => exact q true H1 (L.rle (Nat.zero_le _) r1) (h1 rfl)
  | false => exact h2 rfl A σ H1 (hi.r r1) (he.r r1) (Rl.gR (a := 0) (by rw [Nat.zero_add]; exact hg) r1) Q fun k H2 r2 p => q k H2 (L.rle (Nat.le_of_eq (Nat.zero_add _)) (L.tr r1 r2)) p
theorem et_testG {P : Bool → Prop} (h : EvG L a te Γ (fun d => ∃ k, d = .bool k ∧ P k)) : EtG L a (tTest te) Γ P := fun A σ H hi he hg Q q => h A σ H hi he hg _ fun v d H1 r1 hv ⟨k, e, p⟩ => by
  subst e
  obtain rfl := hv.bool
  exact ⟨k, rfl, q k H1 r1 p⟩
theorem eg_eqIG {P1 : Int → Prop} {j : Int} (ha : EvG L a ta Γ (fun d => ∃ i, P1 i ∧ d = .int i)) (hb : EvD L tb Γ (.int j)) : EvG L (a + 0) (tOp rEq ta tb) Γ (fun d => ∃ k, d = .bool k ∧ True) := eg_opG ha hb fun d1 d2 ⟨i, _, e1⟩ e2 => by
  subst e1 e2
  intro A H x y hi hg hx hy Q q
  obtain rfl := hx.int
  obtain rfl := hy.int
  exact ⟨rfl, q _ (.bool (decide (V.int i = V.int j))) H (Rl.refl hg) (.inr (.bl _)) ⟨_, rfl, trivial⟩⟩
theorem sq_ifG {P : Bool → Prop} (h : EtG L a tt Γ P) (h1 : P true → SG L b (tSeq ts z) Γ N Rt) (h2 : P false → SG L b (tSeq u z) Γ N Rt) : SG L (a + b) (tSeq (tIfS tt ts u) z) Γ N Rt := fun A σ H hi he hg D q1 q2 => h A σ H hi he (L.gle (Nat.le_add_right _ _) hg) _ fun k H1 r1 p => by
  have fin : ∀ {tx : TS}, SG L b tx Γ N Rt → tx D σ H1 := fun {tx} hx => hx A σ H1 (hi.r r1) (he.r r1) (Rl.gR hg r1) D
    (fun σ2 H2 Γ2 r2 e2 p2 => q1 σ2 H2 Γ2 (L.tr r1 r2) e2 p2) fun v d H2 r2 e2 p2 => q2 v d H2 (L.tr r1 r2) e2 p2
  cases k with
  | true => exact fin (h1 p)
  | false => exact fin (h2 p)
theorem sg_retqG {P : PyData → Prop} (h : EvG L a te Γ P) (k : ∀ d, P d → Rt d) : SG L a (tSeq (tRet te) z) Γ N Rt := fun A σ H hi he hg D q1 q2 => h A σ H hi he hg _ fun v d H1 r hv p => q2 v d H1 r hv (k d p)
end

end V1
set_option Elab.async false
set_option linter.all false
set_option maxRecDepth 100000
set_option maxHeartbeats 4000000
/-! (rules) tuple * int for any int, tuple + tuple, slices of tuples: by data. -/
namespace V1
open PySem PySem.Spec PyProof.Rows L2
theorem tmul_self (l : Addr) (items : Array Value) (n : Nat) (dd : Option Addr) (sl : Array (Option Value)) (x : Int) (u : Tok) (c0 : (decide (x < -(2 ^ 63)) || decide (x ≥ 2 ^ 63)) = false) (c1 : (items.isEmpty || x == 1) = true) :
    Meets (Builtin.«tuple.__mul__» ⟨[.ref l, .int x u], []⟩) (fun _ R s => s.heap.get? l = some { cls := .type "tuple", dict := dd, data := .seq items n, slots := sl } ∧ R (.ok (.ret (Value.ref l))) s) :=
  .of_wp fun prog w A R s h => by
    obtain ⟨hp, g, d, tk, os⟩ := s
    obtain ⟨hl, h⟩ := h
    have f1 := AutoSeq1.idx_int
    wp_walk using wpAny_loadPart' hl
    repeat (first
      | (refine wpAny_ite_false (decide_eq_false (by rw [c0]; exact Bool.false_ne_true)) ?_; wp_walk using wpAny_loadPart' hl)
      | (refine wpAny_ite_true (decide_eq_true c1) ?_; wp_walk using wpAny_loadPart' hl)
      | (refine wpAny_ite_true (by simpa using c1) ?_; wp_walk using wpAny_loadPart' hl))
    exact ⟨_, rfl, h⟩
theorem tmul_none (l : Addr) (items : Array Value) (n : Nat) (dd : Option Addr) (sl : Array (Option Value)) (x : Int) (u : Tok) (c0 : (decide (x < -(2 ^ 63)) || decide (x ≥ 2 ^ 63)) = false) (c1 : (items.isEmpty || x == 1) = false) (c2 : (decide (x ≤ 0) || items.isEmpty) = true) :
    Meets (Builtin.«tuple.__mul__» ⟨[.ref l, .int x u], []⟩) (fun _ R s => s.heap.get? l = some { cls := .type "tuple", dict := dd, data := .seq items n, slots := sl } ∧
      R (.ok (.ret (Value.ref s.heap.objs.size))) { s with heap := s.heap.push { cls := Value.type "tuple", data := Data.seq #[] }, toks := s.toks }) :=
  .of_wp fun prog w A R s h => by
    obtain ⟨hp, g, d, tk, os⟩ := s
    obtain ⟨hl, h⟩ := h
    have f1 := AutoSeq1.idx_int
    wp_walk using wpAny_loadPart' hl
    repeat (first
      | (refine wpAny_ite_false (decide_eq_false (by rw [c0]; exact Bool.false_ne_true)) ?_; wp_walk using wpAny_loadPart' hl)
      | (refine wpAny_ite_false (decide_eq_false (by rw [c1]; exact Bool.false_ne_true)) ?_; wp_walk using wpAny_loadPart' hl)
      | (refine wpAny_ite_true (decide_eq_true c2) ?_; wp_walk using wpAny_loadPart' hl))
    exact ⟨_, rfl, h⟩

/-- t * k -/
def rRepA (K : PySem.W.Frag) : R2 := fun x y H Q => ∃ l k xs, x = .ref l ∧ y = .int k ∧ SqT K H l xs ∧ 0 ≤ k ∧ k ≤ 1000 ∧ xs.length ≤ 1000 ∧ ((xs = [] ∨ k = 1) → Q (.ref l) H) ∧
  (xs ≠ [] → k ≠ 1 → ∀ p, H p = none → Q (.ref p) (upd H p (.tup (List.replicate k.toNat xs).flatten)))
theorem op_repA {X : Cx} : OpR X (binaryOp .Mult) (rRepA X.K) := by
  intro pins s σ H x y v u Q I rx ry h
  obtain ⟨l, k, xs, rfl, rfl, hT, h1, h2, hz, q0, q1⟩ := h
  by_cases hs : xs ≠ [] ∧ 2 ≤ k
  · exact op_repT pins s σ H _ _ v u Q I rx ry ⟨l, k, xs, rfl, rfl, hT, hs.1, hs.2, h2, hz, q1 hs.1 (by omega)⟩
  cases rx
  obtain ⟨t, rfl⟩ := ry
  obtain ⟨its, r, ⟨⟨cls, dd, data, sl⟩, ho, hc, n, hd⟩, hsz⟩ := I.tuple hT
  simp only at hc hd
  subst hc hd
  have hle : its.length = xs.length := r.length.symm
  have c0 : (decide (k < -(2 ^ 63)) || decide (k ≥ 2 ^ 63)) = false := by
    rw [decide_eq_false (by omega), decide_eq_false (by omega)] <;> rfl
  have ie : its.toArray.isEmpty = xs.isEmpty := by
    cases its with
    | nil =>
      have : xs = [] := List.length_eq_zero_iff.mp (by rw [← hle]; rfl)
      subst this
      rfl
    | cons a b =>
      cases xs with
      | nil => simp at hle
      | cons c d => rfl
  have go : ∀ {R : Result → Shared → Prop}, (codeAny (model X.prog X.w) X.A (.call (.builtin "tuple.__mul__") ⟨[.ref l, .int k t], []⟩) R s → codeAny (model X.prog X.w) X.A (.call (.builtin "tuple.__mul__") ⟨[.ref l, .int k t], []⟩) R s) := fun h => h
  by_cases hone : xs = [] ∨ k = 1
  · have c1 : (its.toArray.isEmpty || k == 1) = true := by
      rw [ie]
      rcases hone with z | z
      · rw [z]; rfl
      · rw [z]; simp
    exact wpAny_binaryOp_repeat_ref (T := "tuple") (U := "int") (by decide) ⟨_, ho, rfl⟩ (fun s' => typeIs_int s' k t) noFill_tuple_mul F.fills_int_mul F.slot_int_rmul repeat_tuple F.slot_int_index.lookup
      (call_meets F.slot_int_rmul (typeIs_int s k t) F.entry_int_rmul (F.args_int_rmul_2 _ _) (int_rmul_tuple k t l its.toArray n dd sl)
        ⟨ho, rfl, ⟨_, ho, rfl⟩, call_meets F.slot_tuple_mul ⟨_, ho, rfl⟩ F.entry_tuple_mul (F.args_tuple_mul_2 _ _) (tmul_self l its.toArray n dd sl k t c0 c1) ⟨ho, ⟨.ref l, H, I, rfl, q0 hone⟩⟩⟩)
  · have hx : xs ≠ [] := fun z => hone (.inl z)
    have hk1 : k ≠ 1 := fun z => hone (.inr z)
    have hk : k = 0 := by
      by_cases h2 : 2 ≤ k
      · exact absurd ⟨hx, h2⟩ hs
      · omega
    subst hk
    have xe : xs.isEmpty = false := by
      cases xs with
      | nil => exact absurd rfl hx
      | cons c d => rfl
    have c1 : (its.toArray.isEmpty || (0 : Int) == 1) = false := by rw [ie, xe]; rfl
    have c2 : (decide ((0 : Int) ≤ 0) || its.toArray.isEmpty) = true := by simp
    refine wpAny_binaryOp_repeat_ref (T := "tuple") (U := "int") (by decide) ⟨_, ho, rfl⟩ (fun s' => typeIs_int s' 0 t) noFill_tuple_mul F.fills_int_mul F.slot_int_rmul repeat_tuple F.slot_int_index.lookup
      (call_meets F.slot_int_rmul (typeIs_int s 0 t) F.entry_int_rmul (F.args_int_rmul_2 _ _) (int_rmul_tuple 0 t l its.toArray n dd sl)
        ⟨ho, rfl, ⟨_, ho, rfl⟩, call_meets F.slot_tuple_mul ⟨_, ho, rfl⟩ F.entry_tuple_mul (F.args_tuple_mul_2 _ _) (tmul_none l its.toArray n dd sl 0 t c0 c1 c2) ⟨ho, ?_⟩⟩)
    refine ⟨.ref s.heap.objs.size, _, I.laid (t' := s.toks) (o := .tup []) (fun b ob q => Heap.get?_push_of_some _ q) (Nat.le_refl _) ?_, rfl, q1 hx (by decide) _ (I.hok.fresh (Nat.le_refl _))⟩
    exact ⟨by rw [sizeLine_eq]; exact Nat.zero_le _, _, .nil, IsTup.new _ _⟩
section
variable {L : Rl} {Γ : List (Option PyData)} {t : TA} {te ta tb : TE} {tt tu : TT} {E : XK} {a b c m n : Nat}
theorem dv_tup0 {A : Addr → Prop} {H : Hp} {p : Addr} {xs : List V} {ds : List PyData} (h : TpAt L.K A H p xs) (r : DvAll L.K A H xs ds) : Dq L A H (.ref p) (.tuple ds) := .inr (h.dv r)
theorem eg_catA {ds es : List PyData} (ha : EvD L ta Γ (.tuple ds)) (hb : EvD L tb Γ (.tuple es)) (hl : ds.length + es.length ≤ 100000) : EvD L (tOp (rCatA L.K) ta tb) Γ (.tuple (ds ++ es)) := eg_op ha hb fun A H x y hi hg hx hy Q q => by
  obtain ⟨p, xs, rfl, e, r⟩ := hx.tuple
  obtain ⟨p2, ys, rfl, e2, r2⟩ := hy.tuple
  refine ⟨p, p2, xs, ys, rfl, rfl, e.sq, e2.sq, Nat.le_trans (by rw [r.length, r2.length]; exact hl) (by decide), fun z => ?_, fun _ z => ?_, fun _ _ l hl2 => ?_⟩
  · have e3 : ds = [] := List.length_eq_zero_iff.mp (by rw [← r.length, z]; rfl)
    subst e3
    exact q _ _ H (Rl.refl hg) (dv_tup0 e2 r2) (by rw [List.nil_append])
  · have e3 : es = [] := List.length_eq_zero_iff.mp (by rw [← r2.length, z]; rfl)
    subst e3
    exact q _ _ H (Rl.refl hg) (dv_tup0 e r) (by rw [List.append_nil])
  · have rr := Rl.newR (o := .tup (xs ++ ys)) hg hl2
    exact q _ _ _ rr (.inr (.tup (hi.no hl2) upd_same ((r.app r2).r rr))) rfl
theorem rep_one {α : Type} (xs : List α) : (List.replicate (1 : Int).toNat xs).flatten = xs := by
  show [xs].flatten = xs
  simp
theorem rep_nil {α : Type} (n : Nat) : (List.replicate n ([] : List α)).flatten = [] := by
  induction n with
  | zero => rfl
  | succ n ih => rw [List.replicate_succ, List.flatten_cons, ih]; rfl
theorem eg_repA {ds : List PyData} {k : Int} (ha : EvD L ta Γ (.tuple ds)) (hb : EvD L tb Γ (.int k)) (h0 : 0 ≤ k) (h1 : k ≤ 1000) (hl : ds.length ≤ 1000) : EvD L (tOp (rRepA L.K) ta tb) Γ (.tuple (List.replicate k.toNat ds).flatten) := eg_op ha hb fun A H x y hi hg hx hy Q q => by
  obtain ⟨p, xs, rfl, e, r⟩ := hx.tuple
  obtain rfl := hy.int
  refine ⟨p, k, xs, rfl, rfl, e.sq, h0, h1, by rw [r.length]; exact hl, fun z => ?_, fun _ _ l hl2 => ?_⟩
  · refine q _ _ H (Rl.refl hg) (dv_tup0 e r) ?_
    rcases z with z | z
    · have e3 : ds = [] := List.length_eq_zero_iff.mp (by rw [← r.length, z]; rfl)
      subst e3
      rw [rep_nil]
    · subst z
      rw [rep_one]
  · have rr := Rl.newR (o := .tup (List.replicate k.toNat xs).flatten) hg hl2
    exact q _ _ _ rr (.inr (.tup (hi.no hl2) upd_same ((r.rep _).r rr))) rfl
theorem cut_whole {ds : List PyData} {lo hi : Option Int} (h : HT.sIx ds.length 0 lo = 0 ∧ HT.sIx ds.length ds.length hi = ds.length) : cutD ds lo hi = ds := by
  unfold cutD
  rw [h.1, h.2]
  simp
theorem eg_slA {ds : List PyData} {tl th : TO} {lo0 hi0 : Option Int} (h : EvD L te Γ (.tuple ds)) (h1 : EoD L tl Γ lo0) (h2 : EoD L th Γ hi0) : EvD L (tSl (rSlA L.K) te tl th) Γ (.tuple (cutD ds lo0 hi0)) := fun A σ H hi he hg Q q => h A σ H hi he hg _ fun x d1 H1 r1 hx p => by
  subst p
  refine h1 A σ H1 (hi.r r1) (he.r r1) (Rl.gR (b := 0) hg r1) _ fun H2 r2 => h2 A σ H2 ((hi.r r1).r r2) ((he.r r1).r r2) (Rl.gR (b := 0) (Rl.gR (b := 0) hg r1) r2) _ fun H3 r3 => ?_
  have g3 : L.G 0 H3 := Rl.gR (b := 0) (Rl.gR (b := 0) (Rl.gR (b := 0) hg r1) r2) r3
  obtain ⟨p, xs, rfl, e, r⟩ := ((hx.r r2).r r3).tuple
  have r13 := L.tr (a := 0) (b := 0) (L.tr (a := 0) (b := 0) r1 r2) r3
  refine ⟨p, xs, rfl, e.sq, fun hw => ?_, fun hw q1 hq => ?_⟩
  · rw [r.length] at hw
    rw [cut_whole hw] at q
    exact q _ _ H3 r13 (dv_tup0 e r) rfl
  · have rr := Rl.newR (o := .tup (cutV xs lo0 hi0)) g3 hq
    exact q _ _ _ (L.tr (a := 0) (b := 0) r13 rr) (.inr (.tup ((((hi.r r1).r r2).r r3).no hq) upd_same ((r.cut lo0 hi0).r rr))) rfl
end
/-! ### equality of data, x in t -/
mutual
theorem nd_lay : ∀ d : PyData, d.canLay0 = true → d.hasDict = false
  | .none, _ => rfl
  | .bool _, _ => rfl
  | .int _, _ => rfl
  | .str _, _ => rfl
  | .list ds, h => by
    simp only [PyData.hasDict]
    exact nd_layA ds (by simpa only [PyData.canLay0] using h)
  | .tuple ds, h => by
    simp only [PyData.hasDict]
    exact nd_layA ds (by simpa only [PyData.canLay0] using h)
  | .dict _, h => by simp [PyData.canLay0] at h
theorem nd_layA : ∀ ds : List PyData, PyData.canLayAll0 ds = true → PyData.hasDictAll ds = false
  | [], _ => by simp only [PyData.hasDictAll]
  | d :: ds, h => by
    simp only [PyData.canLayAll0, Bool.and_eq_true] at h
    simp only [PyData.hasDictAll, nd_lay d h.1, nd_layA ds h.2, Bool.or_self]
end
theorem nd_shaped {d : PyData} (h : SeqAt.shaped d = true) : d.hasDict = false := nd_lay d (by
  unfold SeqAt.shaped at h
  rw [Bool.and_eq_true] at h
  exact h.1)
theorem dp_of {K : PySem.W.Frag} {L : Rl} {A : Addr → Prop} {H : Hp} {v : V} {d : PyData} (hK : L.K = K) (h : Dq L A H v d) (hd : d ≠ mark) (hs : SeqAt.shaped d = true) : Dp K H v d := hK ▸ (h.ne hd).dp (K := L.K) (nd_shaped hs)
def rInT (K : PySem.W.Frag) : R2 := fun x y H Q => ∃ d ds, Dp K H x d ∧ Dp K H y (.tuple ds) ∧ SeqAt.shaped d = true ∧ SeqAt.shaped (.tuple ds) = true ∧ Q (.bl (ds.any fun z => PyData.eqv z d)) H
theorem op_inT {X : Cx} (hu : X.A.units + 65 < cLine) : OpR X (compareOp .In) (rInT X.K) := by
  intro pins s σ H x y v u Q I rx ry h
  obtain ⟨d, ds, hd, he, sd, se, q⟩ := h
  obtain ⟨as, r1⟩ := Dp.reads I d x v hd rx
  obtain ⟨bs, r2⟩ := Dp.reads I (.tuple ds) y u he ry
  exact SeqAt.in_tuple_reads r2 r1 (SeqAt.canLay_of_shaped se) (SeqAt.canLay_of_shaped sd) (room_in_shaped sd hu) ⟨.bl _, H, I, rfl, q⟩
section
variable {L : Rl} {Γ : List (Option PyData)} {t : TA} {te ta tb : TE}
theorem eg_eqD {d e : PyData} (ha : EvD L ta Γ d) (hb : EvD L tb Γ e) (hd : d ≠ mark) (he : e ≠ mark) (h1 : SeqAt.shaped d = true) (h2 : SeqAt.shaped e = true) : EvD L (tOp (rEqD L.K) ta tb) Γ (.bool (PyData.eqv d e)) := eg_op ha hb fun A H x y hi hg hx hy Q q =>
  ⟨d, e, dp_of rfl hx hd h1, dp_of rfl hy he h2, h1, h2, q _ _ H (Rl.refl hg) (.inr (.bl _)) rfl⟩
theorem eg_neD {d e : PyData} (ha : EvD L ta Γ d) (hb : EvD L tb Γ e) (hd : d ≠ mark) (he : e ≠ mark) (h1 : SeqAt.shaped d = true) (h2 : SeqAt.shaped e = true) : EvD L (tOp (rNeD L.K) ta tb) Γ (.bool (!PyData.eqv d e)) := eg_op ha hb fun A H x y hi hg hx hy Q q =>
  ⟨d, e, dp_of rfl hx hd h1, dp_of rfl hy he h2, h1, h2, q _ _ H (Rl.refl hg) (.inr (.bl _)) rfl⟩
theorem eg_inT {d : PyData} {ds : List PyData} (ha : EvD L ta Γ d) (hb : EvD L tb Γ (.tuple ds)) (hd : d ≠ mark) (h1 : SeqAt.shaped d = true) (h2 : SeqAt.shaped (.tuple ds) = true) : EvD L (tOp (rInT L.K) ta tb) Γ (.bool (ds.any fun z => PyData.eqv z d)) := eg_op ha hb fun A H x y hi hg hx hy Q q =>
  ⟨d, ds, dp_of rfl hx hd h1, dp_of rfl hy (by intro z; cases z) h2, h1, h2, q _ _ H (Rl.refl hg) (.inr (.bl _)) rfl⟩
theorem eqv_tup0 (ds : List PyData) : PyData.eqv (.tuple ds) (.tuple []) = ds.isEmpty := by
  cases ds with
  | nil => rfl
  | cons d ds => rfl
theorem eqv_tup1 (y : PyData) (z : Str) : PyData.eqv (.tuple [.str z]) (.tuple [y]) = (match y with | .str x => z == x | _ => false) := by
  cases y <;> simp [PyData.eqv, PyData.eqvAll]
/-! ### isinstance by data -/
def isTup : PyData → Bool
  | .tuple _ => true
  | _ => false
def isStr : PyData → Bool
  | .str _ => true
  | _ => false
theorem kit_tup {d : PyData} (h : d.hasDict = false) : kitB (kindN d) "tuple" = some (isTup d) := by
  cases d with
  | dict k => simp [PyData.hasDict] at h
  | none => exact (show kitB "NoneType" "tuple" = some false by decide +kernel)
  | bool b => exact (show kitB "bool" "tuple" = some false by decide +kernel)
  | int b => exact (show kitB "int" "tuple" = some false by decide +kernel)
  | str b => exact (show kitB "str" "tuple" = some false by decide +kernel)
  | list b => exact (show kitB "list" "tuple" = some false by decide +kernel)
  | tuple b => exact (show kitB "tuple" "tuple" = some true by decide +kernel)
theorem kit_str {d : PyData} (h : d.hasDict = false) : kitB (kindN d) "str" = some (isStr d) := by
  cases d with
  | dict k => simp [PyData.hasDict] at h
  | none => exact (show kitB "NoneType" "str" = some false by decide +kernel)
  | bool b => exact (show kitB "bool" "str" = some false by decide +kernel)
  | int b => exact (show kitB "int" "str" = some false by decide +kernel)
  | str b => exact (show kitB "str" "str" = some true by decide +kernel)
  | list b => exact (show kitB "list" "str" = some false by decide +kernel)
  | tuple b => exact (show kitB "tuple" "str" = some false by decide +kernel)
theorem hd_nm {d : PyData} (h : d.hasDict = false) : d ≠ mark := fun z => by
  rw [z] at h
  simp [PyData.hasDict] at h
theorem eg_isT {d : PyData} (h : EvD L te Γ d) (hd : d.hasDict = false) : EvD L (tCB (rIsi L.K) (tCons te (tCons (tC (.ty "tuple")) tNil))) Γ (.bool (isTup d)) := eg_isi h (hd_nm hd) (kit_tup hd)
theorem eg_isS {d : PyData} (h : EvD L te Γ d) (hd : d.hasDict = false) : EvD L (tCB (rIsi L.K) (tCons te (tCons (tC (.ty "str")) tNil))) Γ (.bool (isStr d)) := eg_isi h (hd_nm hd) (kit_str hd)
/-! ### the signs of a text, chains, all -/
def signsD (z : Str) : List PyData := z.cps.toList.map fun c => PyData.str ⟨#[c]⟩
theorem wk_str {z : Str} (h : EvD L te Γ (.str z)) : WkD L (iStr te) Γ (signsD z) := fun A σ H hi he hg R q => h A σ H hi he hg _ fun x d1 H1 r1 hx p => by
  subst p
  obtain rfl := hx.str
  have hl : (signsD z).length = z.cps.size := by unfold signsD; rw [List.length_map, Array.length_toList]
  refine ⟨z, rfl, q _ H1 _ r1 rfl ⟨fun i H' k hi => ?_, fun i H' x H'' k hA y hi => ?_, fun H' k => ?_⟩⟩
  · show i < z.cps.size
    omega
  · obtain ⟨rfl, c, hc, rfl⟩ := y
    refine ⟨.str ⟨#[c]⟩, ?_, Same.refl _, fun A' _ _ => .str _⟩
    unfold signsD
    rw [List.getElem?_map, Array.getElem?_toList, hc]
    rfl
  · show z.cps.size ≤ (signsD z).length
    omega
theorem eg_chainI {i j k : Int} {tc : TE} {a b : Int → Int → Bool} (ha : EvD L ta Γ (.int i)) (hb : EvD L tb Γ (.int j)) (hc : EvD L tc Γ (.int k)) : EvD L (tChain (rI0 fun i j => .bl (a i j)) (rI0 fun i j => .bl (b i j)) ta tb tc) Γ (.bool (a i j && b j k)) := fun A σ H hi he hg Q q =>
  ha A σ H hi he hg _ fun x d1 H1 r1 hx e1 => hb A σ H1 (hi.r r1) (he.r r1) (Rl.gR (b := 0) hg r1) _ fun y d2 H2 r2 hy e2 => by
    subst e1 e2
    obtain rfl := hx.int
    obtain rfl := hy.int
    refine ⟨i, j, rfl, rfl, _, rfl, ?_⟩
    have r12 := L.tr (a := 0) (b := 0) r1 r2
    cases h : a i j with
    | true =>
      rw [if_pos rfl]
      refine hc A σ H2 ((hi.r r1).r r2) ((he.r r1).r r2) (Rl.gR (b := 0) hg r12) _ fun w d3 H3 r3 hw e3 => ?_
      subst e3
      obtain rfl := hw.int
      exact ⟨j, k, rfl, rfl, q _ _ H3 (L.tr (a := 0) (b := 0) r12 r3) (.inr (.bl _)) (by rw [h, Bool.true_and])⟩
    | false =>
      rw [if_neg (by decide)]
      exact q _ _ H2 r12 (.inr (.bl _)) (by rw [h]; rfl)
def rS2 (f : Str → Str → Bool) : R2 := fun x y H Q => ∃ i j, x = .str i ∧ y = .str j ∧ Q (.bl (f i j)) H
theorem eg_chainS {i j k : Str} {tc : TE} {a b : Str → Str → Bool} (ha : EvD L ta Γ (.str i)) (hb : EvD L tb Γ (.str j)) (hc : EvD L tc Γ (.str k)) : EvD L (tChain (rS2 a) (rS2 b) ta tb tc) Γ (.bool (a i j && b j k)) := fun A σ H hi he hg Q q =>
  ha A σ H hi he hg _ fun x d1 H1 r1 hx e1 => hb A σ H1 (hi.r r1) (he.r r1) (Rl.gR (b := 0) hg r1) _ fun y d2 H2 r2 hy e2 => by
    subst e1 e2
    obtain rfl := hx.str
    obtain rfl := hy.str
    refine ⟨i, j, rfl, rfl, _, rfl, ?_⟩
    have r12 := L.tr (a := 0) (b := 0) r1 r2
    cases h : a i j with
    | true =>
      rw [if_pos rfl]
      refine hc A σ H2 ((hi.r r1).r r2) ((he.r r1).r r2) (Rl.gR (b := 0) hg r12) _ fun w d3 H3 r3 hw e3 => ?_
      subst e3
      obtain rfl := hw.str
      exact ⟨j, k, rfl, rfl, q _ _ H3 (L.tr (a := 0) (b := 0) r12 r3) (.inr (.bl _)) (by rw [h, Bool.true_and])⟩
    | false =>
      rw [if_neg (by decide)]
      exact q _ _ H2 r12 (.inr (.bl _)) (by rw [h]; rfl)
theorem DvAll.bls {K : PySem.W.Frag} {A : Addr → Prop} {H : Hp} {xs : List V} {bs : List Bool} (h : DvAll K A H xs (bs.map PyData.bool)) : xs = bs.map V.bl := by
  induction bs generalizing xs with
  | nil => cases h; rfl
  | cons n ns ih =>
    cases h with
    | cons a b =>
      cases a
      rw [ih b]
      rfl
theorem eg_all {bs : List Bool} (h : EvD L te Γ (.list (bs.map .bool))) : EvD L (tCB (rAll L.K) (tCons te tNil)) Γ (.bool (bs.all id)) := fun A σ H hi he hg Q q => h A σ H hi he hg _ fun x d H1 r1 hx e => by
  subst e
  obtain ⟨p, xs, rfl, na, e, r⟩ := hx.list
  rw [r.bls] at e
  exact ⟨p, bs, rfl, SqL.of e, q _ _ H1 r1 (.inr (.bl _)) rfl⟩
end
end V1
set_option Elab.async false
set_option linter.all false
set_option maxRecDepth 100000
set_option maxHeartbeats 4000000
/-! k00: what the top has beside; shared. -/
namespace V1
open PySem PySem.Spec PyProof.Rows L2
structure Cst (K : PySem.W.Frag) (w : World) (mg : Str → Option Value) where
  gcd : mg "gcd" = some (.builtin "math.gcd")
theorem call_isiK {X : Cx} {K : PySem.W.Frag} (h : X.K = K) : CallR X (.builtin "isinstance") (rIsi K) := h ▸ call_isi
theorem hd_ne {d : PyData} (h : d.hasDict = false) : d ≠ mark := fun z => by
  rw [z] at h
  simp [PyData.hasDict] at h
theorem hd_nomk {d : PyData} (h : d.hasDict = false) : nomk [d] = true := by
  cases d with
  | dict k => simp [PyData.hasDict] at h
  | _ => rfl
theorem hd_nomk2 {d e : PyData} (h : d.hasDict = false) (h2 : e.hasDict = false) : nomk [d, e] = true := by
  cases d with
  | dict k => simp [PyData.hasDict] at h
  | _ => cases e with
    | dict k => simp [PyData.hasDict] at h2
    | _ => rfl
theorem hd_mem {ds : List PyData} (h : (PyData.tuple ds).hasDict = false) : ∀ d ∈ ds, d.hasDict = false := by
  have h1 : PyData.hasDictAll ds = false := by simpa only [PyData.hasDict] using h
  clear h
  induction ds with
  | nil => intro d hd; simp at hd
  | cons x r ih =>
    simp only [PyData.hasDictAll, Bool.or_eq_false_iff] at h1
    intro d hd
    rcases List.mem_cons.mp hd with rfl | hd
    · exact h1.1
    · exact ih h1.2 d hd
theorem len_bulkA : ∀ (ds : List PyData), ds.length ≤ PyData.bulkAll ds
  | [] => Nat.zero_le _
  | d :: ds => by
    have := len_bulkA ds
    simp only [PyData.bulkAll, List.length_cons]
    omega
theorem len_bulk (ds : List PyData) : ds.length ≤ (PyData.tuple ds).bulk := by
  have := len_bulkA ds
  simpa only [PyData.bulk] using this
theorem pe_gc {X : Cx} {x : Str} {v : V} {pos : Pos} (hg : Gl X x) (h : ∃ u, X.mg x = some u ∧ RelV v u) (hdb : (x == ("__debug__" : Str)) = false := by decide) : PE X (.Name x pos) (tC v) := by
  obtain ⟨u, h1, h2⟩ := h
  exact pe_glob hg h1 h2 hdb
/-- isinstance(x, tuple), x data or {} -/
def okE (d : PyData) : Prop := d.hasDict = false ∨ d = emD
theorem okE_ne {d : PyData} (h : okE d) : d ≠ mark := h.elim hd_ne fun e => by rw [e]; intro z; injection z with z; cases z
theorem okE_nomk {d : PyData} (h : okE d) : nomk [d] = true := h.elim hd_nomk fun e => by rw [e]; rfl
theorem kit_tupE {d : PyData} (h : okE d) : kitB (kindN d) "tuple" = some (isTup d) := h.elim kit_tup fun e => by rw [e]; exact (show kitB "dict" "tuple" = some false by decide +kernel)
theorem eg_isTE {L : Rl} {Γ : List (Option PyData)} {te : TE} {d : PyData} (h : EvD L te Γ d) (hd : okE d) : EvD L (tCB (rIsi L.K) (tCons te (tCons (tC (.ty "tuple")) tNil))) Γ (.bool (isTup d)) := eg_isi h (okE_ne hd) (kit_tupE hd)
theorem hu65 {k : Nat} {A : Around} (r : Room k A) : A.units + 65 < cLine := by have := r.un; omega
/-- // by any divisor but 0 -/
def CDivG (_ j : Int) : Prop := j ≠ 0 ∧ j.natAbs.log2 < 9000
theorem op_fdivG {X : Cx} : OpR X (binaryOp .FloorDiv) (rI CDivG fun i j => .int (i.fdiv j)) := opI fun i j _ _ _ _ _ hc q => floordiv_int hc.1 q (.inl (PyProof.noPylong_of_log2 hc.2))
theorem eg_fdiv {L : Rl} {Γ : List (Option PyData)} {ta tb : TE} {i j : Int} (ha : EvD L ta Γ (.int i)) (hb : EvD L tb Γ (.int j)) (hc : CDivG i j) : EvD L (tOp (rI CDivG fun i j => .int (i.fdiv j)) ta tb) Γ (.int (i.fdiv j)) := eg_op ha hb (os_I hc)
end V1
set_option Elab.async false
set_option linter.all false
set_option maxRecDepth 100000
set_option maxHeartbeats 4000000
/-! Defs that raise, with the guards told; an own error with a field. -/
namespace V1
open PySem PySem.Spec PyProof.Rows L2
/-- as FnG, for a def that may raise -/
structure FnX (P : Program) (w : World) (K : PySem.W.Frag) (mg : Str → Option Value) (base : Heap) (k : Nat) (f : Addr) (fd : FuncData) (ps : List Str) (sp : Sp) : Prop where
  len : ∀ vs H Q E, sp vs H Q E → vs.length = ps.length
  run : ∀ (A : Around) (outer : List Env) (s : Shared) (H : Hp) (args : Args) (us : List Value) (vs : List V) (Q : VK) (E : XK), A.guards = some [] → Room k A →
    Env0 P w K mg base A outer s H → BindsTo s fd args (ps.zip us) → Vals vs us → sp vs H Q E → codeAny (model P w) A (.call (.ref f) args) (CR (L2.CX P w) outer P w H s Q E) s
section
variable {P : Program} {w : World} {K : PySem.W.Frag} {mg : Str → Option Value} {base : Heap}
theorem okX {x qual : Str} {st : Stmt} {f : Addr} {fd : FuncData} {N ps : List Str} {k : Nat} {sp : Sp} (F : Fun K x qual st f fd) (S : FnScope N ps (defScope st)) (hlen : ∀ vs H Q E, sp vs H Q E → vs.length = ps.length)
    (bd : ∀ (cdv : Value) (A : Around) (outer : List Env) (s : Shared) (H : Hp) (vs : List V) (Q : VK) (E : XK), A.guards = some [] → Room k (A.deeper (envOfC qual (defScope st) s.heap.objs.size f cdv)) → sp vs H Q E →
      ∃ t, PSs (cxOf (L2.CX P w) P w K mg base N qual (defScope st) f cdv A outer s H E) (defBody st) t ∧ t { nx := fun _ H' => Q .non H', rt := Q } (start N vs) H) : FnX P w K mg base (k + 1) f fd ps sp := by
  obtain ⟨oc, od, kV, doc, pm, an, cdv, ct, osl, rfl, lk, hcd⟩ := F.ex
  refine ⟨hlen, fun A outer s H args us vs Q E hgd hr e0 hb r hs0 => ?_⟩
  have ll := hlen _ _ _ _ hs0
  have kin : K.In s.heap := e0.mod.kin.keeps (fun b o z => (e0.bs b o z).1)
  have nl : s.heap.NoLimit := e0.mod.nolimit.keeps (fun b o z => (e0.bs b o z).1)
  refine codeAny_call_function hr.depth (kin _ _ lk) rfl S.co S.gen rfl (PySem.W.codeRec_of kin hcd) (hb _ _ _ _ ?_)
  refine wpAny_newFunctionEnv_cells S.kind (fun ⟨n, v⟩ hy => ?_) (fun env he s1 x => ?_)
  · rcases S.par n (List.of_mem_zip hy).1 with q | q
    · exact Or.inl q
    · exact Or.inr ⟨q, PySem.W.cellsFrom_some _ _ _ (Or.inl q)⟩
  subst he
  refine ⟨nl.keeps x.toInCall.keep, codeAny_func ?_⟩
  obtain ⟨t, ht, hq⟩ := bd cdv A outer s H vs Q E hgd (hr.deeper _) hs0
  have I := inv_start (CX := L2.CX P w) (E := E) S hr.hd e0 ll r x
  refine wpAny_mono (ht.run [] s1 (start N vs) H _ I hq) (fun fl s2 z => ?_) (fun e s2 z => z)
  cases fl with
  | ret u =>
    obtain ⟨v, σ2, H2, J, rv, q⟩ := z
    exact ⟨v, H2, J.os, J.bare, J.base, J.hok, rv, q⟩
  | next =>
    obtain ⟨σ2, H2, J, q⟩ := z
    exact ⟨V.non, H2, J.os, J.bare, J.base, J.hok, rfl, q⟩
  | brk =>
    obtain ⟨_, _, _, q⟩ := z
    exact q.elim
  | cont =>
    obtain ⟨_, _, _, q⟩ := z
    exact q.elim
end
section
variable {X : Cx} {k : Nat} {f : Addr} {fd : FuncData} {ps ks : List Str} {sp : Sp} {x : Str} {p pos : Pos} {e : Expr} {es : List Expr} {kws : List Keyword} {t tk : TA} {g : List Value → List Value → List Value} {gV : List V → List V → List V}
theorem runX {E : L2.St → XK} {pins : List (Addr × Obj)} {σ : L2.St} {H : Hp} {s : Shared} {Q : VK} {us : List Value} {vs : List V} (F : FnX X.prog X.w X.K X.mg X.base k f fd ps sp) (hgd : X.A.guards = some []) (hr : Room k X.A) (hb : Binds X.K fd ps []) (hx : PassesAt (L2.CX X.prog X.w) X σ (E σ))
    (I : L2.Inv X pins σ H s) (r : Vals vs us) (h : sp vs H Q (E σ)) : wpAny (model X.prog X.w) X.A (call (.ref f) us) (EP X pins σ Q) X.xe s := by
  have hl : us.length = ps.length := by rw [← r.length]; exact F.len _ _ _ _ h
  have b := hb s us I.kIn (by rw [List.append_nil]; exact hl)
  rw [List.append_nil] at b
  refine wpAny_call (codeAny_mono (F.run X.A X.stack s H ⟨us, []⟩ us vs Q (E σ) hgd hr I.env0 b r h) fun r s' hq => ?_)
  cases r with
  | error e => exact hx pins H s e s' I hq
  | ok fl =>
    cases fl with
    | ret u => exact I.after hq
    | next => exact False.elim hq
    | brk => exact False.elim hq
    | cont => exact False.elim hq
theorem pe_callX {E : L2.St → XK} (F : FnX X.prog X.w X.K X.mg X.base k f fd ps sp) (hgd : X.A.guards = some []) (hr : Room k X.A) (hg : Gl X x) (hm : X.mg x = some (.ref f)) (hk : PySem.W.keepIn X.K (.ref f) = true) (hb : Binds X.K fd ps []) (hx : ∀ σ, PassesAt (L2.CX X.prog X.w) X σ (E σ))
    (ha : PA X (e :: es) t) (hdb : (x == ("__debug__" : Str)) = false := by decide) (he : starEach (e :: es) X.env = (false, eval e X.env) :: starEach es X.env := by rfl) (hpl : (backTo pos (starEach es X.env)).any (·.1) = false := by rfl) :
    PE X (.Call (.Name x p) (e :: es) [] pos) (tCallS sp E t) := by
  refine ⟨fun pins s σ H Q I h => ?_⟩
  refine wpAny_Call_Name_kw (ld_glob I hg hm ?_ hdb)
  refine PySem.W.callWith_K (h₀ := X.base) I.ok.mod.kin hk (thn (ha.run pos pins s σ H _ I h) fun us s1 ⟨vs, H1, I1, r, q⟩ => ⟨I1.kIn, ?_⟩) he hpl
  exact runX F hgd hr hb (hx σ) I1 r q
/-- f(k = v, ..), keywords alone, of a def that does not raise there -/
theorem pe_callXk (F : FnX X.prog X.w X.K X.mg X.base k f fd ps sp) (hgd : X.A.guards = some []) (hr : Room k X.A) (hg : Gl X x) (hm : X.mg x = some (.ref f)) (hk : PySem.W.keepIn X.K (.ref f) = true) (hb : KBinds X.K fd ps ks g gV)
    (hkw : PK X kws tk) (hall : (backToKw pos (keywordEach kws X.env)).all (·.1.isSome) = true := by rfl) (hks : (backToKw pos (keywordEach kws X.env)).filterMap (·.1) = ks := by rfl)
    (hdb : (x == ("__debug__" : Str)) = false := by decide)
    (hpl : ((backTo pos (starEach [] X.env)).any (·.1) || (backToKw pos (keywordEach kws X.env)).any (·.1.isNone)) = false := by rfl) :
    PE X (.Call (.Name x p) [] kws pos) (tCallK sp gV E0 tNil tk) := by
  refine ⟨fun pins s σ H Q I h => ?_⟩
  refine wpAny_Call_Name_kw (ld_glob I hg hm ?_ hdb)
  refine PySem.W.callWith_KW0 (h₀ := X.base) I.ok.mod.kin hk hall ?_ hpl
  refine thn (hkw.run pos pins s σ H _ I h) fun ws s2 ⟨zs, H2, I2, rz, q2⟩ => ⟨I2.kIn, ?_⟩
  rw [hks]
  have q3 : sp (gV [] zs) H2 Q E0 := q2
  have r2 := hb.rel (us := []) (vs := []) .nil rz
  have hl : (g [] ws).length = ps.length := by rw [← r2.length]; exact F.len _ _ _ _ q3
  refine wpAny_call (codeAny_mono (F.run X.A X.stack s2 H2 ⟨[], ks.zip ws⟩ (g [] ws) (gV [] zs) Q E0 hgd hr I2.env0 (hb.to s2 [] ws I2.kIn hl) r2 q3) fun r3 s' hq => ?_)
  cases r3 with
  | error e =>
    obtain ⟨_, _, _, _, _, _, _, _, _, _, _, _, z⟩ := hq
    exact z.elim
  | ok fl =>
    cases fl with
    | ret u => exact I2.after hq
    | next => exact False.elim hq
    | brk => exact False.elim hq
    | cont => exact False.elim hq
end
/-! ### the error classes -/
def initAt (i : Nat) : Stmt := match top i with
  | .ClassDef _ _ _ (st :: _) _ _ _ _ _ _ _ => st
  | _ => .Pass ⟨0, 0, 0, 0⟩
def sp_init (K : PySem.W.Frag) (fld : Str) : Sp := fun vs H Q _ => ∃ (a C : Addr) (v : V), vs = [.ref a, v] ∧ OexC K C ∧ PySem.W.findIn K (.ref C) fld = some none ∧ H a = some (exo a C none) ∧
  ∀ dx, H dx = none → dx ≠ a → Q .non (upd (upd H dx (exd dx [(fld, v)])) a (exo a C (some dx)))
theorem sc_init3 : FnScope ["self", "value"] ["self", "value"] (defScope (initAt 3)) := ⟨rfl, rfl, rfl, by decide +kernel, rfl, by decide +kernel, by decide +kernel⟩
theorem ok_init3 {P : Program} {w : World} {K : PySem.W.Frag} {mg : Str → Option Value} {base : Heap} {fI : Addr} {fd : FuncData} (F : Fun K "__init__" "NotNumber.__init__" (initAt 3) fI fd) : FnOk P w K mg base CX0 1 fI fd ["self", "value"] (sp_init K "value") := by
  refine F.ok sc_init3 (fun vs H Q E h => ?_) fun cdv A outer s H vs Q E hr h => ⟨_, pss_one (ps_ost (pv 0) (pv 1)), ?_⟩
  · obtain ⟨a, C, v, rfl, _⟩ := h
    rfl
  · obtain ⟨a, C', v, rfl, h1, h2, h3, q⟩ := h
    exact ⟨v, rfl, .ref a, rfl, a, C', rfl, h1, h2, .inl ⟨h3, q⟩⟩
structure ExN (K : PySem.W.Frag) (mg : Str → Option Value) (cn fld : Str) (C fI : Addr) (fd : FuncData) : Prop where
  gC : mg cn = some (.ref C)
  T : OexC K C
  iC : PySem.W.findIn K (.ref C) "__init__" = some (some (.ref fI))
  tI : PySem.W.typeIn K (.ref fI) = some (.type "function")
  no : PySem.W.findIn K (.ref C) fld = some none
  X : XfC K C
  te : PySem.W.exmOne K (.ref C) (.ref C) = some true
  I : ∀ (P : Program) (w : World) (base : Heap), FnOk P w K mg base CX0 1 fI fd ["self", fld] (sp_init K fld)
  b : Binds K fd ["self", fld] []
/-- raise the class: the error's own dict holds the value -/
def tRz (K : PySem.W.Frag) (C : Addr) (fld : Str) (W : WX) (ta : TA) : TS := fun _ σ H => tMkO C (sp_init K fld) [] ta σ H fun cls d H' => W cls d σ H'
theorem ps_rz {X : Cx} {C fI : Addr} {fd : FuncData} {W : WX} {e : Expr} {ta : TA} {p pos pos2 : Pos} (hc : X.calm = true) {cn fld : Str} (T : ExN X.K X.mg cn fld C fI fd) (hr : Room 2 X.A) (tk : Takes X W) (ha : PA X [e] ta) (hg : Gl X cn := by rfl) (hdb : (cn == ("__debug__" : Str)) = false := by decide)
    (he : starEach (e :: []) X.env = (false, eval e X.env) :: starEach [] X.env := by rfl) (hpl : (backTo pos (starEach [] X.env)).any (·.1) = false := by rfl) :
    PS X (.Raise (some (.Call (.Name cn p) [e] [] pos)) none pos2) (tRz X.K C fld W ta) :=
  ps_raise hc tk (pmk_oex (CX := CX0) (k := 1) (dvs := []) (ds := []) T.T T.iC T.tI (T.I _ _ _) hr T.b .nil (fun _ _ _ _ _ _ _ h => h.elim) hg T.gC ha hdb he hpl)
theorem ev_rz {L : Rl} {C : Addr} {fld : Str} {Γ : List (Option PyData)} {te : TE} {d : PyData} {A : Addr → Prop} {σ : L2.St} {H : Hp} {W : WX} (T : OexC L.K C) (no : PySem.W.findIn L.K (.ref C) fld = some none) (h : EvD L te Γ d) (hd : d ≠ mark) (hi : Inn A H) (he : EnvOk L A σ H Γ) (hg : L.G 0 H)
    (q : ∀ v dd H', L.R 0 H H' → H' dd = some (.xd [(fld, v)]) → Dv L.K A H' v d → W (.ref C) (some dd) σ H') : ∀ D : Ends, tRz L.K C fld W (tCons te tNil) D σ H := fun D => by
  show tMkO C (sp_init L.K fld) [] (tCons te tNil) σ H fun cls dd H' => W cls dd σ H'
  refine h A σ H hi he hg _ fun v d1 H1 r1 hv e1 => ?_
  subst e1
  refine ⟨(show 1 ≤ 1000 by decide), fun a ha => ?_⟩
  have hv1 := hv.ne hd
  refine ⟨a, C, v, rfl, T, no, upd_same, fun dx hdx hne => ?_⟩
  have h1 : H1 dx = none := by rwa [upd_ne hne] at hdx
  refine ⟨rfl, dx, [(fld, v)], upd_same, by rw [upd_ne hne, upd_same], h1, ?_⟩
  have sm : Same H1 (upd (del (upd (upd (upd H1 a (exo a C none)) dx (exd dx [(fld, v)])) a (exo a C (some dx))) a) dx (.xd [(fld, v)])) := fun b o e => by
    have n1 : b ≠ a := ne_of_none e ha
    have n2 : b ≠ dx := ne_of_none e h1
    rw [upd_ne n2, del_ne n1, upd_ne n1, upd_ne n2, upd_ne n1]
    exact e
  exact q v dx _ (L.tr (a := 0) (b := 0) r1 (L.same (Rl.gR (b := 0) hg r1) sm)) upd_same (hv1.map fun b o na e k => ⟨na, sm b o e⟩)

structure CalX (P : Program) (w : World) (K : PySem.W.Frag) (mg : Str → Option Value) (base : Heap) (x : Str) (st : Stmt) (ps : List Str) (k : Nat) (sp : Sp) (f : Addr) (fd : FuncData) : Prop where
  gm : mg x = some (.ref f)
  F : Fun K x x st f fd
  b : Binds K fd ps []
  G : FnX P w K mg base k f fd ps sp
theorem CalX.kp {P : Program} {w : World} {K : PySem.W.Frag} {mg : Str → Option Value} {base : Heap} {x : Str} {st : Stmt} {ps : List Str} {k : Nat} {sp : Sp} {f : Addr} {fd : FuncData} (c : CalX P w K mg base x st ps k sp f fd) : PySem.W.keepIn K (.ref f) = true := c.F.kp
/-- nothing changes of what there was at H0 -/
def memL (K : PySem.W.Frag) (H0 : Hp) : Rl := { pureL K with G := fun _ H => Same H0 H, gle := fun _ h => h, gr := fun g r => Same.trans g r, same := fun _ s => s, fresh := (pureL K).fresh, keep := (pureL K).keep, free := (pureL K).free, mref := (pureL K).mref, rle := (pureL K).rle, tr := (pureL K).tr }
/-- a statement that raises, where its error is let out -/
theorem sg_rz {K : PySem.W.Frag} {H0 : Hp} {C : Addr} {fld : Str} {Γ : List (Option PyData)} {te : TE} {d : PyData} {W : WX} {N : List (Option PyData) → Prop} {Rt : PyData → Prop} (T : OexC K C) (no : PySem.W.findIn K (.ref C) fld = some none) (h : EvD (memL K H0) te Γ d) (hd : d ≠ mark)
    (q : ∀ A v dd σ H', Same H0 H' → H' dd = some (.xd [(fld, v)]) → Dv K A H' v d → W (.ref C) (some dd) σ H') : SG (memL K H0) 0 (tRz K C fld W (tCons te tNil)) Γ N Rt := fun A σ H hi he hg D _ _ => ev_rz (L := memL K H0) T no h hd hi he hg (fun v dd H' r hx hv => q A v dd σ H' (Same.trans hg r) hx hv) D
theorem sg_drop {L : Rl} {te : TE} {Γ : List (Option PyData)} {d : PyData} {N : List (Option PyData) → Prop} {Rt : PyData → Prop} (h : EvD L te Γ d) (k : N Γ) : SG L 0 (tDrop te) Γ N Rt := fun A σ H hi he hg D q1 _ => h A σ H hi he hg _ fun v d1 H1 r1 _ _ => q1 σ H1 Γ r1 (he.r r1) k
end V1
set_option Elab.async false
set_option linter.all false
set_option maxRecDepth 100000
set_option maxHeartbeats 4000000
namespace V1
open PySem PySem.Spec PyProof.Rows L2
variable {P : Program} {w : World} {K : PySem.W.Frag} {mg : Str → Option Value} {base : Heap}

abbrev s_is_int : Stmt := top 21
abbrev n_is_int : List Str := ["value"]
theorem sc_is_int : FnScope n_is_int ["value"] (defScope s_is_int) := ⟨rfl, rfl, rfl, by decide +kernel, rfl, by decide +kernel, by decide +kernel⟩
def isIntD : PyData → Bool
  | .int _ => true
  | _ => false
def intD : PyData → Int
  | .int i => i
  | _ => 0
def sp_is_int (K : PySem.W.Frag) : Sp := spR K (fun d : PyData => [d]) (fun d => d.hasDict = false) fun d => .bool (isIntD d)
theorem ok_is_int {f : Addr} {fd : FuncData} (T : Bt K mg) (C : Cst K w mg) (D : Df K mg "is_int" s_is_int ["value"] f fd) : Cal P w K mg base "is_int" s_is_int ["value"] 1 (sp_is_int K) f fd := by
  refine ok_R D sc_is_int (fun _ => rfl) fun cdv A outer s H E hgd hr => ⟨_, (pss_one (ps_ret (pe_and (pe_callB (id := "isinstance") (x := "isinstance") call_isi (by rfl) T.isinstance (by decide +kernel) (pa_cons (pv 0) (pa_cons (pe_bltn (x := "int") (v := .ty "int") (by rfl) T.int (by decide +kernel) rfl) pa_nil))) (pe_one (pe_not (pe_callB (id := "isinstance") (x := "isinstance") call_isi (by rfl) T.isinstance (by decide +kernel) (pa_cons (pv 0) (pa_cons (pe_bltn (x := "bool") (v := .ty "bool") (by rfl) T.bool (by decide +kernel) rfl) pa_nil)))))))), ?_⟩
  intro d hd
  have hne := hd_ne hd
  show SG (pureL K) 0 _ [some d] _ _
  cases d with
  | int i => exact sg_ret ((eg_andC (L := pureL K) (a := true) (b := true) (eg_isi (n := "int") (L := pureL K) (eg_var rfl) hne (by rfl)) fun _ => eg_not (a := false) (eg_isi (n := "bool") (L := pureL K) (eg_var rfl) hne (by rfl))).to (by rfl)) rfl
  | bool b => exact sg_ret ((eg_andC (L := pureL K) (a := true) (b := false) (eg_isi (n := "int") (L := pureL K) (eg_var rfl) hne (by rfl)) fun _ => eg_not (a := true) (eg_isi (n := "bool") (L := pureL K) (eg_var rfl) hne (by rfl))).to (by rfl)) rfl
  | dict k => simp [PyData.hasDict] at hd
  | none => exact sg_ret ((eg_andC (L := pureL K) (a := false) (b := false) (eg_isi (n := "int") (L := pureL K) (eg_var rfl) hne (by rfl)) fun z => by cases z).to (by rfl)) rfl
  | str z => exact sg_ret ((eg_andC (L := pureL K) (a := false) (b := false) (eg_isi (n := "int") (L := pureL K) (eg_var rfl) hne (by rfl)) fun z => by cases z).to (by rfl)) rfl
  | list z => exact sg_ret ((eg_andC (L := pureL K) (a := false) (b := false) (eg_isi (n := "int") (L := pureL K) (eg_var rfl) hne (by rfl)) fun z => by cases z).to (by rfl)) rfl
  | tuple z => exact sg_ret ((eg_andC (L := pureL K) (a := false) (b := false) (eg_isi (n := "int") (L := pureL K) (eg_var rfl) hne (by rfl)) fun z => by cases z).to (by rfl)) rfl

abbrev s_sign_of : Stmt := top 22
abbrev n_sign_of : List Str := ["number"]
theorem sc_sign_of : FnScope n_sign_of ["number"] (defScope s_sign_of) := ⟨rfl, rfl, rfl, by decide +kernel, rfl, by decide +kernel, by decide +kernel⟩
def sp_sign_of (K : PySem.W.Frag) : Sp := spR K (fun i : Int => [.int i]) (fun _ => True) fun i => .int i.sign
theorem ok_sign_of {f : Addr} {fd : FuncData} (T : Bt K mg) (C : Cst K w mg) (D : Df K mg "sign_of" s_sign_of ["number"] f fd) : Cal P w K mg base "sign_of" s_sign_of ["number"] 1 (sp_sign_of K) f fd := by
  refine ok_R D sc_sign_of (fun _ => rfl) fun cdv A outer s H E hgd hr => ⟨_, (pss_cons (ps_if (pt_cmpR op_lt (pv 0) pe_int (nomark _)) (pss_one (ps_ret (pe_un un_neg pe_int))) pss_nil)
        (pss_one (ps_ret (pe_ifExp (pt_cmpR op_gt (pv 0) pe_int (nomark _)) pe_int pe_int)))), ?_⟩
  intro i _
  show SG (pureL K) 0 _ [some (.int i)] _ _
  refine sq_if (et_test (eg_lt (eg_var rfl) eg_int)) (fun h => ?_) fun h => ?_
  · refine sg_retq (eg_neg eg_int) ?_
    rw [Int.sign_eq_neg_one_of_neg (of_decide_eq_true h)]
  · have h0 := of_decide_eq_false h
    refine sq_next (sg_ret (eg_if (et_test (eg_gt (eg_var rfl) eg_int)) (fun h1 => ?_) fun h1 => ?_) rfl)
    · rw [Int.sign_eq_one_of_pos (of_decide_eq_true h1)]
      exact eg_int
    · have h2 := of_decide_eq_false h1
      have e : i = 0 := by omega
      rw [e]
      exact eg_int

theorem sq_tg {L : Rl} {Γ Γ' : List (Option PyData)} {te : TE} {u : TS} {d : PyData} {b : Nat} {N : List (Option PyData) → Prop} {Rt : PyData → Prop} {g : TG} {js : List Nat} (h : EvD L te Γ d) (hm : d ≠ mark) (ht : TgG L g js d Γ Γ') (k : SG L b u Γ' N Rt) : SG L b (tSeq (tAsg te g) u) Γ N Rt :=
  (sq_tgG (a := 0) h (fun _ e => by rw [e]; exact hm) fun d' e => ⟨Γ', by rw [e]; exact ht, k⟩).mono (Nat.le_of_eq (Nat.zero_add _)) (fun _ x => x) fun _ x => x

abbrev s_is_fraction : Stmt := top 23
abbrev n_is_fraction : List Str := ["value", "top", "bottom"]
theorem sc_is_fraction : FnScope n_is_fraction ["value"] (defScope s_is_fraction) := ⟨rfl, rfl, rfl, by decide +kernel, rfl, by decide +kernel, by decide +kernel⟩
def isFr : PyData → Bool
  | .tuple [x, y] => isIntD x && (isIntD y && (decide (0 < intD y) && decide ((Nat.gcd (intD x).natAbs (intD y).natAbs : Nat) = 1)))
  | _ => false
def sp_is_fraction (K : PySem.W.Frag) : Sp := spR K (fun d : PyData => [d]) (fun d => d.hasDict = false) fun d => .bool (isFr d)
theorem ok_is_fraction {f : Addr} {fd : FuncData} (T : Bt K mg) (C : Cst K w mg) (D : Df K mg "is_fraction" s_is_fraction ["value"] f fd)
    {f_is_int : Addr} {d_is_int : FuncData} (h_is_int : Cal P w K mg base "is_int" s_is_int ["value"] 1 (sp_is_int K) f_is_int d_is_int) : Cal P w K mg base "is_fraction" s_is_fraction ["value"] 2 (sp_is_fraction K) f fd := by
  refine ok_R D sc_is_fraction (fun _ => rfl) fun cdv A outer s H E hgd hr => ⟨_, (pss_cons (ps_if (PW.pt (pw_or (pt_not (pt_val (pe_callB (id := "isinstance") (x := "isinstance") call_isi (by rfl) T.isinstance (by decide +kernel) (pa_cons (pv 0) (pa_cons (pe_bltn (x := "tuple") (v := .ty "tuple") (by rfl) T.tuple (by decide +kernel) rfl) pa_nil))))) (pw_or1 (pt_cmpR op_ne (pe_callB call_len_seq (by rfl) T.len PySem.boot_len (pa_cons (pv 0) pa_nil)) pe_int (nomark _))))) (pss_one (ps_ret pe_bl)) pss_nil)
        (pss_cons (ps_asg (pv 0) (pg_tup rfl (pgs_cons (pg_name (i := 1) sc_is_fraction.nd rfl (Or.inl rfl)) (pgs_cons (pg_name (i := 2) sc_is_fraction.nd rfl (Or.inl rfl)) pgs_nil))))
        (pss_cons (ps_if (PW.pt (pw_or (pt_not (pt_val (pe_fn (E := E0) h_is_int.G hgd (hr.mono (by decide)) (by rfl) h_is_int.gm h_is_int.kp h_is_int.b (pa_cons (pv 1) pa_nil)))) (pw_or1 (pt_not (pt_val (pe_fn (E := E0) h_is_int.G hgd (hr.mono (by decide)) (by rfl) h_is_int.gm h_is_int.kp h_is_int.b (pa_cons (pv 2) pa_nil))))))) (pss_one (ps_ret pe_bl)) pss_nil)
        (pss_one (ps_ret (pe_and (pe_cmpR op_gt (pv 2) pe_int (nomark _)) (pe_one (pe_cmpR op_eq (pe_callBfun cr_gcd (by rfl) C.gcd (pa_cons (pv 1) (pa_cons (pv 2) pa_nil))) pe_int (nomark _))))))))), ?_⟩
  intro d hd
  have hne := hd_ne hd
  show SG (pureL K) 0 _ [some d, none, none] _ _
  cases hT : isTup d with
  | false =>
    have hF : isFr d = false := by cases d <;> first | rfl | cases hT
    refine sq_if (k := true) (et_or1 (et_is (et_not (et_test (eg_isT (eg_var rfl) hd))) (by rw [hT]; rfl))) (fun _ => sg_retq eg_bl (by rw [hF])) fun z => by cases z
  | true =>
  cases d with
  | tuple ds =>
    have hm := hd_mem hd
    have hl : EtD (pureL K) _ [some (.tuple ds), none, none] (!decide ((ds.length : Int) = 2)) := et_or0 ((et_not (et_test (eg_isT (eg_var (i := 0) rfl) hd)) : EtD (pureL K) _ _ false)) (et_test (eg_neI (eg_cb (ea_cons (eg_var (i := 0) rfl) ea_nil) cs_lenT) eg_int))
    match ds, hd, hm, hl, hne with
    | [], _, _, hl, _ => exact sq_if hl (fun _ => sg_retq eg_bl rfl) fun z => by simp at z
    | [_], _, _, hl, _ => exact sq_if hl (fun _ => sg_retq eg_bl rfl) fun z => by simp at z
    | a :: b :: c :: r, _, _, hl, _ => exact sq_if hl (fun _ => sg_retq eg_bl rfl) fun z => (by simp at z; omega)
    | [x, y], hd, hm, hl, hne =>
      have hx := hm x (by simp)
      have hy := hm y (by simp)
      refine sq_if_no (et_is hl (by rfl)) (sq_tg (eg_var rfl) hne tg_two ?_)
      show SG (pureL K) 0 _ [some (.tuple [x, y]), some x, some y] _ _
      have ex : EvD (pureL K) _ [some (.tuple [x, y]), some x, some y] (.bool (isIntD x)) := eg_callR (E := E0) (L := pureL K) (args := fun d : PyData => [d]) (ok := fun d => d.hasDict = false) (val := fun d => .bool (isIntD d)) x (ea_cons (eg_var (i := 1) rfl) ea_nil) hx (hd_nomk hx)
      have ey : EvD (pureL K) _ [some (.tuple [x, y]), some x, some y] (.bool (isIntD y)) := eg_callR (E := E0) (L := pureL K) (args := fun d : PyData => [d]) (ok := fun d => d.hasDict = false) (val := fun d => .bool (isIntD d)) y (ea_cons (eg_var (i := 2) rfl) ea_nil) hy (hd_nomk hy)
      cases hix : isIntD x with
      | false => exact sq_if (k := true) (et_or1 ((et_not (et_test (ex.to (by rw [hix] : _ = PyData.bool false))) : EtD (pureL K) _ _ true))) (fun _ => sg_retq eg_bl (by simp [isFr, hix])) fun z => by cases z
      | true =>
        cases hiy : isIntD y with
        | false => exact sq_if (k := true) (et_or0 ((et_not (et_test (ex.to (by rw [hix] : _ = PyData.bool true))) : EtD (pureL K) _ _ false)) ((et_not (et_test (ey.to (by rw [hiy] : _ = PyData.bool false))) : EtD (pureL K) _ _ true))) (fun _ => sg_retq eg_bl (by simp [isFr, hix, hiy])) fun z => by cases z
        | true =>
          refine sq_if_no (et_or0 ((et_not (et_test (ex.to (by rw [hix] : _ = PyData.bool true))) : EtD (pureL K) _ _ false)) ((et_not (et_test (ey.to (by rw [hiy] : _ = PyData.bool true))) : EtD (pureL K) _ _ false))) ?_
          cases x with
          | int i =>
            cases y with
            | int j => exact sg_ret ((eg_and (eg_gt (eg_var (i := 2) rfl) eg_int) (eg_eqI (eg_cb (ea_cons (eg_var (i := 1) rfl) (ea_cons (eg_var (i := 2) rfl) ea_nil)) cs_gcd) eg_int))) (by
                show PyData.bool (decide (0 < j) && decide (((Nat.gcd i.natAbs j.natAbs : Nat) : Int) = 1)) = PyData.bool (true && (true && (decide (0 < j) && decide (Nat.gcd i.natAbs j.natAbs = 1))))
                have e : decide (((Nat.gcd i.natAbs j.natAbs : Nat) : Int) = 1) = decide (Nat.gcd i.natAbs j.natAbs = 1) := by
                  rw [decide_eq_decide]
                  omega
                rw [e] <;> rfl)
            | _ => cases hiy
          | _ => cases hix
  | _ => cases hT

end V1
set_option Elab.async false
set_option linter.all false
set_option maxRecDepth 100000
set_option maxHeartbeats 4000000
/-! Defs that raise, read at one avoid-set. -/
namespace V1
open PySem PySem.Spec PyProof.Rows L2
section
variable {L : Rl} {Γ : List (Option PyData)} {te : TE} {tt : TT} {ts u z : TS} {A : Addr → Prop} {H0 : Hp} {D : Ends} {d : PyData}
theorem sx_if {k : Bool} (h : EtD L tt Γ k) (h1 : k = true → SX L A H0 D (tSeq ts z) Γ) (h2 : k = false → SX L A H0 D (tSeq u z) Γ) : SX L A H0 D (tSeq (tIfS tt ts u) z) Γ := fun σ H hi he hg r0 => h A σ H hi he hg _ fun H1 r1 => by
  have r : L.R 0 H0 H1 := L.tr (a := 0) (b := 0) r0 r1
  have g1 : L.G 0 H1 := Rl.gR (b := 0) hg r1
  cases k with
  | true => exact h1 rfl σ H1 (hi.r r1) (he.r r1) g1 r
  | false => exact h2 rfl σ H1 (hi.r r1) (he.r r1) g1 r
theorem sx_next (h : SX L A H0 D z Γ) : SX L A H0 D (tSeq tNext z) Γ := h
theorem sx_end {Rt : PyData → Prop} {D : Ends} (h : SG L 0 ts Γ (fun _ => False) Rt) (k : ∀ v d H', L.R 0 H0 H' → Dq L A H' v d → Rt d → D.rt v H') : SX L A H0 D ts Γ := fun σ H hi he hg r0 =>
  h A σ H hi he hg D (fun _ _ _ _ _ z => z.elim) fun v d H' r hd p => k v d H' (L.tr (a := 0) (b := 0) r0 r) hd p
theorem sx_ret {D : Ends} (h : EvD L te Γ d) (k : ∀ v H', L.R 0 H0 H' → Dq L A H' v d → D.rt v H') : SX L A H0 D (tRet te) Γ := sx_end (Rt := fun x => x = d) (sg_ret h rfl) fun v d' H' r hv e => by
  subst e
  exact k v H' r hv
end
theorem sx_rz {K : PySem.W.Frag} {A : Addr → Prop} {H0 : Hp} {C : Addr} {fld : Str} {Γ : List (Option PyData)} {te : TE} {z : TS} {d : PyData} {E : XK} {D : Ends} (T : OexC K C) (no : PySem.W.findIn K (.ref C) fld = some none) (h : EvD (pureL K) te Γ d) (hd : d ≠ mark)
    (q : ∀ v dd H', Same H0 H' → H' dd = some (.xd [(fld, v)]) → Dv K A H' v d → E (.ref C) (some dd) H') : SX (pureL K) A H0 D (tSeq (tRz K C fld (fun cls d _ H => E cls d H) (tCons te tNil)) z) Γ := fun σ H hi he hg r0 =>
  ev_rz (L := pureL K) (W := fun cls d _ H => E cls d H) T no h hd hi he hg (fun v dd H' r hx hv => q v dd H' (Same.trans r0 r) hx hv) _
theorem start_x {K : PySem.W.Frag} {A : Addr → Prop} {H : Hp} {D : Ends} {ts : TS} {Nm : List Str} {vs : List V} {ds : List PyData} (hi : Inn A H) (hl : vs.length = ds.length) (hv : ∀ (i : Nat) d, ds[i]? = some d → ∃ v, vs[i]? = some v ∧ Dv K A H v d) (h : SX (pureL K) A H D ts (Ga Nm.length ds)) : ts D (L2.start Nm vs) H :=
  h _ H hi (start_ok (L := pureL K) hl fun i d e => let ⟨v, e1, e2⟩ := hv i d e; ⟨v, e1, .inr e2⟩) trivial (Same.refl H)
theorem pass0 {X : Cx} {σ : L2.St} : PassesAt (L2.CX X.prog X.w) X σ E0 := fun pins H s e s' I hq => by
  obtain ⟨_, _, _, _, _, _, _, _, _, _, _, _, z⟩ := hq
  exact z.elim
/-! ### numbers in lowest terms -/
def lowA (a b : Int) : Int := if b < 0 then -(a / (Nat.gcd a.natAbs b.natAbs : Nat)) else a / (Nat.gcd a.natAbs b.natAbs : Nat)
def lowB (a b : Int) : Int := if b < 0 then -(b / (Nat.gcd a.natAbs b.natAbs : Nat)) else b / (Nat.gcd a.natAbs b.natAbs : Nat)
def p2 (a b : Int) : PyData := .tuple [.int a, .int b]
def lowD (a b : Int) : PyData := p2 (lowA a b) (lowB a b)
theorem gcd_pos {a b : Int} (h : b ≠ 0) : 0 < Nat.gcd a.natAbs b.natAbs := Nat.gcd_pos_of_pos_right _ (by omega)
theorem gcd_da (a b : Int) : ((Nat.gcd a.natAbs b.natAbs : Nat) : Int) ∣ a := by
  rw [Int.ofNat_dvd_left]; exact Nat.gcd_dvd_left _ _
theorem gcd_db (a b : Int) : ((Nat.gcd a.natAbs b.natAbs : Nat) : Int) ∣ b := by
  rw [Int.ofNat_dvd_left]; exact Nat.gcd_dvd_right _ _
theorem fdiv_neg {a g : Int} (h : g ∣ a) (hg : g ≠ 0) : a.fdiv (-g) = -(a / g) := by
  obtain ⟨k, rfl⟩ := h
  rw [Int.mul_ediv_cancel_left k hg, show g * k = (-g) * (-k) by grind, Int.mul_fdiv_cancel_left (-k) (by omega)]
theorem fdiv_pos {a g : Int} (h : g ∣ a) (hg : g ≠ 0) : a.fdiv g = a / g := by
  obtain ⟨k, rfl⟩ := h
  rw [Int.mul_ediv_cancel_left k hg, Int.mul_fdiv_cancel_left k hg]
theorem lowB_pos {a b : Int} (h : b ≠ 0) : 0 < lowB a b := by
  have hg := gcd_pos (a := a) h
  obtain ⟨k, hk⟩ := gcd_db a b
  unfold lowB
  generalize (Nat.gcd a.natAbs b.natAbs) = g at *
  have e : b / (g : Int) = k := by rw [hk]; exact Int.mul_ediv_cancel_left k (by omega)
  rw [e]
  split
  · rename_i hb
    rw [hk] at hb
    have : k < 0 := by
      by_cases z : k < 0
      · exact z
      · have := Int.mul_nonneg (show (0 : Int) ≤ (g : Int) by omega) (show 0 ≤ k by omega)
        omega
    omega
  · rename_i hb
    have : k ≠ 0 := fun z => h (by rw [hk, z, Int.mul_zero])
    have : 0 ≤ k := by
      by_cases z : k < 0
      · have := Int.mul_neg_of_pos_of_neg (show (0 : Int) < (g : Int) by omega) z
        omega
      · omega
    omega
theorem natAbs_ediv_le (a : Int) (g : Nat) (h : ((g : Nat) : Int) ∣ a) : (a / (g : Int)).natAbs ≤ a.natAbs := by
  rw [Int.natAbs_ediv_of_dvd h]
  exact Nat.div_le_self _ _
theorem lowA_le (a b : Int) : (lowA a b).natAbs ≤ a.natAbs := by
  unfold lowA
  split
  · rw [Int.natAbs_neg]; exact natAbs_ediv_le _ _ (gcd_da a b)
  · exact natAbs_ediv_le _ _ (gcd_da a b)
theorem lowB_le (a b : Int) : (lowB a b).natAbs ≤ b.natAbs := by
  unfold lowB
  split
  · rw [Int.natAbs_neg]; exact natAbs_ediv_le _ _ (gcd_db a b)
  · exact natAbs_ediv_le _ _ (gcd_db a b)
theorem low_gcd {a b : Int} (h : b ≠ 0) : Nat.gcd (lowA a b).natAbs (lowB a b).natAbs = 1 := by
  have hg := gcd_pos (a := a) h
  have e1 : (lowA a b).natAbs = a.natAbs / Nat.gcd a.natAbs b.natAbs := by
    unfold lowA
    split
    · rw [Int.natAbs_neg, Int.natAbs_ediv_of_dvd (gcd_da a b)]; rfl
    · rw [Int.natAbs_ediv_of_dvd (gcd_da a b)]; rfl
  have e2 : (lowB a b).natAbs = b.natAbs / Nat.gcd a.natAbs b.natAbs := by
    unfold lowB
    split
    · rw [Int.natAbs_neg, Int.natAbs_ediv_of_dvd (gcd_db a b)]; rfl
    · rw [Int.natAbs_ediv_of_dvd (gcd_db a b)]; rfl
  rw [e1, e2]
  rw [Nat.gcd_div (Nat.gcd_dvd_left _ _) (Nat.gcd_dvd_right _ _), Nat.div_self hg]
end V1
set_option Elab.async false
set_option linter.all false
set_option maxRecDepth 100000
set_option maxHeartbeats 4000000
namespace V1
open PySem PySem.Spec PyProof.Rows L2
variable {P : Program} {w : World} {K : PySem.W.Frag} {mg : Str → Option Value} {base : Heap}

theorem mul_lt {i j : Int} {a b : Nat} (ha : i.natAbs < 2 ^ a) (hb : j.natAbs < 2 ^ b) : (i * j).natAbs < 2 ^ (a + b) := by
  rw [Int.natAbs_mul]
  exact nat_mul_lt ha hb
theorem add_lt {i j : Int} {a : Nat} (ha : i.natAbs < 2 ^ a) (hb : j.natAbs < 2 ^ a) : (i + j).natAbs < 2 ^ (a + 1) := by
  have := Int.natAbs_add_le i j
  rw [Nat.pow_succ]
  omega
theorem sub_lt {i j : Int} {a : Nat} (ha : i.natAbs < 2 ^ a) (hb : j.natAbs < 2 ^ a) : (i - j).natAbs < 2 ^ (a + 1) := by
  have := Int.natAbs_sub_le i j
  rw [Nat.pow_succ]
  omega
theorem le_pow {i : Int} {a b : Nat} (h : i.natAbs < 2 ^ a) (hab : a ≤ b := by decide) : i.natAbs < 2 ^ b := Nat.lt_of_lt_of_le h (Nat.pow_le_pow_right (by decide) hab)
def okP (p : Int × Int) : Prop := p.1.natAbs < 2 ^ 800 ∧ p.2.natAbs < 2 ^ 800 ∧ p.2 ≠ 0
abbrev PP : Type := (Int × Int) × (Int × Int)
def argsP (p : PP) : List PyData := [p2 p.1.1 p.1.2, p2 p.2.1 p.2.2]
def okPP (p : PP) : Prop := okP p.1 ∧ okP p.2
def crossA (p : PP) : Int := p.1.1 * p.2.2 + p.2.1 * p.1.2
def crossM (p : PP) : Int := p.1.1 * p.2.2 - p.2.1 * p.1.2

abbrev s_check_fraction : Stmt := top 24
abbrev n_check_fraction : List Str := ["value"]
theorem sc_check_fraction : FnScope n_check_fraction ["value"] (defScope s_check_fraction) := ⟨rfl, rfl, rfl, by decide +kernel, rfl, by decide +kernel, by decide +kernel⟩
def chkX (d : PyData) : Except PyData PyData := if isFr d = true then .ok d else .error d
def sp_check_fraction (K : PySem.W.Frag) (Ce : Addr) : Sp := spX K Ce "value" (fun d : PyData => [d]) (fun d => d.hasDict = false) chkX
theorem len_check_fraction (Ce : Addr) : ∀ vs H Q E, sp_check_fraction K Ce vs H Q E → vs.length = (["value"] : List Str).length := fun vs H Q E ⟨a, A, _, _, hl, _⟩ => hl
theorem ok_check_fraction {f : Addr} {fd : FuncData} (T : Bt K mg) (C : Cst K w mg) (D : Df K mg "check_fraction" s_check_fraction ["value"] f fd) {Ce fIe : Addr} {fde : FuncData} (TN : ExN K mg "NotNumber" "value" Ce fIe fde)
    {f_is_fraction : Addr} {d_is_fraction : FuncData} (h_is_fraction : Cal P w K mg base "is_fraction" s_is_fraction ["value"] 2 (sp_is_fraction K) f_is_fraction d_is_fraction) : CalX P w K mg base "check_fraction" s_check_fraction ["value"] 3 (sp_check_fraction K Ce) f fd := by
  refine ⟨D.gm, D.F, D.b, okX D.F sc_check_fraction (len_check_fraction Ce) (fun cdv A outer s H vs Q E hgd hr h => ⟨_, (pss_cons (ps_if (pt_not (pt_val (pe_fn (E := E0) h_is_fraction.G hgd (hr.mono (by decide)) (by rfl) h_is_fraction.gm h_is_fraction.kp h_is_fraction.b (pa_cons (pv 0) pa_nil)))) (pss_one (ps_rz rfl TN (hr.mono (by decide)) (takes_of rfl rfl rfl rfl) (pa_cons (pv 0) pa_nil))) pss_nil)
        (pss_one (ps_ret (pv 0)))), ?_⟩)⟩
  obtain ⟨d, A', hd, hi, hl, hv, q1, q2⟩ := h
  have hd : d.hasDict = false := hd
  refine start_x (K := K) (Nm := n_check_fraction) hi hl hv ?_
  show SX (pureL K) A' H _ _ [some d]
  refine sx_if (et_not (et_test (eg_callR (L := pureL K) (args := fun d : PyData => [d]) (ok := fun d => d.hasDict = false) (val := fun d => .bool (isFr d)) d (ea_cons (eg_var (i := 0) rfl) ea_nil) hd (hd_nomk hd)))) (fun h1 => ?_) fun h1 => sx_next ?_
  · have hF : isFr d = false := by simpa using h1
    exact sx_rz TN.T TN.no (eg_var (i := 0) rfl) (hd_ne hd) fun v dd H' sm hx hv => q2 _ (by simp [chkX, hF]) v dd H' sm hx hv
  · have hF : isFr d = true := by simpa using h1
    exact sx_ret (eg_var (i := 0) rfl) fun v H' r hv => q1 _ (by simp [chkX, hF]) v H' r (hv.ne (hd_ne hd))

abbrev s_lowest : Stmt := top 25
abbrev n_lowest : List Str := ["top", "bottom", "shared"]
theorem sc_lowest : FnScope n_lowest ["top", "bottom"] (defScope s_lowest) := ⟨rfl, rfl, rfl, by decide +kernel, rfl, by decide +kernel, by decide +kernel⟩
def lowX (p : Int × Int) : Except PyData PyData := if p.2 = 0 then .error (.int 0) else .ok (lowD p.1 p.2)
def okL (p : Int × Int) : Prop := p.1.natAbs < 2 ^ 4000 ∧ p.2.natAbs < 2 ^ 4000
def sp_lowest (K : PySem.W.Frag) (Ce : Addr) : Sp := spX K Ce "value" (fun p : Int × Int => [.int p.1, .int p.2]) okL lowX
theorem len_lowest (Ce : Addr) : ∀ vs H Q E, sp_lowest K Ce vs H Q E → vs.length = (["top", "bottom"] : List Str).length := fun vs H Q E ⟨a, A, _, _, hl, _⟩ => hl
theorem ok_lowest {f : Addr} {fd : FuncData} (T : Bt K mg) (C : Cst K w mg) (D : Df K mg "lowest" s_lowest ["top", "bottom"] f fd) {Ce fIe : Addr} {fde : FuncData} (TN : ExN K mg "NotNumber" "value" Ce fIe fde) : CalX P w K mg base "lowest" s_lowest ["top", "bottom"] 3 (sp_lowest K Ce) f fd := by
  refine ⟨D.gm, D.F, D.b, okX D.F sc_lowest (len_lowest Ce) (fun cdv A outer s H vs Q E hgd hr h => ⟨_, (pss_cons (ps_if (pt_cmpR op_eq (pv 1) pe_int (nomark _)) (pss_one (ps_rz rfl TN (hr.mono (by decide)) (takes_of rfl rfl rfl rfl) (pa_cons (pv 1) pa_nil))) pss_nil)
        (pss_cons (ps_set (i := 2) sc_lowest.nd rfl (Or.inl rfl) (pe_callBfun cr_gcd (by rfl) C.gcd (pa_cons (pv 0) (pa_cons (pv 1) pa_nil))))
        (pss_cons (ps_if (pt_cmpR op_lt (pv 1) pe_int (nomark _)) (pss_one (ps_set (i := 2) sc_lowest.nd rfl (Or.inl rfl) (pe_un un_neg (pv 2)))) pss_nil)
        (pss_one (ps_ret (pe_tup (pa_cons (pe_op op_fdivG (pv 0) (pv 2)) (pa_cons (pe_op op_fdivG (pv 1) (pv 2)) pa_nil)))))))), ?_⟩)⟩
  obtain ⟨⟨a, b⟩, A', ⟨ha, hb⟩, hi, hl, hv, q1, q2⟩ := h
  have hb : b.natAbs < 2 ^ 4000 := hb
  refine start_x (K := K) (Nm := n_lowest) hi hl hv ?_
  show SX (pureL K) A' H _ _ [some (.int a), some (.int b), none]
  refine sx_if (et_test (eg_eqI (eg_var (i := 1) rfl) eg_int)) (fun h1 => ?_) fun h1 => sx_next ?_
  · have e : b = 0 := of_decide_eq_true h1
    subst e
    exact sx_rz TN.T TN.no (eg_var (i := 1) rfl) (by intro z; cases z) fun v dd H' sm hx hv => q2 _ (by simp [lowX]) v dd H' sm hx hv
  · have hb0 : b ≠ 0 := of_decide_eq_false h1
    have hg := gcd_pos (a := a) hb0
    have hgl : ∀ j : Int, j.natAbs = Nat.gcd a.natAbs b.natAbs → CDivG a j ∧ CDivG b j := fun j e => by
      have h3 : j.natAbs < 2 ^ 4000 := by
        rw [e]
        exact Nat.lt_of_le_of_lt (Nat.le_of_dvd (by omega) (Nat.gcd_dvd_right _ _)) hb
      have h4 := PySem.Flt.log2_lt_of (by decide) h3
      exact ⟨⟨by omega, by omega⟩, ⟨by omega, by omega⟩⟩
    refine sx_end (Rt := fun d => d = lowD a b) (sq_asg (i := 2) (eg_cb (ea_cons (eg_var (i := 0) rfl) (ea_cons (eg_var (i := 1) rfl) ea_nil)) cs_gcd) ?_) fun v d H' r hd e => by
      subst e
      exact q1 _ (by simp [lowX, hb0]) v H' r (hd.ne (by intro z; cases z))
    show SG (pureL K) 0 _ [some (.int a), some (.int b), some (.int ((Nat.gcd a.natAbs b.natAbs : Nat) : Int))] _ _
    have hg0 : ((Nat.gcd a.natAbs b.natAbs : Nat) : Int) ≠ 0 := by omega
    refine sq_if (et_test (eg_lt (eg_var (i := 1) rfl) eg_int)) (fun h2 => ?_) fun h2 => sq_next ?_
    · have h2 : b < 0 := of_decide_eq_true h2
      obtain ⟨c1, c2⟩ := hgl (-((Nat.gcd a.natAbs b.natAbs : Nat) : Int)) (by rw [Int.natAbs_neg, Int.natAbs_natCast])
      refine sq_asg (i := 2) (eg_neg (eg_var (i := 2) rfl)) (sg_ret (eg_tup (ea_cons (eg_fdiv (eg_var (i := 0) rfl) (eg_var (i := 2) rfl) c1) (ea_cons (eg_fdiv (eg_var (i := 1) rfl) (eg_var (i := 2) rfl) c2) ea_nil))) ?_)
      rw [fdiv_neg (gcd_da a b) hg0, fdiv_neg (gcd_db a b) hg0]
      unfold lowD lowA lowB p2
      rw [if_pos h2, if_pos h2]
    · have h2 : ¬ b < 0 := of_decide_eq_false h2
      obtain ⟨c1, c2⟩ := hgl (((Nat.gcd a.natAbs b.natAbs : Nat) : Int)) (Int.natAbs_natCast _)
      refine sg_ret (eg_tup (ea_cons (eg_fdiv (eg_var (i := 0) rfl) (eg_var (i := 2) rfl) c1) (ea_cons (eg_fdiv (eg_var (i := 1) rfl) (eg_var (i := 2) rfl) c2) ea_nil))) ?_
      rw [fdiv_pos (gcd_da a b) hg0, fdiv_pos (gcd_db a b) hg0]
      unfold lowD lowA lowB p2
      rw [if_neg h2, if_neg h2]

theorem eg_low {L : Rl} {Γ : List (Option PyData)} {t : TA} {Ce : Addr} {E : L2.St → XK} {i j : Int} (ha : EaD L t Γ [.int i, .int j]) (h1 : i.natAbs < 2 ^ 4000) (h2 : j.natAbs < 2 ^ 4000) (h3 : j ≠ 0) : EvD L (tCallS (sp_lowest L.K Ce) E t) Γ (lowD i j) :=
  eg_callXv (L := L) (C := Ce) (fld := "value") (args := fun p : Int × Int => [.int p.1, .int p.2]) (ok := okL) (res := lowX) (i, j) ha ⟨h1, h2⟩ (by simp [lowX, h3])

abbrev s_added : Stmt := top 26
abbrev n_added : List Str := ["one", "other"]
theorem sc_added : FnScope n_added ["one", "other"] (defScope s_added) := ⟨rfl, rfl, rfl, by decide +kernel, rfl, by decide +kernel, by decide +kernel⟩
def sp_added (K : PySem.W.Frag) : Sp := spR K argsP okPP fun p => lowD (crossA p) (p.1.2 * p.2.2)
theorem ok_added {f : Addr} {fd : FuncData} (T : Bt K mg) (C : Cst K w mg) (D : Df K mg "added" s_added ["one", "other"] f fd) {Ce : Addr}
    {f_lowest : Addr} {d_lowest : FuncData} (h_lowest : CalX P w K mg base "lowest" s_lowest ["top", "bottom"] 3 (sp_lowest K Ce) f_lowest d_lowest) : Cal P w K mg base "added" s_added ["one", "other"] 4 (sp_added K) f fd := by
  refine ok_R D sc_added (fun _ => rfl) fun cdv A outer s H E hgd hr => ⟨_, (pss_one (ps_ret (pe_callX (E := fun _ => E0) h_lowest.G hgd (hr.mono (by decide)) (by rfl) h_lowest.gm h_lowest.kp h_lowest.b (fun _ => pass0) (pa_cons (pe_op op_add (pe_op op_mulW (pe_ix (ix_tupK (K := K) rfl) (pv 0) pe_int (fun _ _ => rfl)) (pe_ix (ix_tupK (K := K) rfl) (pv 1) pe_int (fun _ _ => rfl))) (pe_op op_mulW (pe_ix (ix_tupK (K := K) rfl) (pv 1) pe_int (fun _ _ => rfl)) (pe_ix (ix_tupK (K := K) rfl) (pv 0) pe_int (fun _ _ => rfl)))) (pa_cons (pe_op op_mulW (pe_ix (ix_tupK (K := K) rfl) (pv 0) pe_int (fun _ _ => rfl)) (pe_ix (ix_tupK (K := K) rfl) (pv 1) pe_int (fun _ _ => rfl))) pa_nil))))), ?_⟩
  rintro ⟨⟨a, b⟩, ⟨c, d⟩⟩ ⟨⟨ha, hb, hb0⟩, ⟨hc, hd, hd0⟩⟩
  show SG (pureL K) 0 _ [some (p2 a b), some (p2 c d)] _ _
  refine sg_ret (eg_low (L := pureL K) (i := a * d + c * b) (j := b * d) (ea_cons (eg_add (eg_mul (eg_ixT (eg_var (i := 0) rfl) eg_int rfl) (eg_ixT (eg_var (i := 1) rfl) eg_int rfl) (mw ha hd)) (eg_mul (eg_ixT (eg_var (i := 1) rfl) eg_int rfl) (eg_ixT (eg_var (i := 0) rfl) eg_int rfl) (mw hc hb))) (ea_cons (eg_mul (eg_ixT (eg_var (i := 0) rfl) eg_int rfl) (eg_ixT (eg_var (i := 1) rfl) eg_int rfl) (mw hb hd)) ea_nil)) (le_pow (add_lt (mul_lt ha hd) (mul_lt hc hb))) (le_pow (mul_lt hb hd)) (Int.mul_ne_zero hb0 hd0)) rfl

abbrev s_minus : Stmt := top 27
abbrev n_minus : List Str := ["one", "other"]
theorem sc_minus : FnScope n_minus ["one", "other"] (defScope s_minus) := ⟨rfl, rfl, rfl, by decide +kernel, rfl, by decide +kernel, by decide +kernel⟩
def sp_minus (K : PySem.W.Frag) : Sp := spR K argsP okPP fun p => lowD (crossM p) (p.1.2 * p.2.2)
theorem ok_minus {f : Addr} {fd : FuncData} (T : Bt K mg) (C : Cst K w mg) (D : Df K mg "minus" s_minus ["one", "other"] f fd) {Ce : Addr}
    {f_lowest : Addr} {d_lowest : FuncData} (h_lowest : CalX P w K mg base "lowest" s_lowest ["top", "bottom"] 3 (sp_lowest K Ce) f_lowest d_lowest) : Cal P w K mg base "minus" s_minus ["one", "other"] 4 (sp_minus K) f fd := by
  refine ok_R D sc_minus (fun _ => rfl) fun cdv A outer s H E hgd hr => ⟨_, (pss_one (ps_ret (pe_callX (E := fun _ => E0) h_lowest.G hgd (hr.mono (by decide)) (by rfl) h_lowest.gm h_lowest.kp h_lowest.b (fun _ => pass0) (pa_cons (pe_op op_sub (pe_op op_mulW (pe_ix (ix_tupK (K := K) rfl) (pv 0) pe_int (fun _ _ => rfl)) (pe_ix (ix_tupK (K := K) rfl) (pv 1) pe_int (fun _ _ => rfl))) (pe_op op_mulW (pe_ix (ix_tupK (K := K) rfl) (pv 1) pe_int (fun _ _ => rfl)) (pe_ix (ix_tupK (K := K) rfl) (pv 0) pe_int (fun _ _ => rfl)))) (pa_cons (pe_op op_mulW (pe_ix (ix_tupK (K := K) rfl) (pv 0) pe_int (fun _ _ => rfl)) (pe_ix (ix_tupK (K := K) rfl) (pv 1) pe_int (fun _ _ => rfl))) pa_nil))))), ?_⟩
  rintro ⟨⟨a, b⟩, ⟨c, d⟩⟩ ⟨⟨ha, hb, hb0⟩, ⟨hc, hd, hd0⟩⟩
  show SG (pureL K) 0 _ [some (p2 a b), some (p2 c d)] _ _
  refine sg_ret (eg_low (L := pureL K) (i := a * d - c * b) (j := b * d) (ea_cons (eg_sub (eg_mul (eg_ixT (eg_var (i := 0) rfl) eg_int rfl) (eg_ixT (eg_var (i := 1) rfl) eg_int rfl) (mw ha hd)) (eg_mul (eg_ixT (eg_var (i := 1) rfl) eg_int rfl) (eg_ixT (eg_var (i := 0) rfl) eg_int rfl) (mw hc hb))) (ea_cons (eg_mul (eg_ixT (eg_var (i := 0) rfl) eg_int rfl) (eg_ixT (eg_var (i := 1) rfl) eg_int rfl) (mw hb hd)) ea_nil)) (le_pow (sub_lt (mul_lt ha hd) (mul_lt hc hb))) (le_pow (mul_lt hb hd)) (Int.mul_ne_zero hb0 hd0)) rfl

abbrev s_times : Stmt := top 28
abbrev n_times : List Str := ["one", "other"]
theorem sc_times : FnScope n_times ["one", "other"] (defScope s_times) := ⟨rfl, rfl, rfl, by decide +kernel, rfl, by decide +kernel, by decide +kernel⟩
def sp_times (K : PySem.W.Frag) : Sp := spR K argsP okPP fun p => lowD (p.1.1 * p.2.1) (p.1.2 * p.2.2)
theorem ok_times {f : Addr} {fd : FuncData} (T : Bt K mg) (C : Cst K w mg) (D : Df K mg "times" s_times ["one", "other"] f fd) {Ce : Addr}
    {f_lowest : Addr} {d_lowest : FuncData} (h_lowest : CalX P w K mg base "lowest" s_lowest ["top", "bottom"] 3 (sp_lowest K Ce) f_lowest d_lowest) : Cal P w K mg base "times" s_times ["one", "other"] 4 (sp_times K) f fd := by
  refine ok_R D sc_times (fun _ => rfl) fun cdv A outer s H E hgd hr => ⟨_, (pss_one (ps_ret (pe_callX (E := fun _ => E0) h_lowest.G hgd (hr.mono (by decide)) (by rfl) h_lowest.gm h_lowest.kp h_lowest.b (fun _ => pass0) (pa_cons (pe_op op_mulW (pe_ix (ix_tupK (K := K) rfl) (pv 0) pe_int (fun _ _ => rfl)) (pe_ix (ix_tupK (K := K) rfl) (pv 1) pe_int (fun _ _ => rfl))) (pa_cons (pe_op op_mulW (pe_ix (ix_tupK (K := K) rfl) (pv 0) pe_int (fun _ _ => rfl)) (pe_ix (ix_tupK (K := K) rfl) (pv 1) pe_int (fun _ _ => rfl))) pa_nil))))), ?_⟩
  rintro ⟨⟨a, b⟩, ⟨c, d⟩⟩ ⟨⟨ha, hb, hb0⟩, ⟨hc, hd, hd0⟩⟩
  show SG (pureL K) 0 _ [some (p2 a b), some (p2 c d)] _ _
  refine sg_ret (eg_low (L := pureL K) (i := a * c) (j := b * d) (ea_cons (eg_mul (eg_ixT (eg_var (i := 0) rfl) eg_int rfl) (eg_ixT (eg_var (i := 1) rfl) eg_int rfl) (mw ha hc)) (ea_cons (eg_mul (eg_ixT (eg_var (i := 0) rfl) eg_int rfl) (eg_ixT (eg_var (i := 1) rfl) eg_int rfl) (mw hb hd)) ea_nil)) (le_pow (mul_lt ha hc)) (le_pow (mul_lt hb hd)) (Int.mul_ne_zero hb0 hd0)) rfl

abbrev s_divided : Stmt := top 29
abbrev n_divided : List Str := ["one", "other"]
theorem sc_divided : FnScope n_divided ["one", "other"] (defScope s_divided) := ⟨rfl, rfl, rfl, by decide +kernel, rfl, by decide +kernel, by decide +kernel⟩
def divX (p : PP) : Except PyData PyData := if p.2.1 = 0 then .error (p2 p.2.1 p.2.2) else .ok (lowD (p.1.1 * p.2.2) (p.1.2 * p.2.1))
def sp_divided (K : PySem.W.Frag) (Ce : Addr) : Sp := spX K Ce "value" argsP okPP divX
theorem len_divided (Ce : Addr) : ∀ vs H Q E, sp_divided K Ce vs H Q E → vs.length = (["one", "other"] : List Str).length := fun vs H Q E ⟨a, A, _, _, hl, _⟩ => hl
theorem ok_divided {f : Addr} {fd : FuncData} (T : Bt K mg) (C : Cst K w mg) (D : Df K mg "divided" s_divided ["one", "other"] f fd) {Ce fIe : Addr} {fde : FuncData} (TN : ExN K mg "NotNumber" "value" Ce fIe fde)
    {f_lowest : Addr} {d_lowest : FuncData} (h_lowest : CalX P w K mg base "lowest" s_lowest ["top", "bottom"] 3 (sp_lowest K Ce) f_lowest d_lowest) : CalX P w K mg base "divided" s_divided ["one", "other"] 4 (sp_divided K Ce) f fd := by
  refine ⟨D.gm, D.F, D.b, okX D.F sc_divided (len_divided Ce) (fun cdv A outer s H vs Q E hgd hr h => ⟨_, (pss_cons (ps_if (pt_cmpR op_eq (pe_ix (ix_tupK (K := K) rfl) (pv 1) pe_int (fun _ _ => rfl)) pe_int (nomark _)) (pss_one (ps_rz rfl TN (hr.mono (by decide)) (takes_of rfl rfl rfl rfl) (pa_cons (pv 1) pa_nil))) pss_nil)
        (pss_one (ps_ret (pe_callX (E := fun _ => E) h_lowest.G hgd (hr.mono (by decide)) (by rfl) h_lowest.gm h_lowest.kp h_lowest.b (fun σ => passAt (takes_of rfl rfl rfl rfl) σ) (pa_cons (pe_op op_mulW (pe_ix (ix_tupK (K := K) rfl) (pv 0) pe_int (fun _ _ => rfl)) (pe_ix (ix_tupK (K := K) rfl) (pv 1) pe_int (fun _ _ => rfl))) (pa_cons (pe_op op_mulW (pe_ix (ix_tupK (K := K) rfl) (pv 0) pe_int (fun _ _ => rfl)) (pe_ix (ix_tupK (K := K) rfl) (pv 1) pe_int (fun _ _ => rfl))) pa_nil)))))), ?_⟩)⟩
  obtain ⟨⟨⟨a, b⟩, ⟨c, d⟩⟩, A', ⟨⟨ha, hb, hb0⟩, ⟨hc, hd, hd0⟩⟩, hi, hl, hv, q1, q2⟩ := h
  have hb0 : b ≠ 0 := hb0
  refine start_x (K := K) (Nm := n_divided) hi hl hv ?_
  show SX (pureL K) A' H _ _ [some (p2 a b), some (p2 c d)]
  refine sx_if (et_test (eg_eqI (eg_ixT (eg_var (i := 1) rfl) eg_int rfl) eg_int)) (fun h1 => ?_) fun h1 => sx_next ?_
  · have e : c = 0 := of_decide_eq_true h1
    exact sx_rz TN.T TN.no (eg_var (i := 1) rfl) (by intro z; cases z) fun v dd H' sm hx hv => q2 _ (by simp [divX, e]) v dd H' sm hx hv
  · have hc0 : c ≠ 0 := of_decide_eq_false h1
    exact sx_ret (eg_low (L := pureL K) (i := a * d) (j := b * c) (ea_cons (eg_mul (eg_ixT (eg_var (i := 0) rfl) eg_int rfl) (eg_ixT (eg_var (i := 1) rfl) eg_int rfl) (mw ha hd)) (ea_cons (eg_mul (eg_ixT (eg_var (i := 0) rfl) eg_int rfl) (eg_ixT (eg_var (i := 1) rfl) eg_int rfl) (mw hb hc)) ea_nil)) (le_pow (mul_lt ha hd)) (le_pow (mul_lt hb hc)) (Int.mul_ne_zero hb0 hc0)) fun v H' r hv => q1 _ (by simp [divX, hc0]) v H' r (hv.ne (by intro z; cases z))

abbrev s_halfway : Stmt := top 30
abbrev n_halfway : List Str := ["one", "other"]
theorem sc_halfway : FnScope n_halfway ["one", "other"] (defScope s_halfway) := ⟨rfl, rfl, rfl, by decide +kernel, rfl, by decide +kernel, by decide +kernel⟩
def sp_halfway (K : PySem.W.Frag) : Sp := spR K argsP okPP fun p => lowD (crossA p) (2 * p.1.2 * p.2.2)
theorem ok_halfway {f : Addr} {fd : FuncData} (T : Bt K mg) (C : Cst K w mg) (D : Df K mg "halfway" s_halfway ["one", "other"] f fd) {Ce : Addr}
    {f_lowest : Addr} {d_lowest : FuncData} (h_lowest : CalX P w K mg base "lowest" s_lowest ["top", "bottom"] 3 (sp_lowest K Ce) f_lowest d_lowest) : Cal P w K mg base "halfway" s_halfway ["one", "other"] 4 (sp_halfway K) f fd := by
  refine ok_R D sc_halfway (fun _ => rfl) fun cdv A outer s H E hgd hr => ⟨_, (pss_one (ps_ret (pe_callX (E := fun _ => E0) h_lowest.G hgd (hr.mono (by decide)) (by rfl) h_lowest.gm h_lowest.kp h_lowest.b (fun _ => pass0) (pa_cons (pe_op op_add (pe_op op_mulW (pe_ix (ix_tupK (K := K) rfl) (pv 0) pe_int (fun _ _ => rfl)) (pe_ix (ix_tupK (K := K) rfl) (pv 1) pe_int (fun _ _ => rfl))) (pe_op op_mulW (pe_ix (ix_tupK (K := K) rfl) (pv 1) pe_int (fun _ _ => rfl)) (pe_ix (ix_tupK (K := K) rfl) (pv 0) pe_int (fun _ _ => rfl)))) (pa_cons (pe_op op_mulW (pe_op op_mulW pe_int (pe_ix (ix_tupK (K := K) rfl) (pv 0) pe_int (fun _ _ => rfl))) (pe_ix (ix_tupK (K := K) rfl) (pv 1) pe_int (fun _ _ => rfl))) pa_nil))))), ?_⟩
  rintro ⟨⟨a, b⟩, ⟨c, d⟩⟩ ⟨⟨ha, hb, hb0⟩, ⟨hc, hd, hd0⟩⟩
  show SG (pureL K) 0 _ [some (p2 a b), some (p2 c d)] _ _
  have h2 : ((2 : Int)).natAbs < 2 ^ 2 := by decide
  refine sg_ret (eg_low (L := pureL K) (i := a * d + c * b) (j := 2 * b * d) (ea_cons (eg_add (eg_mul (eg_ixT (eg_var (i := 0) rfl) eg_int rfl) (eg_ixT (eg_var (i := 1) rfl) eg_int rfl) (mw ha hd)) (eg_mul (eg_ixT (eg_var (i := 1) rfl) eg_int rfl) (eg_ixT (eg_var (i := 0) rfl) eg_int rfl) (mw hc hb))) (ea_cons (eg_mul (eg_mul eg_int (eg_ixT (eg_var (i := 0) rfl) eg_int rfl) (mw h2 hb)) (eg_ixT (eg_var (i := 1) rfl) eg_int rfl) (mw (mul_lt h2 hb) hd)) ea_nil)) (le_pow (add_lt (mul_lt ha hd) (mul_lt hc hb))) (le_pow (mul_lt (mul_lt h2 hb) hd)) (Int.mul_ne_zero (Int.mul_ne_zero (by decide) hb0) hd0)) rfl

abbrev s_compared : Stmt := top 31
abbrev n_compared : List Str := ["one", "other"]
theorem sc_compared : FnScope n_compared ["one", "other"] (defScope s_compared) := ⟨rfl, rfl, rfl, by decide +kernel, rfl, by decide +kernel, by decide +kernel⟩
def sp_compared (K : PySem.W.Frag) : Sp := spR K argsP okPP fun p => .int (crossM p).sign
theorem ok_compared {f : Addr} {fd : FuncData} (T : Bt K mg) (C : Cst K w mg) (D : Df K mg "compared" s_compared ["one", "other"] f fd)
    {f_sign_of : Addr} {d_sign_of : FuncData} (h_sign_of : Cal P w K mg base "sign_of" s_sign_of ["number"] 1 (sp_sign_of K) f_sign_of d_sign_of) : Cal P w K mg base "compared" s_compared ["one", "other"] 2 (sp_compared K) f fd := by
  refine ok_R D sc_compared (fun _ => rfl) fun cdv A outer s H E hgd hr => ⟨_, (pss_one (ps_ret (pe_fn (E := E0) h_sign_of.G hgd (hr.mono (by decide)) (by rfl) h_sign_of.gm h_sign_of.kp h_sign_of.b (pa_cons (pe_op op_sub (pe_op op_mulW (pe_ix (ix_tupK (K := K) rfl) (pv 0) pe_int (fun _ _ => rfl)) (pe_ix (ix_tupK (K := K) rfl) (pv 1) pe_int (fun _ _ => rfl))) (pe_op op_mulW (pe_ix (ix_tupK (K := K) rfl) (pv 1) pe_int (fun _ _ => rfl)) (pe_ix (ix_tupK (K := K) rfl) (pv 0) pe_int (fun _ _ => rfl)))) pa_nil)))), ?_⟩
  rintro ⟨⟨a, b⟩, ⟨c, d⟩⟩ ⟨⟨ha, hb, hb0⟩, ⟨hc, hd, hd0⟩⟩
  show SG (pureL K) 0 _ [some (p2 a b), some (p2 c d)] _ _
  exact sg_ret (eg_callR (L := pureL K) (args := fun i : Int => [.int i]) (ok := fun _ => True) (val := fun i => .int i.sign) (a * d - c * b) (ea_cons (eg_sub (eg_mul (eg_ixT (eg_var (i := 0) rfl) eg_int rfl) (eg_ixT (eg_var (i := 1) rfl) eg_int rfl) (mw ha hd)) (eg_mul (eg_ixT (eg_var (i := 1) rfl) eg_int rfl) (eg_ixT (eg_var (i := 0) rfl) eg_int rfl) (mw hc hb))) ea_nil) trivial) rfl

end V1
set_option Elab.async false
set_option linter.all false
set_option maxRecDepth 100000
set_option maxHeartbeats 4000000
namespace V1
open PySem PySem.Spec PyProof.Rows L2
variable {P : Program} {w : World} {K : PySem.W.Frag} {mg : Str → Option Value} {base : Heap}

section
variable {L : Rl} {Γ : List (Option PyData)} {ta tb : TE} {a b : Nat}
theorem eg_gtIG {P1 : Int → Prop} {j : Int} (ha : EvG L a ta Γ (fun d => ∃ i, P1 i ∧ d = .int i)) (hb : EvD L tb Γ (.int j)) : EvG L (a + 0) (tOp (rI0 fun i j => .bl (decide (j < i))) ta tb) Γ (fun d => ∃ k, d = .bool k ∧ True) := eg_opG ha hb fun d1 d2 ⟨i, _, e1⟩ e2 => by
  subst e1 e2
  intro A H x y hi hg hx hy Q q
  exact os_B0 (g := fun i j => decide (j < i)) A H x y hi hg hx hy Q fun v d H' r hv e => q v d H' r hv ⟨_, e, trivial⟩
theorem WkG.mono {wi : TI} {P P' : List PyData → Prop} (h : WkG L a wi Γ P) (hn : a ≤ b) (hp : ∀ its, P its → P' its) : WkG L b wi Γ P' := fun A σ H hi he hg R q => h A σ H hi he (L.gle hn hg) R fun J H1 items r p jk => q J H1 items (L.rle hn r) (hp items p) jk
end

abbrev s_law_common : Stmt := top 38
abbrev n_law_common : List Str := ["numbers", "found", "number_so", "remnant"]
theorem sc_law_common : FnScope n_law_common ["numbers"] (defScope s_law_common) := ⟨rfl, rfl, rfl, by decide +kernel, rfl, by decide +kernel, by decide +kernel⟩
def sp_law_common (K : PySem.W.Frag) : Sp := spR K (fun p : Bool × List Int => [sqD p.1 (p.2.map .int)]) (fun _ => True) fun p => .int (gcdl p.2)
theorem ok_law_common {f : Addr} {fd : FuncData} (T : Bt K mg) (C : Cst K w mg) (D : Df K mg "_law_common" s_law_common ["numbers"] f fd) : Cal P w K mg base "_law_common" s_law_common ["numbers"] 1 (sp_law_common K) f fd := by
  refine ok_R D sc_law_common (fun _ => rfl) fun cdv A outer s H E hgd hr => ⟨_, (pss_cons (ps_set (i := 1) sc_law_common.nd rfl (Or.inl rfl) pe_int)
        (pss_cons (ps_for PassesOwn.never rfl (pi_any (pv 0)) (pg_name (i := 2) sc_law_common.nd rfl (Or.inl rfl))
        (pss_cons (ps_set (i := 3) sc_law_common.nd rfl (Or.inl rfl) (pe_callB call_abs (by rfl) T.abs (by decide +kernel) (pa_cons (pv 2) pa_nil)))
        (pss_one (ps_while PassesOwn.never (pt_cmpR op_ne (pv 3) pe_int (nomark _))
        (pss_one (ps_par (i := 1) (j := 3) rfl sc_law_common.nd rfl rfl (by decide) rfl rfl (pa_cons (pv 3) (pa_cons (pe_op op_modN (pe_callTy call_int1 (by rfl) T.int (by decide +kernel) (pa_cons (pv 1) pa_nil)) (pv 3)) pa_nil)) (by rfl)))))))
        (pss_one (ps_ret (pv 1))))), ?_⟩
  rintro ⟨k, ns⟩ _
  show SG (pureL K) 0 _ [some (sqD k (ns.map .int)), none, none, none] _ _
  refine sq_asg eg_int ?_
  refine sg_seq (N1 := fun G => G[1]? = some (some (.int (gcdl ns)))) (sg_for (js := [2]) (fun i G => ∃ x y, G = [some (sqD k (ns.map .int)), some (.int (gcdl (ns.take i))), x, y]) (wk_any (k := k) (eg_var rfl)) ⟨none, none, rfl⟩ ?_ ?_) fun G hG => sg_ret (eg_var hG) rfl
  · rintro i d G hd ⟨x, y, rfl⟩
    obtain ⟨n, hn, _, rfl⟩ := map_at hd
    have e2 : gcdl (ns.take (i + 1)) = Nat.gcd (gcdl (ns.take i)) n.natAbs := by rw [take_next hn]; unfold gcdl; rw [List.foldl_append]; rfl
    refine ⟨_, tg_name, sq_asg (eg_cb (ea_cons (eg_var rfl) ea_nil) cs_abs) ?_⟩
    refine sg_while (fun G => ∃ f r : Nat, G = [some (sqD k (ns.map .int)), some (.int (f : Int)), some (.int n), some (.int (r : Int))] ∧ Nat.gcd f r = gcdl (ns.take (i + 1))) (fun G => match G with | [_, _, _, some (.int r)] => r.toNat | _ => 0) ⟨gcdl (ns.take i), n.natAbs, rfl, e2.symm⟩ ?_
    rintro G ⟨f, r, rfl, hg⟩
    refine ⟨!decide ((r : Int) = 0), et_test (eg_neI (eg_var rfl) eg_int), fun hk => ?_, fun hk => ?_⟩
    · have hr : (r : Int) ≠ 0 := by simpa using hk
      refine sg_par (ea_cons (eg_var rfl) (ea_cons (eg_mod (eg_cb (ea_cons (eg_var rfl) ea_nil) cs_int) (eg_var rfl) hr) ea_nil)) ⟨⟨r, f % r, ?_, ?_⟩, ?_⟩
      · have e3 : (f : Int).fmod (r : Int) = ((f % r : Nat) : Int) := by rw [Int.fmod_eq_emod_of_nonneg _ (by omega)]; rfl
        rw [e3]
        rfl
      · rw [← hg, Nat.gcd_comm f r, Nat.gcd_rec r f, Nat.gcd_comm]
      · show ((f : Int).fmod (r : Int)).toNat < (r : Int).toNat
        have e3 : (f : Int).fmod (r : Int) = ((f % r : Nat) : Int) := by rw [Int.fmod_eq_emod_of_nonneg _ (by omega)]; rfl
        rw [e3]
        have := Nat.mod_lt f (show 0 < r by omega)
        show ((f % r : Nat) : Int).toNat < (r : Int).toNat
        rw [Int.toNat_natCast, Int.toNat_natCast]
        exact this
    · have hr : (r : Int) = 0 := by simpa using hk
      have hr0 : r = 0 := by omega
      subst hr0
      rw [Nat.gcd_zero_right] at hg
      subst hg
      exact ⟨_, _, rfl⟩
  · rintro G ⟨x, y, rfl⟩
    show some (some (PyData.int _)) = _
    rw [List.length_map, List.take_length]

abbrev s_law_sign : Stmt := top 37
abbrev n_law_sign : List Str := ["number_so"]
theorem sc_law_sign : FnScope n_law_sign ["number_so"] (defScope s_law_sign) := ⟨rfl, rfl, rfl, by decide +kernel, rfl, by decide +kernel, by decide +kernel⟩
def sp_law_sign (K : PySem.W.Frag) : Sp := spR K (fun i : Int => [.int i]) (fun _ => True) fun i => .int i.sign
theorem ok_law_sign {f : Addr} {fd : FuncData} (T : Bt K mg) (C : Cst K w mg) (D : Df K mg "_law_sign" s_law_sign ["number_so"] f fd) : Cal P w K mg base "_law_sign" s_law_sign ["number_so"] 1 (sp_law_sign K) f fd := by
  refine ok_R D sc_law_sign (fun _ => rfl) fun cdv A outer s H E hgd hr => ⟨_, (pss_one (ps_ret (pe_op op_sub (pe_callTy call_int1 (by rfl) T.int (by decide +kernel) (pa_cons (pe_cmpR op_gt (pv 0) pe_int (nomark _)) pa_nil)) (pe_callTy call_int1 (by rfl) T.int (by decide +kernel) (pa_cons (pe_cmpR op_lt (pv 0) pe_int (nomark _)) pa_nil))))), ?_⟩
  intro i _
  show SG (pureL K) 0 _ [some (.int i)] _ _
  refine sg_ret (eg_sub (eg_cb (ea_cons (eg_gt (eg_var (i := 0) rfl) eg_int) ea_nil) cs_intB) (eg_cb (ea_cons (eg_lt (eg_var (i := 0) rfl) eg_int) ea_nil) cs_intB)) ?_
  congr 1
  by_cases h1 : i < 0
  · rw [decide_eq_true h1, decide_eq_false (show ¬ (0 : Int) < i by omega), Int.sign_eq_neg_one_of_neg h1]
    rfl
  · by_cases h2 : 0 < i
    · rw [decide_eq_false h1, decide_eq_true h2, Int.sign_eq_one_of_pos h2]
      rfl
    · have e : i = 0 := by omega
      subst e
      rfl

abbrev s_law_lowered : Stmt := top 39
abbrev n_law_lowered : List Str := ["numbers", "whole", "number_so"]
theorem sc_law_lowered : FnScope n_law_lowered ["numbers"] (defScope s_law_lowered) := ⟨rfl, rfl, rfl, by decide +kernel, rfl, by decide +kernel, by decide +kernel⟩
def sp_law_lowered (K : PySem.W.Frag) : Sp := spR K (fun p : Int × Int => [.list [.int p.1, .int p.2]]) (fun p => p.2 ≠ 0 ∧ p.2.natAbs < 2 ^ 4000) fun p => p2 (p.1 / (Nat.gcd p.1.natAbs p.2.natAbs : Nat)) (p.2 / (Nat.gcd p.1.natAbs p.2.natAbs : Nat))
theorem ok_law_lowered {f : Addr} {fd : FuncData} (T : Bt K mg) (C : Cst K w mg) (D : Df K mg "_law_lowered" s_law_lowered ["numbers"] f fd)
    {f_law_common : Addr} {d_law_common : FuncData} (h_law_common : Cal P w K mg base "_law_common" s_law_common ["numbers"] 1 (sp_law_common K) f_law_common d_law_common) : Cal P w K mg base "_law_lowered" s_law_lowered ["numbers"] 2 (sp_law_lowered K) f fd := by
  refine ok_R D sc_law_lowered (fun _ => rfl) fun cdv A outer s H E hgd hr => ⟨_, (pss_cons (ps_set (i := 1) sc_law_lowered.nd rfl (Or.inr rfl) (pe_fn (E := E0) h_law_common.G hgd (hr.mono (by decide)) (by rfl) h_law_common.gm h_law_common.kp h_law_common.b (pa_cons (pv 0) pa_nil)))
        (pss_one (ps_ret (pe_ifExp (pt_cmpR op_gt (pv 1) pe_int (nomark _)) (pe_callTy call_tuple_of (by rfl) T.tuple (by decide +kernel) (pa_cons (pe_lc (own := [("number_so", 2)]) (g := gName 2) (tt := tYes) rfl sc_law_lowered.nd (pi_list (pv 0)) (blkOk_by (own := [("number_so", 2)]) (N := n_law_lowered) (sc := defScope s_law_lowered) (by decide +kernel)) (fun _ _ _ _ _ => (pg_name (i := 2) sc_law_lowered.nd rfl (Or.inl rfl))) (fun _ _ _ _ _ => pts_nil) (fun _ _ _ _ _ => (pe_op op_fdivW (pv 2) (pv 1)))) pa_nil)) (pe_callTy call_tuple_of (by rfl) T.tuple (by decide +kernel) (pa_cons (pv 0) pa_nil)))))), ?_⟩
  rintro ⟨a, b⟩ ⟨h0, h1⟩
  have h0 : b ≠ 0 := h0
  have h1 : b.natAbs < 2 ^ 4000 := h1
  show SG (pureL K) 0 _ [some (.list [.int a, .int b]), none, none] _ (fun x => x = p2 (a / (Nat.gcd a.natAbs b.natAbs : Nat)) (b / (Nat.gcd a.natAbs b.natAbs : Nat)))
  have hg := gcd_pos (a := a) h0
  have hgb : Nat.gcd a.natAbs b.natAbs ≤ b.natAbs := Nat.le_of_dvd (by omega) (Nat.gcd_dvd_right _ _)
  have ec : gcdl [a, b] = Nat.gcd a.natAbs b.natAbs := by
    show Nat.gcd (Nat.gcd 0 a.natAbs) b.natAbs = _
    rw [Nat.gcd_zero_left]
  have hcd : ∀ n : Int, CDivW n ((Nat.gcd a.natAbs b.natAbs : Nat) : Int) := fun n => wide_div (b := 4000) (by omega) (by rw [Int.natAbs_natCast]; exact Nat.lt_of_le_of_lt hgb h1) (by decide) (by decide)
  generalize Nat.gcd a.natAbs b.natAbs = g at *
  refine sq_asg (d := .int (g : Int)) ((eg_callR (L := pureL K) (args := fun p : Bool × List Int => [sqD p.1 (p.2.map .int)]) (ok := fun _ => True) (val := fun p => .int (gcdl p.2)) (true, [a, b]) (ea_cons (eg_var (i := 0) rfl) ea_nil) trivial).to (by show PyData.int (gcdl [a, b] : Int) = _; rw [ec])) ?_
  show SG (pureL K) 0 _ [some (.list ([a, b].map .int)), some (.int (g : Int)), none] _ _
  refine sg_ret (eg_if (et_test (eg_gt (eg_var (i := 1) rfl) eg_int)) (fun hk => ?_) fun hk => ?_) rfl
  · exact eg_cb (ea_cons (eg_lcm (js := [2]) (xs := [a, b]) (enc := PyData.int) (res := fun n => .int (n / (g : Int))) (wk_list (eg_var (i := 0) rfl)) (by simp) (by simp) fun n _ => ⟨(fun z => by cases z), _, tg_name, eg_div (eg_var (i := 2) rfl) (eg_var (i := 1) rfl) (hcd n)⟩) ea_nil) cs_tuple
  · have hk' : ¬ ((1 : Int) < (g : Int)) := of_decide_eq_false hk
    have e1 : g = 1 := by omega
    refine (eg_cb (ea_cons (eg_var (i := 0) rfl) ea_nil) cs_tuple).to ?_
    rw [e1]
    show PyData.tuple [.int a, .int b] = PyData.tuple [.int (a / 1), .int (b / 1)]
    rw [Int.ediv_one, Int.ediv_one]

abbrev s_law_fraction : Stmt := top 40
abbrev n_law_fraction : List Str := ["top_so", "bottom_so", "found"]
theorem sc_law_fraction : FnScope n_law_fraction ["top_so", "bottom_so"] (defScope s_law_fraction) := ⟨rfl, rfl, rfl, by decide +kernel, rfl, by decide +kernel, by decide +kernel⟩
def sp_law_fraction (K : PySem.W.Frag) : Sp := spR K (fun p : Int × Int => [.int p.1, .int p.2]) (fun p => p.2 ≠ 0 ∧ p.2.natAbs < 2 ^ 4000) fun p => lowD p.1 p.2
theorem ok_law_fraction {f : Addr} {fd : FuncData} (T : Bt K mg) (C : Cst K w mg) (D : Df K mg "_law_fraction" s_law_fraction ["top_so", "bottom_so"] f fd)
    {f_law_lowered : Addr} {d_law_lowered : FuncData} (h_law_lowered : Cal P w K mg base "_law_lowered" s_law_lowered ["numbers"] 2 (sp_law_lowered K) f_law_lowered d_law_lowered) : Cal P w K mg base "_law_fraction" s_law_fraction ["top_so", "bottom_so"] 3 (sp_law_fraction K) f fd := by
  refine ok_R D sc_law_fraction (fun _ => rfl) fun cdv A outer s H E hgd hr => ⟨_, (pss_cons (ps_set (i := 2) sc_law_fraction.nd rfl (Or.inl rfl) (pe_fn (E := E0) h_law_lowered.G hgd (hr.mono (by decide)) (by rfl) h_law_lowered.gm h_law_lowered.kp h_law_lowered.b (pa_cons (pe_lst (pa_cons (pv 0) (pa_cons (pv 1) pa_nil))) pa_nil)))
        (pss_one (ps_ret (pe_ifExp (pt_cmpR op_gt (pv 1) pe_int (nomark _)) (pv 2) (pe_tup (pa_cons (pe_un un_neg (pe_ix (ix_tupK (K := K) rfl) (pv 2) pe_int (fun _ _ => rfl))) (pa_cons (pe_un un_neg (pe_ix (ix_tupK (K := K) rfl) (pv 2) pe_int (fun _ _ => rfl))) pa_nil))))))), ?_⟩
  rintro ⟨a, b⟩ ⟨h0, h1⟩
  have h0 : b ≠ 0 := h0
  have h1 : b.natAbs < 2 ^ 4000 := h1
  show SG (pureL K) 0 _ [some (.int a), some (.int b), none] _ (fun x => x = lowD a b)
  refine sq_asg (eg_callR (L := pureL K) (args := fun p : Int × Int => [.list [.int p.1, .int p.2]]) (ok := fun p => p.2 ≠ 0 ∧ p.2.natAbs < 2 ^ 4000) (val := fun p => p2 (p.1 / (Nat.gcd p.1.natAbs p.2.natAbs : Nat)) (p.2 / (Nat.gcd p.1.natAbs p.2.natAbs : Nat))) (a, b) (ea_cons (eg_lst (ea_cons (eg_var (i := 0) rfl) (ea_cons (eg_var (i := 1) rfl) ea_nil))) ea_nil) ⟨h0, h1⟩) ?_
  show SG (pureL K) 0 _ [some (.int a), some (.int b), some (p2 (a / (Nat.gcd a.natAbs b.natAbs : Nat)) (b / (Nat.gcd a.natAbs b.natAbs : Nat)))] _ _
  refine sg_ret (eg_if (et_test (eg_gt (eg_var (i := 1) rfl) eg_int)) (fun hk => ?_) fun hk => ?_) rfl
  · have hk : (0 : Int) < b := of_decide_eq_true hk
    refine (eg_var (i := 2) rfl).to ?_
    unfold lowD lowA lowB
    rw [if_neg (by omega), if_neg (by omega)]
  · have hk : ¬ (0 : Int) < b := of_decide_eq_false hk
    refine (eg_tup (ea_cons (eg_neg (eg_ixT (eg_var (i := 2) rfl) eg_int rfl)) (ea_cons (eg_neg (eg_ixT (eg_var (i := 2) rfl) eg_int rfl)) ea_nil))).to ?_
    unfold lowD lowA lowB p2
    rw [if_pos (by omega), if_pos (by omega)]

abbrev s_law_integer : Stmt := top 41
abbrev n_law_integer : List Str := ["m", "found", "turn"]
theorem sc_law_integer : FnScope n_law_integer ["m"] (defScope s_law_integer) := ⟨rfl, rfl, rfl, by decide +kernel, rfl, by decide +kernel, by decide +kernel⟩
def sp_law_integer (K : PySem.W.Frag) : Sp := spM K 22 (fun _ : Unit => [mark]) (fun _ => True) fun _ d => ∃ z : Int, z.natAbs < 2 ^ 400 ∧ d = .int z
theorem grow {z r : Int} {t : Nat} (h : z.natAbs < 2 ^ (4 + 20 * t)) (h0 : 0 ≤ r) (h1 : r < 1000) : (z * 1000003 + r - 500).natAbs < 2 ^ (4 + 20 * (t + 1)) := by
  have e : 2 ^ (4 + 20 * (t + 1)) = 2 ^ (4 + 20 * t) * 1048576 := by rw [show 4 + 20 * (t + 1) = 4 + 20 * t + 20 by omega, Nat.pow_add]
  rw [e]
  have hp : 1 ≤ 2 ^ (4 + 20 * t) := Nat.one_le_two_pow
  generalize 2 ^ (4 + 20 * t) = X at *
  omega
theorem ok_law_integer {f : Addr} {fd : FuncData} (T : Bt K mg) (C : Cst K w mg) (D : Df K mg "_law_integer" s_law_integer ["m"] f fd)
    {f_law_draw : Addr} {d_law_draw : FuncData} (h_law_draw : Cal P w K mg base "_law_draw" s_law_draw ["m", "bound"] 1 (sp_law_draw K) f_law_draw d_law_draw) : Cal P w K mg base "_law_integer" s_law_integer ["m"] 2 (sp_law_integer K) f fd := by
  refine ok_A D sc_law_integer (fun _ => rfl) fun cdv A outer s H E hgd hr => ⟨_, (pss_cons (ps_set (i := 1) sc_law_integer.nd rfl (Or.inl rfl) (pe_op op_sub (pe_fn (E := E0) h_law_draw.G hgd (hr.mono (by decide)) (by rfl) h_law_draw.gm h_law_draw.kp h_law_draw.b (pa_cons (pv 0) (pa_cons pe_int pa_nil))) pe_int))
        (pss_cons (ps_if (pt_cmpR op_gt (pe_fn (E := E0) h_law_draw.G hgd (hr.mono (by decide)) (by rfl) h_law_draw.gm h_law_draw.kp h_law_draw.b (pa_cons (pv 0) (pa_cons pe_int pa_nil))) pe_int (nomark _)) (pss_one (ps_ret (pv 1))) pss_nil)
        (pss_cons (ps_for PassesOwn.never rfl (pi_range1 (by rfl) T.range (pa_cons (pe_fn (E := E0) h_law_draw.G hgd (hr.mono (by decide)) (by rfl) h_law_draw.gm h_law_draw.kp h_law_draw.b (pa_cons (pv 0) (pa_cons pe_int pa_nil))) pa_nil)) (pg_name (i := 2) sc_law_integer.nd rfl (Or.inl rfl))
        (pss_one (ps_set (i := 1) sc_law_integer.nd rfl (Or.inl rfl) (pe_op op_sub (pe_op op_add (pe_op op_mulW (pv 1) pe_int) (pe_fn (E := E0) h_law_draw.G hgd (hr.mono (by decide)) (by rfl) h_law_draw.gm h_law_draw.kp h_law_draw.b (pa_cons (pv 0) (pa_cons pe_int pa_nil)))) pe_int))))
        (pss_one (ps_ret (pv 1)))))), ?_⟩
  rintro L rfl hS _ _
  show SG L 22 _ [some mark, none, none] _ (fun d => ∃ z : Int, z.natAbs < 2 ^ 400 ∧ d = .int z)
  refine SG.mono (a := (1 + 0) + (1 + (1 + 19 * 1 + 0))) (sq_asgG (P := fun d => ∃ z : Int, (-9 ≤ z ∧ z ≤ 9) ∧ d = .int z) (EvG.mono (eg_subG (eg_draw hS (b := 19) (by decide) rfl) eg_intG) (Nat.le_refl _) fun d ⟨z, ⟨x, y, hx, hy, hz⟩, e⟩ => ⟨z, by omega, e⟩) ?_) (by decide) (fun _ x => x) fun _ x => x
  rintro _ ⟨z, hz, rfl⟩
  show SG L _ _ [some mark, some (.int z), none] _ _
  have hz400 : z.natAbs < 2 ^ 400 := Nat.lt_of_lt_of_le (show z.natAbs < 2 ^ 4 by omega) (Nat.pow_le_pow_right (by decide) (by decide))
  refine sq_ifG (P := fun _ => True) (et_testG (EvG.mono (eg_gtIG (eg_draw hS (b := 3) (by decide) rfl) eg_int) (Nat.le_refl _) fun d h => h)) (fun _ => SG.mono (sg_retq (eg_var (i := 1) rfl) ⟨z, hz400, rfl⟩) (Nat.zero_le _) (fun _ x => x) fun _ x => x) fun _ => sq_next ?_
  refine sg_seqG (N1 := fun G => ∃ z' : Int, z'.natAbs < 2 ^ 400 ∧ G[1]? = some (some (.int z'))) (sg_forG (L := L) (a := 1) (b := 19) (c := 1) (js := [2]) (PI1 := fun its => ∃ j : Int, (0 ≤ j ∧ j < 20) ∧ its = rngD 0 j.toNat) (fun _ i G => ∃ (z' : Int) (y : Option PyData), G = [some mark, some (.int z'), y] ∧ z'.natAbs < 2 ^ (4 + 20 * i)) ?w ?l ?h0 ?hb ?hN) ?_
  case w =>
    exact WkG.mono (wk_rng1G (P := fun d => ∃ j : Int, (0 ≤ j ∧ j < 20) ∧ d = .int j) (EaG.mono (ea1G (eg_draw hS (b := 20) (by decide) rfl)) (Nat.le_refl _) fun ds ⟨d1, e1, z, hz, e2⟩ => ⟨z, by rw [e1, e2], ⟨z, hz, rfl⟩, by omega, by omega⟩)) (Nat.le_refl _) fun its ⟨j, ⟨j', hj, e1⟩, e2⟩ => ⟨j, by cases e1; exact hj, e2⟩
  case l =>
    rintro its ⟨j, hj, rfl⟩
    rw [rng_len]
    omega
  case h0 =>
    rintro its ⟨j, hj, rfl⟩
    exact ⟨z, none, rfl, by omega⟩
  case hb =>
    rintro its ⟨j, hj, rfl⟩ i d G hd ⟨z', y, rfl, hb⟩
    refine ⟨_, tg_name (j := 2), ?_⟩
    show SG L 1 _ [some mark, some (.int z'), some d] _ _
    refine SG.mono (a := 0 + 1 + 0) (sg_asgG (i := 1) (P := fun d => ∃ w : Int, w.natAbs < 2 ^ (4 + 20 * (i + 1)) ∧ d = .int w) (EvG.mono (eg_subG (eg_addG (P1 := fun i => i = z' * 1000003) (EvG.mono (eg_mul (eg_var (i := 1) rfl) eg_int (mw (a := 4 + 20 * i) (b := 20) hb (by decide) (by omega) (by decide) ?_)) (Nat.le_refl _) fun d e => ⟨_, rfl, e⟩) (eg_draw hS (b := 1000) (by decide) rfl)) eg_intG) (Nat.le_refl _) fun d ⟨w, ⟨x, y, ⟨x1, y1, hx1, hy1, hx2⟩, hy, hw⟩, e⟩ => ⟨w, ?_, e⟩) fun d ⟨w, hw, e⟩ => ⟨w, some _, by rw [e]; rfl, hw⟩) (by decide) (fun _ x => x) fun _ x => x
    · have hi : i < (rngD 0 j.toNat).length := (List.getElem?_eq_some_iff.mp hd).1
      rw [rng_len] at hi
      omega
    · rw [hw, hx2, hy, hx1]
      exact grow hb hy1.1 (by omega)
  case hN =>
    rintro its ⟨j, hj, rfl⟩ G ⟨z', y, rfl, hb⟩
    rw [rng_len] at hb
    exact ⟨z', Nat.lt_of_lt_of_le hb (Nat.pow_le_pow_right (by decide) (by omega)), rfl⟩
  · rintro G ⟨z', hb, hG⟩
    exact sg_ret (eg_var hG) ⟨z', hb, rfl⟩

abbrev s_law_pair : Stmt := top 43
abbrev n_law_pair : List Str := ["m", "low"]
theorem sc_law_pair : FnScope n_law_pair ["m"] (defScope s_law_pair) := ⟨rfl, rfl, rfl, by decide +kernel, rfl, by decide +kernel, by decide +kernel⟩
def okQ (p : Int × Int) : Prop := p.1.natAbs < 2 ^ 400 ∧ p.2.natAbs < 2 ^ 400 ∧ 0 < p.2 ∧ Nat.gcd p.1.natAbs p.2.natAbs = 1
theorem low_okQ {a b : Int} (ha : a.natAbs < 2 ^ 400) (hb : b.natAbs < 2 ^ 400) (h0 : b ≠ 0) : okQ (lowA a b, lowB a b) :=
  ⟨Nat.lt_of_le_of_lt (lowA_le a b) ha, Nat.lt_of_le_of_lt (lowB_le a b) hb, lowB_pos h0, low_gcd h0⟩
def sp_law_pair (K : PySem.W.Frag) : Sp := spM K 44 (fun _ : Unit => [mark]) (fun _ => True) fun _ d => ∃ p : Int × Int, okQ p ∧ d = p2 p.1 p.2
theorem ok_law_pair {f : Addr} {fd : FuncData} (T : Bt K mg) (C : Cst K w mg) (D : Df K mg "_law_pair" s_law_pair ["m"] f fd)
    {f_law_integer : Addr} {d_law_integer : FuncData} (h_law_integer : Cal P w K mg base "_law_integer" s_law_integer ["m"] 2 (sp_law_integer K) f_law_integer d_law_integer)
    {f_law_fraction : Addr} {d_law_fraction : FuncData} (h_law_fraction : Cal P w K mg base "_law_fraction" s_law_fraction ["top_so", "bottom_so"] 3 (sp_law_fraction K) f_law_fraction d_law_fraction) : Cal P w K mg base "_law_pair" s_law_pair ["m"] 4 (sp_law_pair K) f fd := by
  refine ok_A D sc_law_pair (fun _ => rfl) fun cdv A outer s H E hgd hr => ⟨_, (pss_cons (ps_set (i := 1) sc_law_pair.nd rfl (Or.inl rfl) (pe_fn (E := E0) h_law_integer.G hgd (hr.mono (by decide)) (by rfl) h_law_integer.gm h_law_integer.kp h_law_integer.b (pa_cons (pv 0) pa_nil)))
        (pss_one (ps_ret (pe_fn (E := E0) h_law_fraction.G hgd (hr.mono (by decide)) (by rfl) h_law_fraction.gm h_law_fraction.kp h_law_fraction.b (pa_cons (pe_fn (E := E0) h_law_integer.G hgd (hr.mono (by decide)) (by rfl) h_law_integer.gm h_law_integer.kp h_law_integer.b (pa_cons (pv 0) pa_nil)) (pa_cons (pe_ifExp (pt_cmpR op_ne (pv 1) pe_int (nomark _)) (pv 1) pe_int) pa_nil)))))), ?_⟩
  rintro L rfl hS _ _
  show SG L 44 _ [some mark, none] _ (fun d => ∃ p : Int × Int, okQ p ∧ d = p2 p.1 p.2)
  refine SG.mono (a := 22 + (22 + (0 + 0))) (sq_asgG (P := fun d => ∃ z : Int, z.natAbs < 2 ^ 400 ∧ d = .int z) (eg_callM hS () (ea_cons (eg_var (i := 0) rfl) ea_nil) trivial) ?_) (by decide) (fun _ x => x) fun _ x => x
  rintro _ ⟨z, hz, rfl⟩
  show SG L _ _ [some mark, some (.int z)] _ _
  have hz2 : (if z ≠ 0 then z else 1).natAbs < 2 ^ 400 ∧ (if z ≠ 0 then z else 1) ≠ 0 := by
    split
    · rename_i h
      exact ⟨hz, h⟩
    · exact ⟨Nat.one_lt_two_pow (by decide), by decide⟩
  refine sg_retG (EvG.mono (eg_callRG (L := L) (args := fun p : Int × Int => [.int p.1, .int p.2]) (ok := fun p => p.2 ≠ 0 ∧ p.2.natAbs < 2 ^ 4000) (val := fun p => lowD p.1 p.2) (PA := fun ds => ∃ i : Int, i.natAbs < 2 ^ 400 ∧ ds = [.int i, .int (if z ≠ 0 then z else 1)]) (EaG.mono (ea2G (eg_callM hS () (ea_cons (eg_var (i := 0) rfl) ea_nil) trivial) (eg_if (d := .int (if z ≠ 0 then z else 1)) (et_test (eg_neI (eg_var (i := 1) rfl) eg_int)) (fun hk => ?_) fun hk => ?_)) (Nat.le_refl _) fun ds ⟨d1, d2, e, ⟨i, hi, e1⟩, e2⟩ => ⟨i, hi, by rw [e, e1, e2]⟩) ?_) (Nat.le_refl _) fun d ⟨p, ⟨i, hi, ep⟩, _, e⟩ => ?_) fun d h => h
  · have hk : z ≠ 0 := by simpa using hk
    rw [if_pos hk]
    exact eg_var (i := 1) rfl
  · have hk : z = 0 := by simpa using hk
    rw [if_neg (by simpa using hk)]
    exact eg_int
  · rintro ds ⟨i, hi, rfl⟩
    exact ⟨rfl, (i, if z ≠ 0 then z else 1), ⟨hz2.2, le_pow hz2.1⟩, rfl⟩
  · obtain ⟨p1, p22⟩ := p
    injection ep with e1 e2
    injection e1 with e1
    injection e2 with e2 _
    injection e2 with e2
    subst e1 e2
    exact ⟨(lowA p1 _, lowB p1 _), low_okQ hi hz2.1 hz2.2, e⟩

end V1
set_option Elab.async false
set_option linter.all false
set_option maxRecDepth 100000
set_option maxHeartbeats 4000000
/-! Own errors as values: made with keywords. -/
namespace PySem
namespace V1E
open PySem.W PySem.Calls PyProof.Rows PySem.HandSPX
open Builtin Builtin.ObjectAttr
section
variable {M : Model} {A : Around} {E : Value → Shared → Prop} {hp : Heap} {g : Array GenState} {dr : Drawn} {tk : Nat} {os : OsState}
variable {nm q : Str} {C N : Addr} {bs bm bmB : List Value} {hdct : Bool} {sn : List Str} {sub : List Value} {ab : Bool} {col : Option Bool} {dd : Option Addr} {k0 k1 k2 k3 k5 : Option Value} {B newId initId : String}
/-- the look at the new call, keywords there or not -/
theorem new_looked (F : ExcBaseFacts B newId initId bmB) (mro : ∀ Z : String, bm.contains (.type Z) = bmB.contains (.type Z)) {us : List Value} {kw : List (Str × Value)} {Q : Unit → Shared → Prop}
    (oC : hp.get? C = some (excClassObj nm q C N bs bm hdct sn sub ab col dd k0 k1 k2 k3 k5 newId)) (fin : Q () ⟨hp, g, dr, tk, os⟩) : wpAny M A (checkBuiltinCall newId ⟨.ref C :: us, kw⟩) Q E ⟨hp, g, dr, tk, os⟩ := by
  have inB : (Value.ref C :: bm).contains (.type B) = true := by rw [List.contains_cons, mro, F.hasB, Bool.or_true]
  have ns := F.noStar
  simp only [checkBuiltinCall, F.newKind, F.newSplit, F.newRow]
  repeat (first | (refine wpAny_isSubtype_exc oC ?_; rw [inB]) | refine wpAny_loadPart_at oC ?_ | refine wpAny_madeBy_exc oC ?_ | refine wpAny_staticBase_exc oC ?_ | simp only [bne_self_eq_false, Bool.false_eq_true, if_false] | wp_step)
  exact fin
end
section
variable {prog : Program} {w : World} {A : Around} {E : Value → Shared → Prop} {R : Result → Shared → Prop} {hp : Heap} {g : Array GenState} {dr : Drawn} {tk : Nat} {os : OsState}
variable {nm q : Str} {C N : Addr} {bs bm bmB : List Value} {hdct : Bool} {sn : List Str} {sub : List Value} {ab : Bool} {col : Option Bool} {dd : Option Addr} {k0 k1 k2 k3 k5 : Option Value} {B newId initId : String}
/-- the new object, its args laid -/
theorem new_made (F : ExcBaseFacts B newId initId bmB) (mro : ∀ Z : String, bm.contains (.type Z) = bmB.contains (.type Z)) {us : List Value} {kw : List (Str × Value)}
    (oC : hp.get? C = some (excClassObj nm q C N bs bm hdct sn sub ab col dd k0 k1 k2 k3 k5 newId)) (few : us.length ≤ sizeLine)
    (fin : R (.ok (.ret (.ref (hp.objs.size + 1)))) ⟨(hp.push (kdv_tup us)).push (excO C hp.objs.size), g, dr, tk, os⟩) : codeAny (model prog w) A (.builtin newId ⟨.ref C :: us, kw⟩) R ⟨hp, g, dr, tk, os⟩ := by
  have inB : (Value.ref C :: bm).contains (.type B) = true := by rw [List.contains_cons, mro, F.hasB, Bool.or_true]
  have inA : (Value.ref C :: bm).contains (.type "AttributeError") = false := by rw [List.contains_cons, mro, F.noAttr]; rfl
  have inN : (Value.ref C :: bm).contains (.type "NameError") = false := by rw [List.contains_cons, mro, F.noName]; rfl
  have en := F.ends
  refine codeAny_builtinAt F.entry ?_
  unfold Builtin.«BaseException.__new__»
  refine wpAt_bind ?_
  show wpAt _ _ _ (PySem.stack >>= _) _ _ _
  refine wpAt_bind (wpAt_stack fun _ _ => wpAt_of_wpAny ?_)
  wp_walk
  refine wpAt_of_wpAny ?_
  rw [F.owner]
  repeat (first | with_reducible refine wpAny_loadPart_at oC ?_ | with_reducible refine wpAny_madeHere_exc F.canon oC ?_ | (with_reducible refine wpAny_isSubtype_exc oC ?_; first | rw [inB] | rw [inA] | rw [inN]) | wp_step)
  show R _ _
  rw [Heap.size_push]
  exact fin
/-- the class called: the new object, then its own __init__ -/
theorem class_called (F : ExcBaseFacts B newId initId bmB) (mro : ∀ Z : String, bm.contains (.type Z) = bmB.contains (.type Z)) {us : List Value} {kw : List (Str × Value)} {fI : Addr} {Q : Fin → Shared → Prop}
    (oC : hp.get? C = some (excClassObj nm q C N bs bm hdct sn sub ab col dd k0 k1 k2 k3 k5 newId))
    (li : W.Looks (model prog w) hp (typeLookup (.ref C) "__init__") (some (.ref fI))) (lb : ∀ self, W.Looks (model prog w) hp (bindSpecial (.ref fI) self) (.ref fI, [self])) (few : us.length ≤ sizeLine)
    (fin : codeAny (model prog w) A (.call (.ref fI) ⟨.ref (hp.objs.size + 1) :: us, kw⟩)
      (fun r s' => match r with | .ok (.ret v) => v = .none ∧ Q (.done (.ret (.ref (hp.objs.size + 1)))) s' | .ok _ => False | .error e => E e s') ⟨(hp.push (kdv_tup us)).push (excO C hp.objs.size), g, dr, tk, os⟩) :
    wpAny (model prog w) A (Builtin.«type.__call__» ⟨.ref C :: us, kw⟩) Q E ⟨hp, g, dr, tk, os⟩ := by
  repeat (first | with_reducible refine wpAny_madeBy_exc oC ?_ | with_reducible refine wpAny_loadPart_at oC ?_ | wp_step)
  refine codeAny_call_builtin_code (Code.quiet_builtin _ F.quiet) (new_looked F mro oC (new_made F mro oC few ?_))
  show wpAny _ _ _ _ _ _
  have kp : ∀ b o, hp.get? b = some o → ((hp.push (kdv_tup us)).push (excO C hp.objs.size)).get? b = some o := fun b o e => Heap.get?_push_of_some _ (Heap.get?_push_of_some _ e)
  have oC2 := kp _ _ oC
  have oE : ((hp.push (kdv_tup us)).push (excO C hp.objs.size)).get? (hp.objs.size + 1) = some (excO C hp.objs.size) := by heap_get
  have inC : (Value.ref C :: bm).contains (.ref C) = true := by simp
  unfold isInstance
  repeat (first | with_reducible refine wpAny_loadPart_at oE ?_ | (with_reducible refine wpAny_isSubtype_exc oC2 ?_; rw [inC]) | wp_step)
  show wpAny _ _ (typeLookup (.ref C) _) _ _ _
  refine (li.keeps kp).at ?_
  refine wpAny_holding (wpAny_bind (((lb (.ref (hp.objs.size + 1))).keeps kp).at ?_))
  refine wpAny_bind (wpAny_call (codeAny_mono fin fun r s' z => ?_))
  rcases r with e | (v | _ | _ | _) <;> first | exact z | exact z.elim | skip
  obtain ⟨rfl, z⟩ := z
  first
    | exact wpAny_pure (wpAny_pure z)
    | (wp_walk; exact z)
theorem looked_call {us : List Value} {kw : List (Str × Value)} {Q : Unit → Shared → Prop} (oC : hp.get? C = some (excClassObj nm q C N bs bm hdct sn sub ab col dd k0 k1 k2 k3 k5 newId)) (fin : Q () ⟨hp, g, dr, tk, os⟩) : wpAny (model prog w) A (checkBuiltinCall "type.__call__" ⟨.ref C :: us, kw⟩) Q E ⟨hp, g, dr, tk, os⟩ := by
  have sb := tc_sub
  have tC : (⟨hp, g, dr, tk, os⟩ : Shared).TypeIs (.ref C) "type" := ⟨_, oC, rfl⟩
  simp only [checkBuiltinCall, tc_split, tc_kind]
  repeat (any_goals (first | assumption | with_reducible refine wpAny_map ?_ | with_reducible refine wpAny_onRaise ?_ | with_reducible refine wpAny_loadPart_at oC ?_ | wp_step))
/-- C(us, kw): an own error class called -/
theorem made_own (F : ExcBaseFacts B newId initId bmB) (mro : ∀ Z : String, bm.contains (.type Z) = bmB.contains (.type Z)) {us : List Value} {kw : List (Str × Value)} {fI : Addr}
    (oC : hp.get? C = some (excClassObj nm q C N bs bm hdct sn sub ab col dd k0 k1 k2 k3 k5 newId))
    (li : W.Looks (model prog w) hp (typeLookup (.ref C) "__init__") (some (.ref fI))) (lb : ∀ self, W.Looks (model prog w) hp (bindSpecial (.ref fI) self) (.ref fI, [self])) (few : us.length ≤ sizeLine)
    (fin : codeAny (model prog w) (A.under (.builtin "type.__call__" ⟨.ref C :: us, kw⟩)) (.call (.ref fI) ⟨.ref (hp.objs.size + 1) :: us, kw⟩) (W.InitBack (hp.objs.size + 1) R) ⟨(hp.push (kdv_tup us)).push (excO C hp.objs.size), g, dr, tk, os⟩) :
    codeAny (model prog w) A (.call (.ref C) ⟨us, kw⟩) R ⟨hp, g, dr, tk, os⟩ := by
  have tC : (⟨hp, g, dr, tk, os⟩ : Shared).TypeIs (.ref C) "type" := ⟨_, oC, rfl⟩
  have a1 := tc_bind (.ref C)
  have a2 := tc_lookup
  refine codeAny_of_tree ?_
  show wpAny _ _ (callAny (.ref C) _) _ _ _
  repeat (any_goals (first | assumption | with_reducible refine wpAny_loadPart_at oC ?_ | wp_step))
  refine ⟨rfl, ?_⟩
  refine codeAny_call_builtin_at (Code.quiet_builtin _ (by decide +kernel)) entry_typeCall (looked_call oC (class_called F mro oC li lb few ?_))
  refine codeAny_mono fin fun r s' z => ?_
  rcases r with e | (v | _ | _ | _) <;> exact z
end
end V1E
end PySem
set_option Elab.async false
set_option linter.all false
set_option maxRecDepth 100000
set_option maxHeartbeats 4000000
/-! Own errors as values: made, asked for their class, their fields read. -/
namespace V1
open PySem PySem.Spec PyProof.Rows L2
/-- what an own error class says, its __init__ among it -/
structure ErC (K : PySem.W.Frag) (mg : Str → Option Value) (cn : Str) (ps : List Str) (sp : PySem.W.Frag → Sp) (C fI : Addr) (fd : FuncData) : Prop where
  gC : mg cn = some (.ref C)
  T : OexC K C
  iC : PySem.W.findIn K (.ref C) "__init__" = some (some (.ref fI))
  tI : PySem.W.typeIn K (.ref fI) = some (.type "function")
  I : ∀ (P : Program) (w : World) (base : Heap), FnOk P w K mg base CX0 1 fI fd ps (sp K)
/-- C(e, .., k = v, ..): the new object is handed to its __init__ -/
def tMkV (C : Addr) (sp : Sp) (gV : List V → List V → List V) (ta tk : TA) : TE := fun σ H Q => ta σ H fun vs H1 => tk σ H1 fun zs H2 => vs.length ≤ 1000 ∧ ∀ a, H2 a = none → sp (gV (.ref a :: vs) zs) (upd H2 a (exo a C none)) (fun v H3 => v = .non ∧ Q (.ref a) H3) (fun _ _ _ => False)
section
variable {X : Cx} {cn : Str} {C fI : Addr} {fd : FuncData} {ps ks : List Str} {sp : PySem.W.Frag → Sp} {g : List Value → List Value → List Value} {gV : List V → List V → List V} {kws : List Keyword} {t tk : TA} {e : Expr} {es : List Expr} {p pos : Pos}
theorem run_mk {pins : List (Addr × Obj)} {σ : L2.St} {H : Hp} {s : Shared} {Q : VK} {us ws : List Value} {vs zs : List V} (Z : ErC X.K X.mg cn ps sp C fI fd) (hr : Room 2 X.A) (hb : KBinds X.K fd ps ks g gV) (I : L2.Inv X pins σ H s) (r : Vals vs us) (rz : Vals zs ws) (hl : vs.length ≤ 1000)
    (q : ∀ a, H a = none → sp X.K (gV (.ref a :: vs) zs) (upd H a (exo a C none)) (fun v H3 => v = .non ∧ Q (.ref a) H3) (fun _ _ _ => False)) : wpAny (model X.prog X.w) X.A (call (.ref C) us (ks.zip ws)) (EP X pins σ Q) X.xe s := by
  obtain ⟨nm, qn, N, bs, bm, sn, sub, ab, col, dd, k0, k1, k2, k3, k5, hC, hbm⟩ := Z.T.cls
  obtain ⟨hp, ga, dr, tk, os⟩ := s
  have hsz : hp.objs.size ≤ hp.objs.size + 1 := Nat.le_succ _
  have hq := q (hp.objs.size + 1) (I.hok.fresh hsz)
  have kk : ∀ b o, hp.get? b = some o → ((hp.push (PySem.W.kdv_tup us)).push (PySem.HandSPX.excO C hp.objs.size)).get? b = some o := fun b o e => Heap.get?_push_of_some _ (Heap.get?_push_of_some _ e)
  have hget : ((hp.push (PySem.W.kdv_tup us)).push (PySem.HandSPX.excO C hp.objs.size)).get? (hp.objs.size + 1) = some (PySem.HandSPX.excO C hp.objs.size) := by heap_get
  have I2 : L2.Inv X pins σ (upd H (hp.objs.size + 1) (exo (hp.objs.size + 1) C none)) ⟨(hp.push (PySem.W.kdv_tup us)).push (PySem.HandSPX.excO C hp.objs.size), ga, dr, tk, os⟩ :=
    I.laid (t' := tk) (a := hp.objs.size + 1) (o := exo (hp.objs.size + 1) C none) (h' := (hp.push (PySem.W.kdv_tup us)).push (PySem.HandSPX.excO C hp.objs.size)) kk hsz (exo_ok hget)
  have r2 : Vals (gV (.ref (hp.objs.size + 1) :: vs) zs) (g (Value.ref (hp.objs.size + 1) :: us) ws) := hb.rel (.cons rfl r) rz
  have hlen : (g (Value.ref (hp.objs.size + 1) :: us) ws).length = ps.length := by
    rw [← r2.length]
    exact (Z.I X.prog X.w X.base).len _ _ _ _ hq
  have hus : us.length ≤ sizeLine := by
    rw [← Paired.length r, sizeLine_eq]
    omega
  refine wpAny_call (PySem.V1E.made_own F.excBase_ValueError (fun Y => PySem.HandSPX.refsVE_contains Y bm hbm) (I.kIn _ _ hC) (PySem.W.looks_findIn I.kIn Z.iC) (fun self => PySem.W.bind_fn I.kIn self Z.tI) hus
    (codeAny_mono ((Z.I X.prog X.w X.base).run _ X.stack _ _ ⟨Value.ref (hp.objs.size + 1) :: us, ks.zip ws⟩ (g (Value.ref (hp.objs.size + 1) :: us) ws) (gV (.ref (hp.objs.size + 1) :: vs) zs) _ (fun _ _ _ => False) (hr.make C us (ks.zip ws)) (I2.env0.make C us (ks.zip ws)) (hb.to _ _ _ I2.kIn hlen) r2 hq) fun rr s' hq' => ?_))
  cases rr with
  | error er =>
    obtain ⟨_, _, _, _, _, _, _, _, _, _, _, _, z⟩ := hq'
  | ok fl =>
    cases fl with
    | ret u =>
      obtain ⟨v, H3, J, rv, ev, q3⟩ := I2.after hq'
      subst ev
      exact ⟨rv, ⟨.ref (hp.objs.size + 1), H3, J, rfl, q3⟩⟩
    | next => exact False.elim hq'
    | brk => exact False.elim hq'
    | cont => exact False.elim hq'
theorem pe_mkA (Z : ErC X.K X.mg cn ps sp C fI fd) (hr : Room 2 X.A) (hb : KBinds X.K fd ps [] g gV) (hg : Gl X cn) (ha : PA X (e :: es) t)
    (hdb : (cn == ("__debug__" : Str)) = false := by decide) (he : starEach (e :: es) X.env = (false, eval e X.env) :: starEach es X.env := by rfl) (hpl : (backTo pos (starEach es X.env)).any (·.1) = false := by rfl) :
    PE X (.Call (.Name cn p) (e :: es) [] pos) (tMkV C (sp X.K) gV t tNil) := by
  refine ⟨fun pins s σ H Q I h => ?_⟩
  refine wpAny_Call_Name_kw (ld_glob I hg Z.gC ?_ hdb)
  refine PySem.W.callWith_K (h₀ := X.base) I.ok.mod.kin Z.T.kC (thn (ha.run pos pins s σ H _ I h) fun us s1 ⟨vs, H1, I1, r1, hz, q1⟩ => ⟨I1.kIn, ?_⟩) he hpl
  exact run_mk (ws := []) (zs := []) (ks := []) Z hr hb I1 r1 .nil hz q1
theorem pe_mkK (Z : ErC X.K X.mg cn ps sp C fI fd) (hr : Room 2 X.A) (hb : KBinds X.K fd ps ks g gV) (hg : Gl X cn) (hkw : PK X kws tk)
    (hall : (backToKw pos (keywordEach kws X.env)).all (·.1.isSome) = true := by rfl) (hks : (backToKw pos (keywordEach kws X.env)).filterMap (·.1) = ks := by rfl) (hdb : (cn == ("__debug__" : Str)) = false := by decide)
    (hpl : ((backTo pos (starEach [] X.env)).any (·.1) || (backToKw pos (keywordEach kws X.env)).any (·.1.isNone)) = false := by rfl) :
    PE X (.Call (.Name cn p) [] kws pos) (tMkV C (sp X.K) gV tNil tk) := by
  refine ⟨fun pins s σ H Q I h => ?_⟩
  refine wpAny_Call_Name_kw (ld_glob I hg Z.gC ?_ hdb)
  refine PySem.W.callWith_KW0 (h₀ := X.base) I.ok.mod.kin Z.T.kC hall ?_ hpl
  refine thn (hkw.run pos pins s σ H _ I h) fun ws s2 ⟨zs, H2, I2, rz, hz, q2⟩ => ⟨I2.kIn, ?_⟩
  rw [hks]
  exact run_mk (us := []) (vs := []) Z hr hb I2 .nil rz hz q2
end
/-! ### isinstance of errors -/
/-- what a class says so that isinstance asks its errors rightly -/
structure IsiC (K : PySem.W.Frag) (D : Addr) : Prop where
  X : XfC K D
  cl : PySem.W.findIn K (.ref D) "__class__" = some (some (.builtin "object.__class__"))
  gt : PySem.W.specialIn K (.builtin "object.__class__") "__get__" = some (some (.builtin "getset_descriptor.__get__"))
  tk : PySem.W.takesIn K (.builtin "object.__class__") = some true
  ob : PySem.W.mroIn K D (.type "object") = some true
def ExAt (H : Hp) (a D : Addr) : Prop := (∃ dx fs, H a = some (exo a D (some dx)) ∧ H dx = some (exd dx fs)) ∨ H a = some (ExO (.ref D) a)
def rIsX (K : PySem.W.Frag) : List V → Hp → VK → Prop := fun xs H Q => ∃ (a D : Addr) (c : V) (u : Value) (b : Bool), xs = [.ref a, c] ∧ ExAt H a D ∧ ClsV c u ∧ IsiC K D ∧ PySem.W.kitOne K (.ref D) u = some b ∧ Q (.bl b) H
theorem clsIn_of {K : PySem.W.Frag} {D : Addr} (h : PySem.W.hasDictIn K D = true) : (PySem.W.clsIn K D).isSome = true := by
  obtain ⟨cd, hc, _⟩ := PySem.W.any_some h
  rw [hc] <;> rfl
theorem call_isX {X : Cx} : CallR X (.builtin "isinstance") (rIsX X.K) := by
  intro pins s σ H xs us Q I r h
  obtain ⟨a, D, c, u, b, rfl, ex, k, T, e, q⟩ := h
  obtain ⟨u1, u2, rfl, r1, r2⟩ := vals2 r
  cases (show u1 = Value.ref a from r1)
  have e2 := k.eq r2
  subst e2
  have fin : ∀ {ox : Obj} {od : Option Obj}, PySem.W.InstAt s.heap a ox D od → wpAny (model X.prog X.w) X.A (call (.builtin "isinstance") [Value.ref a, u2]) (EP X pins σ Q) X.xe s := fun {ox od} J =>
    PySem.W.kia_one (PySem.W.kitx_exc (ox := ox) (od := od) (clsIn_of T.X.hdC) T.X.ga T.X.gg T.X.exC T.cl T.gt T.tk T.ob) I.kIn J e (fun z => nomatch z) fun tk => ⟨.bl b, H, I.tok tk, rfl, q⟩
  rcases ex with ⟨dx, fs, ea, ed⟩ | ea
  · obtain ⟨t1, hoe⟩ := exo_at I.hok ea
    obtain ⟨mA, hns, _⟩ := exd_at I.hok ed
    obtain ⟨od, ho, _⟩ := lookIn_ns hns
    exact fin (ox := _) (od := some od) ⟨hoe, rfl, rfl, ho⟩
  · obtain ⟨⟨oe, vs, ho, hz, hd, _⟩, _, _⟩ := I.hok a _ ea
    obtain ⟨oc, od, oda, osl⟩ := oe
    obtain ⟨h1, h2⟩ := hz
    dsimp only at h1 h2 hd
    subst h1 h2 hd
    exact fin (ox := _) (od := none) ⟨ho, rfl, rfl, trivial⟩
/-! ### a field of an error -/
def tXg (K : PySem.W.Frag) (n : Str) (te : TE) : TE := fun σ H Q => te σ H fun x H1 => ∃ (a C dx : Addr) (fs : List (Str × V)) (v : V), x = .ref a ∧ H1 a = some (exo a C (some dx)) ∧ H1 dx = some (exd dx fs) ∧ XfC K C ∧ PySem.W.findIn K (.ref C) n = some none ∧ fs.lookup n = some v ∧ Q v H1
theorem pe_xg {X : Cx} {e : Expr} {te : TE} {n : Str} {pos : Pos} (he : PE X e te) (hb : attributeBase e n X.env (eval e X.env) = eval e X.env := by rfl) : PE X (.Attribute e n pos) (tXg X.K n te) := by
  refine ⟨fun pins s σ H Q I h => ?_⟩
  refine attr_of hb (thn (he.run pins s σ H _ I h) fun u s1 hh => ?_)
  obtain ⟨x, H1, I1, rx, a, C, dx, fs, v, ex, ea, ed, T, hno, l, q⟩ := hh
  subst ex
  obtain rfl : u = Value.ref a := rx
  obtain ⟨t1, hoe⟩ := exo_at I1.hok ea
  obtain ⟨mA, hns, hr⟩ := exd_at I1.hok ed
  obtain ⟨od, ho, hl⟩ := lookIn_ns hns
  obtain ⟨u2, hu, ru⟩ := RelO.some_of (v := v) (o := mA n) (by rw [← l]; exact hr n)
  have J : PySem.W.InstAt s1.heap a _ C (some od) := ⟨hoe, rfl, rfl, ho⟩
  exact HandSPX.exc_get I1.kIn J T.ga T.gg T.exC (PySem.W.findObj_own T.hdC hno rfl (by rw [hl, hu])) (handed_of ru) ⟨v, H1, I1.tok _, ru, q⟩
end V1
set_option Elab.async false
set_option linter.all false
set_option maxRecDepth 100000
set_option maxHeartbeats 4000000
/-! Own errors as data: made, asked for their class, their fields read. -/
namespace V1
open PySem PySem.Spec PyProof.Rows L2
/-- C(): an own error class without an __init__ of its own -/
theorem pe_mk0 {X : Cx} {C : Addr} {bmB : List Value} {B newId initId : String} {x : Str} {p pos : Pos} (F : ExcBaseFacts B newId initId bmB) (q : PySem.W.excIn X.K C bmB newId = true) (gC : X.mg x = some (.ref C)) (kC : PySem.W.keepIn X.K (.ref C) = true) (hg : Gl X x)
    (hdb : (x == ("__debug__" : Str)) = false := by decide) : PE X (.Call (.Name x p) [] [] pos) (fun _ H Q => ∀ a, H a = none → Q (.ref a) (upd H a (ExO (.ref C) a))) := by
  refine ⟨fun pins s σ H Q I h => ?_⟩
  refine wpAny_Call_Name_kw (ld_glob I hg gC ?_ hdb)
  refine PySem.W.callWith_K0 I.kIn kC ?_
  obtain ⟨bm, N, nm, qn, bs, hdct, sn, sub, ab, col, dd, k0, k1, k2, k3, k5, mN, hC, hN, hni, T⟩ := exc_obj I.kIn q
  refine wpAny_call_exc_subT F T hC hN hni (fun h' a hm => ?_) (by show 0 ≤ sizeLine; exact Nat.zero_le _)
  have hn : H a = none := I.hok.gone hm.new
  obtain ⟨t, ht, _, _⟩ := hm.there
  exact ⟨.ref a, upd H a (ExO (.ref C) a), I.laidN hm.keeps hm.new hn (exO_ok ht ⟨rfl, rfl⟩ rfl rfl rfl (show 4 < 6 by decide)), rfl, h a hn⟩
section
def gS {α : Type} : List α → List α → List α
  | [u], [v] => [u, v]
  | _, _ => []
def gP {α : Type} : List α → List α → List α
  | [u, v], [] => [u, v]
  | _, _ => []
def gT {α : Type} : List α → List α → List α
  | [u], [a, b] => [u, b, a]
  | _, _ => []
theorem gS_some {α : Type} : ∀ {us ws : List α}, (gS us ws).length = 2 → ∃ u v, us = [u] ∧ ws = [v]
  | [u], [v], _ => ⟨u, v, rfl, rfl⟩
  | [], _, h => by cases h
  | [_], [], h => by cases h
  | [_], _ :: _ :: _, h => by cases h
  | _ :: _ :: _, _, h => by cases h
theorem gP_some {α : Type} : ∀ {us ws : List α}, (gP us ws).length = 2 → ∃ u v, us = [u, v] ∧ ws = []
  | [u, v], [], _ => ⟨u, v, rfl, rfl⟩
  | [], _, h => by cases h
  | [_], _, h => by cases h
  | [_, _], _ :: _, h => by cases h
  | _ :: _ :: _ :: _, _, h => by cases h
theorem gT_some {α : Type} : ∀ {us ws : List α}, (gT us ws).length = 3 → ∃ u a b, us = [u] ∧ ws = [a, b]
  | [u], [a, b], _ => ⟨u, a, b, rfl, rfl⟩
  | [], _, h => by cases h
  | [_], [], h => by cases h
  | [_], [_], h => by cases h
  | [_], _ :: _ :: _ :: _, h => by cases h
  | _ :: _ :: _, _, h => by cases h
theorem rel_gS {vs : List V} {us : List Value} {zs : List V} {ws : List Value} (r : Vals vs us) (rz : Vals zs ws) : Vals (gS vs zs) (gS us ws) := by
  cases r with
  | nil => exact .nil
  | cons a r => cases r with
    | nil => cases rz with
      | nil => exact .nil
      | cons b rz => cases rz with
        | nil => exact .cons a (.cons b .nil)
        | cons _ _ => exact .nil
    | cons _ _ => exact .nil
theorem rel_gP {vs : List V} {us : List Value} {zs : List V} {ws : List Value} (r : Vals vs us) (rz : Vals zs ws) : Vals (gP vs zs) (gP us ws) := by
  cases r with
  | nil => exact .nil
  | cons a r => cases r with
    | nil => exact .nil
    | cons b r => cases r with
      | nil => cases rz with
        | nil => exact .cons a (.cons b .nil)
        | cons _ _ => exact .nil
      | cons _ _ => exact .nil
theorem rel_gT {vs : List V} {us : List Value} {zs : List V} {ws : List Value} (r : Vals vs us) (rz : Vals zs ws) : Vals (gT vs zs) (gT us ws) := by
  cases r with
  | nil => exact .nil
  | cons a r => cases r with
    | nil => cases rz with
      | nil => exact .nil
      | cons b rz => cases rz with
        | nil => exact .nil
        | cons c rz => cases rz with
          | nil => exact .cons a (.cons c (.cons b .nil))
          | cons _ _ => exact .nil
    | cons _ _ => exact .nil
theorem kbS {K : PySem.W.Frag} {fd : FuncData} {ps ks : List Str} (hp : ps.length = 2) (h : ∀ u v : Value, bindArgs fd ⟨[u], ks.zip [v]⟩ = pure (ps.zip [u, v])) : KBinds K fd ps ks gS gS := ⟨fun s us ws _ hl => by
  obtain ⟨u, v, rfl, rfl⟩ := gS_some (hl.trans hp)
  exact .of_eq (h u v), rel_gS⟩
theorem kbP {K : PySem.W.Frag} {fd : FuncData} {ps : List Str} (hp : ps.length = 2) (h : ∀ u v : Value, bindArgs fd ⟨[u, v], []⟩ = pure (ps.zip [u, v])) : KBinds K fd ps [] gP gP := ⟨fun s us ws _ hl => by
  obtain ⟨u, v, rfl, rfl⟩ := gP_some (hl.trans hp)
  exact .of_eq (h u v), rel_gP⟩
theorem kbT {K : PySem.W.Frag} {fd : FuncData} {ps ks : List Str} (hp : ps.length = 3) (h : ∀ u a b : Value, bindArgs fd ⟨[u], ks.zip [a, b]⟩ = pure (ps.zip [u, b, a])) : KBinds K fd ps ks gT gT := ⟨fun s us ws _ hl => by
  obtain ⟨u, a, b, rfl, rfl⟩ := gT_some (hl.trans hp)
  exact .of_eq (h u a b), rel_gT⟩
end
section
variable {L : Rl} {Γ : List (Option PyData)} {ta tk : TA} {te : TE} {C : Addr} {fld : Str} {d : PyData}
theorem made_same {H1 : Hp} {a dx C : Addr} {fs : List (Str × V)} (ha : H1 a = none) (hx : H1 dx = none) : Same H1 (upd (upd (upd H1 a (exo a C none)) dx (exd dx fs)) a (exo a C (some dx))) := fun b o e => by
  have n1 := ne_of_none e ha
  have n2 := ne_of_none e hx
  rw [upd_ne n1, upd_ne n2, upd_ne n1]
  exact e
theorem one_made {A : Addr → Prop} {H H1 : Hp} {v : V} {Q : VK} (T : OexC L.K C) (no : PySem.W.findIn L.K (.ref C) fld = some none) (hi1 : Inn A H1) (g1 : L.G 0 H1) (r1 : L.R 0 H H1) (hv : Dv L.K A H1 v d)
    (q : ∀ v d' H', L.R 0 H H' → Dq L A H' v d' → d' = exD C [fld] [d] → Q v H') (a : Addr) (ha : H1 a = none) : sp_init L.K fld [.ref a, v] (upd H1 a (exo a C none)) (fun v H3 => v = .non ∧ Q (.ref a) H3) (fun _ _ _ => False) :=
  ⟨a, C, v, rfl, T, no, upd_same, fun dx hdx hne => by
    have h1 : H1 dx = none := by rwa [upd_ne hne] at hdx
    have sm := made_same (C := C) (fs := [(fld, v)]) ha h1
    exact ⟨rfl, q (.ref a) _ _ (L.tr (a := 0) (b := 0) r1 (L.same g1 sm)) (.inr (.exc (fs := [(fld, v)]) (hi1.no ha) upd_same (hi1.no h1) (by rw [upd_ne hne, upd_same]) (.cons (hv.map fun b o na e k => ⟨na, sm b o e⟩) .nil))) rfl⟩⟩
/-- C(fld = x) -/
theorem eg_mkS (T : OexC L.K C) (no : PySem.W.findIn L.K (.ref C) fld = some none) (ha : EaD L tk Γ [d]) (hd : d ≠ mark) : EvD L (tMkV C (sp_init L.K fld) gS tNil tk) Γ (exD C [fld] [d]) := fun A σ H hi he hg Q q =>
  ha A σ H hi he hg _ fun vs ds H1 r1 hl hv e => by
    subst e
    obtain ⟨v, rfl, hv1⟩ := one_of hl hv
    exact ⟨Nat.zero_le _, one_made T no (hi.r r1) (Rl.gR (b := 0) hg r1) r1 (hv1.ne hd) q⟩
/-- C(x) -/
theorem eg_mkP (T : OexC L.K C) (no : PySem.W.findIn L.K (.ref C) fld = some none) (ha : EaD L ta Γ [d]) (hd : d ≠ mark) : EvD L (tMkV C (sp_init L.K fld) gP ta tNil) Γ (exD C [fld] [d]) := fun A σ H hi he hg Q q =>
  ha A σ H hi he hg _ fun vs ds H1 r1 hl hv e => by
    subst e
    obtain ⟨v, rfl, hv1⟩ := one_of hl hv
    exact ⟨(show 1 ≤ 1000 by decide), one_made T no (hi.r r1) (Rl.gR (b := 0) hg r1) r1 (hv1.ne hd) q⟩
/-- two fields -/
def sp_init2 (K : PySem.W.Frag) (f1 f2 : Str) : Sp := fun vs H Q _ => ∃ (a C : Addr) (v1 v2 : V), vs = [.ref a, v1, v2] ∧ OexC K C ∧ PySem.W.findIn K (.ref C) f1 = some none ∧ PySem.W.findIn K (.ref C) f2 = some none ∧ H a = some (exo a C none) ∧
  ∀ dx, H dx = none → dx ≠ a → Q .non (upd (upd (upd H dx (exd dx [(f1, v1)])) a (exo a C (some dx))) dx (exd dx [(f2, v2), (f1, v1)]))
theorem eg_mkT {f1 f2 : Str} {d1 d2 : PyData} (T : OexC L.K C) (n1 : PySem.W.findIn L.K (.ref C) f1 = some none) (n2 : PySem.W.findIn L.K (.ref C) f2 = some none) (ha : EaD L tk Γ [d2, d1]) (h1 : d1 ≠ mark) (h2 : d2 ≠ mark) : EvD L (tMkV C (sp_init2 L.K f1 f2) gT tNil tk) Γ (exD C [f2, f1] [d2, d1]) := fun A σ H hi he hg Q q =>
  ha A σ H hi he hg _ fun vs ds H1 r1 hl hv e => by
    subst e
    obtain ⟨v2, v1, rfl, hv2, hv1⟩ := two_of hl hv
    refine ⟨Nat.zero_le _, fun a ha => ⟨a, C, v1, v2, rfl, T, n1, n2, upd_same, fun dx hdx hne => ?_⟩⟩
    have hx : H1 dx = none := by rwa [upd_ne hne] at hdx
    have hi1 := hi.r r1
    have sm : Same H1 (upd (upd (upd (upd H1 a (exo a C none)) dx (exd dx [(f1, v1)])) a (exo a C (some dx))) dx (exd dx [(f2, v2), (f1, v1)])) := fun b o e => by
      rw [upd_ne (ne_of_none e hx)]
      exact made_same ha hx b o e
    exact ⟨rfl, q (.ref a) _ _ (L.tr (a := 0) (b := 0) r1 (L.same (Rl.gR (b := 0) hg r1) sm)) (.inr (.exc (fs := [(f2, v2), (f1, v1)]) (hi1.no ha) (by rw [upd_ne (Ne.symm hne), upd_same]) (hi1.no hx) upd_same (.cons ((hv2.ne h2).map fun b o na e k => ⟨na, sm b o e⟩) (.cons ((hv1.ne h1).map fun b o na e k => ⟨na, sm b o e⟩) .nil)))) rfl⟩
/-- C() -/
theorem eg_mk0 : EvD L (fun _ H Q => ∀ a, H a = none → Q (.ref a) (upd H a (ExO (.ref C) a))) Γ (enD C) := fun A σ H hi he hg Q q a ha =>
  q (.ref a) _ _ (Rl.newR hg ha) (.inr (.exn (hi.no ha) upd_same)) rfl
/-- where an error stands -/
theorem Dv.exc_at {K : PySem.W.Frag} {A : Addr → Prop} {H : Hp} {v : V} {D : PyData} {ns : List Str} {ds : List PyData} (h : Dv K A H v D) (e : D = exD C ns ds) : ∃ (a dx : Addr) (fs : List (Str × V)), v = .ref a ∧ H a = some (exo a C (some dx)) ∧ H dx = some (exd dx fs) ∧ (fs.map (·.1)).map PyData.str = ns.map PyData.str ∧ DvAll K A H (fs.map (·.2)) ds := by
  cases h with
  | exc n1 e1 n2 e2 r =>
    injection e with e
    injection e with ea eb
    injection ea with ea1 ea2
    injection ea1 with ea1
    injection ea2 with ea2
    injection eb with eb1 eb2
    injection eb1 with _ eb1
    injection eb1 with eb1
    have : _ = C := Int.ofNat.inj ea1
    subst this
    subst eb1
    exact ⟨_, _, _, rfl, e1, e2, ea2, r⟩
  | exn _ _ => injection e with e; injection e with ea eb; injection ea with _ ea; cases ea
  | emp _ _ => injection e with e; injection e with ea eb; injection ea with ea; cases ea
  | _ => cases e
theorem Dv.exn_at {K : PySem.W.Frag} {A : Addr → Prop} {H : Hp} {v : V} {D : PyData} (h : Dv K A H v D) (e : D = enD C) : ∃ a : Addr, v = .ref a ∧ H a = some (ExO (.ref C) a) := by
  cases h with
  | exn n1 e1 =>
    injection e with e
    injection e with ea eb
    injection ea with ea1 ea2
    injection ea1 with ea1
    have : _ = C := Int.ofNat.inj ea1
    subst this
    exact ⟨_, rfl, e1⟩
  | exc _ _ _ _ _ => injection e with e; injection e with ea eb; injection ea with _ ea; cases ea
  | emp _ _ => injection e with e; injection e with ea eb; injection ea with ea; cases ea
  | _ => cases e
/-- an error as data -/
def isE (C : Addr) (D : PyData) : Prop := (∃ ns ds, D = exD C ns ds) ∨ D = enD C
theorem eg_isX {c : V} {u : Value} {b : Bool} {D : PyData} (h : EvD L te Γ D) (hD : isE C D) (k : ClsV c u) (T : IsiC L.K C) (e : PySem.W.kitOne L.K (.ref C) u = some b) : EvD L (tCB (rIsX L.K) (tCons te (tCons (tC c) tNil))) Γ (.bool b) := fun A σ H hi he hg Q q => h A σ H hi he hg _ fun x d1 H1 r1 hx p => by
  subst p
  have hne : d1 ≠ mark := by
    rcases hD with ⟨ns, ds, rfl⟩ | rfl <;> (intro z; injection z with z; cases z)
  have hd := hx.ne hne
  rcases hD with ⟨ns, ds, e1⟩ | e1
  · obtain ⟨a, dx, fs, rfl, ea, ed, _⟩ := hd.exc_at e1
    exact ⟨a, C, c, u, b, rfl, .inl ⟨dx, fs, ea, ed⟩, k, T, e, q _ _ H1 r1 (.inr (.bl b)) rfl⟩
  · obtain ⟨a, rfl, ea⟩ := hd.exn_at e1
    exact ⟨a, C, c, u, b, rfl, .inr ea, k, T, e, q _ _ H1 r1 (.inr (.bl b)) rfl⟩
theorem lookup_dv {K : PySem.W.Frag} {A : Addr → Prop} {H : Hp} {n : Str} : ∀ {fs : List (Str × V)} {ns : List Str} {ds : List PyData}, (fs.map (·.1)).map PyData.str = ns.map PyData.str → DvAll K A H (fs.map (·.2)) ds → ∀ {d : PyData}, (ns.zip ds).lookup n = some d → ∃ v, fs.lookup n = some v ∧ Dv K A H v d
  | [], ns, ds, _, r, d, e => by
    cases r
    rw [List.zip_nil_right] at e
    cases e
  | (f, v) :: fs, [], ds, h, r, d, e => by cases h
  | (f, v) :: fs, m :: ns, ds, h, r, d, e => by
    cases r with
    | cons r1 r2 =>
      simp only [List.map_cons, List.cons.injEq] at h
      obtain ⟨h1, h2⟩ := h
      injection h1 with h1
      subst h1
      simp only [List.zip_cons_cons, List.lookup_cons] at e ⊢
      by_cases hz : (n == f) = true
      · rw [hz] at e ⊢
        cases e
        exact ⟨v, rfl, r1⟩
      · have hz : (n == f) = false := by simpa using hz
        rw [hz] at e ⊢
        exact lookup_dv h2 r2 e
theorem eg_xg {n : Str} {ns : List Str} {ds : List PyData} (h : EvD L te Γ (exD C ns ds)) (T : XfC L.K C) (no : PySem.W.findIn L.K (.ref C) n = some none) (hl : (ns.zip ds).lookup n = some d) : EvD L (tXg L.K n te) Γ d := fun A σ H hi he hg Q q => h A σ H hi he hg _ fun x d1 H1 r1 hx p => by
  subst p
  have hd := hx.ne (by intro z; injection z with z; cases z)
  obtain ⟨a, dx, fs, rfl, ea, ed, en, r⟩ := hd.exc_at rfl
  obtain ⟨v, lv, dv⟩ := lookup_dv en r hl
  exact ⟨a, C, dx, fs, v, rfl, ea, ed, T, no, lv, q v _ H1 r1 (.inr dv) rfl⟩
end
end V1
set_option Elab.async false
set_option linter.all false
set_option maxRecDepth 100000
set_option maxHeartbeats 4000000
/-! k00: the seventeen error classes. -/
namespace V1
open PySem PySem.Spec PyProof.Rows L2
theorem op_neDK {X : Cx} {K : PySem.W.Frag} (h : X.K = K) (hu : X.A.units + 64 < cLine) : OpR X (compareOp .NotEq) (rNeD K) := h ▸ op_neD hu
structure Er1 (K : PySem.W.Frag) (mg : Str → Option Value) (cn fld : Str) (C fI : Addr) (fd : FuncData) : Prop where
  z : ErC K mg cn ["self", fld] (fun K => sp_init K fld) C fI fd
  no : PySem.W.findIn K (.ref C) fld = some none
  kS : KBinds K fd ["self", fld] [fld] gS gS
  kP : KBinds K fd ["self", fld] [] gP gP
structure Er2 (K : PySem.W.Frag) (mg : Str → Option Value) (C fI : Addr) (fd : FuncData) : Prop where
  z : ErC K mg "NotText" ["self", "line", "word"] (fun K => sp_init2 K "line" "word") C fI fd
  n1 : PySem.W.findIn K (.ref C) "line" = some none
  n2 : PySem.W.findIn K (.ref C) "word" = some none
  kT : KBinds K fd ["self", "line", "word"] ["word", "line"] gT gT
structure Er0 (K : PySem.W.Frag) (mg : Str → Option Value) (cn : Str) (C : Addr) : Prop where
  gC : mg cn = some (.ref C)
  kp : PySem.W.keepIn K (.ref C) = true
  ex : PySem.W.excIn K C [.type "ValueError", .type "Exception", .type "BaseException", .type "object"] "ValueError.__new__" = true

def er1 : Nat → Str × Str
  | 0 => ("NotNumber", "value")
  | 1 => ("NotPoint", "place")
  | 2 => ("NotRow", "place")
  | 3 => ("NotFormula", "path")
  | 4 => ("NotFont", "name")
  | 5 => ("NotFamily", "place")
  | 6 => ("NotSystem", "number")
  | 7 => ("NotClaim", "path")
  | 8 => ("NotPicture", "number")
  | 10 => ("NotPaper", "path")
  | 11 => ("NotName", "name")
  | 12 => ("NotGrid", "number")
  | 16 => ("TooGreat", "most")
  | _ => ("", "")

def er0 : Nat → Str
  | 13 => "Unlike"
  | 14 => "Empty"
  | 15 => "Endless"
  | _ => ""

structure Errs (K : PySem.W.Frag) (mg : Str → Option Value) where
  cA : Nat → Addr
  fI : Nat → Addr
  fd : Nat → FuncData
  fe : Addr
  e0 : Er1 K mg "NotNumber" "value" (cA 0) (fI 0) (fd 0)
  e1 : Er1 K mg "NotPoint" "place" (cA 1) (fI 1) (fd 1)
  e2 : Er1 K mg "NotRow" "place" (cA 2) (fI 2) (fd 2)
  e3 : Er1 K mg "NotFormula" "path" (cA 3) (fI 3) (fd 3)
  e4 : Er1 K mg "NotFont" "name" (cA 4) (fI 4) (fd 4)
  e5 : Er1 K mg "NotFamily" "place" (cA 5) (fI 5) (fd 5)
  e6 : Er1 K mg "NotSystem" "number" (cA 6) (fI 6) (fd 6)
  e7 : Er1 K mg "NotClaim" "path" (cA 7) (fI 7) (fd 7)
  e8 : Er1 K mg "NotPicture" "number" (cA 8) (fI 8) (fd 8)
  e9 : Er2 K mg (cA 9) (fI 9) (fd 9)
  e10 : Er1 K mg "NotPaper" "path" (cA 10) (fI 10) (fd 10)
  e11 : Er1 K mg "NotName" "name" (cA 11) (fI 11) (fd 11)
  e12 : Er1 K mg "NotGrid" "number" (cA 12) (fI 12) (fd 12)
  e13 : Er0 K mg "Unlike" (cA 13)
  e14 : Er0 K mg "Empty" (cA 14)
  e15 : Er0 K mg "Endless" (cA 15)
  e16 : Er1 K mg "TooGreat" "most" (cA 16) (fI 16) (fd 16)
  isi : ∀ i, i < 17 → IsiC K (cA i)
  kit : ∀ i j, i < 17 → j < 17 → PySem.W.kitOne K (.ref (cA i)) (.ref (cA j)) = some (i == j)
  gFE : mg "FontError" = some (.ref fe)
  kFE : ∀ i, i < 17 → PySem.W.kitOne K (.ref (cA i)) (.ref fe) = some true
  mVE : mg "ValueError" = none
  kVE : ∀ i, i < 17 → PySem.W.kitOne K (.ref (cA i)) (.type "ValueError") = some true

theorem sc_init4 : FnScope ["self", "place"] ["self", "place"] (defScope (initAt 4)) := ⟨rfl, rfl, rfl, by decide +kernel, rfl, by decide +kernel, by decide +kernel⟩
theorem ok_init4 {P : Program} {w : World} {K : PySem.W.Frag} {mg : Str → Option Value} {base : Heap} {fI : Addr} {fd : FuncData} (F : Fun K "__init__" "NotPoint.__init__" (initAt 4) fI fd) : FnOk P w K mg base CX0 1 fI fd ["self", "place"] (sp_init K "place") := by
  refine F.ok sc_init4 (fun vs H Q E h => ?_) fun cdv A outer s H vs Q E hr h => ⟨_, pss_one (ps_ost (pv 0) (pv 1)), ?_⟩
  · obtain ⟨a, C, v, rfl, _⟩ := h
    rfl
  · obtain ⟨a, C', v, rfl, h1, h2, h3, q⟩ := h
    exact ⟨v, rfl, .ref a, rfl, a, C', rfl, h1, h2, .inl ⟨h3, q⟩⟩
theorem sc_init5 : FnScope ["self", "place"] ["self", "place"] (defScope (initAt 5)) := ⟨rfl, rfl, rfl, by decide +kernel, rfl, by decide +kernel, by decide +kernel⟩
theorem ok_init5 {P : Program} {w : World} {K : PySem.W.Frag} {mg : Str → Option Value} {base : Heap} {fI : Addr} {fd : FuncData} (F : Fun K "__init__" "NotRow.__init__" (initAt 5) fI fd) : FnOk P w K mg base CX0 1 fI fd ["self", "place"] (sp_init K "place") := by
  refine F.ok sc_init5 (fun vs H Q E h => ?_) fun cdv A outer s H vs Q E hr h => ⟨_, pss_one (ps_ost (pv 0) (pv 1)), ?_⟩
  · obtain ⟨a, C, v, rfl, _⟩ := h
    rfl
  · obtain ⟨a, C', v, rfl, h1, h2, h3, q⟩ := h
    exact ⟨v, rfl, .ref a, rfl, a, C', rfl, h1, h2, .inl ⟨h3, q⟩⟩
theorem sc_init6 : FnScope ["self", "path"] ["self", "path"] (defScope (initAt 6)) := ⟨rfl, rfl, rfl, by decide +kernel, rfl, by decide +kernel, by decide +kernel⟩
theorem ok_init6 {P : Program} {w : World} {K : PySem.W.Frag} {mg : Str → Option Value} {base : Heap} {fI : Addr} {fd : FuncData} (F : Fun K "__init__" "NotFormula.__init__" (initAt 6) fI fd) : FnOk P w K mg base CX0 1 fI fd ["self", "path"] (sp_init K "path") := by
  refine F.ok sc_init6 (fun vs H Q E h => ?_) fun cdv A outer s H vs Q E hr h => ⟨_, pss_one (ps_ost (pv 0) (pv 1)), ?_⟩
  · obtain ⟨a, C, v, rfl, _⟩ := h
    rfl
  · obtain ⟨a, C', v, rfl, h1, h2, h3, q⟩ := h
    exact ⟨v, rfl, .ref a, rfl, a, C', rfl, h1, h2, .inl ⟨h3, q⟩⟩
theorem sc_init7 : FnScope ["self", "name"] ["self", "name"] (defScope (initAt 7)) := ⟨rfl, rfl, rfl, by decide +kernel, rfl, by decide +kernel, by decide +kernel⟩
theorem ok_init7 {P : Program} {w : World} {K : PySem.W.Frag} {mg : Str → Option Value} {base : Heap} {fI : Addr} {fd : FuncData} (F : Fun K "__init__" "NotFont.__init__" (initAt 7) fI fd) : FnOk P w K mg base CX0 1 fI fd ["self", "name"] (sp_init K "name") := by
  refine F.ok sc_init7 (fun vs H Q E h => ?_) fun cdv A outer s H vs Q E hr h => ⟨_, pss_one (ps_ost (pv 0) (pv 1)), ?_⟩
  · obtain ⟨a, C, v, rfl, _⟩ := h
    rfl
  · obtain ⟨a, C', v, rfl, h1, h2, h3, q⟩ := h
    exact ⟨v, rfl, .ref a, rfl, a, C', rfl, h1, h2, .inl ⟨h3, q⟩⟩
theorem sc_init8 : FnScope ["self", "place"] ["self", "place"] (defScope (initAt 8)) := ⟨rfl, rfl, rfl, by decide +kernel, rfl, by decide +kernel, by decide +kernel⟩
theorem ok_init8 {P : Program} {w : World} {K : PySem.W.Frag} {mg : Str → Option Value} {base : Heap} {fI : Addr} {fd : FuncData} (F : Fun K "__init__" "NotFamily.__init__" (initAt 8) fI fd) : FnOk P w K mg base CX0 1 fI fd ["self", "place"] (sp_init K "place") := by
  refine F.ok sc_init8 (fun vs H Q E h => ?_) fun cdv A outer s H vs Q E hr h => ⟨_, pss_one (ps_ost (pv 0) (pv 1)), ?_⟩
  · obtain ⟨a, C, v, rfl, _⟩ := h
    rfl
  · obtain ⟨a, C', v, rfl, h1, h2, h3, q⟩ := h
    exact ⟨v, rfl, .ref a, rfl, a, C', rfl, h1, h2, .inl ⟨h3, q⟩⟩
theorem sc_init9 : FnScope ["self", "number"] ["self", "number"] (defScope (initAt 9)) := ⟨rfl, rfl, rfl, by decide +kernel, rfl, by decide +kernel, by decide +kernel⟩
theorem ok_init9 {P : Program} {w : World} {K : PySem.W.Frag} {mg : Str → Option Value} {base : Heap} {fI : Addr} {fd : FuncData} (F : Fun K "__init__" "NotSystem.__init__" (initAt 9) fI fd) : FnOk P w K mg base CX0 1 fI fd ["self", "number"] (sp_init K "number") := by
  refine F.ok sc_init9 (fun vs H Q E h => ?_) fun cdv A outer s H vs Q E hr h => ⟨_, pss_one (ps_ost (pv 0) (pv 1)), ?_⟩
  · obtain ⟨a, C, v, rfl, _⟩ := h
    rfl
  · obtain ⟨a, C', v, rfl, h1, h2, h3, q⟩ := h
    exact ⟨v, rfl, .ref a, rfl, a, C', rfl, h1, h2, .inl ⟨h3, q⟩⟩
theorem sc_init10 : FnScope ["self", "path"] ["self", "path"] (defScope (initAt 10)) := ⟨rfl, rfl, rfl, by decide +kernel, rfl, by decide +kernel, by decide +kernel⟩
theorem ok_init10 {P : Program} {w : World} {K : PySem.W.Frag} {mg : Str → Option Value} {base : Heap} {fI : Addr} {fd : FuncData} (F : Fun K "__init__" "NotClaim.__init__" (initAt 10) fI fd) : FnOk P w K mg base CX0 1 fI fd ["self", "path"] (sp_init K "path") := by
  refine F.ok sc_init10 (fun vs H Q E h => ?_) fun cdv A outer s H vs Q E hr h => ⟨_, pss_one (ps_ost (pv 0) (pv 1)), ?_⟩
  · obtain ⟨a, C, v, rfl, _⟩ := h
    rfl
  · obtain ⟨a, C', v, rfl, h1, h2, h3, q⟩ := h
    exact ⟨v, rfl, .ref a, rfl, a, C', rfl, h1, h2, .inl ⟨h3, q⟩⟩
theorem sc_init11 : FnScope ["self", "number"] ["self", "number"] (defScope (initAt 11)) := ⟨rfl, rfl, rfl, by decide +kernel, rfl, by decide +kernel, by decide +kernel⟩
theorem ok_init11 {P : Program} {w : World} {K : PySem.W.Frag} {mg : Str → Option Value} {base : Heap} {fI : Addr} {fd : FuncData} (F : Fun K "__init__" "NotPicture.__init__" (initAt 11) fI fd) : FnOk P w K mg base CX0 1 fI fd ["self", "number"] (sp_init K "number") := by
  refine F.ok sc_init11 (fun vs H Q E h => ?_) fun cdv A outer s H vs Q E hr h => ⟨_, pss_one (ps_ost (pv 0) (pv 1)), ?_⟩
  · obtain ⟨a, C, v, rfl, _⟩ := h
    rfl
  · obtain ⟨a, C', v, rfl, h1, h2, h3, q⟩ := h
    exact ⟨v, rfl, .ref a, rfl, a, C', rfl, h1, h2, .inl ⟨h3, q⟩⟩
theorem sc_init12 : FnScope ["self", "line", "word"] ["self", "line", "word"] (defScope (initAt 12)) := ⟨rfl, rfl, rfl, by decide +kernel, rfl, by decide +kernel, by decide +kernel⟩
theorem ok_init12 {P : Program} {w : World} {K : PySem.W.Frag} {mg : Str → Option Value} {base : Heap} {fI : Addr} {fd : FuncData} (F : Fun K "__init__" "NotText.__init__" (initAt 12) fI fd) : FnOk P w K mg base CX0 1 fI fd ["self", "line", "word"] (sp_init2 K "line" "word") := by
  refine F.ok sc_init12 (fun vs H Q E h => ?_) fun cdv A outer s H vs Q E hr h => ⟨_, pss_cons (ps_ost (pv 0) (pv 1)) (pss_one (ps_ost (pv 0) (pv 2))), ?_⟩
  · obtain ⟨a, C, v1, v2, rfl, _⟩ := h
    rfl
  · obtain ⟨a, C', v1, v2, rfl, h1, h2, h3, h4, q⟩ := h
    refine ⟨v1, rfl, .ref a, rfl, a, C', rfl, h1, h2, .inl ⟨h4, fun dx hx hne => ?_⟩⟩
    exact ⟨v2, rfl, .ref a, rfl, a, C', rfl, h1, h3, .inr ⟨dx, [("line", v1)], upd_same, by rw [upd_ne hne, upd_same], (show 1 ≤ 900 by decide), q dx hx hne⟩⟩
theorem sc_init13 : FnScope ["self", "path"] ["self", "path"] (defScope (initAt 13)) := ⟨rfl, rfl, rfl, by decide +kernel, rfl, by decide +kernel, by decide +kernel⟩
theorem ok_init13 {P : Program} {w : World} {K : PySem.W.Frag} {mg : Str → Option Value} {base : Heap} {fI : Addr} {fd : FuncData} (F : Fun K "__init__" "NotPaper.__init__" (initAt 13) fI fd) : FnOk P w K mg base CX0 1 fI fd ["self", "path"] (sp_init K "path") := by
  refine F.ok sc_init13 (fun vs H Q E h => ?_) fun cdv A outer s H vs Q E hr h => ⟨_, pss_one (ps_ost (pv 0) (pv 1)), ?_⟩
  · obtain ⟨a, C, v, rfl, _⟩ := h
    rfl
  · obtain ⟨a, C', v, rfl, h1, h2, h3, q⟩ := h
    exact ⟨v, rfl, .ref a, rfl, a, C', rfl, h1, h2, .inl ⟨h3, q⟩⟩
theorem sc_init14 : FnScope ["self", "name"] ["self", "name"] (defScope (initAt 14)) := ⟨rfl, rfl, rfl, by decide +kernel, rfl, by decide +kernel, by decide +kernel⟩
theorem ok_init14 {P : Program} {w : World} {K : PySem.W.Frag} {mg : Str → Option Value} {base : Heap} {fI : Addr} {fd : FuncData} (F : Fun K "__init__" "NotName.__init__" (initAt 14) fI fd) : FnOk P w K mg base CX0 1 fI fd ["self", "name"] (sp_init K "name") := by
  refine F.ok sc_init14 (fun vs H Q E h => ?_) fun cdv A outer s H vs Q E hr h => ⟨_, pss_one (ps_ost (pv 0) (pv 1)), ?_⟩
  · obtain ⟨a, C, v, rfl, _⟩ := h
    rfl
  · obtain ⟨a, C', v, rfl, h1, h2, h3, q⟩ := h
    exact ⟨v, rfl, .ref a, rfl, a, C', rfl, h1, h2, .inl ⟨h3, q⟩⟩
theorem sc_init15 : FnScope ["self", "number"] ["self", "number"] (defScope (initAt 15)) := ⟨rfl, rfl, rfl, by decide +kernel, rfl, by decide +kernel, by decide +kernel⟩
theorem ok_init15 {P : Program} {w : World} {K : PySem.W.Frag} {mg : Str → Option Value} {base : Heap} {fI : Addr} {fd : FuncData} (F : Fun K "__init__" "NotGrid.__init__" (initAt 15) fI fd) : FnOk P w K mg base CX0 1 fI fd ["self", "number"] (sp_init K "number") := by
  refine F.ok sc_init15 (fun vs H Q E h => ?_) fun cdv A outer s H vs Q E hr h => ⟨_, pss_one (ps_ost (pv 0) (pv 1)), ?_⟩
  · obtain ⟨a, C, v, rfl, _⟩ := h
    rfl
  · obtain ⟨a, C', v, rfl, h1, h2, h3, q⟩ := h
    exact ⟨v, rfl, .ref a, rfl, a, C', rfl, h1, h2, .inl ⟨h3, q⟩⟩
theorem sc_init19 : FnScope ["self", "most"] ["self", "most"] (defScope (initAt 19)) := ⟨rfl, rfl, rfl, by decide +kernel, rfl, by decide +kernel, by decide +kernel⟩
theorem ok_init19 {P : Program} {w : World} {K : PySem.W.Frag} {mg : Str → Option Value} {base : Heap} {fI : Addr} {fd : FuncData} (F : Fun K "__init__" "TooGreat.__init__" (initAt 19) fI fd) : FnOk P w K mg base CX0 1 fI fd ["self", "most"] (sp_init K "most") := by
  refine F.ok sc_init19 (fun vs H Q E h => ?_) fun cdv A outer s H vs Q E hr h => ⟨_, pss_one (ps_ost (pv 0) (pv 1)), ?_⟩
  · obtain ⟨a, C, v, rfl, _⟩ := h
    rfl
  · obtain ⟨a, C', v, rfl, h1, h2, h3, q⟩ := h
    exact ⟨v, rfl, .ref a, rfl, a, C', rfl, h1, h2, .inl ⟨h3, q⟩⟩
end V1
set_option Elab.async false
set_option linter.all false
set_option maxRecDepth 100000
set_option maxHeartbeats 4000000
namespace V1
open PySem PySem.Spec PyProof.Rows L2
variable {P : Program} {w : World} {K : PySem.W.Frag} {mg : Str → Option Value} {base : Heap}

def kw : Nat → Str
  | 0 => "number"
  | 1 => "point"
  | 2 => "row"
  | 3 => "formula"
  | 4 => "font"
  | 5 => "family"
  | 6 => "system"
  | 7 => "claim"
  | 8 => "picture"
  | 9 => "text"
  | 10 => "paper"
  | 11 => "name"
  | 12 => "grid"
  | 13 => "unlike"
  | 14 => "empty"
  | 15 => "endless"
  | 16 => "great"
  | _ => ""
def pmL : List Nat := [0, 2, 1, 3, 9, 4, 6, 7, 5, 10, 11, 8, 12, 13, 14, 15, 16]
theorem pm_key : ∀ i : Fin 17, ((List.range 17).filter (fun n => i.val == pmL.getD n 0)).map (fun n => pmL.getD n 0) = [i.val] := by decide
theorem kw_ok (k : Nat) : PyData.strOk (kw k) = true := by
  unfold kw
  split <;> decide +kernel
theorem shaped_1s (k : Nat) : SeqAt.shaped (.list [.str (kw k)]) = true := by
  unfold SeqAt.shaped
  simp [PyData.canLay0, PyData.canLayAll0, PyData.depth, PyData.depthAll, kw_ok]
theorem isE_ne {C : Addr} {D : PyData} (h : isE C D) : D ≠ mark := by
  rcases h with ⟨ns, ds, rfl⟩ | rfl <;> (intro z; injection z with z; cases z)
theorem isE_nomk {C : Addr} {D : PyData} (h : isE C D) : nomk [D] = true := by
  rcases h with ⟨ns, ds, rfl⟩ | rfl <;> rfl

abbrev s_law_kinds : Stmt := top 47
abbrev n_law_kinds : List Str := ["error", "found", "word_so", "is_one"]
theorem sc_law_kinds : FnScope n_law_kinds ["error"] (defScope s_law_kinds) := ⟨rfl, rfl, rfl, by decide +kernel, rfl, by decide +kernel, by decide +kernel⟩
def sp_law_kinds {mg : Str → Option Value} (K : PySem.W.Frag) (ER : Errs K mg) : Sp := spR K (fun p : Nat × PyData => [p.2]) (fun p => p.1 < 17 ∧ isE (ER.cA p.1) p.2) fun p => .list [.str (kw p.1)]
theorem ok_law_kinds {f : Addr} {fd : FuncData} (T : Bt K mg) (C : Cst K w mg) (D : Df K mg "_law_kinds" s_law_kinds ["error"] f fd) (ER : Errs K mg) : Cal P w K mg base "_law_kinds" s_law_kinds ["error"] 1 (sp_law_kinds K ER) f fd := by
  refine ok_R D sc_law_kinds (fun _ => rfl) fun cdv A outer s H E hgd hr => ⟨_, (pss_cons (ps_set (i := 1) sc_law_kinds.nd rfl (Or.inl rfl) (pe_lst (pa_cons (pe_tup (pa_cons pe_str (pa_cons (pe_callB (id := "isinstance") (x := "isinstance") call_isX (by rfl) T.isinstance (by decide +kernel) (pa_cons (pv 0) (pa_cons (pe_glob (v := .ref (ER.cA 0)) (by rfl) ER.e0.z.gC rfl) pa_nil))) pa_nil))) (pa_cons (pe_tup (pa_cons pe_str (pa_cons (pe_callB (id := "isinstance") (x := "isinstance") call_isX (by rfl) T.isinstance (by decide +kernel) (pa_cons (pv 0) (pa_cons (pe_glob (v := .ref (ER.cA 2)) (by rfl) ER.e2.z.gC rfl) pa_nil))) pa_nil))) (pa_cons (pe_tup (pa_cons pe_str (pa_cons (pe_callB (id := "isinstance") (x := "isinstance") call_isX (by rfl) T.isinstance (by decide +kernel) (pa_cons (pv 0) (pa_cons (pe_glob (v := .ref (ER.cA 1)) (by rfl) ER.e1.z.gC rfl) pa_nil))) pa_nil))) pa_nil)))))
        (pss_cons (ps_set (i := 1) sc_law_kinds.nd rfl (Or.inl rfl) (pe_op op_cat (pv 1) (pe_lst (pa_cons (pe_tup (pa_cons pe_str (pa_cons (pe_callB (id := "isinstance") (x := "isinstance") call_isX (by rfl) T.isinstance (by decide +kernel) (pa_cons (pv 0) (pa_cons (pe_glob (v := .ref (ER.cA 3)) (by rfl) ER.e3.z.gC rfl) pa_nil))) pa_nil))) (pa_cons (pe_tup (pa_cons pe_str (pa_cons (pe_callB (id := "isinstance") (x := "isinstance") call_isX (by rfl) T.isinstance (by decide +kernel) (pa_cons (pv 0) (pa_cons (pe_glob (v := .ref (ER.cA 9)) (by rfl) ER.e9.z.gC rfl) pa_nil))) pa_nil))) pa_nil)))))
        (pss_cons (ps_set (i := 1) sc_law_kinds.nd rfl (Or.inl rfl) (pe_op op_cat (pv 1) (pe_lst (pa_cons (pe_tup (pa_cons pe_str (pa_cons (pe_callB (id := "isinstance") (x := "isinstance") call_isX (by rfl) T.isinstance (by decide +kernel) (pa_cons (pv 0) (pa_cons (pe_glob (v := .ref (ER.cA 4)) (by rfl) ER.e4.z.gC rfl) pa_nil))) pa_nil))) (pa_cons (pe_tup (pa_cons pe_str (pa_cons (pe_callB (id := "isinstance") (x := "isinstance") call_isX (by rfl) T.isinstance (by decide +kernel) (pa_cons (pv 0) (pa_cons (pe_glob (v := .ref (ER.cA 6)) (by rfl) ER.e6.z.gC rfl) pa_nil))) pa_nil))) (pa_cons (pe_tup (pa_cons pe_str (pa_cons (pe_callB (id := "isinstance") (x := "isinstance") call_isX (by rfl) T.isinstance (by decide +kernel) (pa_cons (pv 0) (pa_cons (pe_glob (v := .ref (ER.cA 7)) (by rfl) ER.e7.z.gC rfl) pa_nil))) pa_nil))) pa_nil))))))
        (pss_cons (ps_set (i := 1) sc_law_kinds.nd rfl (Or.inl rfl) (pe_op op_cat (pv 1) (pe_lst (pa_cons (pe_tup (pa_cons pe_str (pa_cons (pe_callB (id := "isinstance") (x := "isinstance") call_isX (by rfl) T.isinstance (by decide +kernel) (pa_cons (pv 0) (pa_cons (pe_glob (v := .ref (ER.cA 5)) (by rfl) ER.e5.z.gC rfl) pa_nil))) pa_nil))) (pa_cons (pe_tup (pa_cons pe_str (pa_cons (pe_callB (id := "isinstance") (x := "isinstance") call_isX (by rfl) T.isinstance (by decide +kernel) (pa_cons (pv 0) (pa_cons (pe_glob (v := .ref (ER.cA 10)) (by rfl) ER.e10.z.gC rfl) pa_nil))) pa_nil))) (pa_cons (pe_tup (pa_cons pe_str (pa_cons (pe_callB (id := "isinstance") (x := "isinstance") call_isX (by rfl) T.isinstance (by decide +kernel) (pa_cons (pv 0) (pa_cons (pe_glob (v := .ref (ER.cA 11)) (by rfl) ER.e11.z.gC rfl) pa_nil))) pa_nil))) pa_nil))))))
        (pss_cons (ps_set (i := 1) sc_law_kinds.nd rfl (Or.inl rfl) (pe_op op_cat (pv 1) (pe_lst (pa_cons (pe_tup (pa_cons pe_str (pa_cons (pe_callB (id := "isinstance") (x := "isinstance") call_isX (by rfl) T.isinstance (by decide +kernel) (pa_cons (pv 0) (pa_cons (pe_glob (v := .ref (ER.cA 8)) (by rfl) ER.e8.z.gC rfl) pa_nil))) pa_nil))) (pa_cons (pe_tup (pa_cons pe_str (pa_cons (pe_callB (id := "isinstance") (x := "isinstance") call_isX (by rfl) T.isinstance (by decide +kernel) (pa_cons (pv 0) (pa_cons (pe_glob (v := .ref (ER.cA 12)) (by rfl) ER.e12.z.gC rfl) pa_nil))) pa_nil))) pa_nil)))))
        (pss_cons (ps_set (i := 1) sc_law_kinds.nd rfl (Or.inl rfl) (pe_op op_cat (pv 1) (pe_lst (pa_cons (pe_tup (pa_cons pe_str (pa_cons (pe_callB (id := "isinstance") (x := "isinstance") call_isX (by rfl) T.isinstance (by decide +kernel) (pa_cons (pv 0) (pa_cons (pe_glob (v := .ref (ER.cA 13)) (by rfl) ER.e13.gC rfl) pa_nil))) pa_nil))) (pa_cons (pe_tup (pa_cons pe_str (pa_cons (pe_callB (id := "isinstance") (x := "isinstance") call_isX (by rfl) T.isinstance (by decide +kernel) (pa_cons (pv 0) (pa_cons (pe_glob (v := .ref (ER.cA 14)) (by rfl) ER.e14.gC rfl) pa_nil))) pa_nil))) pa_nil)))))
        (pss_cons (ps_set (i := 1) sc_law_kinds.nd rfl (Or.inl rfl) (pe_op op_cat (pv 1) (pe_lst (pa_cons (pe_tup (pa_cons pe_str (pa_cons (pe_callB (id := "isinstance") (x := "isinstance") call_isX (by rfl) T.isinstance (by decide +kernel) (pa_cons (pv 0) (pa_cons (pe_glob (v := .ref (ER.cA 15)) (by rfl) ER.e15.gC rfl) pa_nil))) pa_nil))) (pa_cons (pe_tup (pa_cons pe_str (pa_cons (pe_callB (id := "isinstance") (x := "isinstance") call_isX (by rfl) T.isinstance (by decide +kernel) (pa_cons (pv 0) (pa_cons (pe_glob (v := .ref (ER.cA 16)) (by rfl) ER.e16.z.gC rfl) pa_nil))) pa_nil))) pa_nil)))))
        (pss_cons (ps_if (PW.pt (pw_or (pt_not (pt_val (pe_callB (id := "isinstance") (x := "isinstance") call_isX (by rfl) T.isinstance (by decide +kernel) (pa_cons (pv 0) (pa_cons (pe_glob (v := .ref ER.fe) (by rfl) ER.gFE rfl) pa_nil))))) (pw_or1 (pt_not (pt_val (pe_callB (id := "isinstance") (x := "isinstance") call_isX (by rfl) T.isinstance (by decide +kernel) (pa_cons (pv 0) (pa_cons (pe_bltn (x := "ValueError") (v := .ty "ValueError") (by rfl) ER.mVE (by decide +kernel) rfl) pa_nil)))))))) (pss_one (ps_ret (pe_lst pa_nil))) pss_nil)
        (pss_one (ps_ret (pe_lc (own := [("word_so", 2), ("is_one", 3)]) (g := gTup K 2 (gCons (gName 2) (gCons (gName 3) gNil))) rfl sc_law_kinds.nd (pi_list (pv 1)) (blkOk_by (own := [("word_so", 2), ("is_one", 3)]) (N := n_law_kinds) (sc := defScope s_law_kinds) (by decide +kernel)) (fun _ _ _ _ _ => (pg_tup rfl (pgs_cons (pg_name (i := 2) sc_law_kinds.nd rfl (Or.inl rfl)) (pgs_cons (pg_name (i := 3) sc_law_kinds.nd rfl (Or.inl rfl)) pgs_nil)))) (fun _ _ _ _ _ => (pts_one (pt_val (pv 3)))) (fun _ _ _ _ _ => (pv 2))))))))))))), ?_⟩
  rintro ⟨i, D⟩ ⟨hi, hD⟩
  have hi : i < 17 := hi
  have hD : isE (ER.cA i) D := hD
  show SG (pureL K) 0 _ [some D, none, none, none] _ (fun x => x = .list [.str (kw i)])
  have pr : ∀ {Γ : List (Option PyData)} (j : Nat) (s : Str), j < 17 → Γ[0]? = some (some D) → EvD (pureL K) (tTup (tCons (tC (.str s)) (tCons (tCB (rIsX (pureL K).K) (tCons (tVar 0) (tCons (tC (.ref (ER.cA j))) tNil))) tNil))) Γ (.tuple [.str s, .bool (i == j)]) := fun j s hj h0 =>
    eg_tup (ea_cons eg_str (ea_cons (eg_isX (eg_var h0) hD (.own _) (ER.isi i hi) (ER.kit i j hi hj)) ea_nil))
  refine sq_asg (i := 1) (eg_lst (ea_cons (pr 0 "number" (by decide) rfl) (ea_cons (pr 2 "row" (by decide) rfl) (ea_cons (pr 1 "point" (by decide) rfl) ea_nil)))) ?_
  refine sq_asg (i := 1) (eg_cat (eg_var (i := 1) rfl) (eg_lst (ea_cons (pr 3 "formula" (by decide) rfl) (ea_cons (pr 9 "text" (by decide) rfl) ea_nil))) (by simp)) ?_
  refine sq_asg (i := 1) (eg_cat (eg_var (i := 1) rfl) (eg_lst (ea_cons (pr 4 "font" (by decide) rfl) (ea_cons (pr 6 "system" (by decide) rfl) (ea_cons (pr 7 "claim" (by decide) rfl) ea_nil)))) (by simp)) ?_
  refine sq_asg (i := 1) (eg_cat (eg_var (i := 1) rfl) (eg_lst (ea_cons (pr 5 "family" (by decide) rfl) (ea_cons (pr 10 "paper" (by decide) rfl) (ea_cons (pr 11 "name" (by decide) rfl) ea_nil)))) (by simp)) ?_
  refine sq_asg (i := 1) (eg_cat (eg_var (i := 1) rfl) (eg_lst (ea_cons (pr 8 "picture" (by decide) rfl) (ea_cons (pr 12 "grid" (by decide) rfl) ea_nil))) (by simp)) ?_
  refine sq_asg (i := 1) (eg_cat (eg_var (i := 1) rfl) (eg_lst (ea_cons (pr 13 "unlike" (by decide) rfl) (ea_cons (pr 14 "empty" (by decide) rfl) ea_nil))) (by simp)) ?_
  refine sq_asg (i := 1) (eg_cat (eg_var (i := 1) rfl) (eg_lst (ea_cons (pr 15 "endless" (by decide) rfl) (ea_cons (pr 16 "great" (by decide) rfl) ea_nil))) (by simp)) ?_
  show SG (pureL K) 0 _ [some D, some (.list (pmL.map fun k => .tuple [.str (kw k), .bool (i == k)])), none, none] _ _
  have fb : ∀ {Γ : List (Option PyData)}, Γ[0]? = some (some D) → EvD (pureL K) (tCB (rIsX (pureL K).K) (tCons (tVar 0) (tCons (tC (.ref ER.fe)) tNil))) Γ (.bool true) := fun h0 => eg_isX (eg_var h0) hD (.own _) (ER.isi i hi) (ER.kFE i hi)
  have vb : ∀ {Γ : List (Option PyData)}, Γ[0]? = some (some D) → EvD (pureL K) (tCB (rIsX (pureL K).K) (tCons (tVar 0) (tCons (tC (.ty "ValueError")) tNil))) Γ (.bool true) := fun h0 => eg_isX (eg_var h0) hD (.ty _) (ER.isi i hi) (ER.kVE i hi)
  refine sq_if_no (et_is (et_or0 (et_is (et_not (et_test (fb rfl))) rfl) (et_not (et_test (vb rfl)))) rfl) ?_
  refine sg_ret ((eg_lcTD (L := pureL K) (js := [2, 3]) (vs := [2, 3]) (items := pmL.map fun k => .tuple [.str (kw k), .bool (i == k)]) (keep := fun n => i == pmL.getD n 0) (res := fun n => .str (kw (pmL.getD n 0))) (wk_list (eg_var (i := 1) rfl)) (by simp) (by simp [pmL]) fun n d hd => ?_).to ?_) rfl
  · rw [List.getElem?_map] at hd
    cases hx : pmL[n]? with
    | none => rw [hx] at hd; cases hd
    | some k =>
      rw [hx] at hd
      have e : PyData.tuple [.str (kw k), .bool (i == k)] = d := Option.some.inj hd
      subst e
      have e2 : pmL.getD n 0 = k := by rw [List.getD_eq_getElem?_getD, hx]; rfl
      rw [e2]
      exact ⟨_, tg_two, et_test (eg_var (i := 3) rfl), fun _ => ⟨eg_var (i := 2) rfl, by intro z; cases z⟩⟩
  · have h1 := pm_key ⟨i, hi⟩
    have h2 := congrArg (List.map fun k => PyData.str (kw k)) h1
    rw [List.map_map] at h2
    exact congrArg PyData.list h2

abbrev s_law_errors_right : Stmt := top 48
abbrev n_law_errors_right : List Str := ["some", "told", "error", "word_so"]
theorem sc_law_errors_right : FnScope n_law_errors_right [] (defScope s_law_errors_right) := ⟨rfl, rfl, rfl, by decide +kernel, rfl, by decide +kernel, by decide +kernel⟩
def sp_law_errors_right (K : PySem.W.Frag) : Sp := spR K (fun _ : Unit => []) (fun _ => True) fun _ => .bool true
def errL {K : PySem.W.Frag} {mg : Str → Option Value} (ER : Errs K mg) : List PyData := [.tuple [exD (ER.cA 0) ["value"] [.tuple [.int 1, .int 0]], .str "number"], .tuple [exD (ER.cA 2) ["place"] [.int (-2)], .str "row"], .tuple [exD (ER.cA 1) ["place"] [.int 3], .str "point"], .tuple [exD (ER.cA 3) ["path"] [.tuple [.int 1, .int 2]], .str "formula"], .tuple [exD (ER.cA 9) ["word", "line"] [.int 4, .none], .str "text"], .tuple [exD (ER.cA 4) ["name"] [.tuple [.str "gap", .int 0]], .str "font"], .tuple [exD (ER.cA 6) ["number"] [.int 5], .str "system"], .tuple [exD (ER.cA 7) ["path"] [.tuple [.int 1]], .str "claim"], .tuple [exD (ER.cA 5) ["place"] [.int (-1)], .str "family"], .tuple [exD (ER.cA 10) ["path"] [.tuple []], .str "paper"], .tuple [exD (ER.cA 11) ["name"] [.list [.str "a"]], .str "name"], .tuple [exD (ER.cA 8) ["number"] [.int 7], .str "picture"], .tuple [exD (ER.cA 12) ["number"] [.int 2], .str "grid"], .tuple [enD (ER.cA 13), .str "unlike"], .tuple [enD (ER.cA 14), .str "empty"], .tuple [enD (ER.cA 15), .str "endless"], .tuple [exD (ER.cA 16) ["most"] [.int 400], .str "great"]]
theorem errL_ok {K : PySem.W.Frag} {mg : Str → Option Value} (ER : Errs K mg) : ∀ d ∈ errL ER, ∃ k D, k < 17 ∧ isE (ER.cA k) D ∧ d = .tuple [D, .str (kw k)] := by
  intro d hd
  simp only [errL, List.mem_cons, List.not_mem_nil, or_false] at hd
  rcases hd with rfl | rfl | rfl | rfl | rfl | rfl | rfl | rfl | rfl | rfl | rfl | rfl | rfl | rfl | rfl | rfl | rfl
  · exact ⟨0, _, by decide, .inl ⟨_, _, rfl⟩, rfl⟩
  · exact ⟨2, _, by decide, .inl ⟨_, _, rfl⟩, rfl⟩
  · exact ⟨1, _, by decide, .inl ⟨_, _, rfl⟩, rfl⟩
  · exact ⟨3, _, by decide, .inl ⟨_, _, rfl⟩, rfl⟩
  · exact ⟨9, _, by decide, .inl ⟨_, _, rfl⟩, rfl⟩
  · exact ⟨4, _, by decide, .inl ⟨_, _, rfl⟩, rfl⟩
  · exact ⟨6, _, by decide, .inl ⟨_, _, rfl⟩, rfl⟩
  · exact ⟨7, _, by decide, .inl ⟨_, _, rfl⟩, rfl⟩
  · exact ⟨5, _, by decide, .inl ⟨_, _, rfl⟩, rfl⟩
  · exact ⟨10, _, by decide, .inl ⟨_, _, rfl⟩, rfl⟩
  · exact ⟨11, _, by decide, .inl ⟨_, _, rfl⟩, rfl⟩
  · exact ⟨8, _, by decide, .inl ⟨_, _, rfl⟩, rfl⟩
  · exact ⟨12, _, by decide, .inl ⟨_, _, rfl⟩, rfl⟩
  · exact ⟨13, _, by decide, .inr rfl, rfl⟩
  · exact ⟨14, _, by decide, .inr rfl, rfl⟩
  · exact ⟨15, _, by decide, .inr rfl, rfl⟩
  · exact ⟨16, _, by decide, .inl ⟨_, _, rfl⟩, rfl⟩
def toldL : List PyData := [.tuple [.int 1, .int 0], .int (-2), .int 3, .tuple [.int 1, .int 2], .none, .int 4, .tuple [.str "gap", .int 0], .int 5, .tuple [.int 1], .int (-1), .tuple [], .list [.str "a"], .int 7, .int 2, .int 400]
theorem told_sh : Sh (.list toldL) := ⟨.inl ⟨_, rfl⟩, by decide, by decide, by decide, by decide +kernel⟩
theorem ok_law_errors_right {f : Addr} {fd : FuncData} (T : Bt K mg) (C : Cst K w mg) (D : Df K mg "_law_errors_right" s_law_errors_right [] f fd) (ER : Errs K mg)
    {f_law_kinds : Addr} {d_law_kinds : FuncData} (h_law_kinds : Cal P w K mg base "_law_kinds" s_law_kinds ["error"] (1) (sp_law_kinds K ER) f_law_kinds d_law_kinds)
    {f_law_like : Addr} {d_law_like : FuncData} (h_law_like : Cal P w K mg base "_law_like" s_law_like ["told", "due"] 1 (sp_law_like K) f_law_like d_law_like) : Cal P w K mg base "_law_errors_right" s_law_errors_right [] 4 (sp_law_errors_right K) f fd := by
  refine ok_R D sc_law_errors_right (fun _ => rfl) fun cdv A outer s H E hgd hr => ⟨_, (pss_cons (ps_set (i := 0) sc_law_errors_right.nd rfl (Or.inl rfl) (pe_lst (pa_cons (pe_tup (pa_cons (pe_mkK ER.e0.z (hr.mono (by decide)) ER.e0.kS (by rfl) (pk_cons (pe_tup (pa_cons pe_int (pa_cons pe_int pa_nil))) pk_nil)) (pa_cons pe_str pa_nil))) (pa_cons (pe_tup (pa_cons (pe_mkK ER.e2.z (hr.mono (by decide)) ER.e2.kS (by rfl) (pk_cons (pe_un un_neg pe_int) pk_nil)) (pa_cons pe_str pa_nil))) (pa_cons (pe_tup (pa_cons (pe_mkK ER.e1.z (hr.mono (by decide)) ER.e1.kS (by rfl) (pk_cons pe_int pk_nil)) (pa_cons pe_str pa_nil))) (pa_cons (pe_tup (pa_cons (pe_mkA ER.e3.z (hr.mono (by decide)) ER.e3.kP (by rfl) (pa_cons (pe_tup (pa_cons pe_int (pa_cons pe_int pa_nil))) pa_nil)) (pa_cons pe_str pa_nil))) pa_nil))))))
        (pss_cons (ps_set (i := 0) sc_law_errors_right.nd rfl (Or.inl rfl) (pe_op op_cat (pv 0) (pe_lst (pa_cons (pe_tup (pa_cons (pe_mkK ER.e9.z (hr.mono (by decide)) ER.e9.kT (by rfl) (pk_cons pe_int (pk_cons pe_non pk_nil))) (pa_cons pe_str pa_nil))) (pa_cons (pe_tup (pa_cons (pe_mkK ER.e4.z (hr.mono (by decide)) ER.e4.kS (by rfl) (pk_cons (pe_tup (pa_cons pe_str (pa_cons pe_int pa_nil))) pk_nil)) (pa_cons pe_str pa_nil))) (pa_cons (pe_tup (pa_cons (pe_mkK ER.e6.z (hr.mono (by decide)) ER.e6.kS (by rfl) (pk_cons pe_int pk_nil)) (pa_cons pe_str pa_nil))) (pa_cons (pe_tup (pa_cons (pe_mkK ER.e7.z (hr.mono (by decide)) ER.e7.kS (by rfl) (pk_cons (pe_tup (pa_cons pe_int pa_nil)) pk_nil)) (pa_cons pe_str pa_nil))) pa_nil)))))))
        (pss_cons (ps_set (i := 0) sc_law_errors_right.nd rfl (Or.inl rfl) (pe_op op_cat (pv 0) (pe_lst (pa_cons (pe_tup (pa_cons (pe_mkK ER.e5.z (hr.mono (by decide)) ER.e5.kS (by rfl) (pk_cons (pe_un un_neg pe_int) pk_nil)) (pa_cons pe_str pa_nil))) (pa_cons (pe_tup (pa_cons (pe_mkK ER.e10.z (hr.mono (by decide)) ER.e10.kS (by rfl) (pk_cons (pe_tup pa_nil) pk_nil)) (pa_cons pe_str pa_nil))) (pa_cons (pe_tup (pa_cons (pe_mkK ER.e11.z (hr.mono (by decide)) ER.e11.kS (by rfl) (pk_cons (pe_lst (pa_cons pe_str pa_nil)) pk_nil)) (pa_cons pe_str pa_nil))) (pa_cons (pe_tup (pa_cons (pe_mkK ER.e8.z (hr.mono (by decide)) ER.e8.kS (by rfl) (pk_cons pe_int pk_nil)) (pa_cons pe_str pa_nil))) pa_nil)))))))
        (pss_cons (ps_set (i := 0) sc_law_errors_right.nd rfl (Or.inl rfl) (pe_op op_cat (pv 0) (pe_lst (pa_cons (pe_tup (pa_cons (pe_mkA ER.e12.z (hr.mono (by decide)) ER.e12.kP (by rfl) (pa_cons pe_int pa_nil)) (pa_cons pe_str pa_nil))) (pa_cons (pe_tup (pa_cons (pe_mk0 PySem.F.excBase_ValueError ER.e13.ex ER.e13.gC ER.e13.kp (by rfl)) (pa_cons pe_str pa_nil))) (pa_cons (pe_tup (pa_cons (pe_mk0 PySem.F.excBase_ValueError ER.e14.ex ER.e14.gC ER.e14.kp (by rfl)) (pa_cons pe_str pa_nil))) (pa_cons (pe_tup (pa_cons (pe_mk0 PySem.F.excBase_ValueError ER.e15.ex ER.e15.gC ER.e15.kp (by rfl)) (pa_cons pe_str pa_nil))) (pa_cons (pe_tup (pa_cons (pe_mkK ER.e16.z (hr.mono (by decide)) ER.e16.kS (by rfl) (pk_cons pe_int pk_nil)) (pa_cons pe_str pa_nil))) pa_nil))))))))
        (pss_cons (ps_if (pt_cmpR (op_neD hr.units) (pe_lc (own := [("error", 2), ("word_so", 3)]) (g := gTup K 2 (gCons (gName 2) (gCons (gName 3) gNil))) rfl sc_law_errors_right.nd (pi_list (pv 0)) (blkOk_by (own := [("error", 2), ("word_so", 3)]) (N := n_law_errors_right) (sc := defScope s_law_errors_right) (by decide +kernel)) (fun _ _ _ _ _ => (pg_tup rfl (pgs_cons (pg_name (i := 2) sc_law_errors_right.nd rfl (Or.inl rfl)) (pgs_cons (pg_name (i := 3) sc_law_errors_right.nd rfl (Or.inl rfl)) pgs_nil)))) (fun _ _ _ _ _ => (pts_one (pt_cmpR (op_neDK (K := K) rfl hr.units) (pe_fn (E := E0) h_law_kinds.G hgd (hr.mono (by decide)) (by rfl) h_law_kinds.gm h_law_kinds.kp h_law_kinds.b (pa_cons (pv 2) pa_nil)) (pe_lst (pa_cons (pv 3) pa_nil)) (nomark _)))) (fun _ _ _ _ _ => pe_int)) (pe_lst pa_nil) (nomark _)) (pss_one (ps_ret pe_bl)) pss_nil)
        (pss_cons (ps_set (i := 1) sc_law_errors_right.nd rfl (Or.inl rfl) (pe_lst (pa_cons (pe_xg (pe_ix (ix_tupK (K := K) rfl) (pe_ix (ix_listK (K := K) rfl) (pv 0) pe_int (fun _ _ => rfl)) pe_int (fun _ _ => rfl))) (pa_cons (pe_xg (pe_ix (ix_tupK (K := K) rfl) (pe_ix (ix_listK (K := K) rfl) (pv 0) pe_int (fun _ _ => rfl)) pe_int (fun _ _ => rfl))) (pa_cons (pe_xg (pe_ix (ix_tupK (K := K) rfl) (pe_ix (ix_listK (K := K) rfl) (pv 0) pe_int (fun _ _ => rfl)) pe_int (fun _ _ => rfl))) (pa_cons (pe_xg (pe_ix (ix_tupK (K := K) rfl) (pe_ix (ix_listK (K := K) rfl) (pv 0) pe_int (fun _ _ => rfl)) pe_int (fun _ _ => rfl))) (pa_cons (pe_xg (pe_ix (ix_tupK (K := K) rfl) (pe_ix (ix_listK (K := K) rfl) (pv 0) pe_int (fun _ _ => rfl)) pe_int (fun _ _ => rfl))) (pa_cons (pe_xg (pe_ix (ix_tupK (K := K) rfl) (pe_ix (ix_listK (K := K) rfl) (pv 0) pe_int (fun _ _ => rfl)) pe_int (fun _ _ => rfl))) pa_nil))))))))
        (pss_cons (ps_set (i := 1) sc_law_errors_right.nd rfl (Or.inl rfl) (pe_op op_cat (pv 1) (pe_lst (pa_cons (pe_xg (pe_ix (ix_tupK (K := K) rfl) (pe_ix (ix_listK (K := K) rfl) (pv 0) pe_int (fun _ _ => rfl)) pe_int (fun _ _ => rfl))) (pa_cons (pe_xg (pe_ix (ix_tupK (K := K) rfl) (pe_ix (ix_listK (K := K) rfl) (pv 0) pe_int (fun _ _ => rfl)) pe_int (fun _ _ => rfl))) (pa_cons (pe_xg (pe_ix (ix_tupK (K := K) rfl) (pe_ix (ix_listK (K := K) rfl) (pv 0) pe_int (fun _ _ => rfl)) pe_int (fun _ _ => rfl))) (pa_cons (pe_xg (pe_ix (ix_tupK (K := K) rfl) (pe_ix (ix_listK (K := K) rfl) (pv 0) pe_int (fun _ _ => rfl)) pe_int (fun _ _ => rfl))) (pa_cons (pe_xg (pe_ix (ix_tupK (K := K) rfl) (pe_ix (ix_listK (K := K) rfl) (pv 0) pe_int (fun _ _ => rfl)) pe_int (fun _ _ => rfl))) (pa_cons (pe_xg (pe_ix (ix_tupK (K := K) rfl) (pe_ix (ix_listK (K := K) rfl) (pv 0) pe_int (fun _ _ => rfl)) pe_int (fun _ _ => rfl))) pa_nil)))))))))
        (pss_cons (ps_set (i := 1) sc_law_errors_right.nd rfl (Or.inl rfl) (pe_op op_cat (pv 1) (pe_lst (pa_cons (pe_xg (pe_ix (ix_tupK (K := K) rfl) (pe_ix (ix_listK (K := K) rfl) (pv 0) pe_int (fun _ _ => rfl)) pe_int (fun _ _ => rfl))) (pa_cons (pe_xg (pe_ix (ix_tupK (K := K) rfl) (pe_ix (ix_listK (K := K) rfl) (pv 0) pe_int (fun _ _ => rfl)) pe_int (fun _ _ => rfl))) (pa_cons (pe_xg (pe_ix (ix_tupK (K := K) rfl) (pe_ix (ix_listK (K := K) rfl) (pv 0) pe_int (fun _ _ => rfl)) pe_int (fun _ _ => rfl))) pa_nil))))))
        (pss_one (ps_ret (pe_fn (E := E0) h_law_like.G hgd (hr.mono (by decide)) (by rfl) h_law_like.gm h_law_like.kp h_law_like.b (pa_cons (pv 1) (pa_cons (pe_lst (pa_cons (pe_tup (pa_cons pe_int (pa_cons pe_int pa_nil))) (pa_cons (pe_un un_neg pe_int) (pa_cons pe_int (pa_cons (pe_tup (pa_cons pe_int (pa_cons pe_int pa_nil))) (pa_cons pe_non (pa_cons pe_int (pa_cons (pe_tup (pa_cons pe_str (pa_cons pe_int pa_nil))) (pa_cons pe_int (pa_cons (pe_tup (pa_cons pe_int pa_nil)) (pa_cons (pe_un un_neg pe_int) (pa_cons (pe_tup pa_nil) (pa_cons (pe_lst (pa_cons pe_str pa_nil)) (pa_cons pe_int (pa_cons pe_int (pa_cons pe_int pa_nil)))))))))))))))) pa_nil))))))))))))), ?_⟩
  rintro _ _
  show SG (pureL K) 0 _ [none, none, none, none] _ (fun x => x = .bool true)
  refine sq_asg (i := 0) (eg_lst (ea_cons (eg_tup (ea_cons (eg_mkS ER.e0.z.T ER.e0.no (ea_cons (eg_tup (ea_cons eg_int (ea_cons eg_int ea_nil))) ea_nil) (by intro z; cases z)) (ea_cons eg_str ea_nil))) (ea_cons (eg_tup (ea_cons (eg_mkS ER.e2.z.T ER.e2.no (ea_cons (eg_neg eg_int) ea_nil) (by intro z; cases z)) (ea_cons eg_str ea_nil))) (ea_cons (eg_tup (ea_cons (eg_mkS ER.e1.z.T ER.e1.no (ea_cons eg_int ea_nil) (by intro z; cases z)) (ea_cons eg_str ea_nil))) (ea_cons (eg_tup (ea_cons (eg_mkP ER.e3.z.T ER.e3.no (ea_cons (eg_tup (ea_cons eg_int (ea_cons eg_int ea_nil))) ea_nil) (by intro z; cases z)) (ea_cons eg_str ea_nil))) ea_nil))))) ?_
  refine sq_asg (i := 0) (eg_cat (eg_var (i := 0) rfl) (eg_lst (ea_cons (eg_tup (ea_cons (eg_mkT ER.e9.z.T ER.e9.n1 ER.e9.n2 (ea_cons eg_int (ea_cons eg_non ea_nil)) (by intro z; cases z) (by intro z; cases z)) (ea_cons eg_str ea_nil))) (ea_cons (eg_tup (ea_cons (eg_mkS ER.e4.z.T ER.e4.no (ea_cons (eg_tup (ea_cons eg_str (ea_cons eg_int ea_nil))) ea_nil) (by intro z; cases z)) (ea_cons eg_str ea_nil))) (ea_cons (eg_tup (ea_cons (eg_mkS ER.e6.z.T ER.e6.no (ea_cons eg_int ea_nil) (by intro z; cases z)) (ea_cons eg_str ea_nil))) (ea_cons (eg_tup (ea_cons (eg_mkS ER.e7.z.T ER.e7.no (ea_cons (eg_tup (ea_cons eg_int ea_nil)) ea_nil) (by intro z; cases z)) (ea_cons eg_str ea_nil))) ea_nil))))) (by simp)) ?_
  refine sq_asg (i := 0) (eg_cat (eg_var (i := 0) rfl) (eg_lst (ea_cons (eg_tup (ea_cons (eg_mkS ER.e5.z.T ER.e5.no (ea_cons (eg_neg eg_int) ea_nil) (by intro z; cases z)) (ea_cons eg_str ea_nil))) (ea_cons (eg_tup (ea_cons (eg_mkS ER.e10.z.T ER.e10.no (ea_cons (eg_tup ea_nil) ea_nil) (by intro z; cases z)) (ea_cons eg_str ea_nil))) (ea_cons (eg_tup (ea_cons (eg_mkS ER.e11.z.T ER.e11.no (ea_cons (eg_lst (ea_cons eg_str ea_nil)) ea_nil) (by intro z; cases z)) (ea_cons eg_str ea_nil))) (ea_cons (eg_tup (ea_cons (eg_mkS ER.e8.z.T ER.e8.no (ea_cons eg_int ea_nil) (by intro z; cases z)) (ea_cons eg_str ea_nil))) ea_nil))))) (by simp)) ?_
  refine sq_asg (i := 0) (eg_cat (eg_var (i := 0) rfl) (eg_lst (ea_cons (eg_tup (ea_cons (eg_mkP ER.e12.z.T ER.e12.no (ea_cons eg_int ea_nil) (by intro z; cases z)) (ea_cons eg_str ea_nil))) (ea_cons (eg_tup (ea_cons eg_mk0 (ea_cons eg_str ea_nil))) (ea_cons (eg_tup (ea_cons eg_mk0 (ea_cons eg_str ea_nil))) (ea_cons (eg_tup (ea_cons eg_mk0 (ea_cons eg_str ea_nil))) (ea_cons (eg_tup (ea_cons (eg_mkS ER.e16.z.T ER.e16.no (ea_cons eg_int ea_nil) (by intro z; cases z)) (ea_cons eg_str ea_nil))) ea_nil)))))) (by simp)) ?_
  show SG (pureL K) 0 _ [some (.list (errL ER)), none, none, none] _ _
  refine sq_if_no (et_is (et_test (eg_neNil (zs := []) ((eg_lcTD (L := pureL K) (js := [2, 3]) (vs := [2, 3]) (items := errL ER) (keep := fun _ => false) (res := fun _ => .int 1) (wk_list (eg_var (i := 0) rfl)) (by simp) (by simp [errL]) fun n d hd => ?_).to (by unfold fil; simp [lI])))) rfl) ?_
  · obtain ⟨k, D, hk, hD, rfl⟩ := errL_ok ER d (List.mem_of_getElem? hd)
    refine ⟨_, tg_two, et_is (et_test (eg_neD (eg_callR (E := E0) (L := pureL K) (args := fun p : Nat × PyData => [p.2]) (ok := fun p => p.1 < 17 ∧ isE (ER.cA p.1) p.2) (val := fun p => .list [.str (kw p.1)]) (k, D) (ea_cons (eg_var (i := 2) rfl) ea_nil) ⟨hk, hD⟩ (isE_nomk hD)) (eg_lst (ea_cons (eg_var (i := 3) rfl) ea_nil)) (by intro z; cases z) (by intro z; cases z) (shaped_1s _) (shaped_1s _))) ?_, fun z => by cases z⟩
    simp [PyData.eqv, PyData.eqvAll]
  refine sq_asg (i := 1) (eg_lst (ea_cons (eg_xg (eg_ixT (eg_ixL (eg_var (i := 0) rfl) eg_int rfl) eg_int rfl) (ER.isi 0 (by decide)).X ER.e0.no rfl) (ea_cons (eg_xg (eg_ixT (eg_ixL (eg_var (i := 0) rfl) eg_int rfl) eg_int rfl) (ER.isi 2 (by decide)).X ER.e2.no rfl) (ea_cons (eg_xg (eg_ixT (eg_ixL (eg_var (i := 0) rfl) eg_int rfl) eg_int rfl) (ER.isi 1 (by decide)).X ER.e1.no rfl) (ea_cons (eg_xg (eg_ixT (eg_ixL (eg_var (i := 0) rfl) eg_int rfl) eg_int rfl) (ER.isi 3 (by decide)).X ER.e3.no rfl) (ea_cons (eg_xg (eg_ixT (eg_ixL (eg_var (i := 0) rfl) eg_int rfl) eg_int rfl) (ER.isi 9 (by decide)).X ER.e9.n1 rfl) (ea_cons (eg_xg (eg_ixT (eg_ixL (eg_var (i := 0) rfl) eg_int rfl) eg_int rfl) (ER.isi 9 (by decide)).X ER.e9.n2 rfl) ea_nil))))))) ?_
  refine sq_asg (i := 1) (eg_cat (eg_var (i := 1) rfl) (eg_lst (ea_cons (eg_xg (eg_ixT (eg_ixL (eg_var (i := 0) rfl) eg_int rfl) eg_int rfl) (ER.isi 4 (by decide)).X ER.e4.no rfl) (ea_cons (eg_xg (eg_ixT (eg_ixL (eg_var (i := 0) rfl) eg_int rfl) eg_int rfl) (ER.isi 6 (by decide)).X ER.e6.no rfl) (ea_cons (eg_xg (eg_ixT (eg_ixL (eg_var (i := 0) rfl) eg_int rfl) eg_int rfl) (ER.isi 7 (by decide)).X ER.e7.no rfl) (ea_cons (eg_xg (eg_ixT (eg_ixL (eg_var (i := 0) rfl) eg_int rfl) eg_int rfl) (ER.isi 5 (by decide)).X ER.e5.no rfl) (ea_cons (eg_xg (eg_ixT (eg_ixL (eg_var (i := 0) rfl) eg_int rfl) eg_int rfl) (ER.isi 10 (by decide)).X ER.e10.no rfl) (ea_cons (eg_xg (eg_ixT (eg_ixL (eg_var (i := 0) rfl) eg_int rfl) eg_int rfl) (ER.isi 11 (by decide)).X ER.e11.no rfl) ea_nil))))))) (by simp)) ?_
  refine sq_asg (i := 1) (eg_cat (eg_var (i := 1) rfl) (eg_lst (ea_cons (eg_xg (eg_ixT (eg_ixL (eg_var (i := 0) rfl) eg_int rfl) eg_int rfl) (ER.isi 8 (by decide)).X ER.e8.no rfl) (ea_cons (eg_xg (eg_ixT (eg_ixL (eg_var (i := 0) rfl) eg_int rfl) eg_int rfl) (ER.isi 12 (by decide)).X ER.e12.no rfl) (ea_cons (eg_xg (eg_ixT (eg_ixL (eg_var (i := 0) rfl) eg_int rfl) eg_int rfl) (ER.isi 16 (by decide)).X ER.e16.no rfl) ea_nil)))) (by simp)) ?_
  show SG (pureL K) 0 _ [some (.list (errL ER)), some (.list toldL), none, none] _ _
  exact sg_ret (eg_callR (L := pureL K) (args := fun d : PyData => [d, d]) (ok := Sh) (val := fun _ => .bool true) (.list toldL) (ea_cons (eg_var (i := 1) rfl) (ea_cons (eg_lst (ds := toldL) (ea_cons (eg_tup (ea_cons eg_int (ea_cons eg_int ea_nil))) (ea_cons (eg_neg eg_int) (ea_cons eg_int (ea_cons (eg_tup (ea_cons eg_int (ea_cons eg_int ea_nil))) (ea_cons eg_non (ea_cons eg_int (ea_cons (eg_tup (ea_cons eg_str (ea_cons eg_int ea_nil))) (ea_cons eg_int (ea_cons (eg_tup (ea_cons eg_int ea_nil)) (ea_cons (eg_neg eg_int) (ea_cons (eg_tup ea_nil) (ea_cons (eg_lst (ea_cons eg_str ea_nil)) (ea_cons eg_int (ea_cons eg_int (ea_cons eg_int ea_nil))))))))))))))) rfl (by simp [toldL])) ea_nil)) told_sh) rfl

end V1
set_option Elab.async false
set_option linter.all false
set_option maxRecDepth 100000
set_option maxHeartbeats 4000000
/-! A list made here to which things are appended: in a loop, once. -/
namespace V1
open PySem PySem.Spec PyProof.Rows L2
section
variable {L : Rl} {Γ : List (Option PyData)} {t : TA} {te te2 : TE} {u : TS} {j : Nat} {N : List (Option PyData) → Prop} {Rt : PyData → Prop}
theorem held_env {A : Addr → Prop} {σ : L2.St} {H H1 : Hp} {p : Addr} (he : EnvOk L A σ H Γ) (r1 : L.R 0 H H1) (hp0 : H p = none) (hj : j < Γ.length) : EnvOk L (fun b => A b ∨ b = p) (σ.set j (some (V.ref p))) H1 (Γ.set j none) := by
  refine ⟨by rw [List.length_set, List.length_set]; exact he.1, fun i d e => ?_⟩
  by_cases hij : j = i
  · subst hij
    rw [List.getElem?_set_self hj] at e
    cases e
  · rw [List.getElem?_set_ne hij] at e
    obtain ⟨v, e1, e2⟩ := he.2 i d e
    exact ⟨v, by rw [List.getElem?_set_ne hij]; exact e1, e2.imp (fun z => z) fun z => z.map fun b o na eb k => ⟨fun w => w.elim na (ne_of_none eb hp0), L.keep r1 eb k⟩⟩
theorem held_back {A : Addr → Prop} {σ : L2.St} {H : Hp} {p : Addr} {xs : List V} {acc : List PyData} (e4 : EnvOk L A σ H Γ) (nAp : ¬ A p) (eP : H p = some (.lst xs)) (dA : DvAll L.K A H xs acc) (s3 : σ[j]? = some (some (V.ref p))) : EnvOk L A σ H (Γ.set j (some (.list acc))) := by
  have hlj : j < σ.length := (List.getElem?_eq_some_iff.mp s3).1
  have h5 := e4.set (d := .list acc) (v := V.ref p) (.inr (.lst nAp eP dA)) j
  have hs : σ.set j (some (V.ref p)) = σ := by
    refine List.ext_getElem? fun i => ?_
    by_cases hij : j = i
    · subst hij
      rw [List.getElem?_set_self hlj, s3]
    · rw [List.getElem?_set_ne hij]
  rwa [hs] at h5
/-- xs = [..]; for ..: xs.append(e) -/
theorem sg_growP {wi : TI} {g : TG} {js : List Nat} {items ds0 : List PyData} {acc : Nat → List PyData} (I : Nat → List (Option PyData) → Prop) (hj : j < Γ.length) (hjs : j ∉ js) (h1 : EvL L te Γ ds0) (ha0 : acc 0 = ds0) (hlen : ∀ i, (acc i).length ≤ 100000)
    (hw : WkD L wi (Γ.set j none) items) (h0 : I 0 (Γ.set j none))
    (hb : ∀ (i : Nat) d Γi, items[i]? = some d → I i Γi → ∃ Γ', TgG L g js d Γi Γ' ∧ ∃ e, EvD L te2 Γ' e ∧ e ≠ mark ∧ acc (i + 1) = acc i ++ [e] ∧ I (i + 1) Γ')
    (hN : ∀ Γe, I items.length Γe → SG L 0 u (Γe.set j (some (.list (acc items.length)))) N Rt) :
    SG L 0 (tSeq (tAsg te (gName j)) (tSeq (tFor wi g (tDrop (tBM L.K "list" rAppend (tVar j) (tCons te2 tNil)))) u)) Γ N Rt := fun A σ H hi he hg D q1 q2 => h1 A σ H hi he hg _ fun p xs0 H1 r1 hp0 eP dv0 => by
  have nAp : ¬ A p := fun z => hi p z hp0
  have g1 : L.G 0 H1 := Rl.gR (b := 0) hg r1
  have hi1 : Inn (fun b => A b ∨ b = p) H1 := fun b z y => z.elim (fun z => (hi.r r1) b z y) fun z => by rw [z, eP] at y; cases y
  have sj : (σ.set j (some (V.ref p)))[j]? = some (some (V.ref p)) := List.getElem?_set_self (by rw [he.1]; exact hj)
  have he1 := held_env (p := p) (j := j) he r1 hp0 hj
  refine hw (fun b => A b ∨ b = p) _ H1 hi1 he1 g1 _ fun J H2 its r2 hits jk => ?_
  subst hits
  have eP2 : H2 p = some (.lst xs0) := L.keep r2 eP fxLst
  refine ⟨fun i m σ3 H3 => m = its.length - i ∧ i ≤ its.length ∧ L.R 0 H H3 ∧ Kp (fun b => A b ∨ b = p) H2 H3 ∧ σ3[j]? = some (some (V.ref p)) ∧ (∃ xs, H3 p = some (.lst xs) ∧ DvAll L.K (fun b => A b ∨ b = p) H3 xs (acc i)) ∧ ∃ Γi, EnvOk L (fun b => A b ∨ b = p) σ3 H3 Γi ∧ I i Γi, ⟨its.length, ?_⟩, ?_⟩
  · exact ⟨by omega, Nat.zero_le _, L.tr (a := 0) (b := 0) r1 r2, fun b o _ e _ => e, sj, ⟨xs0, eP2, by rw [ha0]; exact dv0.r r2⟩, _, he1.r r2, h0⟩
  · rintro i m σ3 H3 ⟨rfl, hle, r3, k3, s3, ⟨xs, eP3, dv3⟩, Γi, e3, p3⟩
    have g3 : L.G 0 H3 := Rl.gR (b := 0) hg r3
    have hi3 : Inn (fun b => A b ∨ b = p) H3 := fun b z y => z.elim (fun z => (hi.r r3) b z y) fun z => by rw [z, eP3] at y; cases y
    by_cases hlt : i < its.length
    · refine .inr ⟨jk.go i H3 k3 hlt, fun σ4 H4 => i + 1 ≤ its.length ∧ L.R 0 H H4 ∧ Kp (fun b => A b ∨ b = p) H2 H4 ∧ σ4[j]? = some (some (V.ref p)) ∧ (∃ xs, H4 p = some (.lst xs) ∧ DvAll L.K (fun b => A b ∨ b = p) H4 xs (acc (i + 1))) ∧ ∃ Γi, EnvOk L (fun b => A b ∨ b = p) σ4 H4 Γi ∧ I (i + 1) Γi, fun σ4 H4 h4 => ⟨its.length - (i + 1), by omega, rfl, h4⟩, fun x H4 y => ?_⟩
      obtain ⟨d, hd, sm, hdv⟩ := jk.yld i H3 x H4 k3 hi3 y hlt
      obtain ⟨Γ', htg, ee, he2, hne, hacc, hI⟩ := hb i d Γi hd p3
      have r34 : L.R 0 H3 H4 := L.same g3 sm
      have dx : Dv L.K (fun b => A b ∨ b = p) H4 x d := hdv _ hi3 fun b o na e _ => na
      refine htg _ x σ3 H4 dx (e3.r r34) _ fun σ5 e5 w5 => ?_
      have s5 : σ5[j]? = some (some (V.ref p)) := by
        have hw5 := w5 js fun k hk => hk
        rw [← wipe_get hjs, hw5, wipe_get hjs]
        exact s3
      have g4 : L.G 0 H4 := Rl.gR (b := 0) g3 r34
      have eP4 : H4 p = some (.lst xs) := L.keep r34 eP3 fxLst
      refine ⟨V.ref p, s5, .inl ⟨rfl, xs, SqL.of eP4⟩, ?_⟩
      refine he2 _ σ5 H4 (hi3.r r34) e5 g4 _ fun v d7 H7 r7 hv7 ed => ?_
      subst ed
      have hv8 := hv7.ne hne
      have r37 : L.R 0 H3 H7 := L.tr (a := 0) (b := 0) r34 r7
      have eP7 : H7 p = some (.lst xs) := L.keep r37 eP3 fxLst
      have dv7 := dv3.r r37
      refine ⟨p, xs, v, rfl, rfl, eP7, ?_, ?_⟩
      · rw [dv7.length]
        exact Nat.lt_of_le_of_lt (hlen i) (by decide)
      · refine ⟨hlt, L.fresh (L.tr (a := 0) (b := 0) r3 r37) hp0 (.inr ⟨_, eP7⟩), fun b o na e k => ?_, s5, ⟨xs ++ [v], upd_same, ?_⟩, Γ', (e5.r r7).off, hI⟩
        · rw [upd_ne (fun z => na (.inr z))]
          exact L.keep r37 (k3 b o na e k) k
        · rw [hacc]
          exact (dv7.app (.cons hv8 .nil)).off
    · have e : i = its.length := by omega
      subst e
      refine .inl ⟨jk.stop H3 k3, ?_⟩
      have dA : DvAll L.K A H3 xs (acc its.length) := dv3.map fun b o na e k => ⟨fun z => na (.inl z), e⟩
      exact hN Γi p3 A σ3 H3 (hi.r r3) (held_back (e3.less fun b z => .inl z) nAp eP3 dA s3) g3 D (fun σ6 H6 G6 r6 e6 p6 => q1 σ6 H6 G6 (L.tr (a := 0) (b := 0) r3 r6) e6 p6) fun v d H6 r6 e6 p6 => q2 v d H6 (L.tr (a := 0) (b := 0) r3 r6) e6 p6
/-- xs = [..]; xs.append(e) -/
theorem sg_app1 {ds0 : List PyData} {e : PyData} (hj : j < Γ.length) (h1 : EvL L te Γ ds0) (hlen : ds0.length ≤ 100000) (h2 : EvD L te2 (Γ.set j none) e) (hne : e ≠ mark) (h3 : SG L 0 u (Γ.set j (some (.list (ds0 ++ [e])))) N Rt) :
    SG L 0 (tSeq (tAsg te (gName j)) (tSeq (tDrop (tBM L.K "list" rAppend (tVar j) (tCons te2 tNil))) u)) Γ N Rt := fun A σ H hi he hg D q1 q2 => h1 A σ H hi he hg _ fun p xs0 H1 r1 hp0 eP dv0 => by
  have nAp : ¬ A p := fun z => hi p z hp0
  have g1 : L.G 0 H1 := Rl.gR (b := 0) hg r1
  have hi1 : Inn (fun b => A b ∨ b = p) H1 := fun b z y => z.elim (fun z => (hi.r r1) b z y) fun z => by rw [z, eP] at y; cases y
  have sj : (σ.set j (some (V.ref p)))[j]? = some (some (V.ref p)) := List.getElem?_set_self (by rw [he.1]; exact hj)
  have he1 := held_env (p := p) (j := j) he r1 hp0 hj
  refine ⟨V.ref p, sj, .inl ⟨rfl, xs0, SqL.of eP⟩, ?_⟩
  refine h2 _ _ H1 hi1 he1 g1 _ fun v d7 H7 r7 hv7 ed => ?_
  subst ed
  have hv8 := hv7.ne hne
  have r17 : L.R 0 H H7 := L.tr (a := 0) (b := 0) r1 r7
  have eP7 : H7 p = some (.lst xs0) := L.keep r7 eP fxLst
  have dv7 := dv0.r r7
  refine ⟨p, xs0, v, rfl, rfl, eP7, ?_, ?_⟩
  · rw [dv7.length]
    exact Nat.lt_of_le_of_lt hlen (by decide)
  · have r8 := L.fresh r17 hp0 (.inr ⟨_, eP7⟩) (o := .lst (xs0 ++ [v]))
    have e8 : EnvOk L (fun b => A b ∨ b = p) (σ.set j (some (V.ref p))) (upd H7 p (.lst (xs0 ++ [v]))) (Γ.set j none) := (he1.r r7).off
    have dA : DvAll L.K A (upd H7 p (.lst (xs0 ++ [v]))) (xs0 ++ [v]) (ds0 ++ [d7]) := (dv7.app (.cons hv8 .nil)).off.map fun b o na e k => ⟨fun z => na (.inl z), e⟩
    have hb := held_back (e8.less fun b z => .inl z) nAp upd_same dA sj
    have hs : (Γ.set j none).set j (some (.list (ds0 ++ [d7]))) = Γ.set j (some (.list (ds0 ++ [d7]))) := by rw [List.set_set]
    rw [hs] at hb
    exact h3 A _ _ (hi.r r8) hb (Rl.gR (b := 0) hg r8) D (fun σ6 H6 G6 r6 e6 p6 => q1 σ6 H6 G6 (L.tr (a := 0) (b := 0) r8 r6) e6 p6) fun v d H6 r6 e6 p6 => q2 v d H6 (L.tr (a := 0) (b := 0) r8 r6) e6 p6
end
end V1
set_option Elab.async false
set_option linter.all false
set_option maxRecDepth 100000
set_option maxHeartbeats 4000000
/-! A turn's draws begun, where tables of code objects may grow. -/
namespace V1
open PySem PySem.Spec PyProof.Rows L2
theorem sg_begunT {K : PySem.W.Frag} {TT : List (Addr × Str)} {a : Addr} {sc : List Int} {k n j : Nat} {u : TS} {Rt : PyData → Prop} (hk : k ≤ 4) (hl : sc.length ≤ 63) (hn : n ≤ 100000000)
    (hu : ∀ p c ns, ns ≠ [] → SK (mL K TT p c ns) 0 (V.ref a) n u (none :: none :: some mark :: List.replicate j none) (fun G => G.length = j + 3)) :
    SG (scL K TT a sc) 0 (tSeq (tAsg (tCall (sp_law_begun K) [] E0 (tCons (tVar 0) (tCons (tVar 1) tNil))) (gName 2)) u) (some mark :: some (.int (k : Int)) :: none :: List.replicate j none) (fun G => G = some mark :: none :: none :: List.replicate j none) Rt := fun A σ H hi he hg D q1 q2 => by
  have free : ∀ {i : Nat} {d : PyData}, (List.replicate j (none : Option PyData))[i]? = some (some d) → False := fun {i d} e => by
    rw [List.getElem?_replicate] at e
    split at e <;> cases e
  obtain ⟨v0, hs0, dv0⟩ := he.2 0 mark rfl
  have ev := dq_mark dv0
  subst ev
  obtain ⟨v1, hs1, dv1⟩ := he.2 1 (.int (k : Int)) rfl
  obtain rfl := dv1.int
  refine ⟨_, hs0, _, hs1, ?_⟩
  refine (?key : sp_law_begun K [V.ref a, V.int (k : Int)] H (fun x H1 => u D (σ.set 2 (some x)) H1) E0)
  refine ⟨TT, a, sc, k, rfl, hg.1, hg.2, hk, hl, fun p c l sd ns H1 r1 hp hns hP hC => ?_⟩
  have hlen : σ.length = j + 3 := by
    rw [he.1]
    simp
  have hA : Inn A H1 := fun b z y => r1.2.1 b (hi b z) y
  have he1 : EnvOk (mL K TT p c ns) A (σ.set 2 (some (V.ref p))) H1 (none :: none :: some mark :: List.replicate j none) := ⟨by rw [List.length_set, hlen]; simp, fun i d e => by
    match i, e with
    | 0, e => cases e
    | 1, e => cases e
    | 2, e =>
      have e1 : mark = d := Option.some.inj (Option.some.inj e)
      subst e1
      exact ⟨V.ref p, List.getElem?_set_self (by omega), .inl ⟨rfl, rfl⟩⟩
    | i + 3, e => exact (free (i := i) e).elim⟩
  have hG : (mL K TT p c ns).G n H1 := ⟨⟨l, sd, 0, hP, hC, Int.le_refl 0, by omega⟩, r1.2.2⟩
  have hs0' : (σ.set 2 (some (V.ref p)))[0]? = some (some (V.ref a)) := by rw [List.getElem?_set_ne (by decide)]; exact hs0
  refine hu p c ns hns A _ H1 hA he1 hG hs0' D fun σ2 H2 G2 r2 e2 s2 p2 => ?_
  have r2' : mR TT p c n H1 H2 := r2
  have r02 : (tabL K TT).R 0 H H2 := ⟨fun b o z kk => r2'.st b o (r1.1 b o z kk) (.inl (fun y => by rw [y, hp] at z; cases z)) kk, fun b z => r2'.nn b (r1.2.1 b z), r2'.tb⟩
  have hl2 : σ2.length = j + 3 := e2.1.trans p2
  refine q1 σ2 H2 _ r02 ⟨by rw [hl2]; simp, fun i d e => ?_⟩ rfl
  match i, e with
  | 0, e =>
    have e1 : mark = d := Option.some.inj (Option.some.inj e)
    subst e1
    exact ⟨_, s2, .inl ⟨rfl, rfl⟩⟩
  | 1, e => cases e
  | 2, e => cases e
  | i + 3, e => exact (free (i := i) e).elim
section
variable {L : Rl} {Γ : List (Option PyData)} {tt tu : TT} {ts u : TS} {a b j n m : Nat} {v0 : V} {N : List (Option PyData) → Prop} {t : TA} {E : XK} {P : Bool → Prop}
theorem sk_ifq (h : EtG L a tt Γ (fun k => k = false)) (k : SK L j v0 b u Γ N) : SK L j v0 (a + b) (tSeq (tIfS tt ts tNext) u) Γ N := fun A σ H hi he hg hs D q => h A σ H hi he (L.gle (Nat.le_add_right _ _) hg) _ fun b' H1 r1 e => by
  subst e
  exact k A σ H1 (hi.r r1) (he.r r1) (Rl.gR hg r1) hs D fun σ2 H2 Γ2 r2 e2 s2 p2 => q σ2 H2 Γ2 (L.tr r1 r2) e2 s2 p2
theorem SK.mono (h : SK L j v0 a ts Γ N) (hn : a ≤ b) : SK L j v0 b ts Γ N := fun A σ H hi he hg hs D q => h A σ H hi he (L.gle hn hg) hs D fun σ2 H2 Γ2 r2 e2 s2 p2 => q σ2 H2 Γ2 (L.rle hn r2) e2 s2 p2
theorem et_andG {k : Bool} (h : EtD L tt Γ k) (h1 : k = true → EtG L a tu Γ P) (h2 : k = false → P false) : EtG L a (tAnd tt tu) Γ P := fun A σ H hi he hg Q q => h A σ H hi he (L.g0 hg) _ fun H1 r1 => by
  cases k with
  | false => exact q false H1 (L.rle (Nat.zero_le _) r1) (h2 rfl)
  | true => exact h1 rfl A σ H1 (hi.r r1) (he.r r1) (Rl.gR (a := 0) (by rw [Nat.zero_add]; exact hg) r1) Q fun k H2 r2 p => q k H2 (L.rle (Nat.le_of_eq (Nat.zero_add _)) (L.tr r1 r2)) p
theorem eg_drawS {i : Nat} (hS : SM L) {b : Nat} (hb : 0 < b ∧ b < 2 ^ 30) (h0 : Γ[i]? = some (some mark)) : EvG L 1 (tCall (sp_law_draw L.K) [] E (tCons (tVar i) (tCons (tC (.int (b : Int))) tNil))) Γ (fun d => ∃ z : Int, (0 ≤ z ∧ z < (b : Int)) ∧ d = .int z) :=
  EvG.mono (eg_callM hS b (ea_cons (eg_var h0) (ea_cons eg_int ea_nil)) hb) (Nat.le_refl _) fun d ⟨r, h1, e⟩ => ⟨(r : Int), ⟨by omega, by omega⟩, e⟩
theorem eg_callTG {T : List (Addr × Str)} {α : Type} {args : α → List PyData} {ok : α → Prop} {val : α → PyData} {PA : List PyData → Prop} (LL : LamL L T) (ha : EaG L m t Γ PA) (hp : ∀ ds, PA ds → nomk ds = true ∧ ∃ x, ok x ∧ ds = args x) : EvG L m (tCall (spT L.K T args ok val) [] E t) Γ (fun d => ∃ x, PA (args x) ∧ ok x ∧ d = val x) := fun A σ H hi he hg Q q => ha A σ H hi he hg _ fun vs ds H1 r1 l hv p => by
  obtain ⟨hn, x, ho, rfl⟩ := hp ds p
  show spT L.K T args ok val (vs ++ []) H1 Q E
  rw [List.append_nil]
  have g1 := Rl.gR (b := 0) hg r1
  refine ⟨x, ho, A, args x, hi.r r1, l, fun i d e => ?_, rfl, LL.tb g1, fun v d H2 r2 hd hpo => q v d H2 (L.rle (Nat.le_of_eq (Nat.add_zero _)) (L.tr (b := 0) r1 (LL.of g1 r2.1 r2.2.2 r2.2.1))) (.inr (tab_dq hd)) ⟨x, p, ho, hpo⟩⟩
  obtain ⟨v, e1, e2⟩ := hv i d e
  exact ⟨v, e1, .inr (e2.ne (nomk_ne hn i d e))⟩
end
end V1
set_option Elab.async false
set_option linter.all false
set_option maxRecDepth 100000
set_option maxHeartbeats 4000000
/-! Calls by keywords alone. -/
namespace V1
open PySem PySem.Spec PyProof.Rows L2
def g2 {α : Type} : List α → List α → List α
  | [], [a, b] => [a, b]
  | _, _ => []
def g2r {α : Type} : List α → List α → List α
  | [], [a, b] => [b, a]
  | _, _ => []
def g1 {α : Type} : List α → List α → List α
  | [], [a] => [a]
  | _, _ => []
theorem vals_nil {us : List Value} (h : Vals [] us) : us = [] := by cases h; rfl
theorem rel_g2 {vs : List V} {us : List Value} {zs : List V} {ws : List Value} (h1 : Vals vs us) (h2 : Vals zs ws) : Vals (g2 vs zs) (g2 us ws) := by
  cases h1 with
  | nil =>
    cases h2 with
    | nil => exact .nil
    | cons a h2 =>
      cases h2 with
      | nil => exact .nil
      | cons b h2 =>
        cases h2 with
        | nil => exact .cons a (.cons b .nil)
        | cons c h2 => exact .nil
  | cons a h1 => exact .nil
theorem rel_g2r {vs : List V} {us : List Value} {zs : List V} {ws : List Value} (h1 : Vals vs us) (h2 : Vals zs ws) : Vals (g2r vs zs) (g2r us ws) := by
  cases h1 with
  | nil =>
    cases h2 with
    | nil => exact .nil
    | cons a h2 =>
      cases h2 with
      | nil => exact .nil
      | cons b h2 =>
        cases h2 with
        | nil => exact .cons b (.cons a .nil)
        | cons c h2 => exact .nil
  | cons a h1 => exact .nil
theorem rel_g1 {vs : List V} {us : List Value} {zs : List V} {ws : List Value} (h1 : Vals vs us) (h2 : Vals zs ws) : Vals (g1 vs zs) (g1 us ws) := by
  cases h1 with
  | nil =>
    cases h2 with
    | nil => exact .nil
    | cons a h2 =>
      cases h2 with
      | nil => exact .cons a .nil
      | cons b h2 => exact .nil
  | cons a h1 => exact .nil
theorem g2_some {α : Type} : ∀ {us ws : List α}, (g2 us ws).length = 2 → us = [] ∧ ∃ a b, ws = [a, b]
  | [], [], h => by cases h
  | [], [_], h => by cases h
  | [], [a, b], _ => ⟨rfl, a, b, rfl⟩
  | [], _ :: _ :: _ :: _, h => by cases h
  | _ :: _, _, h => by cases h
theorem g2r_some {α : Type} : ∀ {us ws : List α}, (g2r us ws).length = 2 → us = [] ∧ ∃ a b, ws = [a, b]
  | [], [], h => by cases h
  | [], [_], h => by cases h
  | [], [a, b], _ => ⟨rfl, a, b, rfl⟩
  | [], _ :: _ :: _ :: _, h => by cases h
  | _ :: _, _, h => by cases h
theorem g1_some {α : Type} : ∀ {us ws : List α}, (g1 us ws).length = 1 → us = [] ∧ ∃ a, ws = [a]
  | [], [], h => by cases h
  | [], [a], _ => ⟨rfl, a, rfl⟩
  | [], _ :: _ :: _, h => by cases h
  | _ :: _, _, h => by cases h
theorem kbin2 {K : PySem.W.Frag} {fd : FuncData} {ps ks : List Str} (hp : ps.length = 2) (h : ∀ u v : Value, bindArgs fd ⟨[], ks.zip [u, v]⟩ = pure (ps.zip [u, v])) : KBinds K fd ps ks g2 g2 := ⟨fun s us ws _ hl => by
  obtain ⟨rfl, u, v, rfl⟩ := g2_some (hl.trans hp)
  exact .of_eq (h u v), rel_g2⟩
theorem kbin2r {K : PySem.W.Frag} {fd : FuncData} {ps ks : List Str} (hp : ps.length = 2) (h : ∀ u v : Value, bindArgs fd ⟨[], ks.zip [u, v]⟩ = pure (ps.zip [v, u])) : KBinds K fd ps ks g2r g2r := ⟨fun s us ws _ hl => by
  obtain ⟨rfl, u, v, rfl⟩ := g2r_some (hl.trans hp)
  exact .of_eq (h u v), rel_g2r⟩
theorem kbin1 {K : PySem.W.Frag} {fd : FuncData} {ps ks : List Str} (hp : ps.length = 1) (h : ∀ u : Value, bindArgs fd ⟨[], ks.zip [u]⟩ = pure (ps.zip [u])) : KBinds K fd ps ks g1 g1 := ⟨fun s us ws _ hl => by
  obtain ⟨rfl, u, rfl⟩ := g1_some (hl.trans hp)
  exact .of_eq (h u), rel_g1⟩
theorem gk2 {d1 d2 : PyData} (zs : List V) (h : zs.length = [d1, d2].length) : (g2 [] zs).length = [d1, d2].length ∧ ∀ (i : Nat) d, [d1, d2][i]? = some d → ∃ j : Nat, [d1, d2][j]? = some d ∧ (g2 [] zs)[i]? = zs[j]? := by
  match zs, h with
  | [a, b], _ => exact ⟨rfl, fun i d e => ⟨i, e, rfl⟩⟩
theorem gk2r {d1 d2 : PyData} (zs : List V) (h : zs.length = [d2, d1].length) : (g2r [] zs).length = [d1, d2].length ∧ ∀ (i : Nat) d, [d1, d2][i]? = some d → ∃ j : Nat, [d2, d1][j]? = some d ∧ (g2r [] zs)[i]? = zs[j]? := by
  match zs, h with
  | [a, b], _ =>
    refine ⟨rfl, fun i d e => ?_⟩
    match i, e with
    | 0, e => exact ⟨1, e, rfl⟩
    | 1, e => exact ⟨0, e, rfl⟩
    | i + 2, e => cases e
theorem gk1 {d1 : PyData} (zs : List V) (h : zs.length = [d1].length) : (g1 [] zs).length = [d1].length ∧ ∀ (i : Nat) d, [d1][i]? = some d → ∃ j : Nat, [d1][j]? = some d ∧ (g1 [] zs)[i]? = zs[j]? := by
  match zs, h with
  | [a], _ => exact ⟨rfl, fun i d e => ⟨i, e, rfl⟩⟩

section
variable {L : Rl} {Γ : List (Option PyData)} {t : TA} {te ta tb : TE} {tt tu : TT} {a b : Nat}
/-- list(t) -/
theorem cs_listT {ds : List PyData} : CaS L (fun xs H Q => ∃ p ys, xs = [.ref p] ∧ (SqL L.K H p ys ∨ SqT L.K H p ys) ∧ ∀ l, H l = none → Q (.ref l) (upd H l (.lst ys))) [.tuple ds] (.list ds) := fun A H vs hi hg hl h Q q => by
  obtain ⟨v, rfl, hv⟩ := one_of hl h
  obtain ⟨p, xs, rfl, e, r⟩ := hv.tuple
  refine ⟨p, xs, rfl, .inr e.sq, fun l hl2 => ?_⟩
  have rr := Rl.newR (o := .lst xs) hg hl2
  exact q _ _ rr (.inr (.lst (hi.no hl2) upd_same (r.r rr)))
theorem et_andK {k k2 : Bool} (h : EtD L tt Γ k) (h2 : k = true → EtD L tu Γ k2) : EtD L (tAnd tt tu) Γ (k && k2) := fun A σ H hi he hg Q q => h A σ H hi he hg _ fun H1 r1 => by
  cases k with
  | false => exact q H1 r1
  | true => exact h2 rfl A σ H1 (hi.r r1) (he.r r1) (Rl.gR (b := 0) hg r1) Q fun H2 r2 => q H2 (L.tr (a := 0) (b := 0) r1 r2)
theorem evl_cat {ds es : List PyData} (ha : EvD L ta Γ (.list ds)) (hb : EvD L tb Γ (.list es)) (hl : ds.length + es.length ≤ 100000) : EvL L (tOp rCat ta tb) Γ (ds ++ es) := fun A σ H hi he hg Q q =>
  ha A σ H hi he hg _ fun x d1 H1 r1 hx e1 => hb A σ H1 (hi.r r1) (he.r r1) (Rl.gR (b := 0) hg r1) _ fun y d2 H2 r2 hy e2 => by
    subst e1 e2
    obtain ⟨p, xs, rfl, na, e, r⟩ := (hx.r r2).list
    obtain ⟨p2, ys, rfl, na2, e2, r'⟩ := hy.list
    have r12 : L.R 0 H H2 := L.tr (a := 0) (b := 0) r1 r2
    refine ⟨p, p2, xs, ys, rfl, rfl, e, e2, Nat.le_trans (by rw [r.length, r'.length]; exact hl) (by decide), fun l hn => ?_⟩
    have rn := Rl.newR (o := .lst (xs ++ ys)) (Rl.gR (b := 0) hg r12) hn
    refine q l (xs ++ ys) _ (L.tr (a := 0) (b := 0) r12 rn) (L.free r12 hn) upd_same ?_
    exact ((r.app r').map fun b o nb e3 k => ⟨fun z => z.elim nb fun z => (by rw [z, hn] at e3; cases e3), by rw [upd_ne (ne_of_none e3 hn)]; exact e3⟩)
end
section
variable {L : Rl} {Γ : List (Option PyData)} {C : Addr} {fld : Str} {α : Type} {args : α → List PyData} {ok : α → Prop} {res : α → Except PyData PyData} {ta tk : TA} {te : TE} {d dq : PyData}
theorem eg_callXvK (a : α) {E : XK} {ds : List PyData} {gV : List V → List V → List V} (ha : EaD L tk Γ ds) (hg2 : ∀ zs : List V, zs.length = ds.length → (gV [] zs).length = (args a).length ∧ ∀ (i : Nat) d, (args a)[i]? = some d → ∃ j : Nat, ds[j]? = some d ∧ (gV [] zs)[i]? = zs[j]?) (ho : ok a) (hr : res a = .ok d) (hn : nomk (args a) = true := by rfl) :
    EvD L (tCallK (spX L.K C fld args ok res) gV E tNil tk) Γ d := fun A σ H hi he hg Q q => ha A σ H hi he hg _ fun vs ds' H1 r1 l hv p => by
  subst p
  obtain ⟨l1, l2⟩ := hg2 vs l
  refine ⟨a, A, ho, hi.r r1, l1, fun i d e => ?_, fun d2 e v H' sm hd => ?_, fun q2 e => (by rw [hr] at e; cases e)⟩
  · obtain ⟨j, e1, e2⟩ := l2 i d e
    obtain ⟨v, e3, e4⟩ := hv j d e1
    exact ⟨v, by rw [e2]; exact e3, e4.ne (nomk_ne hn i d e)⟩
  · rw [hr] at e
    cases e
    exact q v _ H' (L.tr (a := 0) (b := 0) r1 (L.same (Rl.gR (b := 0) hg r1) sm)) (.inr hd) rfl
end
theorem KB_lowest_top_bottom {K : PySem.W.Frag} {f : Addr} {fd : FuncData} (F : Fun K "lowest" "lowest" s_lowest f fd) : KBinds K fd ["top", "bottom"] ["top", "bottom"] g2 g2 := by
  obtain ⟨oc, od, kV, doc, pm, an, cdv, ct, osl, rfl, _⟩ := F.ex
  exact kbin2 rfl fun u v => rfl
theorem KB_added_one_other {K : PySem.W.Frag} {f : Addr} {fd : FuncData} (F : Fun K "added" "added" s_added f fd) : KBinds K fd ["one", "other"] ["one", "other"] g2 g2 := by
  obtain ⟨oc, od, kV, doc, pm, an, cdv, ct, osl, rfl, _⟩ := F.ex
  exact kbin2 rfl fun u v => rfl
theorem KB_minus_other_one {K : PySem.W.Frag} {f : Addr} {fd : FuncData} (F : Fun K "minus" "minus" s_minus f fd) : KBinds K fd ["one", "other"] ["other", "one"] g2r g2r := by
  obtain ⟨oc, od, kV, doc, pm, an, cdv, ct, osl, rfl, _⟩ := F.ex
  exact kbin2r rfl fun u v => rfl
theorem KB_times_other_one {K : PySem.W.Frag} {f : Addr} {fd : FuncData} (F : Fun K "times" "times" s_times f fd) : KBinds K fd ["one", "other"] ["other", "one"] g2r g2r := by
  obtain ⟨oc, od, kV, doc, pm, an, cdv, ct, osl, rfl, _⟩ := F.ex
  exact kbin2r rfl fun u v => rfl
theorem KB_divided_one_other {K : PySem.W.Frag} {f : Addr} {fd : FuncData} (F : Fun K "divided" "divided" s_divided f fd) : KBinds K fd ["one", "other"] ["one", "other"] g2 g2 := by
  obtain ⟨oc, od, kV, doc, pm, an, cdv, ct, osl, rfl, _⟩ := F.ex
  exact kbin2 rfl fun u v => rfl
theorem KB_halfway_one_other {K : PySem.W.Frag} {f : Addr} {fd : FuncData} (F : Fun K "halfway" "halfway" s_halfway f fd) : KBinds K fd ["one", "other"] ["one", "other"] g2 g2 := by
  obtain ⟨oc, od, kV, doc, pm, an, cdv, ct, osl, rfl, _⟩ := F.ex
  exact kbin2 rfl fun u v => rfl
theorem KB_compared_other_one {K : PySem.W.Frag} {f : Addr} {fd : FuncData} (F : Fun K "compared" "compared" s_compared f fd) : KBinds K fd ["one", "other"] ["other", "one"] g2r g2r := by
  obtain ⟨oc, od, kV, doc, pm, an, cdv, ct, osl, rfl, _⟩ := F.ex
  exact kbin2r rfl fun u v => rfl
theorem KB_check_fraction_value {K : PySem.W.Frag} {f : Addr} {fd : FuncData} (F : Fun K "check_fraction" "check_fraction" s_check_fraction f fd) : KBinds K fd ["value"] ["value"] g1 g1 := by
  obtain ⟨oc, od, kV, doc, pm, an, cdv, ct, osl, rfl, _⟩ := F.ex
  exact kbin1 rfl fun u => rfl
end V1
set_option Elab.async false
set_option linter.all false
set_option maxRecDepth 100000
set_option maxHeartbeats 4000000
namespace V1
open PySem PySem.Spec PyProof.Rows L2
variable {P : Program} {w : World} {K : PySem.W.Frag} {mg : Str → Option Value} {base : Heap}

abbrev s_law_heard : Stmt := top 42
abbrev n_law_heard : List Str := ["call", "caught"]
theorem sc_law_heard : FnScope n_law_heard ["call"] (defScope s_law_heard) := ⟨rfl, rfl, rfl, by decide +kernel, rfl, by decide +kernel, by decide +kernel⟩
theorem heard_ok {X : Cx} {Ce fIe : Addr} {fde : FuncData} (TN : ExN X.K X.mg "NotNumber" "value" Ce fIe fde) (g : Addr) (cdv : Value) (q : Str) : Hears X n_law_heard "_law_heard" (defScope s_law_heard) g cdv (defBody s_law_heard) "call" q (TT1 Ce "number" "value") :=
  hears1 rfl TN.gC (by decide) TN.te TN.X TN.no (by decide) rfl (by decide) (by decide) (fun _ => rfl)
theorem p2_shn {i j : Int} (hi : i.natAbs < 2 ^ 1900) (hj : j.natAbs < 2 ^ 1900) : Shn 2 1 (p2 i j) := shn_tup (b := 0) (k := 0) (m := 2) (fun d hd => by
  rcases List.mem_cons.mp hd with rfl | hd
  · exact shn_int hi
  · rw [List.mem_singleton.mp hd]
    exact shn_int hj) (Nat.le_refl 2)
theorem low_shn {i j : Int} (hi : i.natAbs < 2 ^ 1900) (hj : j.natAbs < 2 ^ 1900) : Shn 2 1 (lowD i j) := p2_shn (Nat.lt_of_le_of_lt (lowA_le i j) hi) (Nat.lt_of_le_of_lt (lowB_le i j) hj)
theorem sh_of {ds : List PyData} {b k m : Nat} (h : ∀ d ∈ ds, Shn b k d) (hl : ds.length ≤ m) (hb : m * (b + 1) ≤ 8000 := by decide) (hk : k + 1 ≤ 60 := by decide) : Sh (.list ds) := sh_lst (shn_lst h hl) hb hk
theorem sh_oft {ds : List PyData} {b k m : Nat} (h : ∀ d ∈ ds, Shn b k d) (hl : ds.length ≤ m) (hb : m * (b + 1) ≤ 8000 := by decide) (hk : k + 1 ≤ 60 := by decide) : Sh (.tuple ds) := sh_tup (shn_tup h hl) hb hk
theorem sign_lt (i : Int) : i.sign.natAbs < 2 ^ 1900 := by
  have h : i.sign.natAbs < 2 ^ 2 := by
    rcases Int.lt_trichotomy i 0 with h | h | h
    · rw [Int.sign_eq_neg_one_of_neg h]; decide
    · rw [h]; decide
    · rw [Int.sign_eq_one_of_pos h]; decide
  exact Nat.lt_of_lt_of_le h (Nat.pow_le_pow_right (by decide) (by decide))
theorem num_shn : Shn 20 1 (.str "number") := ⟨by decide +kernel, by decide, by decide, by decide +kernel, by decide⟩
theorem okQ_P {p : Int × Int} (h : okQ p) : okP p := ⟨le_pow h.1, le_pow h.2.1, by have := h.2.2.1; omega⟩
section
variable {L : Rl} {Γ : List (Option PyData)} {t ta tb : TE}
theorem eg_frac {t : TA} {i j : Int} (h : EaD L t Γ [.int i, .int j]) (h0 : j ≠ 0) (h1 : j.natAbs < 2 ^ 4000) : EvD L (tCall (sp_law_fraction L.K) [] E0 t) Γ (lowD i j) :=
  eg_callR (L := L) (E := E0) (args := fun p : Int × Int => [.int p.1, .int p.2]) (ok := fun p => p.2 ≠ 0 ∧ p.2.natAbs < 2 ^ 4000) (val := fun p => lowD p.1 p.2) (i, j) h ⟨h0, h1⟩
theorem eg_like {d : PyData} (h1 : EvD L ta Γ d) (h2 : EvD L tb Γ d) (hd : Sh d) (hn : nomk [d, d] = true) : EvD L (tCall (sp_law_like L.K) [] E0 (tCons ta (tCons tb tNil))) Γ (.bool true) :=
  eg_callR (L := L) (E := E0) (args := fun d : PyData => [d, d]) (ok := Sh) (val := fun _ => .bool true) d (ea_cons h1 (ea_cons h2 ea_nil)) hd hn
end

abbrev s_law_two_right : Stmt := top 44
abbrev n_law_two_right : List Str := ["near", "far", "a", "b", "c", "d", "due", "told"]
theorem sc_law_two_right : FnScope n_law_two_right ["near", "far"] (defScope s_law_two_right) := ⟨rfl, rfl, rfl, by decide +kernel, rfl, by decide +kernel, by decide +kernel⟩
def okQQ (p : PP) : Prop := okQ p.1 ∧ okQ p.2
def sp_law_two_right (K : PySem.W.Frag) (TT : List (Addr × Str)) : Sp := spT K TT argsP okQQ fun _ => .bool true
theorem ok_law_two_right {f : Addr} {fd : FuncData} (T : Bt K mg) (C : Cst K w mg) (D : Df K mg "_law_two_right" s_law_two_right ["near", "far"] f fd) {TT : List (Addr × Str)} {Ce Ie : Addr} {fe : FuncData} (TN : ExN K mg "NotNumber" "value" Ce Ie fe) {f_law_heard : Addr} {d_law_heard : FuncData} (DH : Df K mg "_law_heard" s_law_heard ["call"] f_law_heard d_law_heard)
    (LT : ∃ c Pt, LamX.TabB base mg c Pt ∧ fd.code = .ref c ∧ (Pt, (("_law_two_right" : Str) ++ ".<locals>." ++ "<lambda>")) ∈ TT ∧ ∀ p ∈ TT, p.1 = Pt → p.2 = (("_law_two_right" : Str) ++ ".<locals>." ++ "<lambda>"))
    {f_law_fraction : Addr} {d_law_fraction : FuncData} (h_law_fraction : Cal P w K mg base "_law_fraction" s_law_fraction ["top_so", "bottom_so"] 3 (sp_law_fraction K) f_law_fraction d_law_fraction)
    {f_law_like : Addr} {d_law_like : FuncData} (h_law_like : Cal P w K mg base "_law_like" s_law_like ["told", "due"] 1 (sp_law_like K) f_law_like d_law_like)
    {f_times : Addr} {d_times : FuncData} (h_times : Cal P w K mg base "times" s_times ["one", "other"] 4 (sp_times K) f_times d_times)
    {f_minus : Addr} {d_minus : FuncData} (h_minus : Cal P w K mg base "minus" s_minus ["one", "other"] 4 (sp_minus K) f_minus d_minus)
    {f_added : Addr} {d_added : FuncData} (h_added : Cal P w K mg base "added" s_added ["one", "other"] 4 (sp_added K) f_added d_added)
    {f_divided : Addr} {d_divided : FuncData} (h_divided : CalX P w K mg base "divided" s_divided ["one", "other"] 4 (sp_divided K Ce) f_divided d_divided)
    {f_compared : Addr} {d_compared : FuncData} (h_compared : Cal P w K mg base "compared" s_compared ["one", "other"] 2 (sp_compared K) f_compared d_compared)
    {f_halfway : Addr} {d_halfway : FuncData} (h_halfway : Cal P w K mg base "halfway" s_halfway ["one", "other"] 4 (sp_halfway K) f_halfway d_halfway)
    {f_law_sign : Addr} {d_law_sign : FuncData} (h_law_sign : Cal P w K mg base "_law_sign" s_law_sign ["number_so"] 1 (sp_law_sign K) f_law_sign d_law_sign) : Cal P w K mg base "_law_two_right" s_law_two_right ["near", "far"] 11 (sp_law_two_right K TT) f fd := by
  refine ok_T D sc_law_two_right (fun _ => rfl) fun cdv A outer s H E ec hgd hr => ?_
  have LP : LamP (cxOf CX0 P w K mg base n_law_two_right "_law_two_right" (defScope s_law_two_right) f cdv A outer s H E).nox TT := by
    obtain ⟨c, Pt, l1, l2, l3, l4⟩ := LT
    exact ⟨⟨c, Pt, l1, ec.symm.trans l2, l3, l4⟩⟩
  refine ⟨_, (pss_cons (ps_asg (pv 0) (pg_tup rfl (pgs_cons (pg_name (i := 2) sc_law_two_right.nd rfl (Or.inl rfl)) (pgs_cons (pg_name (i := 3) sc_law_two_right.nd rfl (Or.inl rfl)) pgs_nil))))
        (pss_cons (ps_asg (pv 1) (pg_tup rfl (pgs_cons (pg_name (i := 4) sc_law_two_right.nd rfl (Or.inl rfl)) (pgs_cons (pg_name (i := 5) sc_law_two_right.nd rfl (Or.inl rfl)) pgs_nil))))
        (pss_cons (ps_set (i := 6) sc_law_two_right.nd rfl (Or.inl rfl) (pe_lst (pa_cons (pe_fn (E := E0) h_law_fraction.G hgd (hr.mono (by decide)) (by rfl) h_law_fraction.gm h_law_fraction.kp h_law_fraction.b (pa_cons (pe_op op_add (pe_op op_mulW (pv 2) (pv 5)) (pe_op op_mulW (pv 4) (pv 3))) (pa_cons (pe_op op_mulW (pv 3) (pv 5)) pa_nil))) (pa_cons (pe_fn (E := E0) h_law_fraction.G hgd (hr.mono (by decide)) (by rfl) h_law_fraction.gm h_law_fraction.kp h_law_fraction.b (pa_cons (pe_op op_sub (pe_op op_mulW (pv 2) (pv 5)) (pe_op op_mulW (pv 4) (pv 3))) (pa_cons (pe_op op_mulW (pv 3) (pv 5)) pa_nil))) (pa_cons (pe_fn (E := E0) h_law_fraction.G hgd (hr.mono (by decide)) (by rfl) h_law_fraction.gm h_law_fraction.kp h_law_fraction.b (pa_cons (pe_op op_mulW (pv 2) (pv 4)) (pa_cons (pe_op op_mulW (pv 3) (pv 5)) pa_nil))) pa_nil)))))
        (pss_cons (ps_if (pt_not (pt_val (pe_fn (E := E0) h_law_like.G hgd (hr.mono (by decide)) (by rfl) h_law_like.gm h_law_like.kp h_law_like.b (pa_cons (pe_lst (pa_cons (pe_fn (E := E0) h_added.G hgd (hr.mono (by decide)) (by rfl) h_added.gm h_added.kp h_added.b (pa_cons (pv 0) (pa_cons (pv 1) pa_nil))) (pa_cons (pe_fn (E := E0) h_minus.G hgd (hr.mono (by decide)) (by rfl) h_minus.gm h_minus.kp h_minus.b (pa_cons (pv 0) (pa_cons (pv 1) pa_nil))) (pa_cons (pe_fn (E := E0) h_times.G hgd (hr.mono (by decide)) (by rfl) h_times.gm h_times.kp h_times.b (pa_cons (pv 0) (pa_cons (pv 1) pa_nil))) pa_nil)))) (pa_cons (pv 6) pa_nil))))) (pss_one (ps_ret pe_bl)) pss_nil)
        (pss_cons (ps_set (i := 6) sc_law_two_right.nd rfl (Or.inl rfl) (pe_ifExp (pt_cmpR op_ne (pv 4) pe_int (nomark _)) (pe_lst (pa_cons (pe_fn (E := E0) h_law_fraction.G hgd (hr.mono (by decide)) (by rfl) h_law_fraction.gm h_law_fraction.kp h_law_fraction.b (pa_cons (pe_op op_mulW (pv 2) (pv 5)) (pa_cons (pe_op op_mulW (pv 3) (pv 4)) pa_nil))) pa_nil)) (pe_tup (pa_cons pe_str (pa_cons (pv 1) pa_nil)))))
        (pss_cons (ps_if (pt_not (pt_val (pe_fn (E := E0) h_law_like.G hgd (hr.mono (by decide)) (by rfl) h_law_like.gm h_law_like.kp h_law_like.b (pa_cons (pe_heard (T := TT) (TT := TT1 Ce "number" "value") (k := 5) (t := fun E => tCallS (sp_divided K Ce) (fun _ => E) _) (by rfl) DH.gm DH.F DH.b sc_law_heard rfl (Or.inl rfl) (mkl0 LP (lamN_by (N := n_law_two_right) (sc := defScope s_law_two_right) (by decide +kernel)) (by rfl) (fun _ _ _ _ _ => by rfl)) (lamN_by (N := n_law_two_right) (sc := defScope s_law_two_right) (by decide +kernel)) (hr.mono (by decide)) hgd (fun cdv => heard_ok TN _ _ _)
          (fun A outer s2 H2 E f c2 hgd hr => pe_callX (E := fun _ => E) h_divided.G hgd (hr.mono (by decide)) (by rfl) h_divided.gm h_divided.kp h_divided.b (fun σ => passAt (takes_of rfl rfl rfl rfl) σ) (pa_cons (pv 0) (pa_cons (pv 1) pa_nil)))) (pa_cons (pv 6) pa_nil))))) (pss_one (ps_ret pe_bl)) pss_nil)
        (pss_cons (ps_set (i := 7) sc_law_two_right.nd rfl (Or.inl rfl) (pe_lst (pa_cons (pe_fn (E := E0) h_halfway.G hgd (hr.mono (by decide)) (by rfl) h_halfway.gm h_halfway.kp h_halfway.b (pa_cons (pv 0) (pa_cons (pv 1) pa_nil))) (pa_cons (pe_fn (E := E0) h_compared.G hgd (hr.mono (by decide)) (by rfl) h_compared.gm h_compared.kp h_compared.b (pa_cons (pv 0) (pa_cons (pv 1) pa_nil))) (pa_cons (pe_fn (E := E0) h_compared.G hgd (hr.mono (by decide)) (by rfl) h_compared.gm h_compared.kp h_compared.b (pa_cons (pv 0) (pa_cons (pv 0) pa_nil))) pa_nil)))))
        (pss_one (ps_ret (pe_fn (E := E0) h_law_like.G hgd (hr.mono (by decide)) (by rfl) h_law_like.gm h_law_like.kp h_law_like.b (pa_cons (pv 7) (pa_cons (pe_lst (pa_cons (pe_fn (E := E0) h_law_fraction.G hgd (hr.mono (by decide)) (by rfl) h_law_fraction.gm h_law_fraction.kp h_law_fraction.b (pa_cons (pe_op op_add (pe_op op_mulW (pv 2) (pv 5)) (pe_op op_mulW (pv 4) (pv 3))) (pa_cons (pe_op op_mulW (pe_op op_mulW pe_int (pv 3)) (pv 5)) pa_nil))) (pa_cons (pe_fn (E := E0) h_law_sign.G hgd (hr.mono (by decide)) (by rfl) h_law_sign.gm h_law_sign.kp h_law_sign.b (pa_cons (pe_op op_sub (pe_op op_mulW (pv 2) (pv 5)) (pe_op op_mulW (pv 4) (pv 3))) pa_nil)) (pa_cons pe_int pa_nil)))) pa_nil)))))))))))), ?_⟩
  rintro ⟨⟨a, b⟩, ⟨c, d⟩⟩ ⟨k1, k2⟩
  have o1 := okQ_P k1
  have o2 := okQ_P k2
  have opp : okPP ((a, b), (c, d)) := ⟨o1, o2⟩
  obtain ⟨ha, hb, hb0, _⟩ := k1
  obtain ⟨hc, hd, hd0, _⟩ := k2
  have ha : a.natAbs < 2 ^ 400 := ha
  have hb : b.natAbs < 2 ^ 400 := hb
  have hc : c.natAbs < 2 ^ 400 := hc
  have hd : d.natAbs < 2 ^ 400 := hd
  have hb0 : b ≠ 0 := by have : 0 < b := hb0; omega
  have hd0 : d ≠ 0 := by have : 0 < d := hd0; omega
  have h2 : ((2 : Int)).natAbs < 2 ^ 2 := by decide
  have LL : LamL (tabL K TT) TT := lamL_t
  have n1 : ∀ i j : Int, p2 i j ≠ mark := fun i j z => by cases z
  show SG (tabL K TT) 0 _ [some (p2 a b), some (p2 c d), none, none, none, none, none, none] _ (fun x => x = .bool true)
  refine sq_tg (eg_var (i := 0) rfl) (n1 _ _) tg_two (sq_tg (eg_var (i := 1) rfl) (n1 _ _) tg_two ?_)
  show SG (tabL K TT) 0 _ [some (p2 a b), some (p2 c d), some (.int a), some (.int b), some (.int c), some (.int d), none, none] _ (fun x => x = .bool true)
  have e1 : ∀ {Γ : List (Option PyData)}, Γ[2]? = some (some (.int a)) → Γ[5]? = some (some (.int d)) → Γ[4]? = some (some (.int c)) → Γ[3]? = some (some (.int b)) → EvD (tabL K TT) (tOp (rI0 fun i j => .int (i + j)) (tOp (rI CMulW fun i j => .int (i * j)) (tVar 2) (tVar 5)) (tOp (rI CMulW fun i j => .int (i * j)) (tVar 4) (tVar 3))) Γ (.int (a * d + c * b)) := fun x2 x5 x4 x3 => eg_add (eg_mul (eg_var x2) (eg_var x5) (mw ha hd)) (eg_mul (eg_var x4) (eg_var x3) (mw hc hb))
  have e2 : ∀ {Γ : List (Option PyData)}, Γ[2]? = some (some (.int a)) → Γ[5]? = some (some (.int d)) → Γ[4]? = some (some (.int c)) → Γ[3]? = some (some (.int b)) → EvD (tabL K TT) (tOp (rI0 fun i j => .int (i - j)) (tOp (rI CMulW fun i j => .int (i * j)) (tVar 2) (tVar 5)) (tOp (rI CMulW fun i j => .int (i * j)) (tVar 4) (tVar 3))) Γ (.int (a * d - c * b)) := fun x2 x5 x4 x3 => eg_sub (eg_mul (eg_var x2) (eg_var x5) (mw ha hd)) (eg_mul (eg_var x4) (eg_var x3) (mw hc hb))
  have ba := add_lt (mul_lt ha hd) (mul_lt hc hb)
  have bm := sub_lt (mul_lt ha hd) (mul_lt hc hb)
  have bt := mul_lt ha hc
  have bd := mul_lt hb hd
  have hbd := Int.mul_ne_zero hb0 hd0
  refine sq_asg (i := 6) (d := .list [lowD (a * d + c * b) (b * d), lowD (a * d - c * b) (b * d), lowD (a * c) (b * d)]) (eg_lst (ea_cons (eg_frac (ea_cons (e1 rfl rfl rfl rfl) (ea_cons (eg_mul (eg_var (i := 3) rfl) (eg_var (i := 5) rfl) (mw hb hd)) ea_nil)) hbd (le_pow bd)) (ea_cons (eg_frac (ea_cons (e2 rfl rfl rfl rfl) (ea_cons (eg_mul (eg_var (i := 3) rfl) (eg_var (i := 5) rfl) (mw hb hd)) ea_nil)) hbd (le_pow bd)) (ea_cons (eg_frac (ea_cons (eg_mul (eg_var (i := 2) rfl) (eg_var (i := 4) rfl) (mw ha hc)) (ea_cons (eg_mul (eg_var (i := 3) rfl) (eg_var (i := 5) rfl) (mw hb hd)) ea_nil)) hbd (le_pow bd)) ea_nil)))) ?_
  have sh1 : Sh (.list [lowD (a * d + c * b) (b * d), lowD (a * d - c * b) (b * d), lowD (a * c) (b * d)]) := sh_of (b := 2) (k := 1) (m := 3) (fun x hx => by
    simp only [List.mem_cons, List.not_mem_nil, or_false] at hx
    rcases hx with rfl | rfl | rfl
    · exact low_shn (le_pow ba) (le_pow bd)
    · exact low_shn (le_pow bm) (le_pow bd)
    · exact low_shn (le_pow bt) (le_pow bd)) (Nat.le_refl 3)
  have cl : ∀ {Γ : List (Option PyData)} {sp : PySem.W.Frag → Sp} {val : PP → PyData}, Γ[0]? = some (some (p2 a b)) → Γ[1]? = some (some (p2 c d)) → sp K = spR K argsP okPP val → EvD (tabL K TT) (tCall (sp K) [] E0 (tCons (tVar 0) (tCons (tVar 1) tNil))) Γ (val ((a, b), (c, d))) := fun x0 x1 e => e ▸ eg_callR (L := tabL K TT) (E := E0) ((a, b), (c, d)) (ea_cons (eg_var x0) (ea_cons (eg_var x1) ea_nil)) opp
  refine sq_if_no (et_is (et_not (et_B (eg_like (L := tabL K TT) (eg_lst (ea_cons (cl (sp := sp_added) rfl rfl rfl) (ea_cons (cl (sp := sp_minus) rfl rfl rfl) (ea_cons (cl (sp := sp_times) rfl rfl rfl) ea_nil)))) (eg_var (i := 6) rfl) sh1 rfl))) rfl) ?_
  -- divided
  have hdv : ∃ D, Sh D ∧ nomk [D, D] = true ∧ D ≠ mark ∧ (∀ {Γ : List (Option PyData)}, Γ[1]? = some (some (p2 c d)) → Γ[2]? = some (some (.int a)) → Γ[5]? = some (some (.int d)) → Γ[4]? = some (some (.int c)) → Γ[3]? = some (some (.int b)) → EvD (tabL K TT) (tIf (tTest (tOp rNe (tVar 4) (tC (.int 0)))) (tLst (tCons (tCall (sp_law_fraction K) [] E0 (tCons (tOp (rI CMulW fun i j => .int (i * j)) (tVar 2) (tVar 5)) (tCons (tOp (rI CMulW fun i j => .int (i * j)) (tVar 3) (tVar 4)) tNil))) tNil)) (tTup (tCons (tC (.str "number")) (tCons (tVar 1) tNil)))) Γ D) ∧
      (∀ {Γ : List (Option PyData)}, Γ[0]? = some (some (p2 a b)) → Γ[1]? = some (some (p2 c d)) → EvD (tabL K TT) (tHd TT (TT1 Ce "number" "value") fun E => tCallS (sp_divided K Ce) (fun _ => E) (tCons (tVar 0) (tCons (tVar 1) tNil))) Γ D) := by
    by_cases hc0 : c = 0
    · refine ⟨.tuple [.str "number", p2 c d], ?_, rfl, (by intro z; cases z), fun x1 x2 x5 x4 x3 => ?_, fun x0 x1 => ?_⟩
      · exact sh_oft (b := 20) (k := 1) (m := 2) (fun x hx => by
          simp only [List.mem_cons, List.not_mem_nil, or_false] at hx
          rcases hx with rfl | rfl
          · exact num_shn
          · exact (p2_shn (le_pow hc) (le_pow hd)).mono) (Nat.le_refl 2)
      · exact eg_if (k := false) (et_is (et_test (eg_neI (eg_var x4) eg_int)) (by rw [hc0]; rfl)) (fun z => by cases z) fun _ => eg_tup (ea_cons eg_str (ea_cons (eg_var x1) ea_nil))
      · exact eg_heardX LL (rz_callX (L := tabL K TT) (args := argsP) (ok := okPP) (res := divX) ((a, b), (c, d)) (ea_cons (eg_var x0) (ea_cons (eg_var x1) ea_nil)) opp (by simp [divX, hc0]))
    · have bn := mul_lt hb hc
      have b2 := mul_lt ha hd
      refine ⟨.list [lowD (a * d) (b * c)], ?_, rfl, (by intro z; cases z), fun x1 x2 x5 x4 x3 => ?_, fun x0 x1 => ?_⟩
      · exact sh_of (b := 2) (k := 1) (m := 1) (fun x hx => by rw [List.mem_singleton.mp hx]; exact low_shn (le_pow b2) (le_pow bn)) (Nat.le_refl 1)
      · exact eg_if (k := true) (et_is (et_test (eg_neI (eg_var x4) eg_int)) (by rw [decide_eq_false hc0]; rfl)) (fun _ => eg_lst (ea_cons (eg_frac (ea_cons (eg_mul (eg_var x2) (eg_var x5) (mw ha hd)) (ea_cons (eg_mul (eg_var x3) (eg_var x4) (mw hb hc)) ea_nil)) (Int.mul_ne_zero hb0 hc0) (le_pow bn)) ea_nil)) fun z => by cases z
      · exact eg_heardV LL (by intro z; cases z) fun E => eg_callXv (L := tabL K TT) (args := argsP) (ok := okPP) (res := divX) ((a, b), (c, d)) (ea_cons (eg_var x0) (ea_cons (eg_var x1) ea_nil)) opp (by simp [divX, hc0])
  obtain ⟨D, hD1, hD2, hD3, hD4, hD5⟩ := hdv
  refine sq_asg (i := 6) (hD4 rfl rfl rfl rfl rfl) (sq_if_no (et_is (et_not (et_B (eg_like (L := tabL K TT) (hD5 rfl rfl) (eg_var (i := 6) rfl) hD1 hD2))) rfl) ?_)
  have bh := mul_lt (mul_lt h2 hb) hd
  have hbh := Int.mul_ne_zero (Int.mul_ne_zero (show (2 : Int) ≠ 0 by decide) hb0) hd0
  have self : EvD (tabL K TT) (tCall (sp_compared K) [] E0 (tCons (tVar 0) (tCons (tVar 0) tNil))) [some (p2 a b), some (p2 c d), some (.int a), some (.int b), some (.int c), some (.int d), some D, none] (.int 0) := (eg_callR (L := tabL K TT) (E := E0) (args := argsP) (ok := okPP) (val := fun p => .int (crossM p).sign) ((a, b), (a, b)) (ea_cons (eg_var (i := 0) rfl) (ea_cons (eg_var (i := 0) rfl) ea_nil)) ⟨o1, o1⟩).to (by
    show PyData.int (a * b - a * b).sign = _
    rw [Int.sub_self]
    rfl)
  refine sq_asg (i := 7) (d := .list [lowD (a * d + c * b) (2 * b * d), .int (a * d - c * b).sign, .int 0]) (eg_lst (ea_cons (cl (sp := sp_halfway) rfl rfl rfl) (ea_cons (cl (sp := sp_compared) rfl rfl rfl) (ea_cons self ea_nil)))) ?_
  have hsg : ∀ i : Int, i.sign.natAbs < 2 ^ 1900 := sign_lt
  have sh3 : Sh (.list [lowD (a * d + c * b) (2 * b * d), .int (a * d - c * b).sign, .int 0]) := sh_of (b := 2) (k := 1) (m := 3) (fun x hx => by
    simp only [List.mem_cons, List.not_mem_nil, or_false] at hx
    rcases hx with rfl | rfl | rfl
    · exact low_shn (le_pow ba) (le_pow bh)
    · exact shn_int (hsg _)
    · exact shn_int (by exact Nat.two_pow_pos _)) (Nat.le_refl 3)
  exact sg_ret (eg_like (L := tabL K TT) (eg_var (i := 7) rfl) (eg_lst (ea_cons (eg_frac (ea_cons (e1 rfl rfl rfl rfl) (ea_cons (eg_mul (eg_mul eg_int (eg_var (i := 3) rfl) (mw h2 hb)) (eg_var (i := 5) rfl) (mw (mul_lt h2 hb) hd)) ea_nil)) hbh (le_pow bh)) (ea_cons (eg_callR (L := tabL K TT) (E := E0) (args := fun i : Int => [.int i]) (ok := fun _ => True) (val := fun i => .int i.sign) (a * d - c * b) (ea_cons (e2 rfl rfl rfl rfl) ea_nil) trivial) (ea_cons eg_int ea_nil)))) sh3 rfl) rfl

end V1
set_option Elab.async false
set_option linter.all false
set_option maxRecDepth 100000
set_option maxHeartbeats 4000000
namespace V1
open PySem PySem.Spec PyProof.Rows L2
variable {P : Program} {w : World} {K : PySem.W.Frag} {mg : Str → Option Value} {base : Heap}

theorem lay_p2 (i j : Int) : SeqAt.shaped (p2 i j) = true := by
  unfold SeqAt.shaped p2
  simp [PyData.canLay0, PyData.canLayAll0, PyData.depth, PyData.depthAll]
def odds (x y : Int) : List PyData := [p2 x y, p2 x (-y), p2 (2 * x) (2 * y), .list [.int x, .int y], .tuple [.int x, .int y, .int 1], .tuple [.int x, .none], .tuple [.int x, .int 0]]
structure Odd (x y : Int) (d : PyData) : Prop where
  nd : d.hasDict = false
  ne : d ≠ mark
  sh : SeqAt.shaped d = true
  eq : (PyData.eqv d (p2 x y) && isTup d) = isFr d
  sn : Shn 20 1 d
theorem isFr_two (i j : Int) : isFr (p2 i j) = (decide (0 < j) && decide (Nat.gcd i.natAbs j.natAbs = 1)) := rfl
theorem eqv_two (i j k l : Int) : PyData.eqv (p2 i j) (p2 k l) = (decide (i = k) && decide (j = l)) := by
  unfold p2
  by_cases h1 : i = k <;> by_cases h2 : j = l <;> simp [PyData.eqv, PyData.eqvAll, h1, h2]
theorem odd_ok {x y : Int} (h : okQ (x, y)) {d : PyData} (hd : d ∈ odds x y) : Odd x y d := by
  obtain ⟨hx, hy, h0, h1⟩ := h
  have hx : x.natAbs < 2 ^ 400 := hx
  have hy : y.natAbs < 2 ^ 400 := hy
  have h0 : 0 < y := h0
  have h1 : Nat.gcd x.natAbs y.natAbs = 1 := h1
  have h2 : ((2 : Int)).natAbs < 2 ^ 2 := by decide
  have one : ∀ i j : Int, i.natAbs < 2 ^ 1900 → j.natAbs < 2 ^ 1900 → (PyData.eqv (p2 i j) (p2 x y)) = isFr (p2 i j) → Odd x y (p2 i j) := fun i j a b c => ⟨rfl, (by intro z; cases z), lay_p2 i j, by rw [c]; exact Bool.and_true _, (p2_shn a b).mono⟩
  simp only [odds, List.mem_cons, List.not_mem_nil, or_false] at hd
  rcases hd with rfl | rfl | rfl | rfl | rfl | rfl | rfl
  · refine one x y (le_pow hx) (le_pow hy) ?_
    rw [eqv_two, isFr_two]
    simp [h0, h1]
  · refine one x (-y) (le_pow hx) (le_pow (by rw [Int.natAbs_neg]; exact hy)) ?_
    rw [eqv_two, isFr_two, decide_eq_false (show ¬ -y = y by omega), decide_eq_false (show ¬ 0 < -y by omega)]
    simp
  · refine one (2 * x) (2 * y) (le_pow (mul_lt h2 hx)) (le_pow (mul_lt h2 hy)) ?_
    rw [eqv_two, isFr_two, decide_eq_false (show ¬ 2 * y = y by omega), decide_eq_false (show ¬ Nat.gcd (2 * x).natAbs (2 * y).natAbs = 1 by
      rw [Int.natAbs_mul, Int.natAbs_mul, Nat.gcd_mul_left, h1]
      decide)]
    simp
  · refine ⟨rfl, (by intro z; cases z), ?_, ?_, (shn_lst (b := 0) (k := 0) (m := 2) (fun d hd => ?_) (by simp)).mono⟩
    · unfold SeqAt.shaped
      simp [PyData.canLay0, PyData.canLayAll0, PyData.depth, PyData.depthAll]
    · show (_ && false) = false
      exact Bool.and_false _
    · simp only [List.mem_cons, List.not_mem_nil, or_false] at hd
      rcases hd with rfl | rfl
      · exact shn_int (le_pow hx)
      · exact shn_int (le_pow hy)
  · refine ⟨rfl, (by intro z; cases z), ?_, ?_, (shn_tup (b := 0) (k := 0) (m := 3) (fun d hd => ?_) (by simp)).mono⟩
    · unfold SeqAt.shaped
      simp [PyData.canLay0, PyData.canLayAll0, PyData.depth, PyData.depthAll]
    · unfold p2 isFr
      simp [PyData.eqv, PyData.eqvAll]
    · simp only [List.mem_cons, List.not_mem_nil, or_false] at hd
      rcases hd with rfl | rfl | rfl
      · exact shn_int (le_pow hx)
      · exact shn_int (le_pow hy)
      · exact shn_int (Nat.one_lt_two_pow (by decide))
  · refine ⟨rfl, (by intro z; cases z), ?_, ?_, (shn_tup (b := 0) (k := 0) (m := 2) (fun d hd => ?_) (by simp)).mono⟩
    · unfold SeqAt.shaped
      simp [PyData.canLay0, PyData.canLayAll0, PyData.depth, PyData.depthAll]
    · unfold p2
      simp [PyData.eqv, PyData.eqvAll, isFr, isIntD]
    · simp only [List.mem_cons, List.not_mem_nil, or_false] at hd
      rcases hd with rfl | rfl
      · exact shn_int (le_pow hx)
      · exact ⟨by decide, by decide, by decide, by decide +kernel, by decide⟩
  · have e : PyData.tuple [.int x, .int 0] = p2 x 0 := rfl
    rw [e]
    refine one x 0 (le_pow hx) (Nat.two_pow_pos _) ?_
    rw [eqv_two, isFr_two, decide_eq_false (show ¬ (0 : Int) = y by omega)]
    simp

abbrev s_law_lowest_right : Stmt := top 45
abbrev n_law_lowest_right : List Str := ["m", "up", "low", "due", "pair", "some", "odd"]
theorem sc_law_lowest_right : FnScope n_law_lowest_right ["m"] (defScope s_law_lowest_right) := ⟨rfl, rfl, rfl, by decide +kernel, rfl, by decide +kernel, by decide +kernel⟩
def sp_law_lowest_right (K : PySem.W.Frag) (TT : List (Addr × Str)) : Sp := spMT K TT 89 (fun _ : Unit => [mark]) (fun _ => True) fun _ d => d = .bool true
theorem ok_law_lowest_right {f : Addr} {fd : FuncData} (T : Bt K mg) (C : Cst K w mg) (D : Df K mg "_law_lowest_right" s_law_lowest_right ["m"] f fd) {TT : List (Addr × Str)} {Ce Ie : Addr} {fe : FuncData} (TN : ExN K mg "NotNumber" "value" Ce Ie fe) {f_law_heard : Addr} {d_law_heard : FuncData} (DH : Df K mg "_law_heard" s_law_heard ["call"] f_law_heard d_law_heard)
    (LT : ∃ c Pt, LamX.TabB base mg c Pt ∧ fd.code = .ref c ∧ (Pt, (("_law_lowest_right" : Str) ++ ".<locals>." ++ "<lambda>")) ∈ TT ∧ ∀ p ∈ TT, p.1 = Pt → p.2 = (("_law_lowest_right" : Str) ++ ".<locals>." ++ "<lambda>"))
    {f_law_integer : Addr} {d_law_integer : FuncData} (h_law_integer : Cal P w K mg base "_law_integer" s_law_integer ["m"] 2 (sp_law_integer K) f_law_integer d_law_integer)
    {f_law_fraction : Addr} {d_law_fraction : FuncData} (h_law_fraction : Cal P w K mg base "_law_fraction" s_law_fraction ["top_so", "bottom_so"] 3 (sp_law_fraction K) f_law_fraction d_law_fraction)
    {f_law_like : Addr} {d_law_like : FuncData} (h_law_like : Cal P w K mg base "_law_like" s_law_like ["told", "due"] 1 (sp_law_like K) f_law_like d_law_like)
    {f_lowest : Addr} {d_lowest : FuncData} (h_lowest : CalX P w K mg base "lowest" s_lowest ["top", "bottom"] 3 (sp_lowest K Ce) f_lowest d_lowest)
    {f_law_pair : Addr} {d_law_pair : FuncData} (h_law_pair : Cal P w K mg base "_law_pair" s_law_pair ["m"] 4 (sp_law_pair K) f_law_pair d_law_pair)
    {f_law_of : Addr} {d_law_of : FuncData} (h_law_of : Cal P w K mg base "_law_of" s_law_of ["m", "some"] 2 (sp_law_of K) f_law_of d_law_of)
    {f_check_fraction : Addr} {d_check_fraction : FuncData} (h_check_fraction : CalX P w K mg base "check_fraction" s_check_fraction ["value"] 3 (sp_check_fraction K Ce) f_check_fraction d_check_fraction) : Cal P w K mg base "_law_lowest_right" s_law_lowest_right ["m"] 11 (sp_law_lowest_right K TT) f fd := by
  refine ok_MT D sc_law_lowest_right (fun _ => rfl) fun cdv A outer s H E ec hgd hr => ?_
  have LP : LamP (cxOf CX0 P w K mg base n_law_lowest_right "_law_lowest_right" (defScope s_law_lowest_right) f cdv A outer s H E).nox TT := by
    obtain ⟨c, Pt, l1, l2, l3, l4⟩ := LT
    exact ⟨⟨c, Pt, l1, ec.symm.trans l2, l3, l4⟩⟩
  refine ⟨_, (pss_cons (ps_asg (pe_tup (pa_cons (pe_fn (E := E0) h_law_integer.G hgd (hr.mono (by decide)) (by rfl) h_law_integer.gm h_law_integer.kp h_law_integer.b (pa_cons (pv 0) pa_nil)) (pa_cons (pe_fn (E := E0) h_law_integer.G hgd (hr.mono (by decide)) (by rfl) h_law_integer.gm h_law_integer.kp h_law_integer.b (pa_cons (pv 0) pa_nil)) pa_nil))) (pg_tup rfl (pgs_cons (pg_name (i := 1) sc_law_lowest_right.nd rfl (Or.inr rfl)) (pgs_cons (pg_name (i := 2) sc_law_lowest_right.nd rfl (Or.inr rfl)) pgs_nil))))
        (pss_cons (ps_set (i := 3) sc_law_lowest_right.nd rfl (Or.inl rfl) (pe_ifExp (pt_cmpR op_ne (pv 2) pe_int (nomark _)) (pe_lst (pa_cons (pe_fn (E := E0) h_law_fraction.G hgd (hr.mono (by decide)) (by rfl) h_law_fraction.gm h_law_fraction.kp h_law_fraction.b (pa_cons (pv 1) (pa_cons (pv 2) pa_nil))) pa_nil)) (pe_tup (pa_cons pe_str (pa_cons pe_int pa_nil)))))
        (pss_cons (ps_if (pt_not (pt_val (pe_fn (E := E0) h_law_like.G hgd (hr.mono (by decide)) (by rfl) h_law_like.gm h_law_like.kp h_law_like.b (pa_cons (pe_heard (T := TT) (TT := TT1 Ce "number" "value") (k := 5) (t := fun E => tCallS (sp_lowest K Ce) (fun _ => E) _) (by rfl) DH.gm DH.F DH.b sc_law_heard rfl (Or.inl rfl) (mkl0 LP (lamN_by (N := n_law_lowest_right) (sc := defScope s_law_lowest_right) (by decide +kernel)) (by rfl) (fun _ _ _ _ _ => by rfl)) (lamN_by (N := n_law_lowest_right) (sc := defScope s_law_lowest_right) (by decide +kernel)) (hr.mono (by decide)) hgd (fun cdv => heard_ok TN _ _ _)
          (fun A outer s2 H2 E f c2 hgd hr => pe_callX (E := fun _ => E) h_lowest.G hgd (hr.mono (by decide)) (by rfl) h_lowest.gm h_lowest.kp h_lowest.b (fun σ => passAt (takes_of rfl rfl rfl rfl) σ) (pa_cons (pv 1) (pa_cons (pv 2) pa_nil)))) (pa_cons (pv 3) pa_nil))))) (pss_one (ps_ret pe_bl)) pss_nil)
        (pss_cons (ps_set (i := 4) sc_law_lowest_right.nd rfl (Or.inl rfl) (pe_fn (E := E0) h_law_pair.G hgd (hr.mono (by decide)) (by rfl) h_law_pair.gm h_law_pair.kp h_law_pair.b (pa_cons (pv 0) pa_nil)))
        (pss_cons (ps_set (i := 5) sc_law_lowest_right.nd rfl (Or.inl rfl) (pe_lst (pa_cons (pv 4) (pa_cons (pe_tup (pa_cons (pe_ix (ix_tupK (K := K) rfl) (pv 4) pe_int (fun _ _ => rfl)) (pa_cons (pe_un un_neg (pe_ix (ix_tupK (K := K) rfl) (pv 4) pe_int (fun _ _ => rfl))) pa_nil))) (pa_cons (pe_tup (pa_cons (pe_op op_mulW pe_int (pe_ix (ix_tupK (K := K) rfl) (pv 4) pe_int (fun _ _ => rfl))) (pa_cons (pe_op op_mulW pe_int (pe_ix (ix_tupK (K := K) rfl) (pv 4) pe_int (fun _ _ => rfl))) pa_nil))) (pa_cons (pe_callTy call_list_of (by rfl) T.list (by decide +kernel) (pa_cons (pv 4) pa_nil)) (pa_cons (pe_op op_catA (pv 4) (pe_tup (pa_cons pe_int pa_nil))) (pa_cons (pe_tup (pa_cons (pe_ix (ix_tupK (K := K) rfl) (pv 4) pe_int (fun _ _ => rfl)) (pa_cons pe_non pa_nil))) (pa_cons (pe_tup (pa_cons (pe_ix (ix_tupK (K := K) rfl) (pv 4) pe_int (fun _ _ => rfl)) (pa_cons pe_int pa_nil))) pa_nil)))))))))
        (pss_cons (ps_set (i := 6) sc_law_lowest_right.nd rfl (Or.inr rfl) (pe_fn (E := E0) h_law_of.G hgd (hr.mono (by decide)) (by rfl) h_law_of.gm h_law_of.kp h_law_of.b (pa_cons (pv 0) (pa_cons (pv 5) pa_nil))))
        (pss_cons (ps_set (i := 3) sc_law_lowest_right.nd rfl (Or.inl rfl) (pe_ifExp (PW.pt (pw_and (pt_cmpR (op_eqD hr.units) (pv 6) (pv 4) (nomark _)) (pw_and1 (pt_val (pe_callB (id := "isinstance") (x := "isinstance") call_isi (by rfl) T.isinstance (by decide +kernel) (pa_cons (pv 6) (pa_cons (pe_bltn (x := "tuple") (v := .ty "tuple") (by rfl) T.tuple (by decide +kernel) rfl) pa_nil))))))) (pe_lst (pa_cons (pv 6) pa_nil)) (pe_tup (pa_cons pe_str (pa_cons (pv 6) pa_nil)))))
        (pss_one (ps_ret (pe_fn (E := E0) h_law_like.G hgd (hr.mono (by decide)) (by rfl) h_law_like.gm h_law_like.kp h_law_like.b (pa_cons (pe_heard (T := TT) (TT := TT1 Ce "number" "value") (k := 5) (t := fun E => tCallS (sp_check_fraction K Ce) (fun _ => E) _) (by rfl) DH.gm DH.F DH.b sc_law_heard rfl (Or.inl rfl) (mkl0 LP (lamN_by (N := n_law_lowest_right) (sc := defScope s_law_lowest_right) (by decide +kernel)) (by rfl) (fun _ _ _ _ _ => by rfl)) (lamN_by (N := n_law_lowest_right) (sc := defScope s_law_lowest_right) (by decide +kernel)) (hr.mono (by decide)) hgd (fun cdv => heard_ok TN _ _ _)
          (fun A outer s2 H2 E f c2 hgd hr => pe_callX (E := fun _ => E) h_check_fraction.G hgd (hr.mono (by decide)) (by rfl) h_check_fraction.gm h_check_fraction.kp h_check_fraction.b (fun σ => passAt (takes_of rfl rfl rfl rfl) σ) (pa_cons (pv 6) pa_nil))) (pa_cons (pv 3) pa_nil)))))))))))), ?_⟩
  rintro L rfl hS LL _ _
  show SG L 89 _ [some mark, none, none, none, none, none, none] _ (fun d => d = .bool true)
  refine SG.mono (a := (22 + (22 + 0)) + 45) (sq_tgG (js := [1, 2]) (P := fun d => ∃ u l : Int, (u.natAbs < 2 ^ 400 ∧ l.natAbs < 2 ^ 400) ∧ d = .tuple [.int u, .int l]) (EvG.mono (eg_tupG (ea2G (eg_callM hS () (ea_cons (eg_var (i := 0) rfl) ea_nil) trivial) (eg_callM hS () (ea_cons (eg_var (i := 0) rfl) ea_nil) trivial)) fun ds ⟨d1, d2, e, ⟨u, hu, e1⟩, l, hl, e2⟩ => by rw [e, e1, e2]; exact ⟨rfl, show 2 ≤ 1000 by decide⟩) (Nat.le_refl _) fun d ⟨ds, ⟨d1, d2, e, ⟨u, hu, e1⟩, l, hl, e2⟩, e3⟩ => ⟨u, l, ⟨hu, hl⟩, by rw [e3, e, e1, e2]⟩) (fun d ⟨u, l, _, e⟩ => by rw [e]; intro z; cases z) ?_) (by decide) (fun _ h => h) fun _ h => h
  rintro _ ⟨u, l, ⟨hu, hl⟩, rfl⟩
  refine ⟨_, tg_two, ?_⟩
  show SG L 45 _ [some mark, some (.int u), some (.int l), none, none, none, none] _ (fun d => d = .bool true)
  have okl : okL (u, l) := ⟨le_pow hu, le_pow hl⟩
  have hdv : ∃ D, Sh D ∧ nomk [D, D] = true ∧ (∀ {Γ : List (Option PyData)}, Γ[1]? = some (some (.int u)) → Γ[2]? = some (some (.int l)) → EvD L (tIf (tTest (tOp rNe (tVar 2) (tC (.int 0)))) (tLst (tCons (tCall (sp_law_fraction L.K) [] E0 (tCons (tVar 1) (tCons (tVar 2) tNil))) tNil)) (tTup (tCons (tC (.str "number")) (tCons (tC (.int 0)) tNil)))) Γ D) ∧
      (∀ {Γ : List (Option PyData)}, Γ[1]? = some (some (.int u)) → Γ[2]? = some (some (.int l)) → EvD L (tHd TT (TT1 Ce "number" "value") fun E => tCallS (sp_lowest L.K Ce) (fun _ => E) (tCons (tVar 1) (tCons (tVar 2) tNil))) Γ D) := by
    by_cases h0 : l = 0
    · refine ⟨.tuple [.str "number", .int 0], ?_, rfl, fun x1 x2 => ?_, fun x1 x2 => ?_⟩
      · exact sh_oft (b := 20) (k := 1) (m := 2) (fun x hx => by
          simp only [List.mem_cons, List.not_mem_nil, or_false] at hx
          rcases hx with rfl | rfl
          · exact num_shn
          · exact shn_int (Nat.two_pow_pos _)) (Nat.le_refl 2)
      · exact eg_if (k := false) (et_is (et_test (eg_neI (eg_var x2) eg_int)) (by rw [h0]; rfl)) (fun z => by cases z) fun _ => eg_tup (ea_cons eg_str (ea_cons eg_int ea_nil))
      · exact eg_heardX LL (rz_callX (L := L) (args := fun p : Int × Int => [.int p.1, .int p.2]) (ok := okL) (res := lowX) (u, l) (ea_cons (eg_var x1) (ea_cons (eg_var x2) ea_nil)) okl (by simp [lowX, h0]))
    · refine ⟨.list [lowD u l], ?_, rfl, fun x1 x2 => ?_, fun x1 x2 => ?_⟩
      · exact sh_of (b := 2) (k := 1) (m := 1) (fun x hx => by rw [List.mem_singleton.mp hx]; exact low_shn (le_pow hu) (le_pow hl)) (Nat.le_refl 1)
      · exact eg_if (k := true) (et_is (et_test (eg_neI (eg_var x2) eg_int)) (by rw [decide_eq_false h0]; rfl)) (fun _ => eg_lst (ea_cons (eg_frac (ea_cons (eg_var x1) (ea_cons (eg_var x2) ea_nil)) h0 (le_pow hl)) ea_nil)) fun z => by cases z
      · exact eg_heardV LL (by intro z; cases z) fun E => eg_callXv (L := L) (args := fun p : Int × Int => [.int p.1, .int p.2]) (ok := okL) (res := lowX) (u, l) (ea_cons (eg_var x1) (ea_cons (eg_var x2) ea_nil)) okl (by simp [lowX, h0])
  obtain ⟨D, hD1, hD2, hD4, hD5⟩ := hdv
  refine sq_asg (i := 3) (hD4 rfl rfl) (sq_if_no (et_is (et_not (et_B (eg_like (L := L) (hD5 rfl rfl) (eg_var (i := 3) rfl) hD1 hD2))) rfl) ?_)
  refine SG.mono (a := 44 + 1) (sq_asgG (P := fun d => ∃ p : Int × Int, okQ p ∧ d = p2 p.1 p.2) (eg_callM hS () (ea_cons (eg_var (i := 0) rfl) ea_nil) trivial) ?_) (by decide) (fun _ h => h) fun _ h => h
  rintro _ ⟨⟨x, y⟩, hq, rfl⟩
  show SG L 1 _ [some mark, some (.int u), some (.int l), some D, some (p2 x y), none, none] _ (fun d => d = .bool true)
  have h2 : ((2 : Int)).natAbs < 2 ^ 2 := by decide
  have i0 : EvD L (tOp (rIxT L.K) (tVar 4) (tC (.int 0))) [some mark, some (.int u), some (.int l), some D, some (p2 x y), none, none] (.int x) := eg_ixT (eg_var (i := 4) rfl) eg_int rfl
  have i1 : EvD L (tOp (rIxT L.K) (tVar 4) (tC (.int 1))) [some mark, some (.int u), some (.int l), some D, some (p2 x y), none, none] (.int y) := eg_ixT (eg_var (i := 4) rfl) eg_int rfl
  refine sq_asg (i := 5) (d := .list (odds x y)) (eg_lst (ds := odds x y) (ea_cons (eg_var (i := 4) rfl) (ea_cons (eg_tup (ea_cons i0 (ea_cons (eg_neg i1) ea_nil))) (ea_cons (eg_tup (ea_cons (eg_mul eg_int i0 (mw h2 hq.1)) (ea_cons (eg_mul eg_int i1 (mw h2 hq.2.1)) ea_nil))) (ea_cons (eg_cb (ea_cons (eg_var (i := 4) rfl) ea_nil) cs_listT) (ea_cons (eg_catA (ds := [.int x, .int y]) (es := [.int 1]) (eg_var (i := 4) rfl) (eg_tup (ea_cons eg_int ea_nil)) (show 2 + 1 ≤ 100000 by decide)) (ea_cons (eg_tup (ea_cons i0 (ea_cons eg_non ea_nil))) (ea_cons (eg_tup (ea_cons i0 (ea_cons eg_int ea_nil))) ea_nil))))))) rfl (by simp [odds])) ?_
  refine SG.mono (a := 1 + 0) (sq_asgG (a := 1) (b := 0) (eg_callM (L := L) (args := fun ds : List PyData => [mark, .list ds]) (ok := fun ds => ds ≠ [] ∧ ds.length ≤ 100) (post := fun ds d => d ∈ ds) hS (odds x y) (ea_cons (eg_var (i := 0) rfl) (ea_cons (eg_var (i := 5) rfl) ea_nil)) ⟨(by intro z; cases z), by simp [odds]⟩) ?_) (by decide) (fun _ h => h) fun _ h => h
  intro o ho
  have O := odd_ok hq ho
  show SG L 0 _ [some mark, some (.int u), some (.int l), some D, some (p2 x y), some (.list (odds x y)), some o] _ (fun d => d = .bool true)
  have no1 := hd_nomk O.nd
  cases hF : isFr o with
  | true =>
    have hc : (PyData.eqv o (p2 x y) && isTup o) = true := O.eq.trans hF
    have hsh : Sh (.list [o]) := sh_of (b := 20) (k := 1) (m := 1) (fun z hz => by rw [List.mem_singleton.mp hz]; exact O.sn) (Nat.le_refl 1)
    refine sq_asg (i := 3) (d := .list [o]) (eg_if (k := true) (et_is (et_andK (et_test (eg_eqD (eg_var (i := 6) rfl) (eg_var (i := 4) rfl) O.ne (by intro z; cases z) O.sh (lay_p2 x y))) fun _ => et_test (eg_isT (eg_var (i := 6) rfl) O.nd)) hc) (fun _ => eg_lst (ea_cons (eg_var (i := 6) rfl) ea_nil) no1) fun z => by cases z) ?_
    exact sg_ret (eg_like (L := L) (eg_heardV LL O.ne fun E => eg_callXv (L := L) (args := fun d : PyData => [d]) (ok := fun d => d.hasDict = false) (res := chkX) o (ea_cons (eg_var (i := 6) rfl) ea_nil) O.nd (by simp [chkX, hF]) no1) (eg_var (i := 3) rfl) hsh rfl) rfl
  | false =>
    have hc : (PyData.eqv o (p2 x y) && isTup o) = false := O.eq.trans hF
    have hsh : Sh (.tuple [.str "number", o]) := sh_oft (b := 20) (k := 1) (m := 2) (fun z hz => by
      simp only [List.mem_cons, List.not_mem_nil, or_false] at hz
      rcases hz with rfl | rfl
      · exact num_shn
      · exact O.sn) (Nat.le_refl 2)
    refine sq_asg (i := 3) (d := .tuple [.str "number", o]) (eg_if (k := false) (et_is (et_andK (et_test (eg_eqD (eg_var (i := 6) rfl) (eg_var (i := 4) rfl) O.ne (by intro z; cases z) O.sh (lay_p2 x y))) fun _ => et_test (eg_isT (eg_var (i := 6) rfl) O.nd)) hc) (fun z => by cases z) fun _ => eg_tup (ea_cons eg_str (ea_cons (eg_var (i := 6) rfl) ea_nil)) no1) ?_
    exact sg_ret (eg_like (L := L) (eg_heardX LL (rz_callX (L := L) (args := fun d : PyData => [d]) (ok := fun d => d.hasDict = false) (res := chkX) o (ea_cons (eg_var (i := 6) rfl) ea_nil) O.nd (by simp [chkX, hF]) no1)) (eg_var (i := 3) rfl) hsh rfl) rfl

end V1
set_option Elab.async false
set_option linter.all false
set_option maxRecDepth 100000
set_option maxHeartbeats 4000000
namespace V1
open PySem PySem.Spec PyProof.Rows L2
variable {P : Program} {w : World} {K : PySem.W.Frag} {mg : Str → Option Value} {base : Heap}

def hL : List PyData := [.none, .int 1, .str "1", .tuple [], .tuple [.int 1], .tuple [.int 1, .int 2, .int 3], .list [.int 1, .int 2], .tuple [.bool true, .int 1], .tuple [.int 1, .bool true], .tuple [.int 0, .int 2], .tuple [.int 0, .int 0], .tuple [.int 4, .int 6], .tuple [.int 1, .int (-1)], .tuple [.str "1", .int 2]]
theorem hL_ok : ∀ d ∈ hL, d.hasDict = false ∧ isFr d = false ∧ Shn 20 1 d := by
  intro d hd
  simp only [hL, List.mem_cons, List.not_mem_nil, or_false] at hd
  rcases hd with rfl | rfl | rfl | rfl | rfl | rfl | rfl | rfl | rfl | rfl | rfl | rfl | rfl | rfl <;> exact ⟨by decide, by decide +kernel, ⟨by decide +kernel, by decide, by decide, by decide +kernel, by decide⟩⟩
theorem low_eq {a b x y : Int} (h : lowA a b = x ∧ lowB a b = y) : lowD a b = p2 x y := by
  unfold lowD
  rw [h.1, h.2]
theorem okP_of {a b : Int} (h : (a.natAbs < 2 ^ 10 ∧ b.natAbs < 2 ^ 10) ∧ b ≠ 0 := by decide) : okP (a, b) := ⟨le_pow h.1.1, le_pow h.1.2, h.2⟩
theorem chk32 : chkX (p2 3 2) = .ok (p2 3 2) := by
  have e : isFr (p2 3 2) = true := by decide +kernel
  simp [chkX, e]
def dueL : List PyData := [p2 0 1, p2 5 6, p2 0 1, p2 3 2, p2 1 2, p2 1 6, p2 1 2, .int (-1)]
theorem due_sh : Sh (.list dueL) := ⟨.inl ⟨_, rfl⟩, by decide, by decide, by decide, by decide +kernel⟩
theorem num0_sh : Sh (.tuple [.str "number", .int 0]) := ⟨.inr ⟨_, rfl⟩, by decide +kernel, by decide, by decide, by decide +kernel⟩

abbrev s_law_hand_right : Stmt := top 46
abbrev n_law_hand_right : List Str := ["odd", "told", "due"]
theorem sc_law_hand_right : FnScope n_law_hand_right [] (defScope s_law_hand_right) := ⟨rfl, rfl, rfl, by decide +kernel, rfl, by decide +kernel, by decide +kernel⟩
def sp_law_hand_right (K : PySem.W.Frag) (TT : List (Addr × Str)) : Sp := spT K TT (fun _ : Unit => []) (fun _ => True) fun _ => .bool true
theorem ok_law_hand_right {f : Addr} {fd : FuncData} (T : Bt K mg) (C : Cst K w mg) (D : Df K mg "_law_hand_right" s_law_hand_right [] f fd) {TT : List (Addr × Str)} {Ce Ie : Addr} {fe : FuncData} (TN : ExN K mg "NotNumber" "value" Ce Ie fe) {f_law_heard : Addr} {d_law_heard : FuncData} (DH : Df K mg "_law_heard" s_law_heard ["call"] f_law_heard d_law_heard)
    (LT : ∃ c Pt, LamX.TabB base mg c Pt ∧ fd.code = .ref c ∧ (Pt, (("_law_hand_right" : Str) ++ ".<locals>." ++ "<lambda>")) ∈ TT ∧ ∀ p ∈ TT, p.1 = Pt → p.2 = (("_law_hand_right" : Str) ++ ".<locals>." ++ "<lambda>"))
    {f_law_like : Addr} {d_law_like : FuncData} (h_law_like : Cal P w K mg base "_law_like" s_law_like ["told", "due"] 1 (sp_law_like K) f_law_like d_law_like)
    {f_check_fraction : Addr} {d_check_fraction : FuncData} (h_check_fraction : CalX P w K mg base "check_fraction" s_check_fraction ["value"] 3 (sp_check_fraction K Ce) f_check_fraction d_check_fraction)
    {f_minus : Addr} {d_minus : FuncData} (h_minus : Cal P w K mg base "minus" s_minus ["one", "other"] 4 (sp_minus K) f_minus d_minus)
    {f_added : Addr} {d_added : FuncData} (h_added : Cal P w K mg base "added" s_added ["one", "other"] 4 (sp_added K) f_added d_added)
    {f_lowest : Addr} {d_lowest : FuncData} (h_lowest : CalX P w K mg base "lowest" s_lowest ["top", "bottom"] 3 (sp_lowest K Ce) f_lowest d_lowest)
    {f_halfway : Addr} {d_halfway : FuncData} (h_halfway : Cal P w K mg base "halfway" s_halfway ["one", "other"] 4 (sp_halfway K) f_halfway d_halfway)
    {f_divided : Addr} {d_divided : FuncData} (h_divided : CalX P w K mg base "divided" s_divided ["one", "other"] 4 (sp_divided K Ce) f_divided d_divided)
    {f_times : Addr} {d_times : FuncData} (h_times : Cal P w K mg base "times" s_times ["one", "other"] 4 (sp_times K) f_times d_times)
    {f_compared : Addr} {d_compared : FuncData} (h_compared : Cal P w K mg base "compared" s_compared ["one", "other"] 2 (sp_compared K) f_compared d_compared) : Cal P w K mg base "_law_hand_right" s_law_hand_right [] 11 (sp_law_hand_right K TT) f fd := by
  have kb_added_one_other := KB_added_one_other h_added.F
  have kb_check_fraction_value := KB_check_fraction_value h_check_fraction.F
  have kb_compared_other_one := KB_compared_other_one h_compared.F
  have kb_divided_one_other := KB_divided_one_other h_divided.F
  have kb_halfway_one_other := KB_halfway_one_other h_halfway.F
  have kb_lowest_top_bottom := KB_lowest_top_bottom h_lowest.F
  have kb_minus_other_one := KB_minus_other_one h_minus.F
  have kb_times_other_one := KB_times_other_one h_times.F
  refine ok_T D sc_law_hand_right (fun _ => rfl) fun cdv A outer s H E ec hgd hr => ?_
  have LP : LamP (cxOf CX0 P w K mg base n_law_hand_right "_law_hand_right" (defScope s_law_hand_right) f cdv A outer s H E).nox TT := by
    obtain ⟨c, Pt, l1, l2, l3, l4⟩ := LT
    exact ⟨⟨c, Pt, l1, ec.symm.trans l2, l3, l4⟩⟩
  refine ⟨_, (pss_cons (ps_for PassesOwn.never rfl (pi_tup (pe_tup (pa_cons pe_non (pa_cons pe_int (pa_cons pe_str (pa_cons (pe_tup pa_nil) (pa_cons (pe_tup (pa_cons pe_int pa_nil)) (pa_cons (pe_tup (pa_cons pe_int (pa_cons pe_int (pa_cons pe_int pa_nil)))) (pa_cons (pe_lst (pa_cons pe_int (pa_cons pe_int pa_nil))) (pa_cons (pe_tup (pa_cons pe_bl (pa_cons pe_int pa_nil))) (pa_cons (pe_tup (pa_cons pe_int (pa_cons pe_bl pa_nil))) (pa_cons (pe_tup (pa_cons pe_int (pa_cons pe_int pa_nil))) (pa_cons (pe_tup (pa_cons pe_int (pa_cons pe_int pa_nil))) (pa_cons (pe_tup (pa_cons pe_int (pa_cons pe_int pa_nil))) (pa_cons (pe_tup (pa_cons pe_int (pa_cons (pe_un un_neg pe_int) pa_nil))) (pa_cons (pe_tup (pa_cons pe_str (pa_cons pe_int pa_nil))) pa_nil)))))))))))))))) (pg_name (i := 0) sc_law_hand_right.nd rfl (Or.inr rfl))
        (pss_one (ps_if (pt_not (pt_val (pe_fn (E := E0) h_law_like.G hgd (hr.mono (by decide)) (by rfl) h_law_like.gm h_law_like.kp h_law_like.b (pa_cons (pe_heard (T := TT) (TT := TT1 Ce "number" "value") (k := 5) (t := fun E => tCallS (sp_check_fraction K Ce) (fun _ => E) _) (by rfl) DH.gm DH.F DH.b sc_law_heard rfl (Or.inl rfl) (mkl0 LP (lamN_by (N := n_law_hand_right) (sc := defScope s_law_hand_right) (by decide +kernel)) (by rfl) (fun _ _ _ _ _ => by rfl)) (lamN_by (N := n_law_hand_right) (sc := defScope s_law_hand_right) (by decide +kernel)) (hr.mono (by decide)) hgd (fun cdv => heard_ok TN _ _ _)
          (fun A outer s2 H2 E f c2 hgd hr => pe_callX (E := fun _ => E) h_check_fraction.G hgd (hr.mono (by decide)) (by rfl) h_check_fraction.gm h_check_fraction.kp h_check_fraction.b (fun σ => passAt (takes_of rfl rfl rfl rfl) σ) (pa_cons (pv 0) pa_nil))) (pa_cons (pe_tup (pa_cons pe_str (pa_cons (pv 0) pa_nil))) pa_nil))))) (pss_one (ps_ret pe_bl)) pss_nil)))
        (pss_cons (ps_set (i := 1) sc_law_hand_right.nd rfl (Or.inl rfl) (pe_lst (pa_cons (pe_callXk h_lowest.G hgd (hr.mono (by decide)) (by rfl) h_lowest.gm h_lowest.kp kb_lowest_top_bottom (pk_cons pe_int (pk_cons (pe_un un_neg pe_int) pk_nil))) (pa_cons (pe_fnk (E := E0) h_added.G hgd (hr.mono (by decide)) (by rfl) h_added.gm h_added.kp kb_added_one_other (pk_cons (pe_tup (pa_cons pe_int (pa_cons pe_int pa_nil))) (pk_cons (pe_tup (pa_cons pe_int (pa_cons pe_int pa_nil))) pk_nil))) (pa_cons (pe_fnk (E := E0) h_minus.G hgd (hr.mono (by decide)) (by rfl) h_minus.gm h_minus.kp kb_minus_other_one (pk_cons (pe_tup (pa_cons pe_int (pa_cons pe_int pa_nil))) (pk_cons (pe_tup (pa_cons pe_int (pa_cons pe_int pa_nil))) pk_nil))) (pa_cons (pe_callXk h_check_fraction.G hgd (hr.mono (by decide)) (by rfl) h_check_fraction.gm h_check_fraction.kp kb_check_fraction_value (pk_cons (pe_tup (pa_cons pe_int (pa_cons pe_int pa_nil))) pk_nil)) pa_nil))))))
        (pss_cons (ps_set (i := 1) sc_law_hand_right.nd rfl (Or.inl rfl) (pe_op op_cat (pv 1) (pe_lst (pa_cons (pe_fnk (E := E0) h_times.G hgd (hr.mono (by decide)) (by rfl) h_times.gm h_times.kp kb_times_other_one (pk_cons (pe_tup (pa_cons pe_int (pa_cons pe_int pa_nil))) (pk_cons (pe_tup (pa_cons pe_int (pa_cons pe_int pa_nil))) pk_nil))) (pa_cons (pe_callXk h_divided.G hgd (hr.mono (by decide)) (by rfl) h_divided.gm h_divided.kp kb_divided_one_other (pk_cons (pe_tup (pa_cons pe_int (pa_cons pe_int pa_nil))) (pk_cons (pe_tup (pa_cons pe_int (pa_cons pe_int pa_nil))) pk_nil))) (pa_cons (pe_fnk (E := E0) h_halfway.G hgd (hr.mono (by decide)) (by rfl) h_halfway.gm h_halfway.kp kb_halfway_one_other (pk_cons (pe_tup (pa_cons pe_int (pa_cons pe_int pa_nil))) (pk_cons (pe_tup (pa_cons pe_int (pa_cons pe_int pa_nil))) pk_nil))) pa_nil))))))
        (pss_cons (ps_expr (pe_bm PySem.F.plainAttrs_list PySem.F.slot_list_append PySem.F.type_list_append mt_append (pv 1) (pa_cons (pe_fnk (E := E0) h_compared.G hgd (hr.mono (by decide)) (by rfl) h_compared.gm h_compared.kp kb_compared_other_one (pk_cons (pe_tup (pa_cons pe_int (pa_cons pe_int pa_nil))) (pk_cons (pe_tup (pa_cons pe_int (pa_cons pe_int pa_nil))) pk_nil))) pa_nil)))
        (pss_cons (ps_set (i := 2) sc_law_hand_right.nd rfl (Or.inl rfl) (pe_lst (pa_cons (pe_tup (pa_cons pe_int (pa_cons pe_int pa_nil))) (pa_cons (pe_tup (pa_cons pe_int (pa_cons pe_int pa_nil))) (pa_cons (pe_tup (pa_cons pe_int (pa_cons pe_int pa_nil))) (pa_cons (pe_tup (pa_cons pe_int (pa_cons pe_int pa_nil))) (pa_cons (pe_tup (pa_cons pe_int (pa_cons pe_int pa_nil))) (pa_cons (pe_tup (pa_cons pe_int (pa_cons pe_int pa_nil))) (pa_cons (pe_tup (pa_cons pe_int (pa_cons pe_int pa_nil))) (pa_cons (pe_un un_neg pe_int) pa_nil))))))))))
        (pss_one (ps_ret (pe_and (pe_fn (E := E0) h_law_like.G hgd (hr.mono (by decide)) (by rfl) h_law_like.gm h_law_like.kp h_law_like.b (pa_cons (pv 1) (pa_cons (pv 2) pa_nil))) (pe_one (pe_fn (E := E0) h_law_like.G hgd (hr.mono (by decide)) (by rfl) h_law_like.gm h_law_like.kp h_law_like.b (pa_cons (pe_heard (T := TT) (TT := TT1 Ce "number" "value") (k := 5) (t := fun E => tCallS (sp_lowest K Ce) (fun _ => E) _) (by rfl) DH.gm DH.F DH.b sc_law_heard rfl (Or.inl rfl) (mkl0 LP (lamN_by (N := n_law_hand_right) (sc := defScope s_law_hand_right) (by decide +kernel)) (by rfl) (fun _ _ _ _ _ => by rfl)) (lamN_by (N := n_law_hand_right) (sc := defScope s_law_hand_right) (by decide +kernel)) (hr.mono (by decide)) hgd (fun cdv => heard_ok TN _ _ _)
          (fun A outer s2 H2 E f c2 hgd hr => pe_callX (E := fun _ => E) h_lowest.G hgd (hr.mono (by decide)) (by rfl) h_lowest.gm h_lowest.kp h_lowest.b (fun σ => passAt (takes_of rfl rfl rfl rfl) σ) (pa_cons pe_int (pa_cons pe_int pa_nil)))) (pa_cons (pe_tup (pa_cons pe_str (pa_cons pe_int pa_nil))) pa_nil)))))))))))), ?_⟩
  rintro _ _
  have LL : LamL (tabL K TT) TT := lamL_t
  show SG (tabL K TT) 0 _ [none, none, none] _ (fun x => x = .bool true)
  refine sg_seq (N1 := fun G => ∃ x, G = [x, none, none]) (sg_for (js := [0]) (items := hL) (fun _ G => ∃ x, G = [x, none, none]) (wk_tup (eg_tup (ds := hL) (ea_cons eg_non (ea_cons eg_int (ea_cons eg_str (ea_cons (eg_tup ea_nil) (ea_cons (eg_tup (ea_cons eg_int ea_nil)) (ea_cons (eg_tup (ea_cons eg_int (ea_cons eg_int (ea_cons eg_int ea_nil)))) (ea_cons (eg_lst (ea_cons eg_int (ea_cons eg_int ea_nil))) (ea_cons (eg_tup (ea_cons eg_bl (ea_cons eg_int ea_nil))) (ea_cons (eg_tup (ea_cons eg_int (ea_cons eg_bl ea_nil))) (ea_cons (eg_tup (ea_cons eg_int (ea_cons eg_int ea_nil))) (ea_cons (eg_tup (ea_cons eg_int (ea_cons eg_int ea_nil))) (ea_cons (eg_tup (ea_cons eg_int (ea_cons eg_int ea_nil))) (ea_cons (eg_tup (ea_cons eg_int (ea_cons (eg_neg eg_int) ea_nil))) (ea_cons (eg_tup (ea_cons eg_str (ea_cons eg_int ea_nil))) ea_nil)))))))))))))) rfl (by simp [hL]))) ⟨none, rfl⟩ ?_ fun G h => h) ?_
  · rintro i d G hd ⟨x, rfl⟩
    obtain ⟨h1, h2, h3⟩ := hL_ok d (List.mem_of_getElem? hd)
    refine ⟨_, tg_name (j := 0), ?_⟩
    show SG (tabL K TT) 0 _ [some d, none, none] _ _
    have hsh : Sh (.tuple [.str "number", d]) := sh_oft (b := 20) (k := 1) (m := 2) (fun z hz => by
      simp only [List.mem_cons, List.not_mem_nil, or_false] at hz
      rcases hz with rfl | rfl
      · exact num_shn
      · exact h3) (Nat.le_refl 2)
    exact sg_if (et_is (et_not (et_B (eg_like (L := tabL K TT) (eg_heardX LL (rz_callX (L := tabL K TT) (args := fun d : PyData => [d]) (ok := fun d => d.hasDict = false) (res := chkX) d (ea_cons (eg_var (i := 0) rfl) ea_nil) h1 (by simp [chkX, h2]) (hd_nomk h1))) (eg_tup (ea_cons eg_str (ea_cons (eg_var (i := 0) rfl) ea_nil)) (hd_nomk h1)) hsh rfl))) rfl) (fun z => by cases z) fun _ => sg_next ⟨_, rfl⟩
  rintro G ⟨x, rfl⟩
  have tp : ∀ {Γ : List (Option PyData)} (i j : Int), EvD (tabL K TT) (tTup (tCons (tC (.int i)) (tCons (tC (.int j)) tNil))) Γ (p2 i j) := fun i j => eg_tup (ea_cons eg_int (ea_cons eg_int ea_nil))
  have two : ∀ {Γ : List (Option PyData)} (a b c d : Int), EaD (tabL K TT) (tCons (tTup (tCons (tC (.int a)) (tCons (tC (.int b)) tNil))) (tCons (tTup (tCons (tC (.int c)) (tCons (tC (.int d)) tNil))) tNil)) Γ [p2 a b, p2 c d] := fun a b c d => ea_cons (tp a b) (ea_cons (tp c d) ea_nil)
  refine sq_asg (i := 1) (d := .list [p2 0 1, p2 5 6, p2 0 1, p2 3 2]) (eg_lst (ds := [p2 0 1, p2 5 6, p2 0 1, p2 3 2]) (ea_cons ((eg_callXvK (L := tabL K TT) (args := fun p : Int × Int => [.int p.1, .int p.2]) (ok := okL) (res := lowX) ((0, -7) : Int × Int) (ds := [.int 0, .int (-7)]) (ea_cons eg_int (ea_cons (eg_neg eg_int) ea_nil)) (fun zs h => gk2 zs h) ⟨le_pow (a := 10) (by decide), le_pow (a := 10) (by decide)⟩ (d := lowD 0 (-7)) rfl).to (low_eq (by decide +kernel)))
    (ea_cons ((eg_callRK (L := tabL K TT) (args := argsP) (ok := okPP) (val := fun p => lowD (crossA p) (p.1.2 * p.2.2)) (((1, 2), (1, 3)) : PP) (two 1 2 1 3) (fun zs h => gk2 zs h) ⟨okP_of, okP_of⟩).to (low_eq (by decide +kernel)))
    (ea_cons ((eg_callRK (L := tabL K TT) (args := argsP) (ok := okPP) (val := fun p => lowD (crossM p) (p.1.2 * p.2.2)) (((1, 2), (1, 2)) : PP) (two 1 2 1 2) (fun zs h => gk2r zs h) ⟨okP_of, okP_of⟩).to (low_eq (by decide +kernel)))
    (ea_cons (eg_callXvK (L := tabL K TT) (args := fun d : PyData => [d]) (ok := fun d => d.hasDict = false) (res := chkX) (p2 3 2) (ds := [p2 3 2]) (ea_cons (tp 3 2) ea_nil) (fun zs h => gk1 zs h) rfl (d := p2 3 2) chk32) ea_nil)))) rfl (show 4 ≤ 1000 by decide)) ?_
  refine sg_app1 (L := tabL K TT) (j := 1) (ds0 := [p2 0 1, p2 5 6, p2 0 1, p2 3 2, p2 1 2, p2 1 6, p2 1 2]) (e := .int (-1)) (show 1 < 3 by decide) (evl_cat (ds := [p2 0 1, p2 5 6, p2 0 1, p2 3 2]) (es := [p2 1 2, p2 1 6, p2 1 2]) (eg_var (i := 1) rfl) (eg_lst (ds := [p2 1 2, p2 1 6, p2 1 2]) (ea_cons ((eg_callRK (L := tabL K TT) (args := argsP) (ok := okPP) (val := fun p => lowD (p.1.1 * p.2.1) (p.1.2 * p.2.2)) (((3, 4), (2, 3)) : PP) (two 2 3 3 4) (fun zs h => gk2r zs h) ⟨okP_of, okP_of⟩).to (low_eq (by decide +kernel)))
    (ea_cons ((eg_callXvK (L := tabL K TT) (args := argsP) (ok := okPP) (res := divX) (((1, 2), (3, 1)) : PP) (two 1 2 3 1) (fun zs h => gk2 zs h) ⟨okP_of, okP_of⟩ (d := lowD (1 * 1) (2 * 3)) rfl).to (low_eq (by decide +kernel)))
    (ea_cons ((eg_callRK (L := tabL K TT) (args := argsP) (ok := okPP) (val := fun p => lowD (crossA p) (2 * p.1.2 * p.2.2)) (((0, 1), (1, 1)) : PP) (two 0 1 1 1) (fun zs h => gk2 zs h) ⟨okP_of, okP_of⟩).to (low_eq (by decide +kernel))) ea_nil))) rfl (show 3 ≤ 1000 by decide)) (show 4 + 3 ≤ 100000 by decide)) (show 7 ≤ 100000 by decide)
    ((eg_callRK (L := tabL K TT) (args := argsP) (ok := okPP) (val := fun p => .int (crossM p).sign) (((1, 3), (1, 2)) : PP) (two 1 2 1 3) (fun zs h => gk2r zs h) ⟨okP_of, okP_of⟩).to rfl) (by intro z; cases z) ?_
  show SG (tabL K TT) 0 _ [x, some (.list dueL), none] _ (fun x => x = .bool true)
  refine sq_asg (i := 2) (d := .list dueL) (eg_lst (ds := dueL) (ea_cons (tp 0 1) (ea_cons (tp 5 6) (ea_cons (tp 0 1) (ea_cons (tp 3 2) (ea_cons (tp 1 2) (ea_cons (tp 1 6) (ea_cons (tp 1 2) (ea_cons (eg_neg eg_int) ea_nil)))))))) rfl (show 8 ≤ 1000 by decide)) ?_
  exact sg_ret (eg_and (a := true) (b := true) (eg_like (L := tabL K TT) (eg_var (i := 1) rfl) (eg_var (i := 2) rfl) due_sh rfl) (eg_like (L := tabL K TT) (eg_heardX LL (rz_callX (L := tabL K TT) (args := fun p : Int × Int => [.int p.1, .int p.2]) (ok := okL) (res := lowX) ((5, 0) : Int × Int) (ea_cons eg_int (ea_cons eg_int ea_nil)) ⟨le_pow (a := 10) (by decide), le_pow (a := 10) (by decide)⟩ rfl)) (eg_tup (ea_cons eg_str (ea_cons eg_int ea_nil))) num0_sh rfl)) rfl

end V1
set_option Elab.async false
set_option linter.all false
set_option maxRecDepth 100000
set_option maxHeartbeats 4000000
namespace V1
open PySem PySem.Spec PyProof.Rows L2
variable {P : Program} {w : World} {K : PySem.W.Frag} {mg : Str → Option Value} {base : Heap}

abbrev s_law : Stmt := top 49
abbrev n_law : List Str := ["script", "k", "m", "turn"]
theorem sc_law : FnScope n_law ["script"] (defScope s_law) := ⟨rfl, rfl, rfl, by decide +kernel, rfl, by decide +kernel, by decide +kernel⟩
def sp_law (K : PySem.W.Frag) (TT : List (Addr × Str)) : Sp := fun vs H Q _ => ∃ (a : Addr) (sc : List Int), vs = [.ref a] ∧ sc.length ≤ 63 ∧ SqL K H a (sc.map V.int) ∧ LamX.Tabs TT H ∧ ∀ H', Q (.bl true) H'
theorem len_law (TT : List (Addr × Str)) : ∀ vs H Q E, sp_law K TT vs H Q E → vs.length = (["script"] : List Str).length := fun vs H Q E ⟨a, sc, e, _⟩ => by rw [e]; rfl
theorem ok_law {f : Addr} {fd : FuncData} (T : Bt K mg) (C : Cst K w mg) (D : Df K mg "law" s_law ["script"] f fd) {TT : List (Addr × Str)}
    {f_law_errors_right : Addr} {d_law_errors_right : FuncData} (h_law_errors_right : Cal P w K mg base "_law_errors_right" s_law_errors_right [] (4) (sp_law_errors_right K) f_law_errors_right d_law_errors_right)
    {f_law_hand_right : Addr} {d_law_hand_right : FuncData} (h_law_hand_right : Cal P w K mg base "_law_hand_right" s_law_hand_right [] 11 (sp_law_hand_right K TT) f_law_hand_right d_law_hand_right)
    {f_law_begun : Addr} {d_law_begun : FuncData} (h_law_begun : Cal P w K mg base "_law_begun" s_law_begun ["script", "k"] 1 (sp_law_begun K) f_law_begun d_law_begun)
    {f_law_two_right : Addr} {d_law_two_right : FuncData} (h_law_two_right : Cal P w K mg base "_law_two_right" s_law_two_right ["near", "far"] 11 (sp_law_two_right K TT) f_law_two_right d_law_two_right)
    {f_law_pair : Addr} {d_law_pair : FuncData} (h_law_pair : Cal P w K mg base "_law_pair" s_law_pair ["m"] 4 (sp_law_pair K) f_law_pair d_law_pair)
    {f_law_lowest_right : Addr} {d_law_lowest_right : FuncData} (h_law_lowest_right : Cal P w K mg base "_law_lowest_right" s_law_lowest_right ["m"] 11 (sp_law_lowest_right K TT) f_law_lowest_right d_law_lowest_right) : Cal P w K mg base "law" s_law ["script"] 13 (sp_law K TT) f fd := by
  refine ⟨D.gm, D.F, D.b, okG D.F sc_law (len_law TT) (fun cdv A outer s H vs Q E hgd hr h => ⟨_, (pss_cons (ps_if (PW.pt (pw_or (pt_not (pt_val (pe_fn0 (E := E0) h_law_hand_right.G hgd (hr.mono (by decide)) (by rfl) h_law_hand_right.gm h_law_hand_right.kp h_law_hand_right.b))) (pw_or1 (pt_not (pt_val (pe_fn0 (E := E0) h_law_errors_right.G hgd (hr.mono (by decide)) (by rfl) h_law_errors_right.gm h_law_errors_right.kp h_law_errors_right.b)))))) (pss_one (ps_ret pe_bl)) pss_nil)
        (pss_cons (ps_for PassesOwn.never rfl (pi_range1 (by rfl) T.range (pa_cons (pe_callB (call_max2 rfl) (by rfl) T.max (by decide +kernel) (pa_cons pe_int (pa_cons (pe_callB (call_min2 rfl) (by rfl) T.min (by decide +kernel) (pa_cons (pe_callB call_len_seq (by rfl) T.len PySem.boot_len (pa_cons (pv 0) pa_nil)) (pa_cons pe_int pa_nil))) pa_nil))) pa_nil)) (pg_name (i := 1) sc_law.nd rfl (Or.inl rfl))
        (pss_cons (ps_set (i := 2) sc_law.nd rfl (Or.inl rfl) (pe_fn (E := E0) h_law_begun.G hgd (hr.mono (by decide)) (by rfl) h_law_begun.gm h_law_begun.kp h_law_begun.b (pa_cons (pv 0) (pa_cons (pv 1) pa_nil))))
        (pss_one (ps_for PassesOwn.never rfl (pi_range1 (by rfl) T.range (pa_cons pe_int pa_nil)) (pg_name (i := 3) sc_law.nd rfl (Or.inl rfl))
        (pss_one (ps_if (PW.pt (pw_or (pt_not (pt_val (pe_fn (E := E0) h_law_lowest_right.G hgd (hr.mono (by decide)) (by rfl) h_law_lowest_right.gm h_law_lowest_right.kp h_law_lowest_right.b (pa_cons (pv 2) pa_nil)))) (pw_or1 (pt_not (pt_val (pe_fn (E := E0) h_law_two_right.G hgd (hr.mono (by decide)) (by rfl) h_law_two_right.gm h_law_two_right.kp h_law_two_right.b (pa_cons (pe_fn (E := E0) h_law_pair.G hgd (hr.mono (by decide)) (by rfl) h_law_pair.gm h_law_pair.kp h_law_pair.b (pa_cons (pv 2) pa_nil)) (pa_cons (pe_fn (E := E0) h_law_pair.G hgd (hr.mono (by decide)) (by rfl) h_law_pair.gm h_law_pair.kp h_law_pair.b (pa_cons (pv 2) pa_nil)) pa_nil)))))))) (pss_one (ps_ret pe_bl)) pss_nil))))))
        (pss_one (ps_ret pe_bl)))), ?_⟩)⟩
  obtain ⟨a, sc, rfl, hl, hsc, hT, q⟩ := h
  have he : EnvOk (scL K TT a sc) (fun _ => False) (L2.start n_law [V.ref a]) H [some mark, none, none, none] := ⟨rfl, fun i d e => by
    match i, e with
    | 0, e =>
      have e1 : mark = d := Option.some.inj (Option.some.inj e)
      subst e1
      exact ⟨_, rfl, .inl ⟨rfl, rfl⟩⟩
    | 1, e => cases e
    | 2, e => cases e
    | 3, e => cases e
    | i + 4, e => cases e⟩
  have hi : Inn (fun _ => False) H := fun b z => z.elim
  have LS : LamL (scL K TT a sc) TT := lamL_s
  refine (?run : SG (scL K TT a sc) 0 _ [some mark, none, none, none] (fun _ => False) (fun d => d = .bool true)) (fun _ => False) _ H hi he ⟨hsc, hT⟩ _ (fun σ' H' G r e z => z.elim) fun v d H' r hd e => ?_
  case run =>
    refine sq_if_no (et_is (et_or0 (et_is (et_not (et_B (eg_callT LS (args := fun _ : Unit => []) (ok := fun _ => True) (val := fun _ => .bool true) () ea_nil trivial))) rfl) (et_not (et_B (eg_callR (L := scL K TT a sc) (args := fun _ : Unit => []) (ok := fun _ => True) (val := fun _ => .bool true) () ea_nil trivial)))) rfl) ?_
    refine sg_seq (N1 := fun _ => True) (sg_for (js := [1]) (fun i G => ∃ x1, G = [some mark, x1, none, none]) (wk_rng1 (j := max 2 (min (sc.length : Int) 4)) (ea_cons (eg_cb (ea_cons eg_int (ea_cons (eg_cb (ea_cons (cs_lenS (i := 0) rfl) (ea_cons eg_int ea_nil)) cs_min) ea_nil)) cs_max) ea_nil) (by omega)) ⟨none, rfl⟩ ?_ fun G _ => trivial) fun G _ => sg_ret eg_bl rfl
    rintro i d G hd ⟨x1, rfl⟩
    unfold rngD at hd
    have hi4 : i < 4 := by
      have h1 := (List.getElem?_eq_some_iff.mp hd).1
      rw [List.length_map, List.length_range] at h1
      omega
    rw [List.getElem?_map] at hd
    have hdi : d = .int (i : Int) := by
      cases hr : (List.range (max 2 (min (sc.length : Int) 4)).toNat)[i]? with
      | none => rw [hr] at hd; cases hd
      | some y =>
        rw [hr] at hd
        have e1 : y = i := by
          obtain ⟨h1, h2⟩ := List.getElem?_eq_some_iff.mp hr
          rw [List.getElem_range] at h2
          exact h2.symm
        have hd' : PyData.int (0 + (y : Int)) = d := Option.some.inj hd
        rw [← hd', e1, Int.zero_add]
    subst hdi
    refine ⟨_, tg_name, SG.mono (sg_begunT (K := K) (TT := TT) (k := i) (j := 1) (n := 3 * 177) (by omega) hl (by decide) fun p c ns hns => ?_) (Nat.le_refl _) (fun G e => ⟨none, e⟩) fun d h => h⟩
    have hS : SM (mL K TT p c ns) := ⟨K, TT, p, c, ns, hns, rfl⟩
    have LL : LamL (mL K TT p c ns) TT := lamL_m
    refine sk_for (b := 3) (c := 177) (js := [3]) (fun i G => ∃ x3, G = [none, none, some mark, x3]) (by decide) (wk_rng1 (j := 3) (ea_cons eg_int ea_nil) (by decide)) (by rw [rng_len]; decide) ⟨none, rfl⟩ ?_ ?_
    · rintro i e G he ⟨x3, rfl⟩
      refine ⟨_, tg_name, ?_⟩
      show SK (mL K TT p c ns) 0 (V.ref a) 177 _ [none, none, some mark, some e] _
      have pg := fun (Γ : List (Option PyData)) (h : Γ[2]? = some (some mark)) => eg_callM (L := mL K TT p c ns) (E := E0) (args := fun _ : Unit => [mark]) (ok := fun _ => True) (post := fun _ d => ∃ p : Int × Int, okQ p ∧ d = p2 p.1 p.2) (n := 44) hS () (ea_cons (eg_var (Γ := Γ) (i := 2) h) ea_nil) trivial
      refine sk_ifn (et_orG (a := 89) (b := 88) (et_notG (eg_callMT (L := mL K TT p c ns) hS LL (args := fun _ : Unit => [mark]) (ok := fun _ => True) (post := fun _ d => d = .bool true) () (ea_cons (eg_var (i := 2) rfl) ea_nil) trivial)) (et_notG (EvG.mono (a := 44 + (44 + 0)) (eg_callTG (L := mL K TT p c ns) LL (args := argsP) (ok := okQQ) (val := fun _ => .bool true) (PA := fun ds => ∃ p q : Int × Int, (okQ p ∧ okQ q) ∧ ds = [p2 p.1 p.2, p2 q.1 q.2]) (EaG.mono (ea2G (pg _ rfl) (pg _ rfl)) (Nat.le_refl _) ?_) ?_) (by decide) ?_))) ⟨_, rfl⟩
      · rintro ds ⟨d1, d2, rfl, ⟨p1, h1, rfl⟩, p2', h2, rfl⟩
        exact ⟨p1, p2', ⟨h1, h2⟩, rfl⟩
      · rintro ds ⟨p1, p2', h1, rfl⟩
        exact ⟨rfl, (p1, p2'), h1, rfl⟩
      · rintro d ⟨y, _, _, e⟩
        exact e
    · rintro G ⟨x3, rfl⟩
      rfl
  · subst e
    obtain rfl := hd.bool
    exact q H'

end V1
set_option Elab.async false
set_option linter.all false
set_option maxRecDepth 100000
set_option maxHeartbeats 0
namespace V1
open PySem PySem.Spec PyProof.Rows L2
def topS (i : Nat) : Stmt := PySem.Challenge.pw_everyfont_k00_numbers_and_errors.main.body.getD i (.Pass ⟨0, 0, 0, 0⟩)
def nmS (st : Stmt) : Str := match st with | .FunctionDef n _ _ _ _ _ _ _ _ _ => n | _ => ""
def defAt (i : Nat) : He.DefD := ⟨(nmS (topS i), none), nmS (topS i), nmS (topS i), defArgs (topS i), defBody (topS i), defScope (topS i), [], []⟩
def initH (i : Nat) : Stmt := match topS i with
  | .ClassDef _ _ _ (st :: _) _ _ _ _ _ _ _ => st
  | _ => .Pass ⟨0, 0, 0, 0⟩
def init0 : He.DefD := ⟨("NotNumber", some "__init__"), "__init__", "NotNumber.__init__", defArgs (initH 3), defBody (initH 3), defScope (initH 3), [], []⟩
def init1 : He.DefD := ⟨("NotPoint", some "__init__"), "__init__", "NotPoint.__init__", defArgs (initH 4), defBody (initH 4), defScope (initH 4), [], []⟩
def init2 : He.DefD := ⟨("NotRow", some "__init__"), "__init__", "NotRow.__init__", defArgs (initH 5), defBody (initH 5), defScope (initH 5), [], []⟩
def init3 : He.DefD := ⟨("NotFormula", some "__init__"), "__init__", "NotFormula.__init__", defArgs (initH 6), defBody (initH 6), defScope (initH 6), [], []⟩
def init4 : He.DefD := ⟨("NotFont", some "__init__"), "__init__", "NotFont.__init__", defArgs (initH 7), defBody (initH 7), defScope (initH 7), [], []⟩
def init5 : He.DefD := ⟨("NotFamily", some "__init__"), "__init__", "NotFamily.__init__", defArgs (initH 8), defBody (initH 8), defScope (initH 8), [], []⟩
def init6 : He.DefD := ⟨("NotSystem", some "__init__"), "__init__", "NotSystem.__init__", defArgs (initH 9), defBody (initH 9), defScope (initH 9), [], []⟩
def init7 : He.DefD := ⟨("NotClaim", some "__init__"), "__init__", "NotClaim.__init__", defArgs (initH 10), defBody (initH 10), defScope (initH 10), [], []⟩
def init8 : He.DefD := ⟨("NotPicture", some "__init__"), "__init__", "NotPicture.__init__", defArgs (initH 11), defBody (initH 11), defScope (initH 11), [], []⟩
def init9 : He.DefD := ⟨("NotText", some "__init__"), "__init__", "NotText.__init__", defArgs (initH 12), defBody (initH 12), defScope (initH 12), [], []⟩
def init10 : He.DefD := ⟨("NotPaper", some "__init__"), "__init__", "NotPaper.__init__", defArgs (initH 13), defBody (initH 13), defScope (initH 13), [], []⟩
def init11 : He.DefD := ⟨("NotName", some "__init__"), "__init__", "NotName.__init__", defArgs (initH 14), defBody (initH 14), defScope (initH 14), [], []⟩
def init12 : He.DefD := ⟨("NotGrid", some "__init__"), "__init__", "NotGrid.__init__", defArgs (initH 15), defBody (initH 15), defScope (initH 15), [], []⟩
def init16 : He.DefD := ⟨("TooGreat", some "__init__"), "__init__", "TooGreat.__init__", defArgs (initH 19), defBody (initH 19), defScope (initH 19), [], []⟩
def fnH0 : List He.DefD := [21, 22, 23, 24, 25, 26, 27, 28, 29, 30, 31, 33, 34, 35, 36, 37, 38, 39, 40, 41, 42, 43, 44, 45, 46, 47, 48, 49].map defAt
def fnH : List He.DefD := fnH0 ++ [init0, init1, init2, init3, init4, init5, init6, init7, init8, init9, init10, init11, init12, init16]
def faH : List He.Fa := fnH0.map (fun d => He.Fa.glo d.name) ++ [.free "len", .free "abs", .free "sum", .free "min", .free "max", .free "repr", .free "int", .free "bool", .free "tuple", .free "zip", .free "enumerate", .free "range", .free "isinstance", .free "str", .free "list", .free "all", .free "set", .free "sorted", .free "ValueError", .glo "NotNumber", .glo "NotPoint", .glo "NotRow", .glo "NotFormula", .glo "NotFont", .glo "NotFamily", .glo "NotSystem", .glo "NotClaim", .glo "NotPicture", .glo "NotText", .glo "NotPaper", .glo "NotName", .glo "NotGrid", .glo "Unlike", .glo "Empty", .glo "Endless", .glo "TooGreat", .glo "FontError", .exm "NotNumber" "NotNumber" true, .keep "NotNumber", .keep "NotPoint", .keep "NotRow", .keep "NotFormula", .keep "NotFont", .keep "NotFamily", .keep "NotSystem", .keep "NotClaim", .keep "NotPicture", .keep "NotText", .keep "NotPaper", .keep "NotName", .keep "NotGrid", .keep "Unlike", .keep "Empty", .keep "Endless", .keep "TooGreat"]
abbrev RH : PySem.W.OpenRow := PySem.W.OpenLaw.row PySem.Challenge.rw_everyfont_k00_numbers_and_errors
/-- an own error class that stands beneath ValueError -/
def oexB (K : PySem.W.Frag) (C : Addr) : Bool := match K.lookup C with
  | some ⟨.type "type", _, .cls cd, sl⟩ => (match cd.mro, sl.toList with
    | .ref C' :: bm, [_, _, _, _, some (.builtin n), _] => C' == C && n == "ValueError.__new__" && !cd.hasDel && cd.hasDict && PySem.HandSPX.refsVE bm
    | _, _ => false)
  | _ => false
def obsE (K : PySem.W.Frag) (fld : Str) (C fI : Addr) : Bool := oexB K C && (He.eqO (PySem.W.findIn K (.ref C) "__setattr__") (some (some (.builtin "object.__setattr__"))) && (decide (PySem.W.subIn K (.ref C) (.type "BaseException") = some true) && (decide (PySem.W.typeIn K (.ref C) = some (.type "type")) && (He.eqO (PySem.W.findIn K (.ref C) "__init__") (some (some (.ref fI))) && (decide (PySem.W.typeIn K (.ref fI) = some (.type "function")) && (He.eqO (PySem.W.findIn K (.ref C) fld) (some none) && xfB K C))))))
def cAf (K : PySem.W.Frag) : Nat → Addr
  | 0 => He.ga K "NotNumber"
  | 1 => He.ga K "NotPoint"
  | 2 => He.ga K "NotRow"
  | 3 => He.ga K "NotFormula"
  | 4 => He.ga K "NotFont"
  | 5 => He.ga K "NotFamily"
  | 6 => He.ga K "NotSystem"
  | 7 => He.ga K "NotClaim"
  | 8 => He.ga K "NotPicture"
  | 9 => He.ga K "NotText"
  | 10 => He.ga K "NotPaper"
  | 11 => He.ga K "NotName"
  | 12 => He.ga K "NotGrid"
  | 13 => He.ga K "Unlike"
  | 14 => He.ga K "Empty"
  | 15 => He.ga K "Endless"
  | 16 => He.ga K "TooGreat"
  | _ => 0
def fIf (K : PySem.W.Frag) : Nat → Addr := fun i => He.ma K (cAf K i) "__init__"
def isiA (K : PySem.W.Frag) : Bool := He.eqO (PySem.W.specialIn K (.builtin "object.__class__") "__get__") (some (some (.builtin "getset_descriptor.__get__"))) && (decide (PySem.W.takesIn K (.builtin "object.__class__") = some true) && (List.range 17).all fun i => xfB K (cAf K i) && (He.eqO (PySem.W.findIn K (.ref (cAf K i)) "__class__") (some (some (.builtin "object.__class__"))) && decide (PySem.W.mroIn K (cAf K i) (.type "object") = some true)))
def kitA (K : PySem.W.Frag) : Bool := (List.range 17).all fun i => (List.range 17).all fun j => decide (PySem.W.kitOne K (.ref (cAf K i)) (.ref (cAf K j)) = some (i == j))
def kitF (K : PySem.W.Frag) : Bool := (List.range 17).all fun i => decide (PySem.W.kitOne K (.ref (cAf K i)) (.ref (He.ga K "FontError")) = some true) && decide (PySem.W.kitOne K (.ref (cAf K i)) (.type "ValueError") = some true)
def errA (K : PySem.W.Frag) : Bool := obsE K "value" (cAf K 0) (fIf K 0) && (obsE K "place" (cAf K 1) (fIf K 1) && (obsE K "place" (cAf K 2) (fIf K 2) && (obsE K "path" (cAf K 3) (fIf K 3) && (obsE K "name" (cAf K 4) (fIf K 4) && (obsE K "place" (cAf K 5) (fIf K 5) && (obsE K "number" (cAf K 6) (fIf K 6) && (obsE K "path" (cAf K 7) (fIf K 7) && (obsE K "number" (cAf K 8) (fIf K 8) && (obsE K "path" (cAf K 10) (fIf K 10) && (obsE K "name" (cAf K 11) (fIf K 11) && (obsE K "number" (cAf K 12) (fIf K 12) && (obsE K "most" (cAf K 16) (fIf K 16) && (obsE K "line" (cAf K 9) (fIf K 9) && (He.eqO (PySem.W.findIn K (.ref (cAf K 9)) "word") (some none) && (PySem.W.excIn K (cAf K 13) He.veBase "ValueError.__new__" && (PySem.W.excIn K (cAf K 14) He.veBase "ValueError.__new__" && (PySem.W.excIn K (cAf K 15) He.veBase "ValueError.__new__")))))))))))))))))
def tfH : List He.Defn := [("_law_two_right", none), ("_law_lowest_right", none), ("_law_hand_right", none)]
abbrev cL0 (K : PySem.W.Frag) : Addr × Addr := He.cT K ("_law_two_right", none)
abbrev cL1 (K : PySem.W.Frag) : Addr × Addr := He.cT K ("_law_lowest_right", none)
abbrev cL2 (K : PySem.W.Frag) : Addr × Addr := He.cT K ("_law_hand_right", none)
def obsB (K : PySem.W.Frag) : Bool := errA K && (isiA K && (kitA K && (kitF K && (decide (PySem.W.nsIn K mainGlobals "gcd" = some (some (.builtin "math.gcd"))) && (decide ((cL0 K).2 ≠ (cL1 K).2) && (decide ((cL0 K).2 ≠ (cL2 K).2) && decide ((cL1 K).2 ≠ (cL2 K).2)))))))
def hkM : PySem.W.Hook := He.hookX 5 faH fnH [] tfH obsB
def obM (s : PySem.W.SharedT) : He.AlX := He.obsX 5 faH fnH [] tfH obsB (HandSHeadRun.getT s)
theorem obM_eq (s : PySem.W.SharedT) : obM s = hkM.obs s.abs := He.obsX_eq fun a => HandSHeadRun.getT_eq s a
def looseM : List Str := (["__name__", "FontError", "NotNumber", "NotPoint", "NotRow", "NotFormula", "NotFont", "NotFamily", "NotSystem", "NotClaim", "NotPicture", "NotText", "NotPaper", "NotName", "NotGrid", "Unlike", "Empty", "Endless", "TooGreat"] : List Str) ++ (fnH0.map He.DefD.name).filter fun x => x != ("law" : Str)
theorem oexB_ok {K : PySem.W.Frag} {C : Addr} (q : oexB K C = true) : ∃ nm qn N bs bm sn sub ab col dd k0 k1 k2 k3 k5, K.lookup C = some (excClassObj nm qn C N bs bm true sn sub ab col dd k0 k1 k2 k3 k5 "ValueError.__new__") ∧ PySem.HandSPX.refsVE bm = true := by
  unfold oexB at q
  split at q
  · rename_i dd cd sl ho
    split at q
    · rename_i C' bm k0 k1 k2 k3 n k5 hm hs
      simp only [Bool.and_eq_true, beq_iff_eq, Bool.not_eq_true'] at q
      obtain ⟨⟨⟨⟨rfl, rfl⟩, hdel⟩, hdt⟩, ht⟩ := q
      obtain ⟨nm, bs, mro, ns, qn, hd, sn, sub, ab, col, del⟩ := cd
      dsimp only at hm hdel hdt
      subst hm hdel hdt
      have hsl : sl = #[k0, k1, k2, k3, some (.builtin "ValueError.__new__"), k5] := by
        obtain ⟨l⟩ := sl
        simp only at hs
        rw [hs]
      subst hsl
      exact ⟨nm, qn, ns, bs, bm, sn, sub, ab, col, dd, k0, k1, k2, k3, k5, ho, ht⟩
    · cases q
  · cases q
end V1
set_option Elab.async false
set_option linter.all false
set_option maxRecDepth 100000
set_option maxHeartbeats 0
namespace V1
open PySem PySem.W PySem.Spec PyProof.Rows L2
abbrev qM : Program := view RH.prog [0, 49]
theorem runM (w : World) : HandSHeadRun.RunEqI RH qM hkM obM 20000 looseM w := by
  delta HandSHeadRun.RunEqI
  kernel_rfl
end V1
set_option Elab.async false
set_option linter.all false
set_option maxRecDepth 100000
set_option maxHeartbeats 4000000
/-! All defs together. -/
namespace V1
open PySem PySem.Spec PyProof.Rows L2

theorem fun_of {K : PySem.W.Frag} {x qual : Str} {st : Stmt} {f : Addr} {fd : FuncData} (F : FunD K x qual (defArgs st) (defBody st) (defScope st) [] [] f fd) : Fun K x qual st f fd := by
  obtain ⟨oc, od, dV, kV, doc, pm, an, cdv, ct, osl, rfl, lk, hcd, hD, hK⟩ := F.ex
  rcases hD with ⟨_, rfl⟩ | ⟨e, _⟩
  · exact ⟨⟨oc, od, kV, doc, pm, an, cdv, ct, osl, rfl, lk, hcd⟩, F.kp⟩
  · exact absurd rfl e
theorem ns_of {K : PySem.W.Frag} {mg : Str → Option Value} {h : Heap} {x : Str} {v : Value} (X : K.In h) (G : h.Ns mainGlobals mg) (e : PySem.W.nsIn K mainGlobals x = some (some v)) : mg x = some v := PySem.W.mg_of X G e
theorem trip0 : PySem.TriplesOk (#[] : Array Value).toList := trivial
theorem code_of {K : PySem.W.Frag} {x qual : Str} {pa : Arguments} {bd : List Stmt} {sc : Scope} {fd : FuncData} {p : Str × Option Str} (F : FunD K x qual pa bd sc [] [] (He.fAd K p) fd) : fd.code = .ref (He.cT K p).1 := by
  obtain ⟨oc, od, dV, kV, doc, pm, an, cdv, ct, osl, rfl, lk, hcd, _⟩ := F.ex
  obtain ⟨c, e⟩ := He.codeIn_ref hcd
  have h : He.codeOf K p = c := He.codeOf_eq lk e
  show cdv = .ref (He.codeOf K p)
  rw [h]
  exact e
theorem df_of {K : PySem.W.Frag} {mg : Str → Option Value} {h : Heap} {x : Str} {st : Stmt} {ps : List Str} (X : K.In h) (G : h.Ns mainGlobals mg) (c : He.SaysD faH fnH K) (i : Nat) (hd : fnH[i]? = some ⟨(x, none), x, x, defArgs st, defBody st, defScope st, [], []⟩) (hf : faH[i]? = some (.glo x))
    (hb : ∀ (kV doc pm : Value) (an : Option Addr) (cdv ct : Value) (us : List Value), us.length = ps.length → bindArgs (PySem.W.fnOf x x (defArgs st) (defBody st) (defScope st) .none kV doc pm an cdv ct) ⟨us, []⟩ = pure (ps.zip us)) :
    ∃ fd, Df K mg x st ps (He.ga K x) fd ∧ fd.code = .ref (He.cT K (x, none)).1 ∧ ∀ (s : Shared) (us : List Value), us.length = ps.length → BindsTo s fd ⟨us, []⟩ (ps.zip us) := by
  obtain ⟨fd, F⟩ := c.def_ i hd
  exact ⟨fd, ⟨He.glo_ok X G (c.fact i hf), fun_of F, FunD.bindsN F hb⟩, code_of F, FunD.bindsA F hb⟩
theorem bt_of {K : PySem.W.Frag} {mg : Str → Option Value} {h : Heap} (X : K.In h) (G : h.Ns mainGlobals mg) (c2 : He.SaysD faH fnH K) : Bt K mg :=
  ⟨He.free_ok X G (c2.fact 28 (f := .free "len") rfl), He.free_ok X G (c2.fact 29 (f := .free "abs") rfl), He.free_ok X G (c2.fact 30 (f := .free "sum") rfl), He.free_ok X G (c2.fact 31 (f := .free "min") rfl), He.free_ok X G (c2.fact 32 (f := .free "max") rfl), He.free_ok X G (c2.fact 33 (f := .free "repr") rfl), He.free_ok X G (c2.fact 34 (f := .free "int") rfl), He.free_ok X G (c2.fact 35 (f := .free "bool") rfl), He.free_ok X G (c2.fact 36 (f := .free "tuple") rfl), He.free_ok X G (c2.fact 37 (f := .free "zip") rfl), He.free_ok X G (c2.fact 38 (f := .free "enumerate") rfl), He.free_ok X G (c2.fact 39 (f := .free "range") rfl), He.free_ok X G (c2.fact 40 (f := .free "isinstance") rfl), He.free_ok X G (c2.fact 41 (f := .free "str") rfl), He.free_ok X G (c2.fact 42 (f := .free "list") rfl), He.free_ok X G (c2.fact 43 (f := .free "all") rfl), He.free_ok X G (c2.fact 44 (f := .free "set") rfl), He.free_ok X G (c2.fact 45 (f := .free "sorted") rfl)⟩
theorem oex_of {K : PySem.W.Frag} {fld : Str} {C fI : Addr} (kp : PySem.W.keepIn K (.ref C) = true) (ce : obsE K fld C fI = true) : OexC K C ∧ PySem.W.findIn K (.ref C) "__init__" = some (some (.ref fI)) ∧ PySem.W.typeIn K (.ref fI) = some (.type "function") ∧ PySem.W.findIn K (.ref C) fld = some none ∧ XfC K C := by
  obtain ⟨e1, ce⟩ := He.ba ce
  obtain ⟨e2, ce⟩ := He.ba ce
  obtain ⟨e3, ce⟩ := He.ba ce
  obtain ⟨e4, ce⟩ := He.ba ce
  obtain ⟨e5, ce⟩ := He.ba ce
  obtain ⟨e6, ce⟩ := He.ba ce
  obtain ⟨e7, e8⟩ := He.ba ce
  refine ⟨⟨?_, He.eqO_ok e2, of_decide_eq_true e3, of_decide_eq_true e4, kp⟩, He.eqO_ok e5, of_decide_eq_true e6, He.eqO_ok e7, xfB_ok e8⟩
  obtain ⟨nm, qn, N, bs, bm, sn, sub, ab, col, dd, k0, k1, k2, k3, k5, l1, l2⟩ := oexB_ok e1
  exact ⟨nm, qn, N, bs, bm, sn, sub, ab, col, dd, k0, k1, k2, k3, k5, l1, l2⟩
theorem mk_er0 {K : PySem.W.Frag} {mg : Str → Option Value} {h : Heap} (X : K.In h) (G : h.Ns mainGlobals mg) (c2 : He.SaysD faH fnH K) (ce : obsE K "value" (cAf K 0) (fIf K 0) = true) : ∃ fd, Er1 K mg "NotNumber" "value" (cAf K 0) (fIf K 0) fd ∧ ExN K mg "NotNumber" "value" (cAf K 0) (fIf K 0) fd := by
  obtain ⟨fd, F⟩ := c2.def_ 28 (d := init0) rfl
  have F2 : Fun K "__init__" "NotNumber.__init__" (initAt 3) (fIf K 0) fd := fun_of (st := initAt 3) F
  obtain ⟨a1, a2, a3, a4, a5⟩ := oex_of (He.keep_ok (c2.fact 66 (f := .keep "NotNumber") rfl)) ce
  have g := He.glo_ok X G (c2.fact 47 (f := .glo "NotNumber") rfl)
  have b : Binds K fd ["self", "value"] [] := FunD.bindsN (ps := ["self", "value"]) F fun _ _ _ _ _ _ us hl => match us, hl with | [_, _], _ => rfl
  refine ⟨fd, ⟨?e, ⟨g, a1, a2, a3, a4, a5, He.exm_ok (c2.fact 65 (f := .exm "NotNumber" "NotNumber" true) rfl), fun P w base => ok_init3 F2, b⟩⟩⟩
  obtain ⟨oc, od, kV, doc, pm, an, cdv, ct, osl, rfl, _⟩ := F2.ex
  exact ⟨⟨g, a1, a2, a3, fun P w base => ok_init3 F2⟩, a4, kbS rfl fun u v => rfl, kbP rfl fun u v => rfl⟩
theorem mk_er1 {K : PySem.W.Frag} {mg : Str → Option Value} {h : Heap} (X : K.In h) (G : h.Ns mainGlobals mg) (c2 : He.SaysD faH fnH K) (ce : obsE K "place" (cAf K 1) (fIf K 1) = true) : ∃ fd, Er1 K mg "NotPoint" "place" (cAf K 1) (fIf K 1) fd := by
  obtain ⟨fd, F⟩ := c2.def_ 29 (d := init1) rfl
  have F2 : Fun K "__init__" "NotPoint.__init__" (initAt 4) (fIf K 1) fd := fun_of (st := initAt 4) F
  obtain ⟨a1, a2, a3, a4, a5⟩ := oex_of (He.keep_ok (c2.fact 67 (f := .keep "NotPoint") rfl)) ce
  have g := He.glo_ok X G (c2.fact 48 (f := .glo "NotPoint") rfl)
  have b : Binds K fd ["self", "place"] [] := FunD.bindsN (ps := ["self", "place"]) F fun _ _ _ _ _ _ us hl => match us, hl with | [_, _], _ => rfl
  refine ⟨fd, ?e⟩
  obtain ⟨oc, od, kV, doc, pm, an, cdv, ct, osl, rfl, _⟩ := F2.ex
  exact ⟨⟨g, a1, a2, a3, fun P w base => ok_init4 F2⟩, a4, kbS rfl fun u v => rfl, kbP rfl fun u v => rfl⟩
theorem mk_er2 {K : PySem.W.Frag} {mg : Str → Option Value} {h : Heap} (X : K.In h) (G : h.Ns mainGlobals mg) (c2 : He.SaysD faH fnH K) (ce : obsE K "place" (cAf K 2) (fIf K 2) = true) : ∃ fd, Er1 K mg "NotRow" "place" (cAf K 2) (fIf K 2) fd := by
  obtain ⟨fd, F⟩ := c2.def_ 30 (d := init2) rfl
  have F2 : Fun K "__init__" "NotRow.__init__" (initAt 5) (fIf K 2) fd := fun_of (st := initAt 5) F
  obtain ⟨a1, a2, a3, a4, a5⟩ := oex_of (He.keep_ok (c2.fact 68 (f := .keep "NotRow") rfl)) ce
  have g := He.glo_ok X G (c2.fact 49 (f := .glo "NotRow") rfl)
  have b : Binds K fd ["self", "place"] [] := FunD.bindsN (ps := ["self", "place"]) F fun _ _ _ _ _ _ us hl => match us, hl with | [_, _], _ => rfl
  refine ⟨fd, ?e⟩
  obtain ⟨oc, od, kV, doc, pm, an, cdv, ct, osl, rfl, _⟩ := F2.ex
  exact ⟨⟨g, a1, a2, a3, fun P w base => ok_init5 F2⟩, a4, kbS rfl fun u v => rfl, kbP rfl fun u v => rfl⟩
theorem mk_er3 {K : PySem.W.Frag} {mg : Str → Option Value} {h : Heap} (X : K.In h) (G : h.Ns mainGlobals mg) (c2 : He.SaysD faH fnH K) (ce : obsE K "path" (cAf K 3) (fIf K 3) = true) : ∃ fd, Er1 K mg "NotFormula" "path" (cAf K 3) (fIf K 3) fd := by
  obtain ⟨fd, F⟩ := c2.def_ 31 (d := init3) rfl
  have F2 : Fun K "__init__" "NotFormula.__init__" (initAt 6) (fIf K 3) fd := fun_of (st := initAt 6) F
  obtain ⟨a1, a2, a3, a4, a5⟩ := oex_of (He.keep_ok (c2.fact 69 (f := .keep "NotFormula") rfl)) ce
  have g := He.glo_ok X G (c2.fact 50 (f := .glo "NotFormula") rfl)
  have b : Binds K fd ["self", "path"] [] := FunD.bindsN (ps := ["self", "path"]) F fun _ _ _ _ _ _ us hl => match us, hl with | [_, _], _ => rfl
  refine ⟨fd, ?e⟩
  obtain ⟨oc, od, kV, doc, pm, an, cdv, ct, osl, rfl, _⟩ := F2.ex
  exact ⟨⟨g, a1, a2, a3, fun P w base => ok_init6 F2⟩, a4, kbS rfl fun u v => rfl, kbP rfl fun u v => rfl⟩
theorem mk_er4 {K : PySem.W.Frag} {mg : Str → Option Value} {h : Heap} (X : K.In h) (G : h.Ns mainGlobals mg) (c2 : He.SaysD faH fnH K) (ce : obsE K "name" (cAf K 4) (fIf K 4) = true) : ∃ fd, Er1 K mg "NotFont" "name" (cAf K 4) (fIf K 4) fd := by
  obtain ⟨fd, F⟩ := c2.def_ 32 (d := init4) rfl
  have F2 : Fun K "__init__" "NotFont.__init__" (initAt 7) (fIf K 4) fd := fun_of (st := initAt 7) F
  obtain ⟨a1, a2, a3, a4, a5⟩ := oex_of (He.keep_ok (c2.fact 70 (f := .keep "NotFont") rfl)) ce
  have g := He.glo_ok X G (c2.fact 51 (f := .glo "NotFont") rfl)
  have b : Binds K fd ["self", "name"] [] := FunD.bindsN (ps := ["self", "name"]) F fun _ _ _ _ _ _ us hl => match us, hl with | [_, _], _ => rfl
  refine ⟨fd, ?e⟩
  obtain ⟨oc, od, kV, doc, pm, an, cdv, ct, osl, rfl, _⟩ := F2.ex
  exact ⟨⟨g, a1, a2, a3, fun P w base => ok_init7 F2⟩, a4, kbS rfl fun u v => rfl, kbP rfl fun u v => rfl⟩
theorem mk_er5 {K : PySem.W.Frag} {mg : Str → Option Value} {h : Heap} (X : K.In h) (G : h.Ns mainGlobals mg) (c2 : He.SaysD faH fnH K) (ce : obsE K "place" (cAf K 5) (fIf K 5) = true) : ∃ fd, Er1 K mg "NotFamily" "place" (cAf K 5) (fIf K 5) fd := by
  obtain ⟨fd, F⟩ := c2.def_ 33 (d := init5) rfl
  have F2 : Fun K "__init__" "NotFamily.__init__" (initAt 8) (fIf K 5) fd := fun_of (st := initAt 8) F
  obtain ⟨a1, a2, a3, a4, a5⟩ := oex_of (He.keep_ok (c2.fact 71 (f := .keep "NotFamily") rfl)) ce
  have g := He.glo_ok X G (c2.fact 52 (f := .glo "NotFamily") rfl)
  have b : Binds K fd ["self", "place"] [] := FunD.bindsN (ps := ["self", "place"]) F fun _ _ _ _ _ _ us hl => match us, hl with | [_, _], _ => rfl
  refine ⟨fd, ?e⟩
  obtain ⟨oc, od, kV, doc, pm, an, cdv, ct, osl, rfl, _⟩ := F2.ex
  exact ⟨⟨g, a1, a2, a3, fun P w base => ok_init8 F2⟩, a4, kbS rfl fun u v => rfl, kbP rfl fun u v => rfl⟩
theorem mk_er6 {K : PySem.W.Frag} {mg : Str → Option Value} {h : Heap} (X : K.In h) (G : h.Ns mainGlobals mg) (c2 : He.SaysD faH fnH K) (ce : obsE K "number" (cAf K 6) (fIf K 6) = true) : ∃ fd, Er1 K mg "NotSystem" "number" (cAf K 6) (fIf K 6) fd := by
  obtain ⟨fd, F⟩ := c2.def_ 34 (d := init6) rfl
  have F2 : Fun K "__init__" "NotSystem.__init__" (initAt 9) (fIf K 6) fd := fun_of (st := initAt 9) F
  obtain ⟨a1, a2, a3, a4, a5⟩ := oex_of (He.keep_ok (c2.fact 72 (f := .keep "NotSystem") rfl)) ce
  have g := He.glo_ok X G (c2.fact 53 (f := .glo "NotSystem") rfl)
  have b : Binds K fd ["self", "number"] [] := FunD.bindsN (ps := ["self", "number"]) F fun _ _ _ _ _ _ us hl => match us, hl with | [_, _], _ => rfl
  refine ⟨fd, ?e⟩
  obtain ⟨oc, od, kV, doc, pm, an, cdv, ct, osl, rfl, _⟩ := F2.ex
  exact ⟨⟨g, a1, a2, a3, fun P w base => ok_init9 F2⟩, a4, kbS rfl fun u v => rfl, kbP rfl fun u v => rfl⟩
theorem mk_er7 {K : PySem.W.Frag} {mg : Str → Option Value} {h : Heap} (X : K.In h) (G : h.Ns mainGlobals mg) (c2 : He.SaysD faH fnH K) (ce : obsE K "path" (cAf K 7) (fIf K 7) = true) : ∃ fd, Er1 K mg "NotClaim" "path" (cAf K 7) (fIf K 7) fd := by
  obtain ⟨fd, F⟩ := c2.def_ 35 (d := init7) rfl
  have F2 : Fun K "__init__" "NotClaim.__init__" (initAt 10) (fIf K 7) fd := fun_of (st := initAt 10) F
  obtain ⟨a1, a2, a3, a4, a5⟩ := oex_of (He.keep_ok (c2.fact 73 (f := .keep "NotClaim") rfl)) ce
  have g := He.glo_ok X G (c2.fact 54 (f := .glo "NotClaim") rfl)
  have b : Binds K fd ["self", "path"] [] := FunD.bindsN (ps := ["self", "path"]) F fun _ _ _ _ _ _ us hl => match us, hl with | [_, _], _ => rfl
  refine ⟨fd, ?e⟩
  obtain ⟨oc, od, kV, doc, pm, an, cdv, ct, osl, rfl, _⟩ := F2.ex
  exact ⟨⟨g, a1, a2, a3, fun P w base => ok_init10 F2⟩, a4, kbS rfl fun u v => rfl, kbP rfl fun u v => rfl⟩
theorem mk_er8 {K : PySem.W.Frag} {mg : Str → Option Value} {h : Heap} (X : K.In h) (G : h.Ns mainGlobals mg) (c2 : He.SaysD faH fnH K) (ce : obsE K "number" (cAf K 8) (fIf K 8) = true) : ∃ fd, Er1 K mg "NotPicture" "number" (cAf K 8) (fIf K 8) fd := by
  obtain ⟨fd, F⟩ := c2.def_ 36 (d := init8) rfl
  have F2 : Fun K "__init__" "NotPicture.__init__" (initAt 11) (fIf K 8) fd := fun_of (st := initAt 11) F
  obtain ⟨a1, a2, a3, a4, a5⟩ := oex_of (He.keep_ok (c2.fact 74 (f := .keep "NotPicture") rfl)) ce
  have g := He.glo_ok X G (c2.fact 55 (f := .glo "NotPicture") rfl)
  have b : Binds K fd ["self", "number"] [] := FunD.bindsN (ps := ["self", "number"]) F fun _ _ _ _ _ _ us hl => match us, hl with | [_, _], _ => rfl
  refine ⟨fd, ?e⟩
  obtain ⟨oc, od, kV, doc, pm, an, cdv, ct, osl, rfl, _⟩ := F2.ex
  exact ⟨⟨g, a1, a2, a3, fun P w base => ok_init11 F2⟩, a4, kbS rfl fun u v => rfl, kbP rfl fun u v => rfl⟩
theorem mk_er9 {K : PySem.W.Frag} {mg : Str → Option Value} {h : Heap} (X : K.In h) (G : h.Ns mainGlobals mg) (c2 : He.SaysD faH fnH K) (ce : obsE K "line" (cAf K 9) (fIf K 9) = true) (cw : He.eqO (PySem.W.findIn K (.ref (cAf K 9)) "word") (some none) = true) : ∃ fd, Er2 K mg (cAf K 9) (fIf K 9) fd := by
  obtain ⟨fd, F⟩ := c2.def_ 37 (d := init9) rfl
  have F2 : Fun K "__init__" "NotText.__init__" (initAt 12) (fIf K 9) fd := fun_of (st := initAt 12) F
  obtain ⟨a1, a2, a3, a4, a5⟩ := oex_of (He.keep_ok (c2.fact 75 (f := .keep "NotText") rfl)) ce
  refine ⟨fd, ⟨⟨He.glo_ok X G (c2.fact 56 (f := .glo "NotText") rfl), a1, a2, a3, fun P w base => ok_init12 F2⟩, a4, He.eqO_ok cw, ?_⟩⟩
  obtain ⟨oc, od, kV, doc, pm, an, cdv, ct, osl, rfl, _⟩ := F2.ex
  exact kbT rfl fun u a b => rfl
theorem mk_er10 {K : PySem.W.Frag} {mg : Str → Option Value} {h : Heap} (X : K.In h) (G : h.Ns mainGlobals mg) (c2 : He.SaysD faH fnH K) (ce : obsE K "path" (cAf K 10) (fIf K 10) = true) : ∃ fd, Er1 K mg "NotPaper" "path" (cAf K 10) (fIf K 10) fd := by
  obtain ⟨fd, F⟩ := c2.def_ 38 (d := init10) rfl
  have F2 : Fun K "__init__" "NotPaper.__init__" (initAt 13) (fIf K 10) fd := fun_of (st := initAt 13) F
  obtain ⟨a1, a2, a3, a4, a5⟩ := oex_of (He.keep_ok (c2.fact 76 (f := .keep "NotPaper") rfl)) ce
  have g := He.glo_ok X G (c2.fact 57 (f := .glo "NotPaper") rfl)
  have b : Binds K fd ["self", "path"] [] := FunD.bindsN (ps := ["self", "path"]) F fun _ _ _ _ _ _ us hl => match us, hl with | [_, _], _ => rfl
  refine ⟨fd, ?e⟩
  obtain ⟨oc, od, kV, doc, pm, an, cdv, ct, osl, rfl, _⟩ := F2.ex
  exact ⟨⟨g, a1, a2, a3, fun P w base => ok_init13 F2⟩, a4, kbS rfl fun u v => rfl, kbP rfl fun u v => rfl⟩
theorem mk_er11 {K : PySem.W.Frag} {mg : Str → Option Value} {h : Heap} (X : K.In h) (G : h.Ns mainGlobals mg) (c2 : He.SaysD faH fnH K) (ce : obsE K "name" (cAf K 11) (fIf K 11) = true) : ∃ fd, Er1 K mg "NotName" "name" (cAf K 11) (fIf K 11) fd := by
  obtain ⟨fd, F⟩ := c2.def_ 39 (d := init11) rfl
  have F2 : Fun K "__init__" "NotName.__init__" (initAt 14) (fIf K 11) fd := fun_of (st := initAt 14) F
  obtain ⟨a1, a2, a3, a4, a5⟩ := oex_of (He.keep_ok (c2.fact 77 (f := .keep "NotName") rfl)) ce
  have g := He.glo_ok X G (c2.fact 58 (f := .glo "NotName") rfl)
  have b : Binds K fd ["self", "name"] [] := FunD.bindsN (ps := ["self", "name"]) F fun _ _ _ _ _ _ us hl => match us, hl with | [_, _], _ => rfl
  refine ⟨fd, ?e⟩
  obtain ⟨oc, od, kV, doc, pm, an, cdv, ct, osl, rfl, _⟩ := F2.ex
  exact ⟨⟨g, a1, a2, a3, fun P w base => ok_init14 F2⟩, a4, kbS rfl fun u v => rfl, kbP rfl fun u v => rfl⟩
theorem mk_er12 {K : PySem.W.Frag} {mg : Str → Option Value} {h : Heap} (X : K.In h) (G : h.Ns mainGlobals mg) (c2 : He.SaysD faH fnH K) (ce : obsE K "number" (cAf K 12) (fIf K 12) = true) : ∃ fd, Er1 K mg "NotGrid" "number" (cAf K 12) (fIf K 12) fd := by
  obtain ⟨fd, F⟩ := c2.def_ 40 (d := init12) rfl
  have F2 : Fun K "__init__" "NotGrid.__init__" (initAt 15) (fIf K 12) fd := fun_of (st := initAt 15) F
  obtain ⟨a1, a2, a3, a4, a5⟩ := oex_of (He.keep_ok (c2.fact 78 (f := .keep "NotGrid") rfl)) ce
  have g := He.glo_ok X G (c2.fact 59 (f := .glo "NotGrid") rfl)
  have b : Binds K fd ["self", "number"] [] := FunD.bindsN (ps := ["self", "number"]) F fun _ _ _ _ _ _ us hl => match us, hl with | [_, _], _ => rfl
  refine ⟨fd, ?e⟩
  obtain ⟨oc, od, kV, doc, pm, an, cdv, ct, osl, rfl, _⟩ := F2.ex
  exact ⟨⟨g, a1, a2, a3, fun P w base => ok_init15 F2⟩, a4, kbS rfl fun u v => rfl, kbP rfl fun u v => rfl⟩
theorem mk_er16 {K : PySem.W.Frag} {mg : Str → Option Value} {h : Heap} (X : K.In h) (G : h.Ns mainGlobals mg) (c2 : He.SaysD faH fnH K) (ce : obsE K "most" (cAf K 16) (fIf K 16) = true) : ∃ fd, Er1 K mg "TooGreat" "most" (cAf K 16) (fIf K 16) fd := by
  obtain ⟨fd, F⟩ := c2.def_ 41 (d := init16) rfl
  have F2 : Fun K "__init__" "TooGreat.__init__" (initAt 19) (fIf K 16) fd := fun_of (st := initAt 19) F
  obtain ⟨a1, a2, a3, a4, a5⟩ := oex_of (He.keep_ok (c2.fact 82 (f := .keep "TooGreat") rfl)) ce
  have g := He.glo_ok X G (c2.fact 63 (f := .glo "TooGreat") rfl)
  have b : Binds K fd ["self", "most"] [] := FunD.bindsN (ps := ["self", "most"]) F fun _ _ _ _ _ _ us hl => match us, hl with | [_, _], _ => rfl
  refine ⟨fd, ?e⟩
  obtain ⟨oc, od, kV, doc, pm, an, cdv, ct, osl, rfl, _⟩ := F2.ex
  exact ⟨⟨g, a1, a2, a3, fun P w base => ok_init19 F2⟩, a4, kbS rfl fun u v => rfl, kbP rfl fun u v => rfl⟩
theorem mk_isi {K : PySem.W.Frag} (h : isiA K = true) : ∀ i, i < 17 → IsiC K (cAf K i) := fun i hi => by
  obtain ⟨h1, h⟩ := He.ba h
  obtain ⟨h2, h3⟩ := He.ba h
  obtain ⟨h4, h5⟩ := He.ba (List.all_eq_true.mp h3 i (List.mem_range.mpr hi))
  obtain ⟨h6, h7⟩ := He.ba h5
  exact ⟨xfB_ok h4, He.eqO_ok h6, He.eqO_ok h1, of_decide_eq_true h2, of_decide_eq_true h7⟩
theorem mk_errs {K : PySem.W.Frag} {mg : Str → Option Value} {h : Heap} (X : K.In h) (G : h.Ns mainGlobals mg) (c2 : He.SaysD faH fnH K) (e : errA K = true) (hi : isiA K = true) (hk : kitA K = true) (hf : kitF K = true) : ∃ ER : Errs K mg, ∃ fd, ExN K mg "NotNumber" "value" (cAf K 0) (fIf K 0) fd := by
  obtain ⟨o0, e⟩ := He.ba e
  obtain ⟨o1, e⟩ := He.ba e
  obtain ⟨o2, e⟩ := He.ba e
  obtain ⟨o3, e⟩ := He.ba e
  obtain ⟨o4, e⟩ := He.ba e
  obtain ⟨o5, e⟩ := He.ba e
  obtain ⟨o6, e⟩ := He.ba e
  obtain ⟨o7, e⟩ := He.ba e
  obtain ⟨o8, e⟩ := He.ba e
  obtain ⟨o10, e⟩ := He.ba e
  obtain ⟨o11, e⟩ := He.ba e
  obtain ⟨o12, e⟩ := He.ba e
  obtain ⟨o16, e⟩ := He.ba e
  obtain ⟨o9, e⟩ := He.ba e
  obtain ⟨ow, e⟩ := He.ba e
  obtain ⟨z13, e⟩ := He.ba e
  obtain ⟨z14, z15⟩ := He.ba e
  obtain ⟨d0, r0, TN⟩ := mk_er0 X G c2 o0
  obtain ⟨d1, r1⟩ := mk_er1 X G c2 o1
  obtain ⟨d2, r2⟩ := mk_er2 X G c2 o2
  obtain ⟨d3, r3⟩ := mk_er3 X G c2 o3
  obtain ⟨d4, r4⟩ := mk_er4 X G c2 o4
  obtain ⟨d5, r5⟩ := mk_er5 X G c2 o5
  obtain ⟨d6, r6⟩ := mk_er6 X G c2 o6
  obtain ⟨d7, r7⟩ := mk_er7 X G c2 o7
  obtain ⟨d8, r8⟩ := mk_er8 X G c2 o8
  obtain ⟨d9, r9⟩ := mk_er9 X G c2 o9 ow
  obtain ⟨d10, r10⟩ := mk_er10 X G c2 o10
  obtain ⟨d11, r11⟩ := mk_er11 X G c2 o11
  obtain ⟨d12, r12⟩ := mk_er12 X G c2 o12
  obtain ⟨d16, r16⟩ := mk_er16 X G c2 o16
  refine ⟨{ cA := cAf K, fI := fIf K, fd := fun i => match i with | 0 => d0 | 1 => d1 | 2 => d2 | 3 => d3 | 4 => d4 | 5 => d5 | 6 => d6 | 7 => d7 | 8 => d8 | 9 => d9 | 10 => d10 | 11 => d11 | 12 => d12 | 16 => d16 | _ => d0, fe := He.ga K "FontError", e0 := r0, e1 := r1, e2 := r2, e3 := r3, e4 := r4, e5 := r5, e6 := r6, e7 := r7, e8 := r8, e9 := r9, e10 := r10, e11 := r11, e12 := r12, e13 := ⟨He.glo_ok X G (c2.fact 60 (f := .glo "Unlike") rfl), He.keep_ok (c2.fact 79 (f := .keep "Unlike") rfl), z13⟩, e14 := ⟨He.glo_ok X G (c2.fact 61 (f := .glo "Empty") rfl), He.keep_ok (c2.fact 80 (f := .keep "Empty") rfl), z14⟩, e15 := ⟨He.glo_ok X G (c2.fact 62 (f := .glo "Endless") rfl), He.keep_ok (c2.fact 81 (f := .keep "Endless") rfl), z15⟩, e16 := r16, isi := mk_isi hi, kit := fun i j a b => of_decide_eq_true (List.all_eq_true.mp (List.all_eq_true.mp hk i (List.mem_range.mpr a)) j (List.mem_range.mpr b)), gFE := He.glo_ok X G (c2.fact 64 (f := .glo "FontError") rfl), kFE := fun i a => of_decide_eq_true (He.ba (List.all_eq_true.mp hf i (List.mem_range.mpr a))).1, mVE := He.free_ok X G (c2.fact 46 (f := .free "ValueError") rfl), kVE := fun i a => of_decide_eq_true (He.ba (List.all_eq_true.mp hf i (List.mem_range.mpr a))).2 }, d0, TN⟩
def lamQ (x : Str) : Str := x ++ ".<locals>." ++ "<lambda>"
def TTof (K : PySem.W.Frag) : List (Addr × Str) := [((cL0 K).2, lamQ "_law_two_right"), ((cL1 K).2, lamQ "_law_lowest_right"), ((cL2 K).2, lamQ "_law_hand_right")]
theorem all_ok {P : Program} {w : World} {K : PySem.W.Frag} {mg : Str → Option Value} {h : Heap} {f : Addr} (X : K.In h) (G : h.Ns mainGlobals mg) (hfa : mg ("law" : Str) = some (.ref f)) (c : He.SaysX faH fnH [] tfH obsB w h K) :
    ∃ fd : FuncData, (∀ (s : Shared) (u : Value), BindsTo s fd ⟨[u], []⟩ [("script", u)]) ∧ ∀ base : Heap, (∀ p ∈ [cL0 K, cL1 K, cL2 K], LamX.TabB base mg p.1 p.2) → FnG P w K mg base 13 f fd ["script"] (sp_law K (TTof K)) := by
  have c2 : He.SaysD faH fnH K := c.t.d
  have T := bt_of X G c2
  have cb : obsB K = true := c.more
  obtain ⟨b1, cb⟩ := He.ba cb
  obtain ⟨b2, cb⟩ := He.ba cb
  obtain ⟨b3, cb⟩ := He.ba cb
  obtain ⟨b4, cb⟩ := He.ba cb
  obtain ⟨cg, cb⟩ := He.ba cb
  obtain ⟨n01, cb⟩ := He.ba cb
  obtain ⟨n02, n12⟩ := He.ba cb
  have n01 : (cL0 K).2 ≠ (cL1 K).2 := of_decide_eq_true n01
  have n02 : (cL0 K).2 ≠ (cL2 K).2 := of_decide_eq_true n02
  have n12 : (cL1 K).2 ≠ (cL2 K).2 := of_decide_eq_true n12
  let C : Cst K w mg := { gcd := ns_of X G (of_decide_eq_true cg) }
  obtain ⟨ER, fN, TN⟩ := mk_errs X G c2 b1 b2 b3 b4
  obtain ⟨d_is_int, D_is_int, cd_is_int, b_is_int⟩ := df_of (x := "is_int") (st := s_is_int) (ps := ["value"]) X G c2 0 rfl rfl fun _ _ _ _ _ _ us hl => match us, hl with | [_], _ => rfl
  obtain ⟨d_sign_of, D_sign_of, cd_sign_of, b_sign_of⟩ := df_of (x := "sign_of") (st := s_sign_of) (ps := ["number"]) X G c2 1 rfl rfl fun _ _ _ _ _ _ us hl => match us, hl with | [_], _ => rfl
  obtain ⟨d_is_fraction, D_is_fraction, cd_is_fraction, b_is_fraction⟩ := df_of (x := "is_fraction") (st := s_is_fraction) (ps := ["value"]) X G c2 2 rfl rfl fun _ _ _ _ _ _ us hl => match us, hl with | [_], _ => rfl
  obtain ⟨d_check_fraction, D_check_fraction, cd_check_fraction, b_check_fraction⟩ := df_of (x := "check_fraction") (st := s_check_fraction) (ps := ["value"]) X G c2 3 rfl rfl fun _ _ _ _ _ _ us hl => match us, hl with | [_], _ => rfl
  obtain ⟨d_lowest, D_lowest, cd_lowest, b_lowest⟩ := df_of (x := "lowest") (st := s_lowest) (ps := ["top", "bottom"]) X G c2 4 rfl rfl fun _ _ _ _ _ _ us hl => match us, hl with | [_, _], _ => rfl
  obtain ⟨d_added, D_added, cd_added, b_added⟩ := df_of (x := "added") (st := s_added) (ps := ["one", "other"]) X G c2 5 rfl rfl fun _ _ _ _ _ _ us hl => match us, hl with | [_, _], _ => rfl
  obtain ⟨d_minus, D_minus, cd_minus, b_minus⟩ := df_of (x := "minus") (st := s_minus) (ps := ["one", "other"]) X G c2 6 rfl rfl fun _ _ _ _ _ _ us hl => match us, hl with | [_, _], _ => rfl
  obtain ⟨d_times, D_times, cd_times, b_times⟩ := df_of (x := "times") (st := s_times) (ps := ["one", "other"]) X G c2 7 rfl rfl fun _ _ _ _ _ _ us hl => match us, hl with | [_, _], _ => rfl
  obtain ⟨d_divided, D_divided, cd_divided, b_divided⟩ := df_of (x := "divided") (st := s_divided) (ps := ["one", "other"]) X G c2 8 rfl rfl fun _ _ _ _ _ _ us hl => match us, hl with | [_, _], _ => rfl
  obtain ⟨d_halfway, D_halfway, cd_halfway, b_halfway⟩ := df_of (x := "halfway") (st := s_halfway) (ps := ["one", "other"]) X G c2 9 rfl rfl fun _ _ _ _ _ _ us hl => match us, hl with | [_, _], _ => rfl
  obtain ⟨d_compared, D_compared, cd_compared, b_compared⟩ := df_of (x := "compared") (st := s_compared) (ps := ["one", "other"]) X G c2 10 rfl rfl fun _ _ _ _ _ _ us hl => match us, hl with | [_, _], _ => rfl
  obtain ⟨d_law_begun, D_law_begun, cd_law_begun, b_law_begun⟩ := df_of (x := "_law_begun") (st := s_law_begun) (ps := ["script", "k"]) X G c2 11 rfl rfl fun _ _ _ _ _ _ us hl => match us, hl with | [_, _], _ => rfl
  obtain ⟨d_law_draw, D_law_draw, cd_law_draw, b_law_draw⟩ := df_of (x := "_law_draw") (st := s_law_draw) (ps := ["m", "bound"]) X G c2 12 rfl rfl fun _ _ _ _ _ _ us hl => match us, hl with | [_, _], _ => rfl
  obtain ⟨d_law_of, D_law_of, cd_law_of, b_law_of⟩ := df_of (x := "_law_of") (st := s_law_of) (ps := ["m", "some"]) X G c2 13 rfl rfl fun _ _ _ _ _ _ us hl => match us, hl with | [_, _], _ => rfl
  obtain ⟨d_law_like, D_law_like, cd_law_like, b_law_like⟩ := df_of (x := "_law_like") (st := s_law_like) (ps := ["told", "due"]) X G c2 14 rfl rfl fun _ _ _ _ _ _ us hl => match us, hl with | [_, _], _ => rfl
  obtain ⟨d_law_sign, D_law_sign, cd_law_sign, b_law_sign⟩ := df_of (x := "_law_sign") (st := s_law_sign) (ps := ["number_so"]) X G c2 15 rfl rfl fun _ _ _ _ _ _ us hl => match us, hl with | [_], _ => rfl
  obtain ⟨d_law_common, D_law_common, cd_law_common, b_law_common⟩ := df_of (x := "_law_common") (st := s_law_common) (ps := ["numbers"]) X G c2 16 rfl rfl fun _ _ _ _ _ _ us hl => match us, hl with | [_], _ => rfl
  obtain ⟨d_law_lowered, D_law_lowered, cd_law_lowered, b_law_lowered⟩ := df_of (x := "_law_lowered") (st := s_law_lowered) (ps := ["numbers"]) X G c2 17 rfl rfl fun _ _ _ _ _ _ us hl => match us, hl with | [_], _ => rfl
  obtain ⟨d_law_fraction, D_law_fraction, cd_law_fraction, b_law_fraction⟩ := df_of (x := "_law_fraction") (st := s_law_fraction) (ps := ["top_so", "bottom_so"]) X G c2 18 rfl rfl fun _ _ _ _ _ _ us hl => match us, hl with | [_, _], _ => rfl
  obtain ⟨d_law_integer, D_law_integer, cd_law_integer, b_law_integer⟩ := df_of (x := "_law_integer") (st := s_law_integer) (ps := ["m"]) X G c2 19 rfl rfl fun _ _ _ _ _ _ us hl => match us, hl with | [_], _ => rfl
  obtain ⟨d_law_heard, D_law_heard, cd_law_heard, b_law_heard⟩ := df_of (x := "_law_heard") (st := s_law_heard) (ps := ["call"]) X G c2 20 rfl rfl fun _ _ _ _ _ _ us hl => match us, hl with | [_], _ => rfl
  obtain ⟨d_law_pair, D_law_pair, cd_law_pair, b_law_pair⟩ := df_of (x := "_law_pair") (st := s_law_pair) (ps := ["m"]) X G c2 21 rfl rfl fun _ _ _ _ _ _ us hl => match us, hl with | [_], _ => rfl
  obtain ⟨d_law_two_right, D_law_two_right, cd_law_two_right, b_law_two_right⟩ := df_of (x := "_law_two_right") (st := s_law_two_right) (ps := ["near", "far"]) X G c2 22 rfl rfl fun _ _ _ _ _ _ us hl => match us, hl with | [_, _], _ => rfl
  obtain ⟨d_law_lowest_right, D_law_lowest_right, cd_law_lowest_right, b_law_lowest_right⟩ := df_of (x := "_law_lowest_right") (st := s_law_lowest_right) (ps := ["m"]) X G c2 23 rfl rfl fun _ _ _ _ _ _ us hl => match us, hl with | [_], _ => rfl
  obtain ⟨d_law_hand_right, D_law_hand_right, cd_law_hand_right, b_law_hand_right⟩ := df_of (x := "_law_hand_right") (st := s_law_hand_right) (ps := []) X G c2 24 rfl rfl fun _ _ _ _ _ _ us hl => match us, hl with | [], _ => rfl
  obtain ⟨d_law_kinds, D_law_kinds, cd_law_kinds, b_law_kinds⟩ := df_of (x := "_law_kinds") (st := s_law_kinds) (ps := ["error"]) X G c2 25 rfl rfl fun _ _ _ _ _ _ us hl => match us, hl with | [_], _ => rfl
  obtain ⟨d_law_errors_right, D_law_errors_right, cd_law_errors_right, b_law_errors_right⟩ := df_of (x := "_law_errors_right") (st := s_law_errors_right) (ps := []) X G c2 26 rfl rfl fun _ _ _ _ _ _ us hl => match us, hl with | [], _ => rfl
  obtain ⟨d_law, D_law, cd_law, b_law⟩ := df_of (x := "law") (st := s_law) (ps := ["script"]) X G c2 27 rfl rfl fun _ _ _ _ _ _ us hl => match us, hl with | [_], _ => rfl
  have e := hfa.symm.trans D_law.gm
  have e2 : f = He.ga K "law" := by injection e with e; injection e
  subst e2
  refine ⟨d_law, fun s u => b_law s [u] rfl, fun base TB => ?_⟩
  have LT0 : ∃ c Pt, LamX.TabB base mg c Pt ∧ d_law_two_right.code = .ref c ∧ (Pt, lamQ "_law_two_right") ∈ TTof K ∧ ∀ p ∈ TTof K, p.1 = Pt → p.2 = lamQ "_law_two_right" := ⟨_, _, TB (cL0 K) (by simp), cd_law_two_right, by simp [TTof], fun p hp e => by
    simp only [TTof, List.mem_cons, List.not_mem_nil, or_false] at hp
    rcases hp with rfl | rfl | rfl
    · rfl
    · exact absurd e.symm n01
    · exact absurd e.symm n02⟩
  have LT1 : ∃ c Pt, LamX.TabB base mg c Pt ∧ d_law_lowest_right.code = .ref c ∧ (Pt, lamQ "_law_lowest_right") ∈ TTof K ∧ ∀ p ∈ TTof K, p.1 = Pt → p.2 = lamQ "_law_lowest_right" := ⟨_, _, TB (cL1 K) (by simp), cd_law_lowest_right, by simp [TTof], fun p hp e => by
    simp only [TTof, List.mem_cons, List.not_mem_nil, or_false] at hp
    rcases hp with rfl | rfl | rfl
    · exact absurd e n01
    · rfl
    · exact absurd e.symm n12⟩
  have LT2 : ∃ c Pt, LamX.TabB base mg c Pt ∧ d_law_hand_right.code = .ref c ∧ (Pt, lamQ "_law_hand_right") ∈ TTof K ∧ ∀ p ∈ TTof K, p.1 = Pt → p.2 = lamQ "_law_hand_right" := ⟨_, _, TB (cL2 K) (by simp), cd_law_hand_right, by simp [TTof], fun p hp e => by
    simp only [TTof, List.mem_cons, List.not_mem_nil, or_false] at hp
    rcases hp with rfl | rfl | rfl
    · exact absurd e n02
    · exact absurd e n12
    · rfl⟩
  have h_is_int : Cal P w K mg base "is_int" s_is_int ["value"] 1 (sp_is_int K) _ d_is_int := ok_is_int T C D_is_int 
  have h_sign_of : Cal P w K mg base "sign_of" s_sign_of ["number"] 1 (sp_sign_of K) _ d_sign_of := ok_sign_of T C D_sign_of 
  have h_is_fraction : Cal P w K mg base "is_fraction" s_is_fraction ["value"] 2 (sp_is_fraction K) _ d_is_fraction := ok_is_fraction T C D_is_fraction h_is_int
  have h_check_fraction : CalX P w K mg base "check_fraction" s_check_fraction ["value"] 3 (sp_check_fraction K (cAf K 0)) _ d_check_fraction := ok_check_fraction T C D_check_fraction TN h_is_fraction
  have h_lowest : CalX P w K mg base "lowest" s_lowest ["top", "bottom"] 3 (sp_lowest K (cAf K 0)) _ d_lowest := ok_lowest T C D_lowest TN 
  have h_added : Cal P w K mg base "added" s_added ["one", "other"] 4 (sp_added K) _ d_added := ok_added T C D_added h_lowest
  have h_minus : Cal P w K mg base "minus" s_minus ["one", "other"] 4 (sp_minus K) _ d_minus := ok_minus T C D_minus h_lowest
  have h_times : Cal P w K mg base "times" s_times ["one", "other"] 4 (sp_times K) _ d_times := ok_times T C D_times h_lowest
  have h_divided : CalX P w K mg base "divided" s_divided ["one", "other"] 4 (sp_divided K (cAf K 0)) _ d_divided := ok_divided T C D_divided TN h_lowest
  have h_halfway : Cal P w K mg base "halfway" s_halfway ["one", "other"] 4 (sp_halfway K) _ d_halfway := ok_halfway T C D_halfway h_lowest
  have h_compared : Cal P w K mg base "compared" s_compared ["one", "other"] 2 (sp_compared K) _ d_compared := ok_compared T C D_compared h_sign_of
  have h_law_begun : Cal P w K mg base "_law_begun" s_law_begun ["script", "k"] 1 (sp_law_begun K) _ d_law_begun := ok_law_begun T D_law_begun 
  have h_law_draw : Cal P w K mg base "_law_draw" s_law_draw ["m", "bound"] 1 (sp_law_draw K) _ d_law_draw := ok_law_draw T D_law_draw 
  have h_law_of : Cal P w K mg base "_law_of" s_law_of ["m", "some"] 2 (sp_law_of K) _ d_law_of := ok_law_of T D_law_of h_law_draw
  have h_law_like : Cal P w K mg base "_law_like" s_law_like ["told", "due"] 1 (sp_law_like K) _ d_law_like := ok_law_like T D_law_like 
  have h_law_sign : Cal P w K mg base "_law_sign" s_law_sign ["number_so"] 1 (sp_law_sign K) _ d_law_sign := ok_law_sign T C D_law_sign 
  have h_law_common : Cal P w K mg base "_law_common" s_law_common ["numbers"] 1 (sp_law_common K) _ d_law_common := ok_law_common T C D_law_common 
  have h_law_lowered : Cal P w K mg base "_law_lowered" s_law_lowered ["numbers"] 2 (sp_law_lowered K) _ d_law_lowered := ok_law_lowered T C D_law_lowered h_law_common
  have h_law_fraction : Cal P w K mg base "_law_fraction" s_law_fraction ["top_so", "bottom_so"] 3 (sp_law_fraction K) _ d_law_fraction := ok_law_fraction T C D_law_fraction h_law_lowered
  have h_law_integer : Cal P w K mg base "_law_integer" s_law_integer ["m"] 2 (sp_law_integer K) _ d_law_integer := ok_law_integer T C D_law_integer h_law_draw
  have h_law_pair : Cal P w K mg base "_law_pair" s_law_pair ["m"] 4 (sp_law_pair K) _ d_law_pair := ok_law_pair T C D_law_pair h_law_integer h_law_fraction
  have h_law_two_right : Cal P w K mg base "_law_two_right" s_law_two_right ["near", "far"] 11 (sp_law_two_right K (TTof K)) _ d_law_two_right := ok_law_two_right T C D_law_two_right TN D_law_heard LT0 h_law_fraction h_law_like h_times h_minus h_added h_divided h_compared h_halfway h_law_sign
  have h_law_lowest_right : Cal P w K mg base "_law_lowest_right" s_law_lowest_right ["m"] 11 (sp_law_lowest_right K (TTof K)) _ d_law_lowest_right := ok_law_lowest_right T C D_law_lowest_right TN D_law_heard LT1 h_law_integer h_law_fraction h_law_like h_lowest h_law_pair h_law_of h_check_fraction
  have h_law_hand_right : Cal P w K mg base "_law_hand_right" s_law_hand_right [] 11 (sp_law_hand_right K (TTof K)) _ d_law_hand_right := ok_law_hand_right T C D_law_hand_right TN D_law_heard LT2 h_law_like h_check_fraction h_minus h_added h_lowest h_halfway h_divided h_times h_compared
  have h_law_kinds : Cal P w K mg base "_law_kinds" s_law_kinds ["error"] 1 (sp_law_kinds K ER) _ d_law_kinds := ok_law_kinds T C D_law_kinds ER 
  have h_law_errors_right : Cal P w K mg base "_law_errors_right" s_law_errors_right [] 4 (sp_law_errors_right K) _ d_law_errors_right := ok_law_errors_right T C D_law_errors_right ER h_law_kinds h_law_like
  have h_law_errors_right0 := h_law_errors_right
  have h_law : Cal P w K mg base "law" s_law ["script"] 13 (sp_law K (TTof K)) _ d_law := ok_law T C D_law h_law_errors_right h_law_hand_right h_law_begun h_law_two_right h_law_pair h_law_lowest_right
  exact h_law.G
end V1
set_option Elab.async false
set_option linter.all false
set_option maxRecDepth 100000
set_option maxHeartbeats 0
open PySem PySem.W PySem.Calls PyProof.Rows
theorem PySem.Challenge.cw_everyfont_k00_numbers_and_errors_holds : PySem.Challenge.rw_everyfont_k00_numbers_and_errors.Holds := by
  w_on; o_law
  refine HandSHeadRun.head_imp (r := OpenLaw.row PySem.Challenge.rw_everyfont_k00_numbers_and_errors) (q := V1.qM) (H := V1.hkM) (ob := V1.obM) (M := 20000) (loose := V1.looseM) (d := HandSHeadRun.topDef (OpenLaw.row PySem.Challenge.rw_everyfont_k00_numbers_and_errors).prog 49) (kwd := []) V1.obM_eq
    V1.runM (by kernel_rfl) (by kernel_rfl) (by kernel_rfl) (by rfl) (by first | assumption | decide +kernel) (by decide +kernel) ⟨rfl, rfl, rfl, rfl, rfl, by decide +kernel⟩ ?hw ?hc
  case hw => w_witness2
  case hc =>
    refine V1.walkGT (l := PySem.Challenge.rw_everyfont_k00_numbers_and_errors) (n := 63) (k := 13) (x := "script") rfl (by decide) (by kernel_rfl) ⟨rfl, by decide, by decide⟩ ?F
    intro w mg fa h Y G hmg0
    obtain ⟨K, KX, c⟩ := Y
    have c : He.SaysX V1.faH V1.fnH [] V1.tfH V1.obsB w h K := c
    have hmg : mg ("law" : PySem.Str) = some (.ref fa) := by
      have e : (HandSHeadRun.topDef (OpenLaw.row PySem.Challenge.rw_everyfont_k00_numbers_and_errors).prog 49).name = ("law" : PySem.Str) := by kernel_rfl
      rw [← e]
      exact hmg0
    obtain ⟨fd, hb, hF⟩ := V1.all_ok (P := (PySem.Challenge.rw_everyfont_k00_numbers_and_errors).prog) (w := w) KX G hmg c
    have mt : ∀ p ∈ [V1.cL0 K, V1.cL1 K, V1.cL2 K], ∃ q ∈ V1.tfH, p = He.cT K q := fun p hp => by
      simp only [List.mem_cons, List.not_mem_nil, or_false] at hp
      rcases hp with rfl | rfl | rfl
      · exact ⟨_, by simp [V1.tfH], rfl⟩
      · exact ⟨_, by simp [V1.tfH], rfl⟩
      · exact ⟨_, by simp [V1.tfH], rfl⟩
    refine ⟨K, fd, V1.sp_law K (V1.TTof K), [V1.cL0 K, V1.cL1 K, V1.cL2 K], KX, ⟨fun p hp => ?_, fun p hp => ?_, fun p hp => ?_⟩, hb, fun H a ns hl ht hS => ⟨a, ns, rfl, hl, hS, fun p hp => ?_, fun _ => rfl⟩, fun base _ _ TB => hF base TB⟩
    · obtain ⟨q, hq, rfl⟩ := mt p hp
      exact c.empty q hq
    · obtain ⟨q, hq, rfl⟩ := mt p hp
      exact c.out q hq
    · obtain ⟨q, hq, rfl⟩ := mt p hp
      exact PySem.W.codeHd_of_K KX (c.hd q hq)
    · have e : H p.1 = some (.tbl #[]) := by
        simp only [V1.TTof, List.mem_cons, List.not_mem_nil, or_false] at hp
        rcases hp with rfl | rfl | rfl
        · exact ht (V1.cL0 K) (by simp)
        · exact ht (V1.cL1 K) (by simp)
        · exact ht (V1.cL2 K) (by simp)
      exact ⟨#[], e, V1.trip0, fun pos cv hc => by simp [codeAmong] at hc⟩
