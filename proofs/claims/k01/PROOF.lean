import PyProof.Rows.All
import Wide.All
import OpenK.AllK
import Wide.FinOn
import KE.KMathGC
import KE.GoesEnum
import PyProof.ReprRoads
import HandS.ForMost
import HandS.Zip
import HandS.Wide
import HandS.Gcd
import HandS.TupAny
import HandS.HeadEnd
import HandS.HeadHook2
import HandS.Lambda
import HandS.IsInst
import KE.DataMinMax
import HandS.SortKw
import HandS.More
import HandS.NoneIn
import HandS.Defaults
import HandS.ExcOwn
import HandS.WordsExc
import KE.KDflt
import HandS.ExcField
import HandS.EndTab
import HandS.HeadWalk
import HandS.TupMul
import HandS.ExcInit
import PyProof.Rows.IntBool
import HandS.Words
import HandS.Head0
import HandS.Head1
import HandS.Head2
import HandS.Head3
import HandS.HeadHook1
import HandS.HeadHook3
import HandS.HeadHook4
import PySem.Challenge.RW_everyfont_k01_points_and_rows_judged
set_option Elab.async false
set_option linter.all false
set_option maxRecDepth 100000
set_option maxHeartbeats 4000000
/-! The hand layer with the running guards told (repr asks them); zip and enumerate over lists and tuples alike; repr of data; lcm; a list's item read for an augmented store. -/
namespace V1
open PySem PySem.Spec PyProof.Rows L2

/-- a def's promise where no guarded built-in runs further out -/
structure FnG (P : Program) (w : World) (K : PySem.W.Frag) (mg : Str → Option Value) (base : Heap) (k : Nat) (f : Addr) (fd : FuncData) (ps : List Str) (sp : Sp) : Prop where
  len : ∀ vs H Q E, sp vs H Q E → vs.length = ps.length
  run : ∀ (A : Around) (outer : List Env) (s : Shared) (H : Hp) (args : Args) (us : List Value) (vs : List V) (Q : VK) (E : XK), A.guards = some [] → Room k A →
    Env0 P w K mg base A outer s H → BindsTo s fd args (ps.zip us) → Vals vs us → sp vs H Q E → codeAny (model P w) A (.call (.ref f) args) (CR CX0 outer P w H s Q E) s
section
variable {P : Program} {w : World} {K : PySem.W.Frag} {mg : Str → Option Value} {base : Heap}
theorem FnG.mono {j k : Nat} {f : Addr} {fd : FuncData} {ps : List Str} {sp : Sp} (F : FnG P w K mg base j f fd ps sp) (h : j ≤ k) : FnG P w K mg base k f fd ps sp :=
  ⟨F.len, fun A outer s H args us vs Q E hg hr => F.run A outer s H args us vs Q E hg (hr.mono h)⟩
theorem okG {x qual : Str} {st : Stmt} {f : Addr} {fd : FuncData} {N ps : List Str} {k : Nat} {sp : Sp} (F : Fun K x qual st f fd) (S : FnScope N ps (defScope st)) (hlen : ∀ vs H Q E, sp vs H Q E → vs.length = ps.length)
    (bd : ∀ (cdv : Value) (A : Around) (outer : List Env) (s : Shared) (H : Hp) (vs : List V) (Q : VK) (E : XK), A.guards = some [] → Room k (A.deeper (envOfC qual (defScope st) s.heap.objs.size f cdv)) → sp vs H Q E →
      ∃ t, PSs (cxOf CX0 P w K mg base N qual (defScope st) f cdv A outer s H E).nox (defBody st) t ∧ t { nx := fun _ H' => Q .non H', rt := Q } (start N vs) H) : FnG P w K mg base (k + 1) f fd ps sp := by
  obtain ⟨oc, od, kV, doc, pm, an, cdv, ct, osl, rfl, lk, hcd⟩ := F.ex
  refine ⟨hlen, fun A outer s H args us vs Q E hgd hr e0 hb r hs0 => ?_⟩
  have ll := hlen _ _ _ _ hs0
  have kin : K.In s.heap := e0.mod.kin.keeps (fun b o z => (e0.bs b o z).1)
  have nl : s.heap.NoLimit := e0.mod.nolimit.keeps (fun b o z => (e0.bs b o z).1)
  refine codeAny_call_function hr.depth (kin _ _ lk) rfl S.co S.gen rfl (PySem.W.codeRec_of kin hcd) (hb _ _ _ _ ?_)
  refine wpAny_newFunctionEnv_cells S.kind (fun ⟨n, v⟩ hy => ?_) (fun env he s1 x => ?_)
  · rcases S.par n (List.of_mem_zip hy).1 with q | q
    · exact Or.inl q
    · exact Or.inr ⟨q, PySem.W.cellsFrom_some _ _ _ (Or.inl q)⟩
  subst he
  refine ⟨nl.keeps x.toInCall.keep, codeAny_func ?_⟩
  obtain ⟨t, ht, hq⟩ := bd cdv A outer s H vs Q E hgd (hr.deeper _) hs0
  have I := inv_start (CX := CX0) (E := E) S hr.hd e0 ll r x
  refine wpAny_mono (ht.nox.run [] s1 (start N vs) H _ I hq) (fun fl s2 z => ?_) (fun e s2 z => z)
  cases fl with
  | ret u =>
    obtain ⟨v, σ2, H2, J, rv, q⟩ := z
    exact ⟨v, H2, J.os, J.bare, J.base, J.hok, rv, q⟩
  | next =>
    obtain ⟨σ2, H2, J, q⟩ := z
    exact ⟨V.non, H2, J.os, J.bare, J.base, J.hok, rfl, q⟩
  | brk =>
    obtain ⟨_, _, _, q⟩ := z
    exact q.elim
  | cont =>
    obtain ⟨_, _, _, q⟩ := z
    exact q.elim
end
/-- the guards reach a def's body -/
theorem gd_of {P : Program} {w : World} {K : PySem.W.Frag} {mg : Str → Option Value} {base : Heap} {N : List Str} {q : Str} {sc : Scope} {f : Addr} {cd : Value} {A : Around} {outer : List Env} {s : Shared} {H : Hp} {E : XK} (h : A.guards = some []) :
    (cxOf CX0 P w K mg base N q sc f cd A outer s H E).nox.A.guards = some [] := h
section
variable {X : Cx} {k : Nat} {f : Addr} {fd : FuncData} {ps ks : List Str} {sp : Sp} {E : XK} {x : Str} {p pos : Pos} {e : Expr} {es : List Expr} {kws : List Keyword} {t tk : TA} {g : List Value → List Value → List Value} {gV : List V → List V → List V}
theorem fall {pins : List (Addr × Obj)} {σ : L2.St} {H : Hp} {s : Shared} (I : L2.Inv X pins σ H s) {Q : VK} {r : Result} {s2 : Shared} (hq : CR CX0 X.stack X.prog X.w H s Q E r s2) : ∃ u, r = .ok (.ret u) ∧ EP X pins σ Q u s2 := by
  cases r with
  | error z => exact False.elim hq
  | ok fl =>
    cases fl with
    | ret u => exact ⟨u, rfl, I.after hq⟩
    | next => exact False.elim hq
    | brk => exact False.elim hq
    | cont => exact False.elim hq
theorem runG {pins : List (Addr × Obj)} {σ : L2.St} {H : Hp} {s : Shared} {Q : VK} {us : List Value} {vs : List V} (F : FnG X.prog X.w X.K X.mg X.base k f fd ps sp) (hgd : X.A.guards = some []) (hr : Room k X.A) (hb : Binds X.K fd ps [])
    (I : L2.Inv X pins σ H s) (r : Vals vs us) (h : sp vs H Q E) : wpAny (model X.prog X.w) X.A (call (.ref f) us) (EP X pins σ Q) X.xe s := by
  have hl : (us ++ []).length = ps.length := by rw [List.append_nil, ← r.length]; exact F.len _ _ _ _ h
  have hb2 := hb s us I.kIn hl
  rw [List.append_nil] at hb2
  refine wpAny_call (codeAny_mono (F.run X.A X.stack s H ⟨us, []⟩ us vs Q E hgd hr I.env0 hb2 r h) fun r2 s2 hq => ?_)
  obtain ⟨u, rfl, z⟩ := fall I hq
  exact z
theorem runGk {pins : List (Addr × Obj)} {σ : L2.St} {H : Hp} {s : Shared} {Q : VK} {us ws : List Value} {vs zs : List V} (F : FnG X.prog X.w X.K X.mg X.base k f fd ps sp) (hgd : X.A.guards = some []) (hr : Room k X.A) (hb : KBinds X.K fd ps ks g gV)
    (I : L2.Inv X pins σ H s) (r : Vals vs us) (rz : Vals zs ws) (h : sp (gV vs zs) H Q E) : wpAny (model X.prog X.w) X.A (call (.ref f) us (ks.zip ws)) (EP X pins σ Q) X.xe s := by
  have r2 := hb.rel r rz
  have hl : (g us ws).length = ps.length := by rw [← r2.length]; exact F.len _ _ _ _ h
  refine wpAny_call (codeAny_mono (F.run X.A X.stack s H ⟨us, ks.zip ws⟩ (g us ws) (gV vs zs) Q E hgd hr I.env0 (hb.to s us ws I.kIn hl) r2 h) fun r3 s2 hq => ?_)
  obtain ⟨u, rfl, z⟩ := fall I hq
  exact z
theorem pe_fn (F : FnG X.prog X.w X.K X.mg X.base k f fd ps sp) (hgd : X.A.guards = some []) (hr : Room k X.A) (hg : Gl X x) (hm : X.mg x = some (.ref f)) (hk : PySem.W.keepIn X.K (.ref f) = true) (hb : Binds X.K fd ps [])
    (ha : PA X (e :: es) t) (hdb : (x == ("__debug__" : Str)) = false := by decide) (he : starEach (e :: es) X.env = (false, eval e X.env) :: starEach es X.env := by rfl) (hpl : (backTo pos (starEach es X.env)).any (·.1) = false := by rfl) :
    PE X (.Call (.Name x p) (e :: es) [] pos) (tCall sp [] E t) := by
  refine ⟨fun pins s σ H Q I h => ?_⟩
  refine wpAny_Call_Name_kw (ld_glob I hg hm ?_ hdb)
  refine PySem.W.callWith_K (h₀ := X.base) I.ok.mod.kin hk (thn (ha.run pos pins s σ H _ I h) fun us s1 ⟨vs, H1, I1, r, q⟩ => ⟨I1.kIn, ?_⟩) he hpl
  have q2 : sp (vs ++ []) H1 Q E := q
  rw [List.append_nil] at q2
  exact runG F hgd hr hb I1 r q2
theorem pe_fn0 (F : FnG X.prog X.w X.K X.mg X.base k f fd ps sp) (hgd : X.A.guards = some []) (hr : Room k X.A) (hg : Gl X x) (hm : X.mg x = some (.ref f)) (hk : PySem.W.keepIn X.K (.ref f) = true) (hb : Binds X.K fd ps [])
    (hdb : (x == ("__debug__" : Str)) = false := by decide) : PE X (.Call (.Name x p) [] [] pos) (tCall sp [] E tNil) := by
  refine ⟨fun pins s σ H Q I h => ?_⟩
  refine wpAny_Call_Name_kw (ld_glob I hg hm ?_ hdb)
  exact PySem.W.callWith_K0 I.kIn hk (runG (us := []) F hgd hr hb I .nil h)
/-- f(k = v, ..), keywords alone -/
theorem pe_fnk (F : FnG X.prog X.w X.K X.mg X.base k f fd ps sp) (hgd : X.A.guards = some []) (hr : Room k X.A) (hg : Gl X x) (hm : X.mg x = some (.ref f)) (hk : PySem.W.keepIn X.K (.ref f) = true) (hb : KBinds X.K fd ps ks g gV)
    (hkw : PK X kws tk) (hall : (backToKw pos (keywordEach kws X.env)).all (·.1.isSome) = true := by rfl) (hks : (backToKw pos (keywordEach kws X.env)).filterMap (·.1) = ks := by rfl)
    (hdb : (x == ("__debug__" : Str)) = false := by decide)
    (hpl : ((backTo pos (starEach [] X.env)).any (·.1) || (backToKw pos (keywordEach kws X.env)).any (·.1.isNone)) = false := by rfl) :
    PE X (.Call (.Name x p) [] kws pos) (tCallK sp gV E tNil tk) := by
  refine ⟨fun pins s σ H Q I h => ?_⟩
  refine wpAny_Call_Name_kw (ld_glob I hg hm ?_ hdb)
  refine PySem.W.callWith_KW0 (h₀ := X.base) I.ok.mod.kin hk hall ?_ hpl
  refine thn (hkw.run pos pins s σ H _ I h) fun ws s2 ⟨zs, H2, I2, rz, q2⟩ => ⟨I2.kIn, ?_⟩
  rw [hks]
  exact runGk (us := []) F hgd hr hb I2 .nil rz q2
end

/-! ### repr of data, lcm, a list's item read -/
section
variable {X : Cx}
def rRepr (K : PySem.W.Frag) : List V → Hp → VK → Prop := fun vs H Q => ∃ (a : Addr) (d : PyData), vs = [.ref a] ∧ Dp K H (.ref a) d ∧ d.showable = true ∧ d.hasDict = false ∧ d.depth ≤ 60 ∧ d.shown.length ≤ sizeLine ∧ Q (.str d.shown) H
theorem call_repr (hgd : X.A.guards = some []) (hu : X.A.units + 64 < cLine) : CallR X (.builtin "repr") (rRepr X.K) := by
  intro pins s σ H vs us Q I r h
  obtain ⟨a, d, rfl, hd, h1, h2, h3, h4, q⟩ := h
  cases r with
  | cons r rr =>
    cases rr
    obtain rfl := r
    obtain ⟨as, rd⟩ := Dp.reads I d _ _ hd rfl
    refine repr_of_reads' (h₀ := s.heap) rd h1 (PyData.noDict_hsm h2) hgd (by omega) (fun _ _ z => z) (fun h' u tk hk => ?_) h4
    exact ⟨.str _, H, I.kept (t' := tk) hk, ⟨_, rfl⟩, q⟩
def rLcm : List V → Hp → VK → Prop := fun vs H Q => ∃ a b : Int, vs = [.int a, .int b] ∧ a.natAbs < 2 ^ 64 ∧ b.natAbs < 2 ^ 64 ∧ Q (.int ((Nat.lcm a.natAbs b.natAbs : Nat) : Int)) H
theorem call_lcm : CallR X (.builtin "math.lcm") rLcm := by
  intro pins s σ H vs us Q I r h
  obtain ⟨a, b, rfl, h1, h2, q⟩ := h
  obtain ⟨t, u, rfl⟩ := Vals.int2 r
  exact PySem.W.mc_lcm h1 h2 fun _ => ⟨.int _, H, I.tok _, ⟨_, rfl⟩, q⟩
theorem pget_list : PGet X (rIxL X.K) := by
  intro pins s σ H x y v u Q I rx ry h
  obtain ⟨p, xs, i, z, rfl, rfl, hq, he, q⟩ := h
  cases rx
  obtain ⟨t, rfl⟩ := ry
  obtain ⟨its, r, pl, hz⟩ := I.list hq
  obtain ⟨j, h1, h2, h3, h4, h5⟩ := atI_get he
  obtain ⟨w, ew, rw1⟩ := r.get h2
  have hl := r.length
  have hn := line63
  have last : EP X pins σ Q w s := ⟨z, H, I, rw1, q⟩
  by_cases h0 : 0 ≤ i
  · have hj : i.toNat = j := by
      rw [seqIndex_of h0 h5] at h1
      exact Option.some.inj h1
    exact wpAny_getItem_list pl.isList h0 (by omega) (by rw [hj]; simpa using ew) last
  · have hj : (i + (its.toArray.size : Int)).toNat = j := by
      rw [seqIndex_neg (by omega) h4] at h1
      rw [List.size_toArray, ← hl]
      exact Option.some.inj h1
    exact wpAny_getItem_list_neg pl.isList (by omega) (by rw [List.size_toArray] <;> omega) (by omega) (by rw [hj]; simpa using ew) last
end

/-! ### zip, enumerate: lists and tuples in any mix -/
/-- a list (true) or a tuple (false) -/
def Sq (K : PySem.W.Frag) : Bool → Hp → Addr → List V → Prop
  | true => SqL K
  | false => SqT K
def HSq (h : Heap) : Bool → Addr → Array Value → Prop
  | true => h.IsList
  | false => h.IsTuple
def HIt (h : Heap) : Bool → Addr → Addr → Nat → Prop
  | true => h.IsListIter
  | false => h.IsTupleIter
def itO : Bool → Addr → Obj
  | true, l => { cls := .type "list_iterator", data := .fields #[.ref l, .int 0 0] }
  | false, l => { cls := .type "tuple_iterator", data := .fields #[.ref l, .int 0 0] }
theorem hit_at {h h' : Heap} {k : Bool} {it a : Addr} {i : Nat} (x : HIt h k it a i) (e : ∀ o, h.get? it = some o → h'.get? it = some o) : HIt h' k it a i := by
  cases k with
  | true => exact Heap.IsListIter.at x e
  | false => exact Heap.IsTupleIter.at x e
theorem hit_obj {h : Heap} {k : Bool} {it a : Addr} {i : Nat} (x : HIt h k it a i) : ∃ o, h.get? it = some o ∧ ∀ v, o.data ≠ .cell v := by
  cases k with
  | true => obtain ⟨o, e, _, d⟩ := x; exact ⟨o, e, fun v z => by rw [d] at z; cases z⟩
  | false => obtain ⟨o, e, _, d⟩ := x; exact ⟨o, e, fun v z => by rw [d] at z; cases z⟩
theorem hit_0 {h : Heap} {k : Bool} {it a : Addr} (x : h.get? it = some (itO k a)) : HIt h k it a 0 := by
  cases k with
  | true => exact ⟨_, x, rfl, rfl⟩
  | false => exact ⟨_, x, rfl, rfl⟩
theorem bgn (k : Bool) (a : Addr) (items : Array Value) : Begins (.ref a) (itO k a) fun h => HSq h k a items := by
  cases k with
  | true => exact begins_list a items
  | false => exact begins_tuple a items
theorem drw {prog : Program} {w : World} {A : Around} (hh : A.handled = none) (k : Bool) (it a : Addr) (ne : a ≠ it) (items : Array Value) :
    Draws prog w A it [it, a] items.size (fun i v => items[i]? = some v) (fun i h => HIt h k it a i ∧ HSq h k a items) := by
  cases k with
  | true => exact Draws.list hh it a ne items
  | false => exact Draws.tuple hh it a ne items
section
variable {X : Cx} {pins : List (Addr × Obj)} {σ : L2.St} {H : Hp} {s : Shared} {k : Bool} {a : Addr} {xs ys : List V}
theorem inv_sq (I : L2.Inv X pins σ H s) (h : Sq X.K k H a xs) : ∃ its : List Value, Vals xs its ∧ HSq s.heap k a its.toArray ∧ a < s.heap.objs.size := by
  cases k with
  | true =>
    obtain ⟨its, r, p, _⟩ := I.list h
    exact ⟨its, r, p.isList, p.lt⟩
  | false =>
    obtain ⟨its, r, p, _⟩ := I.tuple h
    exact ⟨its, r, p, p.lt⟩
theorem sq_inj (I : L2.Inv X pins σ H s) (h : Sq X.K k H a xs) (h' : Sq X.K k H a ys) : xs = ys := by
  cases k with
  | true => exact I.list_inj h h'
  | false => exact I.tuple_inj h h'
end
/-- what zip walks -/
def ItP (K : PySem.W.Frag) (k1 : Bool) (a : Addr) (k2 : Bool) (b : Addr) : It :=
  ⟨fun i H => ∃ xs ys x y, Sq K k1 H a xs ∧ Sq K k2 H b ys ∧ xs[i]? = some x ∧ ys[i]? = some y,
   fun i H v H' => ∃ T x y, v = V.ref T ∧ H T = none ∧ H' = upd H T (.tup [x, y]) ∧ (∀ l, Sq K k1 H a l → l[i]? = some x) ∧ ∀ l, Sq K k2 H b l → l[i]? = some y,
   fun i H => ∃ xs ys, Sq K k1 H a xs ∧ Sq K k2 H b ys ∧ i ≤ xs.length ∧ i ≤ ys.length ∧ (i = xs.length ∨ i = ys.length)⟩
theorem turn_zipP {P : Program} {w : World} {K : PySem.W.Frag} {elts : List Expr} {kk : Nat} {tpos : Pos} {k1 k2 : Bool} {a b z TI TO i1 i2 : Addr} (S : ZipSep2 z TI TO i1 i2 [i1, a] [i2, b]) (n1 : a ≠ i1) (n2 : b ≠ i2) :
    Turn P w K (.Tuple elts kk tpos) (ItP K k1 a k2 b) [z, TI, TO, i1, i2] z (fun i h => IsZip h z TI TO .none ∧ IsTupOf2 h TI (.ref i1) (.ref i2) ∧ (∃ x y, IsTupOf2 h TO x y) ∧ HIt h k1 i1 a i ∧ HIt h k2 i2 b i) where
  mem := by simp
  obj := fun i h st c hc => by
    obtain ⟨hz, hTI, ⟨x, y, hTO⟩, h1, h2⟩ := st
    have e' : c = z ∨ c = TI ∨ c = TO ∨ c = i1 ∨ c = i2 := by simpa using hc
    rcases e' with rfl | rfl | rfl | rfl | rfl
    · exact ⟨_, hz, fun v q => nomatch q⟩
    · exact ⟨_, hTI, fun v q => nomatch q⟩
    · exact ⟨_, hTO, fun v q => nomatch q⟩
    · exact hit_obj h1
    · exact hit_obj h2
  keep := fun i h h' st q => by
    obtain ⟨hz, hTI, ⟨x, y, hTO⟩, h1, h2⟩ := st
    exact ⟨q z (by simp) _ hz, q TI (by simp) _ hTI, ⟨x, y, q TO (by simp) _ hTO⟩, hit_at h1 fun o u => q i1 (by simp) o u, hit_at h2 fun o u => q i2 (by simp) o u⟩
  item := by
    intro X hP hw hK hc i pins s σ H E I hf st hg
    subst hP hw hK
    obtain ⟨hz, hTI, ⟨x0, y0, hTO⟩, h1, h2⟩ := st
    obtain ⟨xs, ys, x, y, hqx, hqy, hx, hy⟩ := hg
    obtain ⟨its, rv, p, _⟩ := inv_sq I hqx
    obtain ⟨its2, rv2, p2, _⟩ := inv_sq I hqy
    obtain ⟨u, hu, ru⟩ := rv.get hx
    obtain ⟨u2, hu2, ru2⟩ := rv2.get hy
    have hh : X.A.in1.handled = none := I.ok.hd hc
    have hzl : z < s.heap.objs.size := Heap.lt_size hz
    have lt1 : i < its.toArray.size := by rw [List.size_toArray]; exact (List.getElem?_eq_some_iff.mp hu).1
    have lt2 : i < its2.toArray.size := by rw [List.size_toArray]; exact (List.getElem?_eq_some_iff.mp hu2).1
    refine wpAny_pyNext_zipD2_item S (drw hh k1 i1 a n1 its.toArray) (drw hh k2 i2 b n2 its2.toArray) hz hTI hTO ⟨h1, p⟩ ⟨h2, p2⟩ lt1 lt2 fun v1 v2 h' tk e1 e2 hz' hTO' st1 st2 hT hsz hk => ?_
    obtain rfl : v1 = u := by
      have z1 : its.toArray[i]? = some v1 := e1
      simp at z1
      rw [hu] at z1
      exact (Option.some.inj z1).symm
    obtain rfl : v2 = u2 := by
      have z2 : its2.toArray[i]? = some v2 := e2
      simp at z2
      rw [hu2] at z2
      exact (Option.some.inj z2).symm
    refine ⟨_, rfl, wpAny_letOwnedTupleGo_zip (s := { s with heap := h', toks := tk }) hz' fun h'' hz'' sb => ?_⟩
    have hT2 : h''.get? s.heap.objs.size = some { cls := .type "tuple", data := .seq #[v1, v2] } := (sb.2 _ (Nat.ne_of_gt hzl)).trans hT
    have new : ObjOk X.prog X.w (upd H s.heap.objs.size (.tup [x, y])) h'' s.heap.objs.size (.tup [x, y]) :=
      ⟨by show 2 ≤ sizeLine; decide, [v1, v2], .cons ru (.cons ru2 .nil), ⟨_, hT2, rfl, _, rfl⟩⟩
    have I1 : L2.Inv X pins σ (upd H s.heap.objs.size (.tup [x, y])) { s with heap := h'', toks := tk } :=
      I.turnedNew (t' := tk) (ch := [z, TI, TO, i1, i2]) (fun c o hb q => (sb.2 c (fun q1 => hb (by simp [q1]))).trans (hk c o (fun q1 => hb (by simp [q1])) (fun q1 => hb (by simp [q1])) (fun q1 => hb (by simp [q1])) (fun q1 => hb (by simp [q1])) q)) hf (Nat.le_refl _) new
    refine ⟨.ref s.heap.objs.size, _, I1, rfl, ⟨_, x, y, rfl, I.hok.fresh (Nat.le_refl _), rfl, fun l hl => by rw [sq_inj I hl hqx]; exact hx, fun l hl => by rw [sq_inj I hl hqy]; exact hy⟩, ⟨hz'', ?_, ⟨v1, v2, ?_⟩, ?_, ?_⟩, fun c hcm => ?_⟩
    · exact (sb.2 _ S.TIz).trans (hk _ _ S.TIz S.TITO S.TIi1 S.TIi2 hTI)
    · exact (sb.2 _ S.TOz).trans hTO'
    · exact hit_at st1.1 fun o q => (sb.2 _ S.zi1.symm).trans q
    · exact hit_at st2.1 fun o q => (sb.2 _ S.zi2.symm).trans q
    · have hlt : c < s.heap.objs.size := by
        have e' : c = z ∨ c = TI ∨ c = TO ∨ c = i1 ∨ c = i2 := by simpa using hcm
        rcases e' with rfl | rfl | rfl | rfl | rfl
        · exact hzl
        · exact Heap.lt_size hTI
        · exact Heap.lt_size hTO
        · obtain ⟨_, q, _⟩ := hit_obj h1; exact Heap.lt_size q
        · obtain ⟨_, q, _⟩ := hit_obj h2; exact Heap.lt_size q
      rw [upd_ne (Nat.ne_of_lt hlt)]
      exact (hf c hcm).1
  done := by
    intro X hP hw hK hc i pins s σ H E I hf st hg
    subst hP hw hK
    obtain ⟨hz, hTI, ⟨x0, y0, hTO⟩, h1, h2⟩ := st
    obtain ⟨xs, ys, hqx, hqy, l1, l2, hend⟩ := hg
    obtain ⟨its, rv, p, _⟩ := inv_sq I hqx
    obtain ⟨its2, rv2, p2, _⟩ := inv_sq I hqy
    have m1 := rv.length
    have m2 := rv2.length
    have hh : X.A.in1.handled = none := I.ok.hd hc
    refine wpAny_pyNext_zipD2_end S (drw hh k1 i1 a n1 its.toArray) (drw hh k2 i2 b n2 its2.toArray) hz hTI hTO ⟨h1, p⟩ ⟨h2, p2⟩ (by rw [List.size_toArray] <;> omega) (by rw [List.size_toArray] <;> omega) (by rw [List.size_toArray, List.size_toArray] <;> omega) fun h' tk hk => ?_
    exact ⟨rfl, I.turnedL (t' := tk) (ch := [z, TI, TO, i1, i2]) (fun c o hb q => hk c o (fun q1 => hb (by simp [q1])) (fun q1 => hb (by simp [q1])) (fun q1 => hb (by simp [q1])) (fun q1 => hb (by simp [q1])) q) hf⟩
  self := fun A i s Q E st h => wpAny_pyIter_zip st.1 h
def iZipP (K : PySem.W.Frag) (k1 k2 : Bool) (ta : TA) : TI := fun σ H R => ta σ H fun vs H1 => ∃ a b xs ys, vs = [.ref a, .ref b] ∧ Sq K k1 H1 a xs ∧ Sq K k2 H1 b ys ∧ R (ItP K k1 a k2 b) H1
theorem pi_zipP {X : Cx} {e e2 : Expr} {ta : TA} {p pos tpos : Pos} {elts : List Expr} {kk : Nat} (k1 k2 : Bool) (hg : Gl X "zip") (hm : X.mg "zip" = none) (ha : PA X [e, e2] ta)
    (hs : starEach [e, e2] X.env = (false, eval e X.env) :: starEach [e2] X.env := by rfl) (hpl : (backTo pos (starEach [e2] X.env)).any (·.1) = false := by rfl) :
    PI X (.Tuple elts kk tpos) (.Call (.Name "zip" p) [e, e2] [] pos) (iZipP X.K k1 k2 ta) := by
  refine ⟨fun pins s σ H R I h => ?_⟩
  refine Call_ (ld_blt I hg hm PyProof.Rows.boot_zip (PyProof.Rows.callWith_type1 (thn (ha.run pos pins s σ H _ I h) fun us s1 ⟨vs, H1, I1, r1, q1⟩ => ?_) hs hpl))
  obtain ⟨a, b, xs, ys, rfl, hqx, hqy, q⟩ := q1
  cases r1 with
  | cons r rr =>
    cases rr with
    | cons r' rr =>
      cases rr
      obtain rfl := r
      obtain rfl := r'
      obtain ⟨its, rv, p1, la⟩ := inv_sq I1 hqx
      obtain ⟨its2, rv2, p2, lb⟩ := inv_sq I1 hqy
      refine zip_begins2 (bgn k1 a its.toArray) (bgn k2 b its2.toArray) p1 p2 fun h' hz hTI hTO g1 g2 hsz hk => wpAny_pyIter_zip hz ?_
      have I2 : L2.Inv X pins σ H1 { s1 with heap := h' } := I1.kept (t' := s1.toks) hk
      refine ⟨s1.heap.objs.size + 4, [s1.heap.objs.size + 4, s1.heap.objs.size + 2, s1.heap.objs.size + 3, s1.heap.objs.size, s1.heap.objs.size + 1], _, _, H1, rfl, I2,
        turn_zipP (k1 := k1) (k2 := k2) (zip_sep2 (fp1 := [a]) (fp2 := [b]) (by simpa using la) (by simpa using lb)) (Nat.ne_of_lt la) (Nat.ne_of_lt (Nat.lt_succ_of_lt lb)), ⟨hz, hTI, ⟨_, _, hTO⟩, hit_0 g1, hit_0 g2⟩, fun c hcm => ?_, q⟩
      have hle : s1.heap.objs.size ≤ c := by
        have e' : c = s1.heap.objs.size + 4 ∨ c = s1.heap.objs.size + 2 ∨ c = s1.heap.objs.size + 3 ∨ c = s1.heap.objs.size ∨ c = s1.heap.objs.size + 1 := by simpa using hcm
        have n0 := Nat.le_refl s1.heap.objs.size
        rcases e' with rfl | rfl | rfl | rfl | rfl
        · exact Nat.le_add_right _ _
        · exact Nat.le_add_right _ _
        · exact Nat.le_add_right _ _
        · exact n0
        · exact Nat.le_add_right _ _
      exact I1.fpOk hle (I1.hok.fresh hle)

/-! enumerate -/
set_option maxHeartbeats 1000000 in
theorem meets_enum1 {v : Value} {o : Obj} {Hh : Heap → Prop} (B : Begins v o Hh) :
    Meets (Builtin.«enumerate.__new__» ⟨[.type "enumerate", v], []⟩) (fun _ R s => Hh s.heap ∧
      R (.ok (.ret (.ref (s.heap.push o).objs.size))) { s with heap := (s.heap.push o).push { cls := .type "enumerate", data := .fields #[.none, .bool false, .ref s.heap.objs.size, rawInt 0, .none, .none] } }) :=
  .of_wp fun prog w A R s h => by
    obtain ⟨hp, g, d, tk, os⟩ := s; obtain ⟨h1, h⟩ := h
    have hsub := sub_enumerate
    have it1 : ∀ {A' : Around} {E : Value → Shared → Prop} {Q : Value → Shared → Prop}, Q (.ref hp.objs.size) ⟨hp.push o, g, d, tk, os⟩ → wpAny (model prog w) A' (pyIter v) Q E ⟨hp, g, d, tk, os⟩ :=
      fun q => B.iter prog w _ _ ⟨hp, g, d, tk, os⟩ _ h1 q
    wp_walk using it1
    refine wpAny_stack_any fun st => wpAny_pure ?_
    split
    · rename_i c _ _ _ _ _
      cases (c == Value.type "enumerate")
      · wp_walk using it1
        exact ⟨_, rfl, h⟩
      · wp_walk using it1
        exact ⟨_, rfl, h⟩
    · wp_walk using it1
      exact ⟨_, rfl, h⟩
theorem enum_begins1 {prog : Program} {w : World} {A : Around} {E : Value → Shared → Prop} {s : Shared} {v : Value} {o : Obj} {Hh : Heap → Prop} {Q : Value → Shared → Prop} (B : Begins v o Hh) (h1 : Hh s.heap)
    (h : ∀ h', IsEnum h' (s.heap.objs.size + 1) s.heap.objs.size 0 .none → h'.get? s.heap.objs.size = some o → (∀ b o, s.heap.get? b = some o → h'.get? b = some o) → Q (.ref (s.heap.objs.size + 1)) { s with heap := h' }) :
    wpAny (model prog w) A (call (.type "enumerate") [v]) Q E s := by
  refine callType_new F.called_enumerate (by decide) (F.typeCall_enumerate_1 _) (F.newCall_enumerate_1 _) (fun obj => F.args_object_init_2 obj _) F.entry_enumerate_new (meets_enum1 B) ⟨h1, ?_⟩
  have hz : (s.heap.push o).objs.size = s.heap.objs.size + 1 := Heap.size_push ..
  show _ ∧ _
  rw [hz]
  have he : IsEnum ((s.heap.push o).push { cls := .type "enumerate", data := .fields #[.none, .bool false, .ref s.heap.objs.size, rawInt 0, .none, .none] }) (s.heap.objs.size + 1) s.heap.objs.size 0 .none := by
    have q := Heap.get?_push_size (s.heap.push o) (o := { cls := .type "enumerate", data := .fields #[.none, .bool false, .ref s.heap.objs.size, rawInt 0, .none, .none] }) rfl
    rw [hz] at q; exact q
  exact ⟨⟨_, he, rfl⟩, h _ he (Heap.get?_push_of_some _ (Heap.get?_push_size _ B.free)) fun b o x => Heap.get?_push_of_some _ (Heap.get?_push_of_some _ x)⟩
def ItE (K : PySem.W.Frag) (k : Bool) (a : Addr) : It :=
  ⟨fun i H => ∃ xs x, Sq K k H a xs ∧ xs[i]? = some x,
   fun i H v H' => ∃ T x, v = V.ref T ∧ H T = none ∧ H' = upd H T (.tup [.int (i : Nat), x]) ∧ ∀ l, Sq K k H a l → l[i]? = some x,
   fun i H => ∃ xs, Sq K k H a xs ∧ i = xs.length⟩
theorem turn_enumP {P : Program} {w : World} {K : PySem.W.Frag} {elts : List Expr} {kk : Nat} {tpos : Pos} {k : Bool} {a e it : Addr} (ne : e ≠ it) (na : a ≠ it) (nea : e ≠ a) :
    Turn P w K (.Tuple elts kk tpos) (ItE K k a) [e, it] e (fun i h => (∃ old, IsEnum h e it ((i : Nat) : Int) old) ∧ HIt h k it a i) where
  mem := by simp
  obj := fun i h st b hb => by
    obtain ⟨⟨old, he⟩, hi⟩ := st
    have e' : b = e ∨ b = it := by simpa using hb
    rcases e' with rfl | rfl
    · exact ⟨_, he, fun v q => nomatch q⟩
    · exact hit_obj hi
  keep := fun i h h' st q => by
    obtain ⟨⟨old, he⟩, hi⟩ := st
    exact ⟨⟨old, q e (by simp) _ he⟩, hit_at hi fun o u => q it (by simp) o u⟩
  item := by
    intro X hP hw hK hc i pins s σ H E I hf st hg
    subst hP hw hK
    obtain ⟨⟨old, he⟩, hit⟩ := st
    obtain ⟨xs, x, hq, hx⟩ := hg
    obtain ⟨its, rv, p, _⟩ := inv_sq I hq
    obtain ⟨u, hu, ru⟩ := rv.get hx
    have hh : X.A.in1.handled = none := I.ok.hd hc
    have hel : e < s.heap.objs.size := Heap.lt_size he
    have hil : it < s.heap.objs.size := by obtain ⟨_, q, _⟩ := hit_obj hit; exact Heap.lt_size q
    have lt1 : i < its.toArray.size := by rw [List.size_toArray]; exact (List.getElem?_eq_some_iff.mp hu).1
    refine wpAny_pyNext_enum_itemC (drw hh k it a na its.toArray) he ⟨hit, p⟩ lt1 ne (by simp [ne, nea]) fun v h' tk e1 ho st1 hT hsz hk => ?_
    obtain rfl : v = u := by
      have z1 : its.toArray[i]? = some v := e1
      simp at z1
      rw [hu] at z1
      exact (Option.some.inj z1).symm
    refine ⟨_, rfl, wpAny_letOwnedTupleGo_enum (s := { s with heap := h', toks := tk + 1 }) ho fun h'' he' sb => ?_⟩
    have hT2 : h''.get? s.heap.objs.size = some { cls := .type "tuple", data := .seq #[.int i tk, v] } := (sb.2 _ (Nat.ne_of_gt hel)).trans hT
    have new : ObjOk X.prog X.w (upd H s.heap.objs.size (.tup [.int (i : Nat), x])) h'' s.heap.objs.size (.tup [.int (i : Nat), x]) :=
      ⟨by show 2 ≤ sizeLine; decide, [.int i tk, v], .cons ⟨_, rfl⟩ (.cons ru .nil), ⟨_, hT2, rfl, _, rfl⟩⟩
    have I1 : L2.Inv X pins σ (upd H s.heap.objs.size (.tup [.int (i : Nat), x])) { s with heap := h'', toks := tk + 1 } :=
      I.turnedNew (ch := [e, it]) (fun b ob hb q => (sb.2 b (fun z => hb (by simp [z]))).trans (hk b ob (fun z => hb (by simp [z])) (fun z => hb (by simp [z])) q)) hf (Nat.le_refl _) new
    refine ⟨.ref s.heap.objs.size, _, I1, rfl, ⟨_, x, rfl, I.hok.fresh (Nat.le_refl _), rfl, fun l hl => by rw [sq_inj I hl hq]; exact hx⟩, ⟨⟨v, ?_⟩, hit_at st1.1 fun o q => (sb.2 it (Ne.symm ne)).trans q⟩, fun b hb => ?_⟩
    · have e1 : ((i + 1 : Nat) : Int) = (i : Int) + 1 := by omega
      rw [e1]; exact he'
    · have hb' : b < s.heap.objs.size := by
        have e' : b = e ∨ b = it := by simpa using hb
        rcases e' with rfl | rfl
        · exact hel
        · exact hil
      rw [upd_ne (Nat.ne_of_lt hb')]
      exact (hf b hb).1
  done := by
    intro X hP hw hK hc i pins s σ H E I hf st hg
    subst hP hw hK
    obtain ⟨⟨old, he⟩, hit⟩ := st
    obtain ⟨xs, hq, hx⟩ := hg
    obtain ⟨its, rv, p, _⟩ := inv_sq I hq
    have m1 := rv.length
    have hh : X.A.in1.handled = none := I.ok.hd hc
    have hi2 : i = its.toArray.size := by rw [List.size_toArray]; omega
    refine wpAny_pyNext_enum_endD (drw hh k it a na its.toArray) he (by rw [← hi2]; exact ⟨hit, p⟩) fun h' hk => ⟨rfl, I.turnedL (t' := s.toks) (ch := [e, it]) (fun c o hb q => hk c o (fun q1 => hb (by simp [q1])) q) hf⟩
  self := fun A i s Q E st h => let ⟨⟨_, he⟩, _⟩ := st; wpAny_pyIter_enum he h
def iEnumP (K : PySem.W.Frag) (k : Bool) (ta : TA) : TI := fun σ H R => ta σ H fun vs H1 => ∃ a xs, vs = [.ref a] ∧ Sq K k H1 a xs ∧ R (ItE K k a) H1
theorem pi_enumP {X : Cx} {e : Expr} {ta : TA} {p pos tpos : Pos} {elts : List Expr} {kk : Nat} (k : Bool) (hg : Gl X "enumerate") (hm : X.mg "enumerate" = none) (ha : PA X [e] ta) (hs : starEach [e] X.env = [(false, eval e X.env)] := by rfl) :
    PI X (.Tuple elts kk tpos) (.Call (.Name "enumerate" p) [e] [] pos) (iEnumP X.K k ta) := by
  refine ⟨fun pins s σ H R I h => ?_⟩
  refine Call_ (ld_blt I hg hm boot_enumerate (PyProof.Rows.callWith_type1 (thn (ha.run pos pins s σ H _ I h) fun us s1 ⟨vs, H1, I1, r1, q1⟩ => ?_) hs rfl))
  obtain ⟨a, xs, rfl, hq, q⟩ := q1
  cases r1 with
  | cons r rr =>
    cases rr
    obtain rfl := r
    obtain ⟨its, rv, p1, la⟩ := inv_sq I1 hq
    refine enum_begins1 (bgn k a its.toArray) p1 fun h' he g1 hk => wpAny_pyIter_enum he ?_
    have I2 : L2.Inv X pins σ H1 { s1 with heap := h' } := I1.kept (t' := s1.toks) hk
    refine ⟨s1.heap.objs.size + 1, [s1.heap.objs.size + 1, s1.heap.objs.size], _, _, H1, rfl, I2, turn_enumP (k := k) (Nat.succ_ne_self _) (Nat.ne_of_lt la) (Nat.ne_of_gt (Nat.lt_succ_of_lt la)), ⟨⟨.none, he⟩, hit_0 g1⟩, fun b hb => ?_, q⟩
    have e' : b = s1.heap.objs.size + 1 ∨ b = s1.heap.objs.size := by simpa using hb
    have hle : s1.heap.objs.size ≤ b := by
      rcases e' with rfl | rfl
      · exact Nat.le_add_right _ _
      · exact Nat.le_refl _
    exact I1.fpOk hle (I1.hok.fresh hle)
end V1
set_option Elab.async false
set_option linter.all false
set_option maxRecDepth 100000
set_option maxHeartbeats 4000000
/-! The end of a law row, by a promise that knows the guards. -/
namespace V1
open PySem PySem.Spec PyProof.Rows L2

theorem endG {P : Program} {w : World} {K : PySem.W.Frag} {mg mb : Str → Option Value} {k : Nat} {fa a : Addr} {fd : FuncData} {x : Str} {sp : Sp} {s1 : Shared} {vs : List Value} {ns : List Int}
    (KX : K.In s1.heap) (hns : s1.heap.Ns mainGlobals mg) (hb : s1.heap.Ns builtinsNs mb) (hbb : ∀ x : Str, x ≠ "__name__" → mb x = bootBuiltins x) (nl : s1.heap.NoLimit) (hg : s1.gens = #[])
    (ha : s1.heap.get? a = some { cls := .type "list", data := .seq vs.toArray }) (hi : IntsAre vs ns) (hl : ns.length ≤ sizeLine) (hr : Room k callerA)
    (F : ∀ base : Heap, K.In base → base.Ns mainGlobals mg → FnG P w K mg base k fa fd [x] sp) (bnd : ∀ (s : Shared) (u : Value), BindsTo s fd ⟨[u], []⟩ [(x, u)])
    (hsp : ∀ H : Hp, Only H → SqL K H a (ns.map V.int) → sp [.ref a] H (fun v _ => v = .bl true) fun _ _ _ => False) :
    codeAny (model P w) callerA (.call (.ref fa) ⟨[.ref a], []⟩) (fun r t => r = .ok (.ret (.bool true)) ∧ OldK s1.heap t.heap ∧ t.os = s1.os ∧ AllBare t.gens) s1 := by
  have rv := vals_ints hi
  have lenV := hi.length
  have core : ∀ H : Hp, Only H → SqL K H a (ns.map V.int) → HOk P w H s1.heap → (∀ b, H b ≠ none → b = a) → (H a ≠ none → K.lookup a = none) →
      codeAny (model P w) callerA (.call (.ref fa) ⟨[.ref a], []⟩) (fun r t => r = .ok (.ret (.bool true)) ∧ OldK s1.heap t.heap ∧ t.os = s1.os ∧ AllBare t.gens) s1 := by
    intro H hO hS ok only notK
    have free : ∀ {b : Addr} {o : Obj}, s1.heap.get? b = some o → (b = a → False) → H b = none := fun {b o} e d => by
      cases q : H b with
      | none => rfl
      | some u => exact (d (only b (by rw [q]; simp))).elim
    have nsK : ∀ {b : Addr} {m : Str → Option Value}, s1.heap.Ns b m → (hidT s1.heap H).Ns b m := fun {b m} ⟨o, es, ep, e, d, r⟩ =>
      ⟨o, es, ep, hidT_get e (free e fun z => by
        rw [z, ha] at e
        cases e
        have d1 : Data.seq vs.toArray _ = Data.dict es ep := d
        cases d1), d, r⟩
    have hKb : K.In (hidT s1.heap H) := fun b o e => hidT_get (KX b o e) (by
      cases q : H b with
      | none => rfl
      | some u =>
        have z := only b (by rw [q]; simp)
        rw [z] at e q
        rw [notK (by rw [q]; simp)] at e
        cases e)
    have hM : Mod K mg (hidT s1.heap H) := ⟨hKb, nsK hns, ⟨mb, nsK hb, hbb⟩, let ⟨mc, h1, h2⟩ := nl; ⟨mc, nsK h1, h2⟩⟩
    have e0 : Env0 P w K mg (hidT s1.heap H) callerA [] s1 H := ⟨rfl, hM, fun b o e => of_hidT e, Nat.le_of_eq (hidT_size _ _), trivial, (fun b hb => absurd (show b ∈ ([] : List Addr) from hb) (by simp)), ok, .of_eq hg⟩
    refine codeAny_mono ((F _ hKb (nsK hns)).run callerA [] s1 H ⟨[.ref a], []⟩ [.ref a] [.ref a] _ _ rfl hr e0 (bnd s1 (.ref a)) (.cons rfl .nil) (hsp H hO hS)) fun r t h => ?_
    cases r with
    | error e => exact False.elim h
    | ok fl =>
      cases fl with
      | next => exact False.elim h
      | brk => exact False.elim h
      | cont => exact False.elim h
      | ret u =>
        obtain ⟨v, H2, os, bare, un, ok2, r2, q⟩ := h
        obtain rfl : v = .bl true := q
        obtain rfl : u = Value.bool true := r2
        refine ⟨rfl, OldK.of_keep fun b o e => ?_, os, bare⟩
        cases q : H b with
        | none => exact un.keep b o e q (fun z => absurd (show b ∈ ([] : List Addr) from z) (by simp)) (by simp)
        | some u =>
          rcases hO b with z | ⟨ob, xs, z⟩
          · rw [q] at z
            cases z
          · obtain ⟨e1, _⟩ := ok b _ z
            obtain ⟨e2, _⟩ := ok2 b _ (un.frzs b ob _ z)
            rw [e] at e1
            cases e1
            exact e2
  cases hk : K.lookup a with
  | some o =>
    have e := KX a o hk
    rw [ha] at e
    cases e
    exact core (fun _ => none) (fun _ => Or.inl rfl) (Or.inr ⟨_, vs.toArray, _, hk, rfl, rfl, rfl, by rw [List.size_toArray, lenV]; exact hl, by simpa using rv⟩) (fun b u z => by
      have z1 : (none : Option HO) = some u := z
      cases z1) (fun b z => absurd rfl z) (fun z => absurd rfl z)
  | none =>
    have one : ∀ b, (if b = a then some (HO.frz { cls := .type "list", data := .seq vs.toArray } (.lst (ns.map V.int))) else none) ≠ none → b = a := fun b z => by
      by_cases e : b = a
      · exact e
      · exact absurd (if_neg e) z
    refine core (fun b => if b = a then some (.frz { cls := .type "list", data := .seq vs.toArray } (.lst (ns.map V.int))) else none) (fun b => ?_) (Or.inl (Or.inr ⟨{ cls := .type "list", data := .seq vs.toArray }, if_pos rfl⟩)) (fun b u z => ?_) one fun _ => hk
    · by_cases e : b = a
      · exact Or.inr ⟨_, _, if_pos e⟩
      · exact Or.inl (if_neg e)
    · have e : b = a := one b (fun y => by
        have z2 := y.symm.trans z
        cases z2)
      have z1 := (if_pos e).symm.trans z
      cases z1
      subst e
      exact ⟨ha, by rw [List.length_map]; exact hl, vs, _, rv, ha⟩
theorem walkG {l : PySem.W.OpenLaw} {n k : Nat} {q : Program} {loose : List Str} {XP : (Str → Option Value) → Heap → Prop} {YP : World → Heap → Prop} {d : DefRec} {x : Str}
    (hn : l.most = some n) (hn2 : n ≤ sizeLine) (hdf : d.params.defaults = []) (hr : Room k callerA)
    (F : ∀ (w : World) (mg : Str → Option Value) (fa : Addr) (h : Heap), YP w h → h.Ns mainGlobals mg → mg d.name = some (.ref fa) →
      ∃ (K : PySem.W.Frag) (fd : FuncData) (sp : Sp), K.In h ∧ (∀ (s : Shared) (u : Value), BindsTo s fd ⟨[u], []⟩ [(x, u)]) ∧
        (∀ (H : Hp) (a : Addr) (ns : List Int), ns.length ≤ n → Only H → SqL K H a (ns.map V.int) → sp [.ref a] H (fun v _ => v = .bl true) fun _ _ _ => False) ∧
        ∀ base : Heap, K.In base → base.Ns mainGlobals mg → FnG l.prog w K mg base k fa fd [x] sp) :
    PySem.W.WalkO q loose XP YP l.row.toRowW d [] (fun f vs => PySem.call f vs) := by
  refine Att.attach_call hn hdf fun w s0 s1 mg mb fa o pm cd doc a vs ns G Y ho hd hcd hmg hobj hints hlen hg => ?_
  obtain ⟨K, fd, sp, KX, hb, hsp, hF⟩ := F w mg fa _ Y G.T.g hmg
  exact endG KX G.T.g G.T.b G.T.builtins G.T.nolimit hg hobj hints (Nat.le_trans hlen hn2) hr hF hb fun H hO hS => hsp H a ns hlen hO hS
end V1
set_option Elab.async false
set_option linter.all false
set_option maxRecDepth 100000
set_option maxHeartbeats 4000000
/-! What an expression, a statement comes to, told by DATA: the slots hold data, an expression gives data, the heap grows. -/
namespace V1
open PySem PySem.Spec PyProof.Rows L2

/-- a thing that neither is a dict of draws nor a table of code objects -/
def Fx (o : HO) : Prop := (∀ kvs, o ≠ .dK kvs) ∧ ∀ ps, o ≠ .tbl ps
theorem fxLst {xs : List V} : Fx (.lst xs) := ⟨fun _ z => (by cases z), fun _ z => (by cases z)⟩
theorem fxTup {xs : List V} : Fx (.tup xs) := ⟨fun _ z => (by cases z), fun _ z => (by cases z)⟩
/-! ### data that stand in tracked objects, away from the addresses of A, or as tuples of the written part -/
/-- a tuple of the written part -/
def KT (K : PySem.W.Frag) (a : Addr) (xs : List V) : Prop := ∃ (o : Obj) (its : Array Value) (n : Nat), K.lookup a = some o ∧ o.cls = .type "tuple" ∧ o.data = .seq its n ∧ its.size ≤ sizeLine ∧ Vals xs its.toList
theorem KT.sq {K : PySem.W.Frag} {a : Addr} {xs : List V} (h : KT K a xs) (H : Hp) : SqT K H a xs := .inr h
mutual
inductive Dv (K : PySem.W.Frag) (A : Addr → Prop) (H : Hp) : V → PyData → Prop
  | non : Dv K A H .non .none
  | bl (b : Bool) : Dv K A H (.bl b) (.bool b)
  | int (i : Int) : Dv K A H (.int i) (.int i)
  | str (x : Str) : Dv K A H (.str x) (.str x)
  | lst {a : Addr} {xs : List V} {ds : List PyData} : ¬ A a → H a = some (.lst xs) → DvAll K A H xs ds → Dv K A H (.ref a) (.list ds)
  | tup {a : Addr} {xs : List V} {ds : List PyData} : ¬ A a → H a = some (.tup xs) → DvAll K A H xs ds → Dv K A H (.ref a) (.tuple ds)
  | ktup {a : Addr} {xs : List V} {ds : List PyData} : KT K a xs → DvAll K A H xs ds → Dv K A H (.ref a) (.tuple ds)
inductive DvAll (K : PySem.W.Frag) (A : Addr → Prop) (H : Hp) : List V → List PyData → Prop
  | nil : DvAll K A H [] []
  | cons {v : V} {vs : List V} {d : PyData} {ds : List PyData} : Dv K A H v d → DvAll K A H vs ds → DvAll K A H (v :: vs) (d :: ds)
end
mutual
theorem Dv.map {K : PySem.W.Frag} {A A' : Addr → Prop} {H H' : Hp} (f : ∀ a o, ¬ A a → H a = some o → Fx o → ¬ A' a ∧ H' a = some o) : ∀ {d : PyData} {v : V}, Dv K A H v d → Dv K A' H' v d
  | .none, _, h => by cases h; exact .non
  | .bool b, _, h => by cases h; exact .bl b
  | .int i, _, h => by cases h; exact .int i
  | .str x, _, h => by cases h; exact .str x
  | .list ds, _, h => by
    cases h with
    | lst n e r =>
      obtain ⟨n2, e2⟩ := f _ _ n e fxLst
      exact .lst n2 e2 (DvAll.map f r)
  | .tuple ds, _, h => by
    cases h with
    | tup n e r =>
      obtain ⟨n2, e2⟩ := f _ _ n e fxTup
      exact .tup n2 e2 (DvAll.map f r)
    | ktup e r => exact .ktup e (DvAll.map f r)
  | .dict _, _, h => by cases h
theorem DvAll.map {K : PySem.W.Frag} {A A' : Addr → Prop} {H H' : Hp} (f : ∀ a o, ¬ A a → H a = some o → Fx o → ¬ A' a ∧ H' a = some o) : ∀ {ds : List PyData} {vs : List V}, DvAll K A H vs ds → DvAll K A' H' vs ds
  | [], _, h => by cases h; exact .nil
  | d :: ds, _, h => by
    cases h with
    | cons h1 h2 => exact .cons (Dv.map f h1) (DvAll.map f h2)
end
mutual
theorem Dv.dp {K : PySem.W.Frag} {A : Addr → Prop} {H : Hp} : ∀ {d : PyData} {v : V}, Dv K A H v d → Dp K H v d
  | .none, _, h => by cases h; exact .non
  | .bool b, _, h => by cases h; exact .bl b
  | .int i, _, h => by cases h; exact .int i
  | .str x, _, h => by cases h; exact .str x
  | .list ds, _, h => by
    cases h with
    | lst n e r => exact .lst (SqL.of e) (DvAll.dp r)
  | .tuple ds, _, h => by
    cases h with
    | tup n e r => exact .tup (SqT.of e) (DvAll.dp r)
    | ktup e r => exact .tup (e.sq H) (DvAll.dp r)
  | .dict _, _, h => by cases h
theorem DvAll.dp {K : PySem.W.Frag} {A : Addr → Prop} {H : Hp} : ∀ {ds : List PyData} {vs : List V}, DvAll K A H vs ds → DpAll K H vs ds
  | [], _, h => by cases h; exact .nil
  | d :: ds, _, h => by
    cases h with
    | cons h1 h2 => exact .cons (Dv.dp h1) (DvAll.dp h2)
end
section
variable {K : PySem.W.Frag} {A : Addr → Prop} {H : Hp} {xs ys : List V} {ds es : List PyData}
theorem DvAll.length (h : DvAll K A H xs ds) : xs.length = ds.length := by
  induction ds generalizing xs with
  | nil => cases h; rfl
  | cons d ds ih => cases h with | cons h1 h2 => rw [List.length_cons, List.length_cons, ih h2]
theorem DvAll.app (h : DvAll K A H xs ds) (h2 : DvAll K A H ys es) : DvAll K A H (xs ++ ys) (ds ++ es) := by
  induction ds generalizing xs with
  | nil => cases h; exact h2
  | cons d ds ih => cases h with | cons a b => exact .cons a (ih b)
theorem DvAll.get (h : DvAll K A H xs ds) {i : Nat} {d : PyData} (e : ds[i]? = some d) : ∃ x, xs[i]? = some x ∧ Dv K A H x d := by
  induction ds generalizing xs i with
  | nil => simp at e
  | cons d0 ds ih =>
    cases h with
    | cons a b =>
      cases i with
      | zero => simp at e; subst e; exact ⟨_, rfl, a⟩
      | succ i => simpa using ih b (by simpa using e)
theorem DvAll.getx (h : DvAll K A H xs ds) {i : Nat} {x : V} (e : xs[i]? = some x) : ∃ d, ds[i]? = some d ∧ Dv K A H x d := by
  induction ds generalizing xs i with
  | nil => cases h; simp at e
  | cons d0 ds ih =>
    cases h with
    | cons a b =>
      cases i with
      | zero => simp at e; subst e; exact ⟨_, rfl, a⟩
      | succ i => simpa using ih b (by simpa using e)
theorem DvAll.take (n : Nat) (h : DvAll K A H xs ds) : DvAll K A H (xs.take n) (ds.take n) := by
  induction ds generalizing xs n with
  | nil => cases h; simp; exact .nil
  | cons d0 ds ih =>
    cases h with
    | cons a b =>
      cases n with
      | zero => exact .nil
      | succ n => exact .cons a (ih n b)
theorem DvAll.drop (n : Nat) (h : DvAll K A H xs ds) : DvAll K A H (xs.drop n) (ds.drop n) := by
  induction ds generalizing xs n with
  | nil => cases h; simp; exact .nil
  | cons d0 ds ih =>
    cases h with
    | cons a b =>
      cases n with
      | zero => exact .cons a b
      | succ n => exact ih n b
theorem DvAll.set {i : Nat} {x : V} {d : PyData} (h : DvAll K A H xs ds) (hx : Dv K A H x d) : DvAll K A H (xs.set i x) (ds.set i d) := by
  induction ds generalizing xs i with
  | nil => cases h; exact .nil
  | cons d0 ds ih =>
    cases h with
    | cons a b =>
      cases i with
      | zero => exact .cons hx b
      | succ i => exact .cons a (ih b)
theorem DvAll.cut (h : DvAll K A H xs ds) (lo hi : Option Int) : DvAll K A H (cutV xs lo hi) ((ds.drop (HT.sIx ds.length 0 lo)).take (HT.sIx ds.length ds.length hi - HT.sIx ds.length 0 lo)) := by
  unfold cutV
  rw [h.length]
  exact (h.drop _).take _
theorem DvAll.ints {ns : List Int} (h : DvAll K A H xs (ns.map PyData.int)) : xs = ns.map V.int := by
  induction ns generalizing xs with
  | nil => cases h; rfl
  | cons n ns ih =>
    cases h with
    | cons a b =>
      cases a
      rw [ih b]
      rfl
theorem DvAll.rep (n : Nat) (h : DvAll K A H xs ds) : DvAll K A H (List.replicate n xs).flatten (List.replicate n ds).flatten := by
  induction n with
  | zero => exact .nil
  | succ n ih => rw [List.replicate_succ, List.replicate_succ, List.flatten_cons, List.flatten_cons]; exact h.app ih
end

/-! ### how a heap goes on -/
structure Rl where
  K : PySem.W.Frag
  G : Nat → Hp → Prop
  R : Nat → Hp → Hp → Prop
  M : V → Prop
  gle : ∀ {a b H}, a ≤ b → G b H → G a H
  rle : ∀ {a b H H'}, a ≤ b → R a H H' → R b H H'
  gr : ∀ {a b H H'}, G (a + b) H → R a H H' → G b H'
  tr : ∀ {a b H H1 H2}, R a H H1 → R b H1 H2 → R (a + b) H H2
  same : ∀ {H H'}, G 0 H → Same H H' → R 0 H H'
  fresh : ∀ {a H H' q o}, R a H H' → H q = none → (H' q = none ∨ ∃ xs, H' q = some (.lst xs)) → R a H (upd H' q o)
  keep : ∀ {a H H' b o}, R a H H' → H b = some o → Fx o → H' b = some o
  free : ∀ {a H H' q}, R a H H' → H' q = none → H q = none
  mref : ∀ {v}, M v → ∃ a, v = .ref a
abbrev mark : PyData := .dict []
def pureL (K : PySem.W.Frag) : Rl where
  K := K
  G := fun _ _ => True
  R := fun _ H H' => Same H H'
  M := fun _ => False
  gle := fun _ _ => trivial
  rle := fun _ r => r
  gr := fun _ _ => trivial
  tr := fun a b => a.trans b
  same := fun _ s => s
  fresh := fun s h _ b o e => by rw [upd_ne (ne_of_none e h)]; exact s b o e
  keep := fun s e _ => s _ _ e
  free := fun s e => Same.free s e
  mref := fun h => h.elim

section
variable (L : Rl)
def Dq (A : Addr → Prop) (H : Hp) (v : V) (d : PyData) : Prop := (d = mark ∧ L.M v) ∨ Dv L.K A H v d
def EnvOk (A : Addr → Prop) (σ : L2.St) (H : Hp) (Γ : List (Option PyData)) : Prop := σ.length = Γ.length ∧ ∀ (i : Nat) (d : PyData), Γ[i]? = some (some d) → ∃ v, σ[i]? = some (some v) ∧ Dq L A H v d
def Inn (A : Addr → Prop) (H : Hp) : Prop := ∀ b, A b → H b ≠ none
def EvG (n : Nat) (te : TE) (Γ : List (Option PyData)) (P : PyData → Prop) : Prop := ∀ A σ H, Inn A H → EnvOk L A σ H Γ → L.G n H → ∀ Q : VK, (∀ v d H', L.R n H H' → Dq L A H' v d → P d → Q v H') → te σ H Q
def EvD (te : TE) (Γ : List (Option PyData)) (d : PyData) : Prop := EvG L 0 te Γ (fun x => x = d)
def EaG (n : Nat) (ta : TA) (Γ : List (Option PyData)) (P : List PyData → Prop) : Prop := ∀ A σ H, Inn A H → EnvOk L A σ H Γ → L.G n H → ∀ Q : List V → Hp → Prop, (∀ vs ds H', L.R n H H' → vs.length = ds.length → (∀ (i : Nat) d, ds[i]? = some d → ∃ v, vs[i]? = some v ∧ Dq L A H' v d) → P ds → Q vs H') → ta σ H Q
def EaD (ta : TA) (Γ : List (Option PyData)) (ds : List PyData) : Prop := EaG L 0 ta Γ (fun x => x = ds)
def EtD (tt : TT) (Γ : List (Option PyData)) (b : Bool) : Prop := ∀ A σ H, Inn A H → EnvOk L A σ H Γ → L.G 0 H → ∀ Q : Bool → Hp → Prop, (∀ H', L.R 0 H H' → Q b H') → tt σ H Q
def EtG (n : Nat) (tt : TT) (Γ : List (Option PyData)) (P : Bool → Prop) : Prop := ∀ A σ H, Inn A H → EnvOk L A σ H Γ → L.G n H → ∀ Q : Bool → Hp → Prop, (∀ b H', L.R n H H' → P b → Q b H') → tt σ H Q
def SG (n : Nat) (ts : TS) (Γ : List (Option PyData)) (N : List (Option PyData) → Prop) (Rt : PyData → Prop) : Prop := ∀ A σ H, Inn A H → EnvOk L A σ H Γ → L.G n H → ∀ D : Ends,
  (∀ σ' H' Γ', L.R n H H' → EnvOk L A σ' H' Γ' → N Γ' → D.nx σ' H') → (∀ v d H', L.R n H H' → Dq L A H' v d → Rt d → D.rt v H') → ts D σ H
end
section
variable {K : PySem.W.Frag} {L : Rl} {A : Addr → Prop} {H H' : Hp} {v : V} {d : PyData} {σ : L2.St} {Γ : List (Option PyData)} {n a b : Nat}
theorem Dv.r (h : Dv K A H v d) (r : L.R n H H') : Dv K A H' v d := h.map fun _ _ na e k => ⟨na, L.keep r e k⟩
theorem DvAll.r {vs : List V} {ds : List PyData} (h : DvAll K A H vs ds) (r : L.R n H H') : DvAll K A H' vs ds := h.map fun _ _ na e k => ⟨na, L.keep r e k⟩
theorem Dq.r (h : Dq L A H v d) (r : L.R n H H') : Dq L A H' v d := h.imp (fun x => x) fun x => x.r r
theorem EnvOk.r (h : EnvOk L A σ H Γ) (r : L.R n H H') : EnvOk L A σ H' Γ := ⟨h.1, fun i d e => let ⟨v, h1, h2⟩ := h.2 i d e; ⟨v, h1, h2.r r⟩⟩
theorem Inn.r (h : Inn A H) (r : L.R n H H') : Inn A H' := fun b hb z => h b hb (L.free r z)
theorem Inn.no (h : Inn A H) {q : Addr} (e : H q = none) : ¬ A q := fun z => h q z e
theorem EnvOk.set (h : EnvOk L A σ H Γ) (hv : Dq L A H v d) (i : Nat) : EnvOk L A (σ.set i (some v)) H (Γ.set i (some d)) := by
  refine ⟨by rw [List.length_set, List.length_set]; exact h.1, fun j d' e => ?_⟩
  by_cases hj : i = j
  · subst hj
    have hl : i < Γ.length := by
      have := (List.getElem?_eq_some_iff.mp e).1
      rwa [List.length_set] at this
    rw [List.getElem?_set_self hl] at e
    have e1 : d = d' := Option.some.inj (Option.some.inj e)
    subst e1
    exact ⟨v, List.getElem?_set_self (by rw [h.1]; exact hl), hv⟩
  · rw [List.getElem?_set_ne hj] at e
    obtain ⟨w, h1, h2⟩ := h.2 j d' e
    exact ⟨w, by rw [List.getElem?_set_ne hj]; exact h1, h2⟩
theorem Dq.ne (h : Dq L A H v d) (hd : d ≠ mark) : Dv L.K A H v d := h.elim (fun z => absurd z.1 hd) fun z => z
theorem Dq.int {i : Int} (h : Dq L A H v (.int i)) : v = .int i := by
  have h1 := h.ne (by intro z; cases z)
  cases h1
  rfl
theorem Dq.str {i : Str} (h : Dq L A H v (.str i)) : v = .str i := by
  have h1 := h.ne (by intro z; cases z)
  cases h1
  rfl
theorem Dq.bool {i : Bool} (h : Dq L A H v (.bool i)) : v = .bl i := by
  have h1 := h.ne (by intro z; cases z)
  cases h1
  rfl
/-- a tuple, tracked or written -/
def TpAt (K : PySem.W.Frag) (A : Addr → Prop) (H : Hp) (a : Addr) (xs : List V) : Prop := (¬ A a ∧ H a = some (.tup xs)) ∨ KT K a xs
theorem TpAt.sq {K : PySem.W.Frag} {a : Addr} {xs : List V} (h : TpAt K A H a xs) : SqT K H a xs := h.elim (fun z => SqT.of z.2) fun z => z.sq H
theorem TpAt.dv {K : PySem.W.Frag} {a : Addr} {xs : List V} {ds : List PyData} (h : TpAt K A H a xs) (r : DvAll K A H xs ds) : Dv K A H (.ref a) (.tuple ds) := h.elim (fun z => .tup z.1 z.2 r) fun z => .ktup z r
theorem Dq.tuple {ds : List PyData} (h : Dq L A H v (.tuple ds)) : ∃ a xs, v = .ref a ∧ TpAt L.K A H a xs ∧ DvAll L.K A H xs ds := by
  have h1 := h.ne (by intro z; cases z)
  cases h1 with
  | tup n e r => exact ⟨_, _, rfl, .inl ⟨n, e⟩, r⟩
  | ktup e r => exact ⟨_, _, rfl, .inr e, r⟩
theorem Dq.list {ds : List PyData} (h : Dq L A H v (.list ds)) : ∃ a xs, v = .ref a ∧ ¬ A a ∧ H a = some (.lst xs) ∧ DvAll L.K A H xs ds := by
  have h1 := h.ne (by intro z; cases z)
  cases h1 with
  | lst n e r => exact ⟨_, _, rfl, n, e, r⟩
/-- the budget is a nought's -/
theorem Rl.g0 (h : L.G n H) : L.G 0 H := L.gle (Nat.zero_le _) h
theorem Rl.newR (g : L.G n H) {q : Addr} {o : HO} (e : H q = none) : L.R 0 H (upd H q o) := L.same (L.g0 g) fun b u z => by rw [upd_ne (ne_of_none z e)]; exact z
theorem Rl.refl (g : L.G n H) : L.R 0 H H := L.same (L.g0 g) (Same.refl H)
theorem Rl.gR (g : L.G (a + b) H) (r : L.R a H H') : L.G b H' := L.gr g r

/-! ### expressions -/
variable {te ta tb : TE} {t : TA} {tt tu : TT} {P P1 : PyData → Prop}
theorem EvG.mono {P' : PyData → Prop} (h : EvG L a te Γ P) (hn : a ≤ b) (hp : ∀ d, P d → P' d) : EvG L b te Γ P' := fun A σ H hi he hg Q q => h A σ H hi he (L.gle hn hg) Q fun v d H' r hd p => q v d H' (L.rle hn r) hd (hp d p)
theorem EvD.to {d' : PyData} (h : EvD L te Γ d) (e : d = d') : EvD L te Γ d' := e ▸ h
theorem eg_var {i : Nat} (e : Γ[i]? = some (some d)) : EvD L (tVar i) Γ d := fun A σ H hi he hg Q q => by
  obtain ⟨v, h1, h2⟩ := he.2 i d e
  exact ⟨v, h1, q v d H (Rl.refl hg) h2 rfl⟩
theorem eg_int {i : Int} : EvD L (tC (.int i)) Γ (.int i) := fun A σ H hi he hg Q q => q _ _ H (Rl.refl hg) (.inr (.int i)) rfl
theorem eg_str {i : Str} : EvD L (tC (.str i)) Γ (.str i) := fun A σ H hi he hg Q q => q _ _ H (Rl.refl hg) (.inr (.str i)) rfl
theorem eg_bl {i : Bool} : EvD L (tC (.bl i)) Γ (.bool i) := fun A σ H hi he hg Q q => q _ _ H (Rl.refl hg) (.inr (.bl i)) rfl
theorem eg_non : EvD L (tC .non) Γ .none := fun A σ H hi he hg Q q => q _ _ H (Rl.refl hg) (.inr .non) rfl
/-- what a two-place operation gives, by data -/
def OpS (L : Rl) (r : R2) (d1 d2 : PyData) (P : PyData → Prop) : Prop := ∀ A H x y, Inn A H → L.G 0 H → Dq L A H x d1 → Dq L A H y d2 → ∀ Q : VK, (∀ v d H', L.R 0 H H' → Dq L A H' v d → P d → Q v H') → r x y H Q
theorem eg_opG {r : R2} {P1 P2 P : PyData → Prop} (ha : EvG L a ta Γ P1) (hb : EvG L b tb Γ P2) (hr : ∀ d1 d2, P1 d1 → P2 d2 → OpS L r d1 d2 P) : EvG L (a + b) (tOp r ta tb) Γ P := fun A σ H hi he hg Q q =>
  ha A σ H hi he (L.gle (Nat.le_add_right _ _) hg) _ fun x d1 H1 r1 hx p1 => hb A σ H1 (hi.r r1) (he.r r1) (Rl.gR hg r1) _ fun y d2 H2 r2 hy p2 =>
    hr d1 d2 p1 p2 A H2 x y ((hi.r r1).r r2) (Rl.gR (b := 0) (Rl.gR (a := a) (b := b) hg r1) r2) (hx.r r2) hy Q fun v d H3 r3 hv p => q v d H3 (L.tr (b := 0) (L.tr r1 r2) r3) hv p
theorem eg_op {r : R2} {d1 d2 d : PyData} (ha : EvD L ta Γ d1) (hb : EvD L tb Γ d2) (hr : OpS L r d1 d2 (fun x => x = d)) : EvD L (tOp r ta tb) Γ d :=
  eg_opG (a := 0) (b := 0) ha hb fun x y e1 e2 => by rw [e1, e2]; exact hr
theorem os_I0 {g : Int → Int → Int} {i j : Int} : OpS L (rI0 fun i j => .int (g i j)) (.int i) (.int j) (fun x => x = .int (g i j)) := fun A H x y hi hg hx hy Q q => by
  obtain rfl := hx.int
  obtain rfl := hy.int
  exact ⟨i, j, rfl, rfl, q _ _ H (Rl.refl hg) (.inr (.int _)) rfl⟩
theorem os_I {C : Int → Int → Prop} {g : Int → Int → Int} {i j : Int} (hc : C i j) : OpS L (rI C fun i j => .int (g i j)) (.int i) (.int j) (fun x => x = .int (g i j)) := fun A H x y hi hg hx hy Q q => by
  obtain rfl := hx.int
  obtain rfl := hy.int
  exact ⟨i, j, rfl, rfl, hc, q _ _ H (Rl.refl hg) (.inr (.int _)) rfl⟩
theorem os_B0 {g : Int → Int → Bool} {i j : Int} : OpS L (rI0 fun i j => .bl (g i j)) (.int i) (.int j) (fun x => x = .bool (g i j)) := fun A H x y hi hg hx hy Q q => by
  obtain rfl := hx.int
  obtain rfl := hy.int
  exact ⟨i, j, rfl, rfl, q _ _ H (Rl.refl hg) (.inr (.bl _)) rfl⟩
theorem eg_add {i j : Int} (ha : EvD L ta Γ (.int i)) (hb : EvD L tb Γ (.int j)) : EvD L (tOp (rI0 fun i j => .int (i + j)) ta tb) Γ (.int (i + j)) := eg_op ha hb os_I0
theorem eg_sub {i j : Int} (ha : EvD L ta Γ (.int i)) (hb : EvD L tb Γ (.int j)) : EvD L (tOp (rI0 fun i j => .int (i - j)) ta tb) Γ (.int (i - j)) := eg_op ha hb os_I0
theorem eg_mul {i j : Int} (ha : EvD L ta Γ (.int i)) (hb : EvD L tb Γ (.int j)) (hc : CMulW i j) : EvD L (tOp (rI CMulW fun i j => .int (i * j)) ta tb) Γ (.int (i * j)) := eg_op ha hb (os_I hc)
theorem eg_div {i j : Int} (ha : EvD L ta Γ (.int i)) (hb : EvD L tb Γ (.int j)) (hc : CDivW i j) : EvD L (tOp (rI CDivW fun i j => .int (i / j)) ta tb) Γ (.int (i / j)) := eg_op ha hb (os_I hc)
theorem eg_mod {i j : Int} (ha : EvD L ta Γ (.int i)) (hb : EvD L tb Γ (.int j)) (hc : j ≠ 0) : EvD L (tOp (rI (fun _ j => j ≠ 0) fun i j => .int (i.fmod j)) ta tb) Γ (.int (i.fmod j)) := eg_op ha hb (os_I hc)
theorem eg_pow {i j : Int} (ha : EvD L ta Γ (.int i)) (hb : EvD L tb Γ (.int j)) (hc : CPow i j) : EvD L (tOp (rI CPow fun i j => .int (i ^ j.toNat)) ta tb) Γ (.int (i ^ j.toNat)) := eg_op ha hb (os_I hc)
theorem eg_lt {i j : Int} (ha : EvD L ta Γ (.int i)) (hb : EvD L tb Γ (.int j)) : EvD L (tOp (rI0 fun i j => .bl (decide (i < j))) ta tb) Γ (.bool (decide (i < j))) := eg_op ha hb os_B0
theorem eg_gt {i j : Int} (ha : EvD L ta Γ (.int i)) (hb : EvD L tb Γ (.int j)) : EvD L (tOp (rI0 fun i j => .bl (decide (j < i))) ta tb) Γ (.bool (decide (j < i))) := eg_op ha hb os_B0
theorem eg_ge {i j : Int} (ha : EvD L ta Γ (.int i)) (hb : EvD L tb Γ (.int j)) : EvD L (tOp (rI0 fun i j => .bl (decide (j ≤ i))) ta tb) Γ (.bool (decide (j ≤ i))) := eg_op ha hb os_B0
theorem eg_eqI {i j : Int} (ha : EvD L ta Γ (.int i)) (hb : EvD L tb Γ (.int j)) : EvD L (tOp rEq ta tb) Γ (.bool (decide (i = j))) := eg_op ha hb fun A H x y hi hg hx hy Q q => by
  obtain rfl := hx.int
  obtain rfl := hy.int
  refine ⟨rfl, ?_⟩
  have e : decide (V.int i = V.int j) = decide (i = j) := by
    by_cases z : i = j
    · rw [z]; simp
    · rw [decide_eq_false z]; exact decide_eq_false fun y => z (by injection y)
  rw [e]
  exact q _ _ H (Rl.refl hg) (.inr (.bl _)) rfl
theorem eg_neI {i j : Int} (ha : EvD L ta Γ (.int i)) (hb : EvD L tb Γ (.int j)) : EvD L (tOp rNe ta tb) Γ (.bool (!decide (i = j))) := eg_op ha hb fun A H x y hi hg hx hy Q q => by
  obtain rfl := hx.int
  obtain rfl := hy.int
  refine ⟨rfl, ?_⟩
  have e : decide (V.int i = V.int j) = decide (i = j) := by
    by_cases z : i = j
    · rw [z]; simp
    · rw [decide_eq_false z]; exact decide_eq_false fun y => z (by injection y)
  rw [e]
  exact q _ _ H (Rl.refl hg) (.inr (.bl _)) rfl
theorem eg_eqS {i j : Str} (ha : EvD L ta Γ (.str i)) (hb : EvD L tb Γ (.str j)) : EvD L (tOp rEq ta tb) Γ (.bool (decide (i = j))) := eg_op ha hb fun A H x y hi hg hx hy Q q => by
  obtain rfl := hx.str
  obtain rfl := hy.str
  refine ⟨rfl, ?_⟩
  have e : decide (V.str i = V.str j) = decide (i = j) := by
    by_cases z : i = j
    · rw [z]; simp
    · rw [decide_eq_false z]; exact decide_eq_false fun y => z (by injection y)
  rw [e]
  exact q _ _ H (Rl.refl hg) (.inr (.bl _)) rfl
theorem eg_neg {i : Int} (ha : EvD L ta Γ (.int i)) : EvD L (tUn (rU fun i => .int (-i)) ta) Γ (.int (-i)) := fun A σ H hi he hg Q q => ha A σ H hi he hg _ fun x d1 H1 r1 hx p1 => by
  subst p1
  obtain rfl := hx.int
  exact ⟨i, rfl, q _ _ H1 r1 (.inr (.int _)) rfl⟩
theorem os_ixT {ds : List PyData} {i : Int} (h : atI ds i = some d) : OpS L (rIxT L.K) (.tuple ds) (.int i) (fun x => x = d) := fun A H x y hi hg hx hy Q q => by
  obtain ⟨p, xs, rfl, e, r⟩ := hx.tuple
  obtain rfl := hy.int
  unfold atI at h
  cases e2 : ixN ds.length i with
  | none => rw [e2] at h; cases h
  | some j =>
    rw [e2] at h
    obtain ⟨v, hv, dv⟩ := r.get (i := j) h
    refine ⟨p, xs, i, v, rfl, rfl, e.sq, ?_, q v d H (Rl.refl hg) (.inr dv) rfl⟩
    unfold atI
    rw [r.length, e2]
    exact hv
theorem os_ixL {ds : List PyData} {i : Int} (h : atI ds i = some d) : OpS L (rIxL L.K) (.list ds) (.int i) (fun x => x = d) := fun A H x y hi hg hx hy Q q => by
  obtain ⟨p, xs, rfl, na, e, r⟩ := hx.list
  obtain rfl := hy.int
  unfold atI at h
  cases e2 : ixN ds.length i with
  | none => rw [e2] at h; cases h
  | some j =>
    rw [e2] at h
    obtain ⟨v, hv, dv⟩ := r.get (i := j) h
    refine ⟨p, xs, i, v, rfl, rfl, SqL.of e, ?_, q v d H (Rl.refl hg) (.inr dv) rfl⟩
    unfold atI
    rw [r.length, e2]
    exact hv
theorem eg_ixT {ds : List PyData} {i : Int} (ha : EvD L ta Γ (.tuple ds)) (hb : EvD L tb Γ (.int i)) (h : atI ds i = some d) : EvD L (tOp (rIxT L.K) ta tb) Γ d := eg_op ha hb (os_ixT h)
theorem eg_ixL {ds : List PyData} {i : Int} (ha : EvD L ta Γ (.list ds)) (hb : EvD L tb Γ (.int i)) (h : atI ds i = some d) : EvD L (tOp (rIxL L.K) ta tb) Γ d := eg_op ha hb (os_ixL h)
theorem os_cat {ds es : List PyData} (hl : ds.length + es.length ≤ 100000) : OpS L rCat (.list ds) (.list es) (fun x => x = .list (ds ++ es)) := fun A H x y hi hg hx hy Q q => by
  obtain ⟨p, xs, rfl, na, e, r⟩ := hx.list
  obtain ⟨p2, ys, rfl, na2, e2, r2⟩ := hy.list
  refine ⟨p, p2, xs, ys, rfl, rfl, e, e2, Nat.le_trans (by rw [r.length, r2.length]; exact hl) (by decide), fun l hl2 => ?_⟩
  have rr := Rl.newR (o := .lst (xs ++ ys)) hg hl2
  exact q _ _ _ rr (.inr (.lst (hi.no hl2) upd_same ((r.app r2).r rr))) rfl
theorem eg_cat {ds es : List PyData} (ha : EvD L ta Γ (.list ds)) (hb : EvD L tb Γ (.list es)) (hl : ds.length + es.length ≤ 100000) : EvD L (tOp rCat ta tb) Γ (.list (ds ++ es)) := eg_op ha hb (os_cat hl)
theorem os_rep {ds : List PyData} {i : Int} (h0 : 0 ≤ i) (h1 : i ≤ 1000) (hl : ds.length ≤ 100) : OpS L rRep (.list ds) (.int i) (fun x => x = .list (List.replicate i.toNat ds).flatten) := fun A H x y hi hg hx hy Q q => by
  obtain ⟨p, xs, rfl, na, e, r⟩ := hx.list
  obtain rfl := hy.int
  refine ⟨p, i, xs, rfl, rfl, e, by omega, by omega, Nat.le_trans (Nat.mul_le_mul (by rw [r.length]; exact hl) (show i.toNat ≤ 1000 by omega)) (by decide), fun l hl2 => ?_⟩
  have rr := Rl.newR (o := .lst (List.replicate i.toNat xs).flatten) hg hl2
  exact q _ _ _ rr (.inr (.lst (hi.no hl2) upd_same ((r.rep _).r rr))) rfl
theorem eg_rep {ds : List PyData} {i : Int} (ha : EvD L ta Γ (.list ds)) (hb : EvD L tb Γ (.int i)) (h0 : 0 ≤ i) (h1 : i ≤ 1000) (hl : ds.length ≤ 100) : EvD L (tOp rRep ta tb) Γ (.list (List.replicate i.toNat ds).flatten) := eg_op ha hb (os_rep h0 h1 hl)
end
end V1
set_option Elab.async false
set_option linter.all false
set_option maxRecDepth 100000
set_option maxHeartbeats 4000000
/-! The rest of the readings by data: slices, displays, calls, comprehensions, statements, loops. -/
namespace V1
open PySem PySem.Spec PyProof.Rows L2

def cutD (ds : List PyData) (lo hi : Option Int) : List PyData := (ds.drop (HT.sIx ds.length 0 lo)).take (HT.sIx ds.length ds.length hi - HT.sIx ds.length 0 lo)
theorem cut_neg {ds : List PyData} {k : Nat} (hk : 0 < k) (h : k ≤ ds.length) : cutD ds none (some (-(k : Int))) = ds.take (ds.length - k) := by
  unfold cutD
  have e : HT.sIx ds.length ds.length (some (-(k : Int))) = ds.length - k := by
    show (if (-(k : Int)) < 0 then ((-(k : Int)) + (ds.length : Int)).toNat else min (-(k : Int)).toNat ds.length) = _
    rw [if_pos (by omega)]
    omega
  rw [e]
  show (ds.drop 0).take (ds.length - k - 0) = _
  simp
theorem cut_last {ds : List PyData} (h : 0 < ds.length) : cutD ds (some (-1)) none = ds.drop (ds.length - 1) := by
  unfold cutD
  have e : HT.sIx ds.length 0 (some (-1)) = ds.length - 1 := by
    show (if (-1 : Int) < 0 then ((-1 : Int) + (ds.length : Int)).toNat else min (-1 : Int).toNat ds.length) = _
    rw [if_pos (by omega)]
    omega
  rw [e]
  show (ds.drop (ds.length - 1)).take (ds.length - (ds.length - 1)) = _
  rw [List.take_of_length_le (by rw [List.length_drop]; omega)]
def nomk : List PyData → Bool
  | [] => true
  | .dict _ :: _ => false
  | _ :: r => nomk r
theorem nomk_ne {ds : List PyData} (h : nomk ds = true) : ∀ (i : Nat) d, ds[i]? = some d → d ≠ mark := by
  induction ds with
  | nil => intro i d e; simp at e
  | cons d0 r ih =>
    intro i d e z
    subst z
    cases i with
    | zero => simp at e; subst e; simp [nomk] at h
    | succ i =>
      refine ih ?_ i _ (by simpa using e) rfl
      cases d0 <;> simp_all [nomk]

section
variable {L : Rl} {A : Addr → Prop} {H H' : Hp} {v : V} {d : PyData} {σ : L2.St} {Γ : List (Option PyData)} {n a b c : Nat} {te ta tb : TE} {t : TA} {tt tu : TT} {P P1 P2 : PyData → Prop}

/-! ### slices -/
def EoD (L : Rl) (to : TO) (Γ : List (Option PyData)) (o : Option Int) : Prop := ∀ A σ H, Inn A H → EnvOk L A σ H Γ → L.G 0 H → ∀ Q : Option Int → Hp → Prop, (∀ H', L.R 0 H H' → Q o H') → to σ H Q
theorem eo_none : EoD L tNoPart Γ none := fun A σ H hi he hg Q q => q H (Rl.refl hg)
theorem eo_some {i : Int} (h : EvD L te Γ (.int i)) : EoD L (tPart te) Γ (some i) := fun A σ H hi he hg Q q => h A σ H hi he hg _ fun v d H1 r1 hv p => by
  subst p
  obtain rfl := hv.int
  exact ⟨i, rfl, q H1 r1⟩
theorem eg_slT {ds : List PyData} {tl th : TO} {lo0 hi0 : Option Int} (h : EvD L te Γ (.tuple ds)) (h1 : EoD L tl Γ lo0) (h2 : EoD L th Γ hi0) (hw : ¬ (HT.sIx ds.length 0 lo0 = 0 ∧ HT.sIx ds.length ds.length hi0 = ds.length)) :
    EvD L (tSl (rSlT L.K) te tl th) Γ (.tuple (cutD ds lo0 hi0)) := fun A σ H hi he hg Q q => h A σ H hi he hg _ fun x d1 H1 r1 hx p => by
  subst p
  refine h1 A σ H1 (hi.r r1) (he.r r1) (Rl.gR (b := 0) hg r1) _ fun H2 r2 => h2 A σ H2 ((hi.r r1).r r2) ((he.r r1).r r2) (Rl.gR (b := 0) (Rl.gR (b := 0) hg r1) r2) _ fun H3 r3 => ?_
  have g3 : L.G 0 H3 := Rl.gR (b := 0) (Rl.gR (b := 0) (Rl.gR (b := 0) hg r1) r2) r3
  obtain ⟨p, xs, rfl, e, r⟩ := ((hx.r r2).r r3).tuple
  refine ⟨p, xs, rfl, e.sq, by rw [r.length]; exact hw, fun q1 hq => ?_⟩
  have rr := Rl.newR (o := .tup (cutV xs lo0 hi0)) g3 hq
  exact q _ _ _ (L.tr (a := 0) (b := 0) (L.tr (a := 0) (b := 0) (L.tr (a := 0) (b := 0) r1 r2) r3) rr) (.inr (.tup ((((hi.r r1).r r2).r r3).no hq) upd_same ((r.cut lo0 hi0).r rr))) rfl
theorem eg_slL {ds : List PyData} {tl th : TO} {lo0 hi0 : Option Int} (h : EvD L te Γ (.list ds)) (h1 : EoD L tl Γ lo0) (h2 : EoD L th Γ hi0) : EvD L (tSl (rSlL L.K) te tl th) Γ (.list (cutD ds lo0 hi0)) := fun A σ H hi he hg Q q => h A σ H hi he hg _ fun x d1 H1 r1 hx p => by
  subst p
  refine h1 A σ H1 (hi.r r1) (he.r r1) (Rl.gR (b := 0) hg r1) _ fun H2 r2 => h2 A σ H2 ((hi.r r1).r r2) ((he.r r1).r r2) (Rl.gR (b := 0) (Rl.gR (b := 0) hg r1) r2) _ fun H3 r3 => ?_
  have g3 : L.G 0 H3 := Rl.gR (b := 0) (Rl.gR (b := 0) (Rl.gR (b := 0) hg r1) r2) r3
  obtain ⟨p, xs, rfl, na, e, r⟩ := ((hx.r r2).r r3).list
  refine ⟨p, xs, rfl, SqL.of e, fun q1 hq => ?_⟩
  have rr := Rl.newR (o := .lst (cutV xs lo0 hi0)) g3 hq
  exact q _ _ _ (L.tr (a := 0) (b := 0) (L.tr (a := 0) (b := 0) (L.tr (a := 0) (b := 0) r1 r2) r3) rr) (.inr (.lst ((((hi.r r1).r r2).r r3).no hq) upd_same ((r.cut lo0 hi0).r rr))) rfl

/-! ### arguments, displays -/
theorem ea_nil : EaD L tNil Γ [] := fun A σ H hi he hg Q q => q [] [] H (Rl.refl hg) rfl (fun i d e => by simp at e) rfl
theorem ea_consG {P1 : PyData → Prop} {P2 : List PyData → Prop} (h : EvG L a te Γ P1) (hr : EaG L b t Γ P2) : EaG L (a + b) (tCons te t) Γ (fun ds => ∃ d r, ds = d :: r ∧ P1 d ∧ P2 r) := fun A σ H hi he hg Q q =>
  h A σ H hi he (L.gle (Nat.le_add_right _ _) hg) _ fun x d H1 r1 hx p1 => hr A σ H1 (hi.r r1) (he.r r1) (Rl.gR hg r1) _ fun xs ds H2 r2 hl hxs p2 =>
    q (x :: xs) (d :: ds) H2 (L.tr r1 r2) (by rw [List.length_cons, List.length_cons, hl]) (fun i d' e => by
      cases i with
      | zero => simp at e; subst e; exact ⟨x, rfl, hx.r r2⟩
      | succ i => simpa using hxs i d' (by simpa using e)) ⟨d, ds, rfl, p1, p2⟩
theorem EaG.mono {P P' : List PyData → Prop} (h : EaG L a t Γ P) (hn : a ≤ b) (hp : ∀ d, P d → P' d) : EaG L b t Γ P' := fun A σ H hi he hg Q q => h A σ H hi he (L.gle hn hg) Q fun v d H' r hl hd p => q v d H' (L.rle hn r) hl hd (hp d p)
theorem ea_cons {ds : List PyData} (h : EvD L te Γ d) (hr : EaD L t Γ ds) : EaD L (tCons te t) Γ (d :: ds) := (ea_consG (a := 0) (b := 0) h hr).mono (Nat.le_refl _) fun x ⟨d1, r, e, e1, e2⟩ => by rw [e, e1, e2]
theorem all_of {A : Addr → Prop} {H : Hp} {vs : List V} {ds : List PyData} (hl : vs.length = ds.length) (h : ∀ (i : Nat) d, ds[i]? = some d → ∃ v, vs[i]? = some v ∧ Dq L A H v d) (hn : nomk ds = true) : DvAll L.K A H vs ds := by
  have hne := nomk_ne hn
  clear hn
  induction ds generalizing vs with
  | nil =>
    have e : vs = [] := List.length_eq_zero_iff.mp hl
    subst e
    exact .nil
  | cons d r ih =>
    cases vs with
    | nil => simp at hl
    | cons v vs =>
      obtain ⟨v', e, hv⟩ := h 0 d rfl
      simp at e
      subst e
      refine .cons (hv.ne (hne 0 d rfl)) (ih (by simpa using hl) (fun i d e => by simpa using h (i + 1) d (by simpa using e)) (fun i d e => hne (i + 1) d (by simpa using e)))
theorem eg_tup {ds : List PyData} (h : EaD L t Γ ds) (hn : nomk ds = true := by rfl) (hl : ds.length ≤ 1000 := by simp) : EvD L (tTup t) Γ (.tuple ds) := fun A σ H hi he hg Q q => h A σ H hi he hg _ fun vs ds' H1 r1 l hv p => by
  subst p
  refine ⟨Nat.le_trans (by rw [l]; exact hl) (by decide), fun p hp => ?_⟩
  have rr := Rl.newR (o := .tup vs) (Rl.gR (b := 0) hg r1) hp
  exact q _ _ _ (L.tr (a := 0) (b := 0) r1 rr) (.inr (.tup ((hi.r r1).no hp) upd_same ((all_of l hv hn).r rr))) rfl
theorem eg_lst {ds : List PyData} (h : EaD L t Γ ds) (hn : nomk ds = true := by rfl) (hl : ds.length ≤ 1000 := by simp) : EvD L (tLst t) Γ (.list ds) := fun A σ H hi he hg Q q => h A σ H hi he hg _ fun vs ds' H1 r1 l hv p => by
  subst p
  refine ⟨Nat.le_trans (by rw [l]; exact hl) (by decide), fun p hp => ?_⟩
  have rr := Rl.newR (o := .lst vs) (Rl.gR (b := 0) hg r1) hp
  exact q _ _ _ (L.tr (a := 0) (b := 0) r1 rr) (.inr (.lst ((hi.r r1).no hp) upd_same ((all_of l hv hn).r rr))) rfl

/-! ### built-ins -/
def CaS (L : Rl) (r : List V → Hp → VK → Prop) (ds : List PyData) (d : PyData) : Prop := ∀ A H vs, Inn A H → L.G 0 H → vs.length = ds.length → (∀ (i : Nat) d, ds[i]? = some d → ∃ v, vs[i]? = some v ∧ Dq L A H v d) → ∀ Q : VK, (∀ v H', L.R 0 H H' → Dq L A H' v d → Q v H') → r vs H Q
theorem eg_cb {r : List V → Hp → VK → Prop} {ds : List PyData} (h : EaD L t Γ ds) (hr : CaS L r ds d) : EvD L (tCB r t) Γ d := fun A σ H hi he hg Q q => h A σ H hi he hg _ fun vs ds' H1 r1 l hv p => by
  subst p
  exact hr A H1 vs (hi.r r1) (Rl.gR (b := 0) hg r1) l hv Q fun v H2 r2 hd => q v _ H2 (L.tr (a := 0) (b := 0) r1 r2) hd rfl
theorem one_of {vs : List V} (hl : vs.length = 1) (h : ∀ (i : Nat) d', [d][i]? = some d' → ∃ v, vs[i]? = some v ∧ Dq L A H v d') : ∃ v, vs = [v] ∧ Dq L A H v d := by
  obtain ⟨v, e, hv⟩ := h 0 d rfl
  cases vs with
  | nil => simp at hl
  | cons x r =>
    cases r with
    | nil => simp at e; subst e; exact ⟨x, rfl, hv⟩
    | cons y z => simp at hl
theorem two_of {d2 : PyData} {vs : List V} (hl : vs.length = 2) (h : ∀ (i : Nat) d', [d, d2][i]? = some d' → ∃ v, vs[i]? = some v ∧ Dq L A H v d') : ∃ v w, vs = [v, w] ∧ Dq L A H v d ∧ Dq L A H w d2 := by
  obtain ⟨v, e, hv⟩ := h 0 d rfl
  obtain ⟨w, e2, hw⟩ := h 1 d2 rfl
  cases vs with
  | nil => simp at hl
  | cons x r =>
    cases r with
    | nil => simp at hl
    | cons y z =>
      cases z with
      | nil => simp at e e2; subst e e2; exact ⟨x, y, rfl, hv, hw⟩
      | cons u z => simp at hl
theorem cs_lenL {ds : List PyData} : CaS L (fun xs H Q => ∃ p ys, xs = [.ref p] ∧ (SqL L.K H p ys ∨ SqT L.K H p ys) ∧ Q (.int ys.length) H) [.list ds] (.int ds.length) := fun A H vs hi hg hl h Q q => by
  obtain ⟨v, rfl, hv⟩ := one_of hl h
  obtain ⟨p, xs, rfl, na, e, r⟩ := hv.list
  refine ⟨p, xs, rfl, .inl (SqL.of e), ?_⟩
  rw [r.length]
  exact q _ H (Rl.refl hg) (.inr (.int _))
theorem cs_lenT {ds : List PyData} : CaS L (fun xs H Q => ∃ p ys, xs = [.ref p] ∧ (SqL L.K H p ys ∨ SqT L.K H p ys) ∧ Q (.int ys.length) H) [.tuple ds] (.int ds.length) := fun A H vs hi hg hl h Q q => by
  obtain ⟨v, rfl, hv⟩ := one_of hl h
  obtain ⟨p, xs, rfl, e, r⟩ := hv.tuple
  refine ⟨p, xs, rfl, .inr (e.sq), ?_⟩
  rw [r.length]
  exact q _ H (Rl.refl hg) (.inr (.int _))
theorem cs_gcd {i j : Int} : CaS L rGcd [.int i, .int j] (.int ((Nat.gcd i.natAbs j.natAbs : Nat) : Int)) := fun A H vs hi hg hl h Q q => by
  obtain ⟨v, w, rfl, hv, hw⟩ := two_of hl h
  obtain rfl := hv.int
  obtain rfl := hw.int
  exact ⟨i, j, rfl, q _ H (Rl.refl hg) (.inr (.int _))⟩
theorem cs_lcm {i j : Int} (h1 : i.natAbs < 2 ^ 64) (h2 : j.natAbs < 2 ^ 64) : CaS L rLcm [.int i, .int j] (.int ((Nat.lcm i.natAbs j.natAbs : Nat) : Int)) := fun A H vs hi hg hl h Q q => by
  obtain ⟨v, w, rfl, hv, hw⟩ := two_of hl h
  obtain rfl := hv.int
  obtain rfl := hw.int
  exact ⟨i, j, rfl, h1, h2, q _ H (Rl.refl hg) (.inr (.int _))⟩
theorem cs_int {i : Int} : CaS L (fun xs H Q => (∃ i, xs = [.int i] ∧ Q (.int i) H) ∨ ∃ k, xs = [.bl k] ∧ Q (.int (if k then 1 else 0)) H) [.int i] (.int i) := fun A H vs hi hg hl h Q q => by
  obtain ⟨v, rfl, hv⟩ := one_of hl h
  obtain rfl := hv.int
  exact .inl ⟨i, rfl, q _ H (Rl.refl hg) (.inr (.int _))⟩
theorem cs_intB {k : Bool} : CaS L (fun xs H Q => (∃ i, xs = [.int i] ∧ Q (.int i) H) ∨ ∃ k, xs = [.bl k] ∧ Q (.int (if k then 1 else 0)) H) [.bool k] (.int (if k then 1 else 0)) := fun A H vs hi hg hl h Q q => by
  obtain ⟨v, rfl, hv⟩ := one_of hl h
  obtain rfl := hv.bool
  exact .inr ⟨k, rfl, q _ H (Rl.refl hg) (.inr (.int _))⟩
theorem cs_abs {i : Int} : CaS L (fun xs H Q => ∃ i, xs = [.int i] ∧ Q (.int (if i < 0 then -i else i)) H) [.int i] (.int (i.natAbs : Int)) := fun A H vs hi hg hl h Q q => by
  obtain ⟨v, rfl, hv⟩ := one_of hl h
  obtain rfl := hv.int
  refine ⟨i, rfl, ?_⟩
  have e : (if i < 0 then -i else i) = (i.natAbs : Int) := by split <;> omega
  rw [e]
  exact q _ H (Rl.refl hg) (.inr (.int _))
theorem cs_min {i j : Int} : CaS L (fun xs H Q => ∃ i j, xs = [.int i, .int j] ∧ Q (.int (if j < i then j else i)) H) [.int i, .int j] (.int (min i j)) := fun A H vs hi hg hl h Q q => by
  obtain ⟨v, w, rfl, hv, hw⟩ := two_of hl h
  obtain rfl := hv.int
  obtain rfl := hw.int
  refine ⟨i, j, rfl, ?_⟩
  have e : (if j < i then j else i) = min i j := by split <;> omega
  rw [e]
  exact q _ H (Rl.refl hg) (.inr (.int _))
theorem cs_max {i j : Int} : CaS L (fun xs H Q => ∃ i j, xs = [.int i, .int j] ∧ Q (.int (if j > i then j else i)) H) [.int i, .int j] (.int (max i j)) := fun A H vs hi hg hl h Q q => by
  obtain ⟨v, w, rfl, hv, hw⟩ := two_of hl h
  obtain rfl := hv.int
  obtain rfl := hw.int
  refine ⟨i, j, rfl, ?_⟩
  have e : (if j > i then j else i) = max i j := by split <;> omega
  rw [e]
  exact q _ H (Rl.refl hg) (.inr (.int _))
theorem cs_sum {ns : List Int} : CaS L (rSum L.K) [.list (ns.map PyData.int)] (.int ns.sum) := fun A H vs hi hg hl h Q q => by
  obtain ⟨v, rfl, hv⟩ := one_of hl h
  obtain ⟨p, xs, rfl, na, e, r⟩ := hv.list
  rw [r.ints] at e
  exact ⟨p, ns, rfl, SqL.of e, q _ H (Rl.refl hg) (.inr (.int _))⟩
theorem cs_tuple {ds : List PyData} : CaS L (fun xs H Q => ∃ p ys, xs = [.ref p] ∧ ((SqL L.K H p ys ∧ ∀ l, H l = none → Q (.ref l) (upd H l (.tup ys))) ∨ (SqT L.K H p ys ∧ Q (.ref p) H))) [.list ds] (.tuple ds) := fun A H vs hi hg hl h Q q => by
  obtain ⟨v, rfl, hv⟩ := one_of hl h
  obtain ⟨p, xs, rfl, na, e, r⟩ := hv.list
  refine ⟨p, xs, rfl, .inl ⟨SqL.of e, fun l hl2 => ?_⟩⟩
  have rr := Rl.newR (o := .tup xs) hg hl2
  exact q _ _ rr (.inr (.tup (hi.no hl2) upd_same (r.r rr)))
theorem cs_reprL {ds : List PyData} (h1 : (PyData.list ds).showable = true) (h2 : (PyData.list ds).hasDict = false) (h3 : (PyData.list ds).depth ≤ 60) (h4 : (PyData.list ds).shown.length ≤ sizeLine) : CaS L (rRepr L.K) [.list ds] (.str (PyData.list ds).shown) := fun A H vs hi hg hl h Q q => by
  obtain ⟨v, rfl, hv⟩ := one_of hl h
  have hd := (hv.ne (by intro z; cases z)).dp (K := L.K)
  obtain ⟨p, xs, rfl, na, e, r⟩ := hv.list
  exact ⟨p, _, rfl, hd, h1, h2, h3, h4, q _ H (Rl.refl hg) (.inr (.str _))⟩
theorem cs_reprT {ds : List PyData} (h1 : (PyData.tuple ds).showable = true) (h2 : (PyData.tuple ds).hasDict = false) (h3 : (PyData.tuple ds).depth ≤ 60) (h4 : (PyData.tuple ds).shown.length ≤ sizeLine) : CaS L (rRepr L.K) [.tuple ds] (.str (PyData.tuple ds).shown) := fun A H vs hi hg hl h Q q => by
  obtain ⟨v, rfl, hv⟩ := one_of hl h
  have hd := (hv.ne (by intro z; cases z)).dp (K := L.K)
  obtain ⟨p, xs, rfl, e, r⟩ := hv.tuple
  exact ⟨p, _, rfl, hd, h1, h2, h3, h4, q _ H (Rl.refl hg) (.inr (.str _))⟩

/-! ### calls of own defs -/
def spL (L : Rl) (n : Nat) (Pre : List PyData → Prop) (Post : List PyData → PyData → Prop) : Sp := fun vs H Q _ => ∃ (A : Addr → Prop) (ds : List PyData), Inn A H ∧ vs.length = ds.length ∧
  (∀ (i : Nat) d, ds[i]? = some d → ∃ v, vs[i]? = some v ∧ Dq L A H v d) ∧ Pre ds ∧ L.G n H ∧ ∀ v d H', L.R n H H' → Dq L A H' v d → Post ds d → Q v H'
variable {Pre : List PyData → Prop} {Post : List PyData → PyData → Prop} {PA1 : List PyData → Prop} {E : XK}
theorem pure_dq (h : Dq (pureL L.K) A H v d) : Dq L A H v d := h.elim (fun z => z.2.elim) .inr
theorem eg_callP (ha : EaG L a t Γ PA1) (hp : ∀ ds, PA1 ds → Pre ds ∧ nomk ds = true) : EvG L a (tCall (spL (pureL L.K) 0 Pre Post) [] E t) Γ (fun d => ∃ ds, PA1 ds ∧ Post ds d) := fun A σ H hi he hg Q q => ha A σ H hi he hg _ fun vs ds H1 r1 l hv p => by
  obtain ⟨h1, h2⟩ := hp ds p
  show spL (pureL L.K) 0 Pre Post (vs ++ []) H1 Q E
  rw [List.append_nil]
  refine ⟨A, ds, hi.r r1, l, fun i d e => ?_, h1, trivial, fun v d H2 r2 hd hpo => q v d H2 (L.tr (b := 0) r1 (L.same (Rl.gR (b := 0) hg r1) r2)) (pure_dq hd) ⟨ds, p, hpo⟩⟩
  obtain ⟨v, e1, e2⟩ := hv i d e
  exact ⟨v, e1, .inr (e2.ne (nomk_ne h2 i d e))⟩
theorem eg_callD {F : List PyData → PyData} {ds : List PyData} (ha : EaD L t Γ ds) (hp : Pre ds) (hn : nomk ds = true := by rfl) : EvD L (tCall (spL (pureL L.K) 0 Pre fun ds d => d = F ds) [] E t) Γ (F ds) :=
  (eg_callP (PA1 := fun x => x = ds) ha fun ds' e => by rw [e]; exact ⟨hp, hn⟩).mono (Nat.le_refl _) fun d ⟨ds', e1, e2⟩ => by rw [e2, e1]
/-- keywords alone -/
theorem eg_callK {F : List PyData → PyData} {ds ds2 : List PyData} {gV : List V → List V → List V} {tk : TA} (ha : EaD L tk Γ ds) (hg2 : ∀ zs : List V, zs.length = ds.length → (gV [] zs).length = ds2.length ∧ ∀ (i : Nat) d, ds2[i]? = some d → ∃ j : Nat, ds[j]? = some d ∧ (gV [] zs)[i]? = zs[j]?) (hp : Pre ds2) (hn : nomk ds2 = true := by rfl) :
    EvD L (tCallK (spL (pureL L.K) 0 Pre fun ds d => d = F ds) gV E tNil tk) Γ (F ds2) := fun A σ H hi he hg Q q => ha A σ H hi he hg _ fun vs ds' H1 r1 l hv p => by
  subst p
  obtain ⟨g1, g2⟩ := hg2 vs l
  refine ⟨A, ds2, hi.r r1, g1, fun i d e => ?_, hp, trivial, fun v d H2 r2 hd hpo => q v d H2 (L.tr (a := 0) (b := 0) r1 (L.same (Rl.gR (b := 0) hg r1) r2)) (pure_dq hd) hpo⟩
  obtain ⟨j, e1, e2⟩ := g2 i d e
  obtain ⟨v, e3, e4⟩ := hv j d e1
  exact ⟨v, by rw [e2]; exact e3, .inr (e4.ne (nomk_ne hn i d e))⟩
/-- a def that goes on as L does -/
theorem eg_callL (ha : EaG L a t Γ PA1) (hp : ∀ ds, PA1 ds → Pre ds) : EvG L (a + b) (tCall (spL L b Pre Post) [] E t) Γ (fun d => ∃ ds, PA1 ds ∧ Post ds d) := fun A σ H hi he hg Q q => ha A σ H hi he (L.gle (Nat.le_add_right _ _) hg) _ fun vs ds H1 r1 l hv p => by
  show spL L b Pre Post (vs ++ []) H1 Q E
  rw [List.append_nil]
  exact ⟨A, ds, hi.r r1, l, hv, hp ds p, Rl.gR hg r1, fun v d H2 r2 hd hpo => q v d H2 (L.tr r1 r2) hd ⟨ds, p, hpo⟩⟩
/-- a def whose way hangs on what it is given -/
def spA (S : Rl → Prop) (n : Nat) (Pre : List PyData → Prop) (Post : List PyData → PyData → Prop) : Sp := fun vs H Q E => ∃ L, S L ∧ spL L n Pre Post vs H Q E
theorem eg_callA {S : Rl → Prop} (hS : S L) (ha : EaG L a t Γ PA1) (hp : ∀ ds, PA1 ds → Pre ds) : EvG L (a + b) (tCall (spA S b Pre Post) [] E t) Γ (fun d => ∃ ds, PA1 ds ∧ Post ds d) := fun A σ H hi he hg Q q => ha A σ H hi he (L.gle (Nat.le_add_right _ _) hg) _ fun vs ds H1 r1 l hv p => by
  show spA S b Pre Post (vs ++ []) H1 Q E
  rw [List.append_nil]
  exact ⟨L, hS, A, ds, hi.r r1, l, hv, hp ds p, Rl.gR hg r1, fun v d H2 r2 hd hpo => q v d H2 (L.tr r1 r2) hd ⟨ds, p, hpo⟩⟩

/-! ### tests -/
theorem et_B {k : Bool} (h : EvD L te Γ (.bool k)) : EtD L (tB te) Γ k := fun A σ H hi he hg Q q => h A σ H hi he hg _ fun v d H1 r1 hv p => by
  subst p
  obtain rfl := hv.bool
  exact ⟨k, rfl, q H1 r1⟩
theorem et_test {k : Bool} (h : EvD L te Γ (.bool k)) : EtD L (tTest te) Γ k := et_B h
theorem et_not {k : Bool} (h : EtD L tt Γ k) : EtD L (tNot tt) Γ (!k) := fun A σ H hi he hg Q q => h A σ H hi he hg _ fun H1 r1 => q H1 r1
theorem et_or0 {k : Bool} (h : EtD L tt Γ false) (h2 : EtD L tu Γ k) : EtD L (tOr tt tu) Γ k := fun A σ H hi he hg Q q => h A σ H hi he hg _ fun H1 r1 => by
  show tu σ H1 Q
  exact h2 A σ H1 (hi.r r1) (he.r r1) (Rl.gR (b := 0) hg r1) Q fun H2 r2 => q H2 (L.tr (a := 0) (b := 0) r1 r2)
theorem et_or1 (h : EtD L tt Γ true) : EtD L (tOr tt tu) Γ true := fun A σ H hi he hg Q q => h A σ H hi he hg _ fun H1 r1 => by
  show Q true H1
  exact q H1 r1
theorem et_is {k k' : Bool} (h : EtD L tt Γ k) (e : k = k') : EtD L tt Γ k' := e ▸ h
theorem eg_if {k : Bool} (h : EtD L tt Γ k) (h1 : k = true → EvD L ta Γ d) (h2 : k = false → EvD L tb Γ d) : EvD L (tIf tt ta tb) Γ d := fun A σ H hi he hg Q q => h A σ H hi he hg _ fun H1 r1 => by
  have fin : ∀ {tx : TE}, EvD L tx Γ d → tx σ H1 Q := fun {tx} hx => hx A σ H1 (hi.r r1) (he.r r1) (Rl.gR (b := 0) hg r1) Q fun v d' H2 r2 hd p => q v d' H2 (L.tr (a := 0) (b := 0) r1 r2) hd p
  cases k with
  | true => exact fin (h1 rfl)
  | false => exact fin (h2 rfl)
end
end V1
set_option Elab.async false
set_option linter.all false
set_option maxRecDepth 100000
set_option maxHeartbeats 4000000
/-! Walks, comprehensions, statements, loops, a def's promise by its body. -/
namespace V1
open PySem PySem.Spec PyProof.Rows L2

/-- all but dicts, and what is avoided, stay -/
def Kp (A : Addr → Prop) (H H' : Hp) : Prop := ∀ b o, ¬ A b → H b = some o → Fx o → H' b = some o
/-- the iterator gives the items, one by one, in whatever heap goes on from H1 -/
structure JOk (K : PySem.W.Frag) (A : Addr → Prop) (J : It) (H1 : Hp) (items : List PyData) : Prop where
  go : ∀ (i : Nat) H', Kp A H1 H' → i < items.length → J.go i H'
  yld : ∀ (i : Nat) H' x H'', Kp A H1 H' → (∀ b, A b → H' b ≠ none) → J.yld i H' x H'' → i < items.length → ∃ d, items[i]? = some d ∧ Same H' H'' ∧ (∀ A', (∀ b, A' b → H' b ≠ none) → (∀ b o, ¬ A b → H1 b = some o → Fx o → ¬ A' b) → Dv K A' H'' x d)
  stop : ∀ H', Kp A H1 H' → J.stop items.length H'
def WkG (L : Rl) (n : Nat) (wi : TI) (Γ : List (Option PyData)) (P : List PyData → Prop) : Prop := ∀ A σ H, Inn A H → EnvOk L A σ H Γ → L.G n H → ∀ R : It → Hp → Prop, (∀ J H1 items, L.R n H H1 → P items → JOk L.K A J H1 items → R J H1) → wi σ H R
abbrev WkD (L : Rl) (wi : TI) (Γ : List (Option PyData)) (items : List PyData) : Prop := WkG L 0 wi Γ (fun x => x = items)
section
variable {L : Rl} {A : Addr → Prop} {H H' H1 : Hp} {v : V} {d : PyData} {σ : L2.St} {Γ : List (Option PyData)} {n a b c : Nat} {te ta tb tl : TE} {t : TA} {tt tu : TT} {P P1 P2 : PyData → Prop}
theorem Kp.at {xs : List V} {p : Addr} (k : Kp A H H') (na : ¬ A p) (e : H p = some (.lst xs)) : H' p = some (.lst xs) := k _ _ na e fxLst
theorem Kp.att {xs : List V} {p : Addr} (k : Kp A H H') (na : ¬ A p) (e : H p = some (.tup xs)) : H' p = some (.tup xs) := k _ _ na e fxTup
/-- what stands stays, away from whatever is avoided later -/
theorem dv_later {A A' : Addr → Prop} {H1 H' H'' : Hp} (h : Dv L.K A H1 v d) (k : Kp A H1 H') (s : Same H' H'') (f : ∀ b o, ¬ A b → H1 b = some o → Fx o → ¬ A' b) : Dv L.K A' H'' v d := h.map fun b o na e q => ⟨f b o na e q, s _ _ (k b o na e q)⟩
/-- a sequence that stands, also later -/
def Stands (K : PySem.W.Frag) (k : Bool) (A : Addr → Prop) (H1 : Hp) (p : Addr) (xs : List V) : Prop := ∀ H', Kp A H1 H' → Sq K k H' p xs
theorem TpAt.stands {p : Addr} {xs : List V} (h : TpAt L.K A H1 p xs) : Stands L.K false A H1 p xs := fun H' q => h.elim (fun z => SqT.of (q.att z.1 z.2)) fun z => z.sq H'
theorem lst_stands {p : Addr} {xs : List V} (na : ¬ A p) (h : H1 p = some (.lst xs)) : Stands L.K true A H1 p xs := fun H' q => SqL.of (q.at na h)
theorem Stands.now {k : Bool} {p : Addr} {xs : List V} (h : Stands L.K k A H1 p xs) : Sq L.K k H1 p xs := h H1 fun _ _ _ e _ => e
theorem jok_seq (k : Bool) {p : Addr} {xs : List V} {ds : List PyData} (st : Stands L.K k A H1 p xs) (r : DvAll L.K A H1 xs ds) (J : It) (hJ : J = (if k then Itl L.K p else Itt L.K p)) : JOk L.K A J H1 ds := by
  subst hJ
  have l := r.length
  refine ⟨fun i H' q hi => ?_, fun i H' x H'' q hA y hi => ?_, fun H' q => ?_⟩
  · have hx : xs[i]? = some xs[i] := List.getElem?_eq_getElem (by omega)
    cases k with
    | true => exact ⟨xs, _, st H' q, hx⟩
    | false => exact ⟨xs, _, st H' q, hx⟩
  · have key : xs[i]? = some x ∧ H'' = H' := by
      cases k with
      | true => exact ⟨y.2 xs (st H' q), y.1⟩
      | false => exact ⟨y.2 xs (st H' q), y.1⟩
    obtain ⟨hx, rfl⟩ := key
    obtain ⟨d, hd, dv⟩ := r.getx hx
    exact ⟨d, hd, Same.refl _, fun A' _ f => dv_later dv q (Same.refl _) f⟩
  · cases k with
    | true => exact ⟨xs, st H' q, by omega⟩
    | false => exact ⟨xs, st H' q, by omega⟩
theorem wk_list {ds : List PyData} (h : EvD L tl Γ (.list ds)) : WkD L (iList L.K tl) Γ ds := fun A σ H hi he hg R q => h A σ H hi he hg _ fun x d H1 r1 hx p => by
  subst p
  obtain ⟨p, xs, rfl, na, e, r⟩ := hx.list
  exact ⟨p, rfl, ⟨xs, SqL.of e⟩, q _ H1 ds r1 rfl (jok_seq true (lst_stands na e) r _ rfl)⟩
theorem wk_tup {ds : List PyData} (h : EvD L tl Γ (.tuple ds)) : WkD L (iTup L.K tl) Γ ds := fun A σ H hi he hg R q => h A σ H hi he hg _ fun x d H1 r1 hx p => by
  subst p
  obtain ⟨p, xs, rfl, e, r⟩ := hx.tuple
  exact ⟨p, rfl, ⟨xs, e.sq⟩, q _ H1 ds r1 rfl (jok_seq false e.stands r _ rfl)⟩
/-- a sequence as data: a list (true), a tuple -/
def sqD : Bool → List PyData → PyData
  | true, ds => .list ds
  | false, ds => .tuple ds
theorem sq_dq {k : Bool} {ds : List PyData} (h : Dq L A H v (sqD k ds)) : ∃ p xs, v = .ref p ∧ Stands L.K k A H p xs ∧ DvAll L.K A H xs ds := by
  cases k with
  | true =>
    obtain ⟨p, xs, e1, na, e2, r⟩ := h.list
    exact ⟨p, xs, e1, lst_stands na e2, r⟩
  | false =>
    obtain ⟨p, xs, e1, e2, r⟩ := h.tuple
    exact ⟨p, xs, e1, e2.stands, r⟩
def zipD (ds es : List PyData) : List PyData := List.zipWith (fun d e => PyData.tuple [d, e]) ds es
theorem wk_zip {k1 k2 : Bool} {ds es : List PyData} (h : EaD L t Γ [sqD k1 ds, sqD k2 es]) : WkD L (iZipP L.K k1 k2 t) Γ (zipD ds es) := fun A σ H hi he hg R q => h A σ H hi he hg _ fun vs ds' H1 r1 hl hv p => by
  subst p
  obtain ⟨v, w, rfl, hx, hy⟩ := two_of hl hv
  obtain ⟨p1, xs, rfl, e1, r1'⟩ := sq_dq hx
  obtain ⟨p2, ys, rfl, e2, r2'⟩ := sq_dq hy
  have l1 := r1'.length
  have l2 := r2'.length
  refine ⟨p1, p2, xs, ys, rfl, e1.now, e2.now, q _ H1 _ r1 rfl ⟨fun i H' k hi => ?_, fun i H' x H'' k hA y hi => ?_, fun H' k => ?_⟩⟩
  · have hi' : i < min ds.length es.length := by simpa [zipD] using hi
    exact ⟨xs, ys, _, _, e1 _ k, e2 _ k, List.getElem?_eq_getElem (show i < xs.length by omega), List.getElem?_eq_getElem (show i < ys.length by omega)⟩
  · obtain ⟨T, x1, y1, rfl, hT, rfl, f1, f2⟩ := y
    obtain ⟨d, hd, dv⟩ := r1'.getx (f1 xs (e1 _ k))
    obtain ⟨e, he', ev⟩ := r2'.getx (f2 ys (e2 _ k))
    have sm : Same H' (upd H' T (.tup [x1, y1])) := fun b o z => by rw [upd_ne (ne_of_none z hT)]; exact z
    refine ⟨.tuple [d, e], ?_, sm, fun A' hA' f => .tup (fun z => hA' T z hT) upd_same (.cons (dv_later dv k sm f) (.cons (dv_later ev k sm f) .nil))⟩
    unfold zipD
    rw [List.getElem?_zipWith, hd, he']
  · refine ⟨xs, ys, e1 _ k, e2 _ k, ?_⟩
    unfold zipD
    rw [List.length_zipWith]
    omega
theorem wk_enum {k : Bool} {ds : List PyData} (h : EaD L t Γ [sqD k ds]) : WkD L (iEnumP L.K k t) Γ (ds.mapIdx fun i d => PyData.tuple [.int (i : Nat), d]) := fun A σ H hi he hg R q => h A σ H hi he hg _ fun vs ds' H1 r1 hl hv p => by
  subst p
  obtain ⟨v, rfl, hx⟩ := one_of hl hv
  obtain ⟨p1, xs, rfl, e1, r1'⟩ := sq_dq hx
  have l1 := r1'.length
  refine ⟨p1, xs, rfl, e1.now, q _ H1 _ r1 rfl ⟨fun i H' k hi => ?_, fun i H' x H'' k hA y hi => ?_, fun H' k => ?_⟩⟩
  · have hi' : i < ds.length := by simpa using hi
    exact ⟨xs, _, e1 _ k, List.getElem?_eq_getElem (show i < xs.length by omega)⟩
  · obtain ⟨T, x1, rfl, hT, rfl, f1⟩ := y
    obtain ⟨d, hd, dv⟩ := r1'.getx (f1 xs (e1 _ k))
    have sm : Same H' (upd H' T (.tup [.int (i : Nat), x1])) := fun b o z => by rw [upd_ne (ne_of_none z hT)]; exact z
    refine ⟨.tuple [.int (i : Nat), d], ?_, sm, fun A' hA' f => .tup (fun z => hA' T z hT) upd_same (.cons (.int _) (.cons (dv_later dv k sm f) .nil))⟩
    rw [List.getElem?_mapIdx, hd]
    rfl
  · refine ⟨xs, e1 _ k, ?_⟩
    rw [List.length_mapIdx]
    omega
def rngD (lo : Int) (n : Nat) : List PyData := (List.range n).map fun (i : Nat) => PyData.int (lo + (i : Int))
theorem wk_rng1G {P : PyData → Prop} (h : EaG L a t Γ (fun ds => ∃ j : Int, ds = [.int j] ∧ P (.int j) ∧ -(2 ^ 62) ≤ j ∧ j < 2 ^ 62)) : WkG L a (iRng1 t) Γ (fun items => ∃ j : Int, P (.int j) ∧ items = rngD 0 j.toNat) := fun A σ H hi he hg R q => h A σ H hi he hg _ fun vs ds' H1 r1 hl hv p => by
  obtain ⟨j, rfl, hp, h1, h2⟩ := p
  obtain ⟨v, rfl, hx⟩ := one_of hl hv
  obtain rfl := hx.int
  refine ⟨j, rfl, h1, h2, q _ H1 _ r1 ⟨j, hp, rfl⟩ ⟨fun i H' k hi => ?_, fun i H' x H'' k hA y hi => ?_, fun H' k => ?_⟩⟩
  · have hi' : i < j.toNat := by simpa [rngD] using hi
    exact hi'
  · obtain ⟨rfl, rfl⟩ := y
    have hi' : i < j.toNat := by simpa [rngD] using hi
    refine ⟨.int (0 + (i : Int)), ?_, Same.refl _, fun A' _ _ => .int _⟩
    unfold rngD
    rw [List.getElem?_map, List.getElem?_range hi']
    rfl
  · show j.toNat ≤ (rngD 0 j.toNat).length
    simp [rngD]
theorem wk_rng1 {j : Int} (h : EaD L t Γ [.int j]) (h1 : -(2 ^ 62) ≤ j ∧ j < 2 ^ 62) : WkD L (iRng1 t) Γ (rngD 0 j.toNat) := fun A σ H hi he hg R q =>
  wk_rng1G (P := fun x => x = .int j) (h.mono (Nat.le_refl _) fun ds e => ⟨j, e, rfl, h1⟩) A σ H hi he hg R fun J H1 items r ⟨j', e1, e2⟩ k => by
    have e3 : j' = j := by injection e1
    subst e3
    exact q J H1 items r e2 k

/-! ### targets -/
def TgG (L : Rl) (g : TG) (js : List Nat) (d : PyData) (Γ Γ' : List (Option PyData)) : Prop := ∀ A x σ H, Dv L.K A H x d → EnvOk L A σ H Γ → ∀ Q : L2.St → Hp → Prop, (∀ σ', EnvOk L A σ' H Γ' → (∀ vs : List Nat, (∀ j ∈ js, j ∈ vs) → wipe σ' vs = wipe σ vs) → Q σ' H) → g x σ H Q
theorem wipe_set {σ : L2.St} {j : Nat} {x : Option V} : ∀ {vs : List Nat}, j ∈ vs → wipe (σ.set j x) vs = wipe σ vs
  | [], h => by simp at h
  | v :: vs, h => by
    by_cases e : v = j
    · subst e
      by_cases h2 : v ∈ vs
      · show (wipe (σ.set v x) vs).set v none = (wipe σ vs).set v none
        rw [wipe_set h2]
      · have key : ∀ (ws : List Nat) (τ : L2.St), v ∉ ws → wipe (τ.set v x) ws = (wipe τ ws).set v x := by
          intro ws
          induction ws with
          | nil => intro τ _; rfl
          | cons u us ih =>
            intro τ hn
            show (wipe (τ.set v x) us).set u none = ((wipe τ us).set u none).set v x
            rw [ih τ (fun z => hn (List.mem_cons_of_mem _ z)), List.set_comm _ _ (fun z => hn (by rw [z]; exact List.mem_cons_self))]
        show (wipe (σ.set v x) vs).set v none = (wipe σ vs).set v none
        rw [key vs σ h2, List.set_set]
    · have h2 : j ∈ vs := (List.mem_cons.mp h).resolve_left (fun z => e z.symm)
      show (wipe (σ.set j x) vs).set v none = (wipe σ vs).set v none
      rw [wipe_set h2]
theorem wipe_mem {σ : L2.St} {v : Nat} : ∀ {ws : List Nat}, v ∈ ws → (wipe σ ws).set v none = wipe σ ws
  | [], h => by simp at h
  | u :: us, h => by
    by_cases e : u = v
    · subst e
      show ((wipe σ us).set u none).set u none = (wipe σ us).set u none
      rw [List.set_set]
    · have h2 : v ∈ us := (List.mem_cons.mp h).resolve_left (fun z => e z.symm)
      show ((wipe σ us).set u none).set v none = (wipe σ us).set u none
      rw [List.set_comm _ _ e, wipe_mem h2]
theorem wipe_wipe {σ : L2.St} (ws : List Nat) : ∀ {vs : List Nat}, (∀ v ∈ vs, v ∈ ws) → wipe (wipe σ ws) vs = wipe σ ws
  | [], _ => rfl
  | v :: vs, h => by
    show (wipe (wipe σ ws) vs).set v none = wipe σ ws
    rw [wipe_wipe ws (fun u hu => h u (List.mem_cons_of_mem _ hu)), wipe_mem (h v List.mem_cons_self)]
theorem tg_name {j : Nat} : TgG L (gName j) [j] d Γ (Γ.set j (some d)) := fun A x σ H hx he Q q => q _ (he.set (.inr hx) j) fun vs hv => wipe_set (hv j (by simp))
theorem tg_two {i j : Nat} {d1 d2 : PyData} : TgG L (gTup L.K 2 (gCons (gName i) (gCons (gName j) gNil))) [i, j] (.tuple [d1, d2]) Γ ((Γ.set i (some d1)).set j (some d2)) := fun A x σ H hx he Q q => by
  obtain ⟨p, xs, rfl, e, r⟩ := Dq.tuple (L := L) (.inr hx)
  cases r with
  | cons r1 r =>
    cases r with
    | cons r2 r =>
      cases r
      refine ⟨p, _, rfl, e.sq, rfl, _, _, rfl, _, _, rfl, rfl, ?_⟩
      refine q _ ((he.set (.inr r1) i).set (.inr r2) j) fun vs hv => ?_
      rw [wipe_set (hv j (by simp)), wipe_set (hv i (by simp))]

/-! ### comprehensions -/
def wipeD (Γ : List (Option PyData)) : List Nat → List (Option PyData)
  | [] => Γ
  | v :: vs => (wipeD Γ vs).set v none
theorem EnvOk.clear (h : EnvOk L A σ H Γ) (i : Nat) : EnvOk L A (σ.set i none) H (Γ.set i none) := by
  refine ⟨by rw [List.length_set, List.length_set]; exact h.1, fun j d' e => ?_⟩
  by_cases hj : i = j
  · subst hj
    have hl : i < Γ.length := by
      have := (List.getElem?_eq_some_iff.mp e).1
      rwa [List.length_set] at this
    rw [List.getElem?_set_self hl] at e
    cases e
  · rw [List.getElem?_set_ne hj] at e
    obtain ⟨w, h1, h2⟩ := h.2 j d' e
    exact ⟨w, by rw [List.getElem?_set_ne hj]; exact h1, h2⟩
theorem EnvOk.wipe (h : EnvOk L A σ H Γ) : ∀ vs : List Nat, EnvOk L A (wipe σ vs) H (wipeD Γ vs)
  | [] => h
  | v :: vs => (h.wipe vs).clear v
/-- a new address is avoided from now on -/
theorem EnvOk.avoid {q : Addr} {o : HO} (h : EnvOk L A σ H Γ) (e : H q = none) : EnvOk L (fun b => A b ∨ b = q) σ (upd H q o) Γ := ⟨h.1, fun i d ed => by
  obtain ⟨v, h1, h2⟩ := h.2 i d ed
  refine ⟨v, h1, h2.imp (fun x => x) fun x => x.map fun b u na eb _ => ?_⟩
  have ne : b ≠ q := ne_of_none eb e
  exact ⟨fun z => z.elim na ne, by rw [upd_ne ne]; exact eb⟩⟩
theorem kp_of (r : L.R n H H') : Kp A H H' := fun b o _ e k => L.keep r e k
/-- an avoided object is written -/
theorem DvAll.off {q : Addr} {o : HO} {vs : List V} {ds : List PyData} (h : DvAll L.K (fun b => A b ∨ b = q) H vs ds) : DvAll L.K (fun b => A b ∨ b = q) (upd H q o) vs ds := h.map fun b u na e k => ⟨na, by rw [upd_ne (fun z => na (.inr z))]; exact e⟩
theorem EnvOk.off {q : Addr} {o : HO} (h : EnvOk L (fun b => A b ∨ b = q) σ H Γ) : EnvOk L (fun b => A b ∨ b = q) σ (upd H q o) Γ := ⟨h.1, fun i d ed => by
  obtain ⟨v, h1, h2⟩ := h.2 i d ed
  exact ⟨v, h1, h2.imp (fun x => x) fun x => x.map fun b u na e _ => ⟨na, by rw [upd_ne (fun z => na (.inr z))]; exact e⟩⟩⟩
/-- a new object -/
def EvF (L : Rl) (n : Nat) (te : TE) (Γ : List (Option PyData)) (P : PyData → Prop) : Prop := ∀ A σ H, Inn A H → EnvOk L A σ H Γ → L.G n H → ∀ Q : VK, (∀ p d H', L.R n H H' → H p = none → Dq L A H' (.ref p) d → P d → Q (.ref p) H') → te σ H Q
theorem EvF.eg (h : EvF L a te Γ P) : EvG L a te Γ P := fun A σ H hi he hg Q q => h A σ H hi he hg Q fun p d H' r _ hv hp => q (.ref p) d H' r hv hp
theorem eg_lcGF {wi : TI} {g : TG} {js vs : List Nat} {PI1 : List PyData → Prop} {Pt : List PyData → Nat → PyData → Prop} (hw : WkG L a wi Γ PI1) (hj : ∀ j ∈ js, j ∈ vs) (hlen : ∀ items, PI1 items → items.length ≤ b ∧ b ≤ 1000)
    (hb : ∀ items, PI1 items → ∀ (i : Nat) d, items[i]? = some d → ∃ Γ', TgG L g js d (wipeD Γ vs) Γ' ∧ EvG L c te Γ' (fun r => r ≠ mark ∧ Pt items i r)) :
    EvF L (a + b * c) (tLc wi g tYes te vs) Γ (fun r => ∃ items rs, PI1 items ∧ r = .list rs ∧ rs.length = items.length ∧ ∀ (i : Nat) d, rs[i]? = some d → Pt items i d) := fun A σ H hi he hg Q q => hw A σ H hi he (L.gle (Nat.le_add_right _ _) hg) _ fun J H1 items r1 hp jk D hD => by
  have hD0 : H D = none := L.free r1 hD
  obtain ⟨hl, hl2⟩ := hlen items hp
  have g1 : L.G (b * c) H1 := Rl.gR hg r1
  -- the walk's word
  refine ⟨fun i m H2 => m = items.length - i ∧ i ≤ items.length ∧ L.R (a + i * c) H H2 ∧ Kp A H1 H2 ∧ ∃ acc rs, H2 D = some (.lst acc) ∧ DvAll L.K (fun b => A b ∨ b = D) H2 acc rs ∧ rs.length = i ∧ ∀ (j : Nat) d, rs[j]? = some d → Pt items j d, ⟨items.length, ?_⟩, ?_⟩
  · refine ⟨by omega, Nat.zero_le _, ?_, fun b o _ e k => by rw [upd_ne (ne_of_none e hD)]; exact e, [], [], upd_same, .nil, rfl, fun j d e => by simp at e⟩
    have e0 : a + 0 * c = a := by rw [Nat.zero_mul, Nat.add_zero]
    rw [e0]
    exact L.fresh r1 hD0 (.inl hD)
  · rintro i m H2 ⟨rfl, hle, r2, k2, acc, rs, eD, dv, hrl, hpt⟩
    have naD : ∀ b, A b → H2 b ≠ none := fun b z => hi.r r2 b z
    by_cases hlt : i < items.length
    · refine .inr ⟨jk.go i H2 k2 hlt, fun H3 => i + 1 ≤ items.length ∧ L.R (a + (i + 1) * c) H H3 ∧ Kp A H1 H3 ∧ ∃ acc rs, H3 D = some (.lst acc) ∧ DvAll L.K (fun b => A b ∨ b = D) H3 acc rs ∧ rs.length = i + 1 ∧ ∀ (j : Nat) d, rs[j]? = some d → Pt items j d,
        fun H3 h3 => ⟨items.length - (i + 1), by omega, rfl, h3⟩, fun x H3 y => ?_⟩
      obtain ⟨d, hd, sm, hdv⟩ := jk.yld i H2 x H3 k2 naD y hlt
      obtain ⟨Γ', htg, hev⟩ := hb items hp i d hd
      have innA' : ∀ b, (A b ∨ b = D) → H2 b ≠ none := fun b z => z.elim (naD b) fun e => by rw [e, eD]; simp
      have dx : Dv L.K (fun b => A b ∨ b = D) H3 x d := hdv _ innA' fun b o na e _ z => z.elim na (ne_of_none e hD)
      -- the names, away from the new list
      have ev2 : EnvOk L (fun b => A b ∨ b = D) (wipe σ vs) H3 (wipeD Γ vs) := by
        have h0 : EnvOk L (fun b => A b ∨ b = D) (wipe σ vs) (upd H1 D (.lst [])) (wipeD Γ vs) := ((he.r r1).wipe vs).avoid hD
        refine ⟨h0.1, fun j d' e => ?_⟩
        obtain ⟨v, e1, e2⟩ := h0.2 j d' e
        refine ⟨v, e1, e2.imp (fun z => z) fun z => z.map fun b o na eb kd => ⟨na, sm _ _ (k2 b o (fun w => na (.inl w)) ?_ kd)⟩⟩
        rwa [upd_ne (fun w => na (.inr w))] at eb
      refine htg (fun b => A b ∨ b = D) x (wipe σ vs) H3 dx ev2 _ fun σ2 e3 w3 => ⟨?_, ?_⟩
      · rw [w3 vs hj, wipe_wipe vs fun v hv => hv]
      · show te σ2 H3 _
        have g0 : L.G (c + 0) H2 := by
          refine Rl.gR (a := a + i * c) ?_ r2
          refine L.gle ?_ hg
          have h1 : (i + 1) * c ≤ b * c := Nat.mul_le_mul_right _ (by omega)
          have h2 : (i + 1) * c = i * c + c := Nat.succ_mul _ _
          omega
        have r3 : L.R 0 H2 H3 := L.same (L.g0 g0) sm
        have g3 : L.G c H3 := Rl.gR (a := 0) (by rw [Nat.zero_add]; exact g0) r3
        refine hev (fun b => A b ∨ b = D) σ2 H3 (fun b z y => innA' b z (L.free r3 y)) e3 g3 _ fun y dy H4 r4 hy pw => ?_
        obtain ⟨hmk, hpt4⟩ := pw
        have eD4 : H4 D = some (.lst acc) := L.keep r4 (sm _ _ eD) fxLst
        refine ⟨acc, eD4, Nat.lt_of_le_of_lt (show acc.length ≤ 1000 by rw [dv.length, hrl]; omega) (by decide), hlt, ?_, ?_, acc ++ [y], rs ++ [dy], upd_same, ?_, by rw [List.length_append, hrl]; rfl, fun j d' e => ?_⟩
        · have hh : L.R (a + i * c + 0 + c) H H4 := L.tr (L.tr r2 r3) r4
          have e5 : a + (i + 1) * c = a + i * c + 0 + c := by rw [Nat.succ_mul]; omega
          rw [e5]
          exact L.fresh hh hD0 (.inr ⟨_, eD4⟩)
        · intro b o na e k
          have ne : b ≠ D := ne_of_none e hD
          rw [upd_ne ne]
          exact L.keep r4 (sm _ _ (k2 b o na e k)) k
        · have dv4 : DvAll L.K (fun b => A b ∨ b = D) H4 acc rs := (dv.map (fun b o na e k => ⟨na, sm _ _ e⟩) : DvAll L.K (fun b => A b ∨ b = D) H3 acc rs).r r4
          exact (dv4.app (.cons (hy.ne hmk) .nil)).off
        · by_cases hj2 : j < rs.length
          · rw [List.getElem?_append_left hj2] at e
            exact hpt j d' e
          · rw [List.getElem?_append_right (by omega)] at e
            have hj3 : j - rs.length = 0 := by
              have := (List.getElem?_eq_some_iff.mp e).1
              simp at this
              omega
            rw [hj3] at e
            simp at e
            subst e
            have : j = i := by omega
            subst this
            exact hpt4
    · have e : i = items.length := by omega
      subst e
      refine .inl ⟨jk.stop H2 k2, ?_⟩
      have nD : ¬ A D := hi.no hD0
      refine q D (.list rs) H2 (L.rle ?_ r2) hD0 (.inr (.lst nD eD (dv.map fun b o na e _ => ⟨fun z => na (.inl z), e⟩))) ⟨items, rs, hp, rfl, hrl, hpt⟩
      have := Nat.mul_le_mul_right c hl
      omega
theorem eg_lcG {wi : TI} {g : TG} {js vs : List Nat} {PI1 : List PyData → Prop} {Pt : List PyData → Nat → PyData → Prop} (hw : WkG L a wi Γ PI1) (hj : ∀ j ∈ js, j ∈ vs) (hlen : ∀ items, PI1 items → items.length ≤ b ∧ b ≤ 1000)
    (hb : ∀ items, PI1 items → ∀ (i : Nat) d, items[i]? = some d → ∃ Γ', TgG L g js d (wipeD Γ vs) Γ' ∧ EvG L c te Γ' (fun r => r ≠ mark ∧ Pt items i r)) :
    EvG L (a + b * c) (tLc wi g tYes te vs) Γ (fun r => ∃ items rs, PI1 items ∧ r = .list rs ∧ rs.length = items.length ∧ ∀ (i : Nat) d, rs[i]? = some d → Pt items i d) := (eg_lcGF hw hj hlen hb).eg
/-- each item comes to one thing -/
theorem eg_lcF {wi : TI} {g : TG} {js vs : List Nat} {items rs : List PyData} (hw : WkD L wi Γ items) (hj : ∀ j ∈ js, j ∈ vs) (hlen : items.length ≤ 1000) (hr : rs.length = items.length)
    (hb : ∀ (i : Nat) d r, items[i]? = some d → rs[i]? = some r → r ≠ mark ∧ ∃ Γ', TgG L g js d (wipeD Γ vs) Γ' ∧ EvD L te Γ' r) : EvF L 0 (tLc wi g tYes te vs) Γ (fun x => x = .list rs) := by
  have h := eg_lcGF (a := 0) (b := items.length) (c := 0) (te := te) (Pt := fun its i r => rs[i]? = some r) hw hj (fun its e => by rw [e]; exact ⟨Nat.le_refl _, hlen⟩) (fun its e i d hd => by
    subst e
    have hi : i < rs.length := by rw [hr]; exact (List.getElem?_eq_some_iff.mp hd).1
    obtain ⟨nm, Γ', h1, h2⟩ := hb i d rs[i] hd (List.getElem?_eq_getElem hi)
    refine ⟨Γ', h1, EvG.mono h2 (Nat.le_refl _) fun r e => ?_⟩
    rw [e]
    exact ⟨nm, List.getElem?_eq_getElem hi⟩)
  intro A σ H hi he hg Q q
  refine h A σ H hi he (L.gle (Nat.le_of_eq (by simp)) hg) Q fun p r H' rr hp hv ⟨its, rs', e1, e2, e3, e4⟩ => q p r H' (L.rle (Nat.le_of_eq (by simp)) rr) hp hv ?_
  rw [e2]
  congr 1
  subst e1
  refine List.ext_getElem? fun i => ?_
  by_cases hi : i < rs'.length
  · have z := e4 i rs'[i] (List.getElem?_eq_getElem hi)
    rw [z, List.getElem?_eq_getElem hi]
  · rw [List.getElem?_eq_none (by omega), List.getElem?_eq_none (by omega)]
theorem eg_lc {wi : TI} {g : TG} {js vs : List Nat} {items rs : List PyData} (hw : WkD L wi Γ items) (hj : ∀ j ∈ js, j ∈ vs) (hlen : items.length ≤ 1000) (hr : rs.length = items.length)
    (hb : ∀ (i : Nat) d r, items[i]? = some d → rs[i]? = some r → r ≠ mark ∧ ∃ Γ', TgG L g js d (wipeD Γ vs) Γ' ∧ EvD L te Γ' r) : EvD L (tLc wi g tYes te vs) Γ (.list rs) := (eg_lcF hw hj hlen hr hb).eg
end
end V1
set_option Elab.async false
set_option linter.all false
set_option maxRecDepth 100000
set_option maxHeartbeats 4000000
/-! Statements and loops by data; a def's promise by its body. -/
namespace V1
open PySem PySem.Spec PyProof.Rows L2
section
variable {L : Rl} {A : Addr → Prop} {H H' H1 : Hp} {v : V} {d : PyData} {σ : L2.St} {Γ : List (Option PyData)} {n a b c : Nat} {te ta tb tl : TE} {t : TA} {tt tu : TT} {ts u z : TS} {P P1 P2 : PyData → Prop} {K : PySem.W.Frag} {N N1 : List (Option PyData) → Prop} {Rt : PyData → Prop}
theorem SG.mono {N' : List (Option PyData) → Prop} {Rt' : PyData → Prop} (h : SG L a ts Γ N Rt) (hn : a ≤ b) (h1 : ∀ G, N G → N' G) (h2 : ∀ d, Rt d → Rt' d) : SG L b ts Γ N' Rt' := fun A σ H hi he hg D q1 q2 =>
  h A σ H hi he (L.gle hn hg) D (fun σ' H' Γ' r e p => q1 σ' H' Γ' (L.rle hn r) e (h1 _ p)) fun v d H' r e p => q2 v d H' (L.rle hn r) e (h2 _ p)
theorem sg_seqG (h : SG L a ts Γ N1 Rt) (k : ∀ Γ', N1 Γ' → SG L b u Γ' N Rt) : SG L (a + b) (tSeq ts u) Γ N Rt := fun A σ H hi he hg D q1 q2 =>
  h A σ H hi he (L.gle (Nat.le_add_right _ _) hg) { D with nx := u D } (fun σ' H' Γ' r e p => k Γ' p A σ' H' (hi.r r) e (Rl.gR hg r) D (fun σ2 H2 Γ2 r2 e2 p2 => q1 σ2 H2 Γ2 (L.tr r r2) e2 p2) fun v d H2 r2 e2 p2 => q2 v d H2 (L.tr r r2) e2 p2)
    fun v d H' r e p => q2 v d H' (L.rle (Nat.le_add_right _ _) r) e p
theorem sg_seq (h : SG L 0 ts Γ N1 Rt) (k : ∀ Γ', N1 Γ' → SG L b u Γ' N Rt) : SG L b (tSeq ts u) Γ N Rt := (sg_seqG h k).mono (Nat.le_of_eq (Nat.zero_add _)) (fun _ x => x) fun _ x => x
theorem sq_asgG {i : Nat} (h : EvG L a te Γ P) (k : ∀ d, P d → SG L b u (Γ.set i (some d)) N Rt) : SG L (a + b) (tSeq (tAsg te (gName i)) u) Γ N Rt := fun A σ H hi he hg D q1 q2 =>
  h A σ H hi he (L.gle (Nat.le_add_right _ _) hg) _ fun v d H1 r hv p => k d p A _ H1 (hi.r r) ((he.r r).set hv i) (Rl.gR hg r) D (fun σ2 H2 Γ2 r2 e2 p2 => q1 σ2 H2 Γ2 (L.tr r r2) e2 p2) fun v d H2 r2 e2 p2 => q2 v d H2 (L.tr r r2) e2 p2
theorem sq_asg {i : Nat} (h : EvD L te Γ d) (k : SG L b u (Γ.set i (some d)) N Rt) : SG L b (tSeq (tAsg te (gName i)) u) Γ N Rt := (sq_asgG (a := 0) h fun d' e => by rw [e]; exact k).mono (Nat.le_of_eq (Nat.zero_add _)) (fun _ x => x) fun _ x => x
theorem sg_asgG {i : Nat} (h : EvG L a te Γ P) (k : ∀ d, P d → N (Γ.set i (some d))) : SG L a (tAsg te (gName i)) Γ N Rt := fun A σ H hi he hg D q1 q2 =>
  h A σ H hi he hg _ fun v d H1 r hv p => q1 _ H1 _ r ((he.r r).set hv i) (k d p)
theorem sg_asg {i : Nat} (h : EvD L te Γ d) (k : N (Γ.set i (some d))) : SG L 0 (tAsg te (gName i)) Γ N Rt := sg_asgG h fun d' e => by rw [e]; exact k
theorem sq_parG {i j : Nat} {PP : List PyData → Prop} (h : EaG L a t Γ PP) (h2 : ∀ ds, PP ds → ∃ d1 d2, ds = [d1, d2] ∧ SG L b u ((Γ.set i (some d1)).set j (some d2)) N Rt) : SG L (a + b) (tSeq (tPar i j t) u) Γ N Rt := fun A σ H hi he hg D q1 q2 =>
  h A σ H hi he (L.gle (Nat.le_add_right _ _) hg) _ fun vs ds H1 r hl hv p => by
    obtain ⟨d1, d2, rfl, k⟩ := h2 ds p
    obtain ⟨v, w, rfl, h3, h4⟩ := two_of hl hv
    exact ⟨v, w, rfl, k A _ H1 (hi.r r) (((he.r r).set h3 i).set h4 j) (Rl.gR hg r) D (fun σ2 H2 Γ2 r2 e2 p2 => q1 σ2 H2 Γ2 (L.tr r r2) e2 p2) fun v d H2 r2 e2 p2 => q2 v d H2 (L.tr r r2) e2 p2⟩
theorem sq_par {i j : Nat} {d1 d2 : PyData} (h : EaD L t Γ [d1, d2]) (k : SG L b u ((Γ.set i (some d1)).set j (some d2)) N Rt) : SG L b (tSeq (tPar i j t) u) Γ N Rt :=
  (sq_parG (a := 0) h fun ds e => ⟨d1, d2, e, k⟩).mono (Nat.le_of_eq (Nat.zero_add _)) (fun _ x => x) fun _ x => x
theorem sg_par {i j : Nat} {d1 d2 : PyData} (h : EaD L t Γ [d1, d2]) (k : N ((Γ.set i (some d1)).set j (some d2))) : SG L 0 (tPar i j t) Γ N Rt := fun A σ H hi he hg D q1 q2 =>
  h A σ H hi he hg _ fun vs ds H1 r hl hv p => by
    subst p
    obtain ⟨v, w, rfl, h3, h4⟩ := two_of hl hv
    exact ⟨v, w, rfl, q1 _ H1 _ r (((he.r r).set h3 i).set h4 j) k⟩
theorem sg_retG (h : EvG L a te Γ P) (k : ∀ d, P d → Rt d) : SG L a (tRet te) Γ N Rt := fun A σ H hi he hg D q1 q2 => h A σ H hi he hg _ fun v d H1 r hv p => q2 v d H1 r hv (k d p)
theorem sg_ret (h : EvD L te Γ d) (k : Rt d) : SG L 0 (tRet te) Γ N Rt := sg_retG h fun d' e => by rw [e]; exact k
theorem sg_retq (h : EvD L te Γ d) (k : Rt d) : SG L 0 (tSeq (tRet te) z) Γ N Rt := fun A σ H hi he hg D q1 q2 => h A σ H hi he hg _ fun v d H1 r hv p => q2 v d H1 r hv (by rw [p]; exact k)
theorem sg_next (k : N Γ) : SG L 0 tNext Γ N Rt := fun A σ H hi he hg D q1 q2 => q1 σ H Γ (Rl.refl hg) he k
theorem sq_next (h : SG L a z Γ N Rt) : SG L a (tSeq tNext z) Γ N Rt := h
theorem sg_if {k : Bool} (h : EtD L tt Γ k) (h1 : k = true → SG L a ts Γ N Rt) (h2 : k = false → SG L a u Γ N Rt) : SG L a (tIfS tt ts u) Γ N Rt := fun A σ H hi he hg D q1 q2 => h A σ H hi he (L.g0 hg) _ fun H1 r1 => by
  have fin : ∀ {tx : TS}, SG L a tx Γ N Rt → tx D σ H1 := fun {tx} hx => hx A σ H1 (hi.r r1) (he.r r1) (Rl.gR (a := 0) (by rw [Nat.zero_add]; exact hg) r1) D
    (fun σ2 H2 Γ2 r2 e2 p2 => q1 σ2 H2 Γ2 (L.rle (Nat.le_of_eq (Nat.zero_add _)) (L.tr r1 r2)) e2 p2) fun v d H2 r2 e2 p2 => q2 v d H2 (L.rle (Nat.le_of_eq (Nat.zero_add _)) (L.tr r1 r2)) e2 p2
  cases k with
  | true => exact fin (h1 rfl)
  | false => exact fin (h2 rfl)
theorem sq_if {k : Bool} (h : EtD L tt Γ k) (h1 : k = true → SG L a (tSeq ts z) Γ N Rt) (h2 : k = false → SG L a (tSeq u z) Γ N Rt) : SG L a (tSeq (tIfS tt ts u) z) Γ N Rt := fun A σ H hi he hg D q1 q2 => h A σ H hi he (L.g0 hg) _ fun H1 r1 => by
  have fin : ∀ {tx : TS}, SG L a tx Γ N Rt → tx D σ H1 := fun {tx} hx => hx A σ H1 (hi.r r1) (he.r r1) (Rl.gR (a := 0) (by rw [Nat.zero_add]; exact hg) r1) D
    (fun σ2 H2 Γ2 r2 e2 p2 => q1 σ2 H2 Γ2 (L.rle (Nat.le_of_eq (Nat.zero_add _)) (L.tr r1 r2)) e2 p2) fun v d H2 r2 e2 p2 => q2 v d H2 (L.rle (Nat.le_of_eq (Nat.zero_add _)) (L.tr r1 r2)) e2 p2
  cases k with
  | true => exact fin (h1 rfl)
  | false => exact fin (h2 rfl)
theorem sg_if_no (h : EtD L tt Γ false) (h2 : SG L a u Γ N Rt) : SG L a (tIfS tt ts u) Γ N Rt := sg_if h (fun e => nomatch e) fun _ => h2
theorem sq_if_no (h : EtD L tt Γ false) (h2 : SG L a z Γ N Rt) : SG L a (tSeq (tIfS tt ts tNext) z) Γ N Rt := sq_if h (fun e => nomatch e) fun _ => h2
theorem sg_ifG {P : Bool → Prop} (h : EtG L a tt Γ P) (h2 : ∀ k, P k → k = false) (h3 : SG L b u Γ N Rt) : SG L (a + b) (tIfS tt ts u) Γ N Rt := fun A σ H hi he hg D q1 q2 => h A σ H hi he (L.gle (Nat.le_add_right _ _) hg) _ fun k H1 r1 pk => by
  rw [h2 k pk]
  exact h3 A σ H1 (hi.r r1) (he.r r1) (Rl.gR hg r1) D (fun σ2 H2 Γ2 r2 e2 p2 => q1 σ2 H2 Γ2 (L.tr r1 r2) e2 p2) fun v d H2 r2 e2 p2 => q2 v d H2 (L.tr r1 r2) e2 p2

/-! ### loops -/
theorem sg_forG {wi : TI} {g : TG} {js : List Nat} {PI1 : List PyData → Prop} (I : List PyData → Nat → List (Option PyData) → Prop) (hw : WkG L a wi Γ PI1) (hlen : ∀ items, PI1 items → items.length ≤ b) (h0 : ∀ items, PI1 items → I items 0 Γ)
    (hb : ∀ items, PI1 items → ∀ (i : Nat) d Γi, items[i]? = some d → I items i Γi → ∃ Γ', TgG L g js d Γi Γ' ∧ SG L c ts Γ' (I items (i + 1)) Rt) (hN : ∀ items, PI1 items → ∀ Γe, I items items.length Γe → N Γe) : SG L (a + b * c) (tFor wi g ts) Γ N Rt := fun A σ H hi he hg D q1 q2 =>
  hw A σ H hi he (L.gle (Nat.le_add_right _ _) hg) _ fun J H1 items r1 hp jk => by
  have hl := hlen items hp
  refine ⟨fun i m σ2 H2 => m = items.length - i ∧ i ≤ items.length ∧ L.R (a + i * c) H H2 ∧ Kp A H1 H2 ∧ ∃ Γi, EnvOk L A σ2 H2 Γi ∧ I items i Γi, ⟨items.length, ?_⟩, ?_⟩
  · refine ⟨by omega, Nat.zero_le _, ?_, fun b o _ e k => e, Γ, he.r r1, h0 items hp⟩
    have e0 : a + 0 * c = a := by rw [Nat.zero_mul, Nat.add_zero]
    rw [e0]
    exact r1
  · rintro i m σ2 H2 ⟨rfl, hle, r2, k2, Γi, e2, p2⟩
    by_cases hlt : i < items.length
    · refine .inr ⟨jk.go i H2 k2 hlt, fun σ3 H3 => i + 1 ≤ items.length ∧ L.R (a + (i + 1) * c) H H3 ∧ Kp A H1 H3 ∧ ∃ Γi, EnvOk L A σ3 H3 Γi ∧ I items (i + 1) Γi, fun σ3 H3 h3 => ⟨items.length - (i + 1), by omega, rfl, h3⟩, fun x H3 y => ?_⟩
      have naD : ∀ b, A b → H2 b ≠ none := fun b z => hi.r r2 b z
      obtain ⟨d, hd, sm, hdv⟩ := jk.yld i H2 x H3 k2 naD y hlt
      obtain ⟨Γ', htg, hs⟩ := hb items hp i d Γi hd p2
      have e5 : a + (i + 1) * c = a + i * c + 0 + c := by rw [Nat.succ_mul]; omega
      have g0 : L.G (c + 0) H2 := by
        refine Rl.gR (a := a + i * c) ?_ r2
        refine L.gle ?_ hg
        have h1 : (i + 1) * c ≤ b * c := Nat.mul_le_mul_right _ (by omega)
        have h2 : (i + 1) * c = i * c + c := Nat.succ_mul _ _
        omega
      have r3 : L.R 0 H2 H3 := L.same (L.g0 g0) sm
      have g3 : L.G c H3 := Rl.gR (a := 0) (by rw [Nat.zero_add]; exact g0) r3
      have dx : Dv L.K A H3 x d := hdv A naD fun b o na e _ => na
      refine htg A x σ2 H3 dx (e2.r r3) _ fun σ4 e4 _ => ?_
      refine hs A σ4 H3 (fun b z y => naD b z (L.free r3 y)) e4 g3 { D with nx := _, ct := _, bk := D.nx } (fun σ5 H5 Γ5 r5 e6 p5 => ?_) fun v d5 H5 r5 hv p5 => ?_
      · refine ⟨hlt, ?_, fun b o na e k => L.keep r5 (sm _ _ (k2 b o na e k)) k, Γ5, e6, p5⟩
        rw [e5]
        exact L.tr (L.tr r2 r3) r5
      · refine q2 v d5 H5 (L.rle ?_ (L.tr (L.tr r2 r3) r5)) hv p5
        have h1 : (i + 1) * c ≤ b * c := Nat.mul_le_mul_right _ (by omega)
        have h2 : (i + 1) * c = i * c + c := Nat.succ_mul _ _
        omega
    · have e : i = items.length := by omega
      subst e
      refine .inl ⟨jk.stop H2 k2, q1 σ2 H2 Γi (L.rle ?_ r2) e2 (hN items hp Γi p2)⟩
      have := Nat.mul_le_mul_right c hl
      omega
theorem sg_for {wi : TI} {g : TG} {js : List Nat} {items : List PyData} (I : Nat → List (Option PyData) → Prop) (hw : WkD L wi Γ items) (h0 : I 0 Γ)
    (hb : ∀ (i : Nat) d Γi, items[i]? = some d → I i Γi → ∃ Γ', TgG L g js d Γi Γ' ∧ SG L 0 ts Γ' (I (i + 1)) Rt) (hN : ∀ Γe, I items.length Γe → N Γe) : SG L 0 (tFor wi g ts) Γ N Rt :=
  (sg_forG (a := 0) (b := items.length) (c := 0) (fun _ => I) hw (fun its e => by rw [e]; exact Nat.le_refl _) (fun _ _ => h0) (fun its e i d Γi hd hI => by subst e; exact hb i d Γi hd hI) fun its e Γe hI => by subst e; exact hN Γe hI).mono (Nat.le_of_eq (by simp)) (fun _ x => x) fun _ x => x
theorem sg_while (I : List (Option PyData) → Prop) (μ : List (Option PyData) → Nat) (h0 : I Γ) (hs : ∀ Γi, I Γi → ∃ k, EtD L tt Γi k ∧ (k = true → SG L 0 ts Γi (fun Γ' => I Γ' ∧ μ Γ' < μ Γi) Rt) ∧ (k = false → N Γi)) : SG L 0 (tWhile tt ts) Γ N Rt := fun A σ H hi he hg D q1 q2 => by
  refine ⟨fun m σ2 H2 => L.R 0 H H2 ∧ ∃ Γi, EnvOk L A σ2 H2 Γi ∧ I Γi ∧ m = μ Γi, ⟨μ Γ, Rl.refl hg, Γ, he, h0, rfl⟩, ?_⟩
  rintro m σ2 H2 ⟨r2, Γi, e2, p2, rfl⟩
  obtain ⟨k, hk, h1, h2⟩ := hs Γi p2
  have g2 : L.G 0 H2 := Rl.gR (a := 0) (b := 0) hg r2
  refine hk A σ2 H2 (hi.r r2) e2 g2 _ fun H3 r3 => ?_
  have r23 : L.R 0 H H3 := L.tr (a := 0) (b := 0) r2 r3
  cases k with
  | true =>
    refine ⟨fun σ4 H4 => ∃ m', m' < μ Γi ∧ (L.R 0 H H4 ∧ ∃ Γi, EnvOk L A σ4 H4 Γi ∧ I Γi ∧ m' = μ Γi), fun σ4 H4 x => x, ?_⟩
    refine h1 rfl A σ2 H3 ((hi.r r2).r r3) (e2.r r3) (Rl.gR (a := 0) (b := 0) g2 r3) { D with nx := _, ct := _, bk := D.nx } (fun σ4 H4 Γ4 r4 e4 p4 => ⟨_, p4.2, L.tr (a := 0) (b := 0) r23 r4, Γ4, e4, p4.1, rfl⟩) fun v d H4 r4 hv p4 => q2 v d H4 (L.tr (a := 0) (b := 0) r23 r4) hv p4
  | false => exact q1 σ2 H3 Γi r23 (e2.r r3) (h2 rfl)
theorem et_orG {a b : Nat} (h : EtG L a tt Γ (fun k => k = false)) (h2 : EtG L b tu Γ (fun k => k = false)) : EtG L (a + b) (tOr tt tu) Γ (fun k => k = false) := fun A σ H hi he hg Q q => h A σ H hi he (L.gle (Nat.le_add_right _ _) hg) _ fun k H1 r1 e => by
  subst e
  show tu σ H1 Q
  exact h2 A σ H1 (hi.r r1) (he.r r1) (Rl.gR hg r1) Q fun k H2 r2 e => q k H2 (L.tr r1 r2) e
theorem et_notG {a : Nat} {te : TE} (h : EvG L a te Γ (fun d => d = .bool true)) : EtG L a (tNot (tB te)) Γ (fun k => k = false) := fun A σ H hi he hg Q q => h A σ H hi he hg _ fun v d H1 r1 hv p => by
  subst p
  obtain rfl := hv.bool
  exact ⟨true, rfl, q false H1 r1 rfl⟩
end

/-! ### a def's promise by its body -/
def Ga (m : Nat) (ds : List PyData) : List (Option PyData) := ds.map some ++ List.replicate (m - ds.length) none
theorem start_ok {L : Rl} {A : Addr → Prop} {H : Hp} {Nm : List Str} {vs : List V} {ds : List PyData} (hl : vs.length = ds.length) (h : ∀ (i : Nat) d, ds[i]? = some d → ∃ v, vs[i]? = some v ∧ Dq L A H v d) : EnvOk L A (L2.start Nm vs) H (Ga Nm.length ds) := by
  refine ⟨by unfold L2.start Ga; rw [List.length_append, List.length_append, List.length_map, List.length_map, List.length_replicate, List.length_replicate, hl], fun i d e => ?_⟩
  unfold Ga at e
  by_cases hi : i < ds.length
  · rw [List.getElem?_append_left (by rw [List.length_map]; exact hi), List.getElem?_map] at e
    cases e2 : ds[i]? with
    | none => rw [e2] at e; cases e
    | some d' =>
      rw [e2] at e
      have e3 : d' = d := Option.some.inj (Option.some.inj e)
      subst e3
      obtain ⟨v, h1, h2⟩ := h i d' e2
      refine ⟨v, ?_, h2⟩
      unfold L2.start
      rw [List.getElem?_append_left (by rw [List.length_map, hl]; exact hi), List.getElem?_map, h1]
      rfl
  · rw [List.getElem?_append_right (by rw [List.length_map]; omega), List.getElem?_replicate] at e
    split at e <;> cases e
section
variable {P : Program} {w : World} {K : PySem.W.Frag} {mg : Str → Option Value} {base : Heap}
theorem ok_of {S : Rl → Prop} {x : Str} {st : Stmt} {f : Addr} {fd : FuncData} {N ps : List Str} {k n : Nat} {Pre : List PyData → Prop} {Post : List PyData → PyData → Prop} (F : Fun K x x st f fd) (Sc : FnScope N ps (defScope st)) (hlen : ∀ ds, Pre ds → ds.length = ps.length)
    (hb : ∀ (cdv : Value) (A : Around) (outer : List Env) (s : Shared) (H : Hp) (E : XK), A.guards = some [] → Room k (A.deeper (envOfC x (defScope st) s.heap.objs.size f cdv)) →
      ∃ t, PSs (cxOf CX0 P w K mg base N x (defScope st) f cdv A outer s H E).nox (defBody st) t ∧ ∀ L, S L → ∀ ds, Pre ds → SG L n t (Ga N.length ds) (fun _ => Post ds .none) (Post ds)) : FnG P w K mg base (k + 1) f fd ps (spA S n Pre Post) := by
  refine okG F Sc (fun vs H Q E h => ?_) (fun cdv A outer s H vs Q E hg hr h => ?_)
  · obtain ⟨L, _, A, ds, _, hl, _, hp, _⟩ := h
    rw [hl, hlen ds hp]
  · obtain ⟨L, hS, Av, ds, hi, hl, hv, hp, hgg, q⟩ := h
    obtain ⟨t, h1, h2⟩ := hb cdv A outer s H E hg hr
    refine ⟨t, h1, h2 L hS ds hp Av (L2.start N vs) H hi (start_ok hl hv) hgg _ (fun σ' H' Γ' r e p => ?_) fun v d H' r hd p => q v d H' r hd p⟩
    exact q .non .none H' r (.inr .non) p
theorem FnG.imp {k : Nat} {f : Addr} {fd : FuncData} {ps : List Str} {sp sp' : Sp} (F : FnG P w K mg base k f fd ps sp) (h : ∀ vs H Q E, sp' vs H Q E → sp vs H Q E) : FnG P w K mg base k f fd ps sp' :=
  ⟨fun vs H Q E z => F.len vs H Q E (h _ _ _ _ z), fun A outer s H args us vs Q E hg hr e0 hb r z => F.run A outer s H args us vs Q E hg hr e0 hb r (h _ _ _ _ z)⟩
/-- a def that leaves the heap as it is, whose answer is F of its arguments -/
theorem ok_fn {x : Str} {st : Stmt} {f : Addr} {fd : FuncData} {N ps : List Str} {k : Nat} {Pre : List PyData → Prop} {Fv : List PyData → PyData} (F : Fun K x x st f fd) (Sc : FnScope N ps (defScope st)) (hlen : ∀ ds, Pre ds → ds.length = ps.length)
    (hb : ∀ (cdv : Value) (A : Around) (outer : List Env) (s : Shared) (H : Hp) (E : XK), A.guards = some [] → Room k (A.deeper (envOfC x (defScope st) s.heap.objs.size f cdv)) →
      ∃ t, PSs (cxOf CX0 P w K mg base N x (defScope st) f cdv A outer s H E).nox (defBody st) t ∧ ∀ ds, Pre ds → SG (pureL K) 0 t (Ga N.length ds) (fun _ => .none = Fv ds) (fun d => d = Fv ds)) : FnG P w K mg base (k + 1) f fd ps (spL (pureL K) 0 Pre fun ds d => d = Fv ds) :=
  (ok_of (S := fun L => L = (pureL K)) F Sc hlen fun cdv A outer s H E hg hr => by
    obtain ⟨t, h1, h2⟩ := hb cdv A outer s H E hg hr
    exact ⟨t, h1, fun L e ds hp => by subst e; exact h2 ds hp⟩).imp fun vs H Q E h => ⟨(pureL K), rfl, h⟩
end
end V1
set_option Elab.async false
set_option linter.all false
set_option maxRecDepth 100000
set_option maxHeartbeats 4000000
/-! Fractions, points and rows as rational numbers. -/
namespace V1
open PySem

/-! ### greatest common divisors of lists -/
def gcdl (ns : List Int) : Nat := ns.foldl (fun g n => Nat.gcd g n.natAbs) 0
def lcml (bs : List Nat) : Nat := bs.foldl (fun l b => Nat.lcm l b) 1
theorem gcd_fold (ns : List Int) : ∀ g : Nat, ns.foldl (fun g n => Nat.gcd g n.natAbs) g = Nat.gcd g (gcdl ns) := by
  unfold gcdl
  induction ns with
  | nil => intro g; simp
  | cons n r ih =>
    intro g
    rw [List.foldl_cons, List.foldl_cons, ih, ih (Nat.gcd 0 n.natAbs), Nat.gcd_zero_left, Nat.gcd_assoc]
theorem gcdl_cons (n : Int) (r : List Int) : gcdl (n :: r) = Nat.gcd n.natAbs (gcdl r) := by
  show List.foldl _ (Nat.gcd 0 n.natAbs) r = _
  rw [gcd_fold, Nat.gcd_zero_left]
theorem gcdl_dvd {ns : List Int} : ∀ n ∈ ns, (gcdl ns : Int) ∣ n := by
  induction ns with
  | nil => intro n h; simp at h
  | cons a r ih =>
    intro n h
    rw [gcdl_cons]
    rcases List.mem_cons.mp h with rfl | h
    · exact Int.ofNat_dvd_left.mpr (Nat.gcd_dvd_left _ _)
    · exact Int.dvd_trans (Int.natCast_dvd_natCast.mpr (Nat.gcd_dvd_right _ _)) (ih n h)
theorem dvd_gcdl {ns : List Int} {k : Nat} (h : ∀ n ∈ ns, (k : Int) ∣ n) : k ∣ gcdl ns := by
  induction ns with
  | nil => exact Nat.dvd_zero k
  | cons a r ih =>
    rw [gcdl_cons]
    exact Nat.dvd_gcd (Int.ofNat_dvd_left.mp (h a List.mem_cons_self)) (ih fun n hn => h n (List.mem_cons_of_mem _ hn))
theorem gcdl_mul (c : Nat) (ns : List Int) : gcdl (ns.map fun n => (c : Int) * n) = c * gcdl ns := by
  induction ns with
  | nil => simp [gcdl]
  | cons a r ih => rw [List.map_cons, gcdl_cons, gcdl_cons, ih, Int.natAbs_mul, Int.natAbs_natCast, Nat.gcd_mul_left]
theorem gcdl_pos {ns : List Int} {n : Int} (h : n ∈ ns) (hn : n ≠ 0) : 0 < gcdl ns := by
  rcases Nat.eq_zero_or_pos (gcdl ns) with z | z
  · have := gcdl_dvd n h
    rw [z] at this
    exact absurd (Int.zero_dvd.mp this) hn
  · exact z
theorem lcm_fold (bs : List Nat) : ∀ l : Nat, bs.foldl (fun l b => Nat.lcm l b) l = Nat.lcm l (lcml bs) := by
  unfold lcml
  induction bs with
  | nil => intro l; simp
  | cons b r ih =>
    intro l
    rw [List.foldl_cons, List.foldl_cons, ih, ih (Nat.lcm 1 b), Nat.lcm_one_left, Nat.lcm_assoc]
theorem lcml_cons (b : Nat) (r : List Nat) : lcml (b :: r) = Nat.lcm b (lcml r) := by
  show List.foldl _ (Nat.lcm 1 b) r = _
  rw [lcm_fold, Nat.lcm_one_left]
theorem dvd_lcml {bs : List Nat} : ∀ b ∈ bs, b ∣ lcml bs := by
  induction bs with
  | nil => intro b h; simp at h
  | cons a r ih =>
    intro b h
    rw [lcml_cons]
    rcases List.mem_cons.mp h with rfl | h
    · exact Nat.dvd_lcm_left _ _
    · exact Nat.dvd_trans (ih b h) (Nat.dvd_lcm_right _ _)
theorem lcml_dvd {bs : List Nat} {k : Nat} (h : ∀ b ∈ bs, b ∣ k) : lcml bs ∣ k := by
  induction bs with
  | nil => exact Nat.one_dvd k
  | cons a r ih =>
    rw [lcml_cons]
    exact Nat.lcm_dvd (h a List.mem_cons_self) (ih fun b hb => h b (List.mem_cons_of_mem _ hb))
theorem lcml_pos {bs : List Nat} (h : ∀ b ∈ bs, 0 < b) : 0 < lcml bs := by
  induction bs with
  | nil => exact Nat.one_pos
  | cons a r ih =>
    rw [lcml_cons]
    exact Nat.lcm_pos (h a List.mem_cons_self) (ih fun b hb => h b (List.mem_cons_of_mem _ hb))

/-! ### fractions -/
def fq (q : Rat) : PyData := .tuple [.int q.num, .int (q.den : Int)]
abbrev rat (a : Int) (b : Nat) : Rat := mkRat a b
theorem fq_of {a : Int} {b : Nat} (hb : 0 < b) : PyData.tuple [.int (a / (Nat.gcd a.natAbs b : Nat)), .int ((b : Int) / (Nat.gcd a.natAbs b : Nat))] = fq (rat a b) := by
  unfold fq rat
  rw [Rat.num_mkRat, Rat.den_mkRat, if_neg (by omega), if_neg (by omega), Nat.gcd_comm]
  rfl
theorem rat_mul_den {a : Int} {b : Nat} (hb : 0 < b) : (rat a b).num * b = a * (rat a b).den := by
  have h := Rat.mkRat_self (rat a b)
  exact (Rat.mkRat_eq_iff (Rat.den_nz _) (by omega)).mp h
theorem den_dvd (a : Int) (b : Nat) (hb : 0 < b) : (rat a b).den ∣ b := by
  unfold rat
  rw [Rat.den_mkRat, if_neg (by omega)]
  exact Nat.div_dvd_of_dvd (Nat.gcd_dvd_left _ _)
theorem rat_eq {a c : Int} {b d : Nat} (hb : 0 < b) (hd : 0 < d) (h : a * d = c * b) : rat a b = rat c d := (Rat.mkRat_eq_iff (by omega) (by omega)).mpr h
theorem rat_div (a : Int) (b : Nat) : rat a b = (a : Rat) / (b : Rat) := Rat.mkRat_eq_div a b

/-! ### points and rows: the primitive integers of rational numbers -/
def lq (qs : List Rat) : Nat := lcml (qs.map fun q => q.den)
def topQ (qs : List Rat) : List Int := qs.map fun q => q.num * ((lq qs / q.den : Nat) : Int)
def rowQ (qs : List Rat) : List Int := topQ qs ++ [(lq qs : Int)]
def tI (ns : List Int) : PyData := .tuple (ns.map .int)
def lI (ns : List Int) : PyData := .list (ns.map .int)
def rowD (qs : List Rat) : PyData := tI (rowQ qs)
def prim (ns : List Int) : List Int := ns.map fun n => n / (gcdl ns : Int)
theorem lq_pos (qs : List Rat) : 0 < lq qs := lcml_pos fun b hb => by
  obtain ⟨q, _, rfl⟩ := List.mem_map.mp hb
  exact q.den_pos
theorem lq_dvd {qs : List Rat} {q : Rat} (h : q ∈ qs) : q.den ∣ lq qs := dvd_lcml _ (List.mem_map.mpr ⟨q, h, rfl⟩)
theorem topQ_len (qs : List Rat) : (topQ qs).length = qs.length := List.length_map _
theorem rowQ_len (qs : List Rat) : (rowQ qs).length = qs.length + 1 := by unfold rowQ; rw [List.length_append, topQ_len]; rfl
/-- n over w, the list of them -/
def over (ns : List Int) (w : Nat) : List Rat := ns.map fun n => rat n w
theorem prim_over (ns : List Int) {w : Nat} (hw : 0 < w) : prim (ns ++ [(w : Int)]) = rowQ (over ns w) := by
  generalize hg : gcdl (ns ++ [(w : Int)]) = g
  have hgp : 0 < g := by rw [← hg]; exact gcdl_pos (n := (w : Int)) (by simp) (by omega)
  have dv : ∀ n ∈ ns ++ [(w : Int)], (g : Int) ∣ n := by rw [← hg]; exact gcdl_dvd
  obtain ⟨k, hk⟩ : g ∣ w := Int.natCast_dvd_natCast.mp (dv w (by simp))
  have hkp : 0 < k := Nat.pos_of_ne_zero fun z => by rw [z] at hk; omega
  have hns : ∀ n ∈ ns, n = (g : Int) * (n / g) := fun n hn => (Int.mul_ediv_cancel' (dv n (by simp [hn]))).symm
  have hq : ∀ n ∈ ns, rat n w = rat (n / g) k := fun n hn => rat_eq hw hkp (by
    have e := hns n hn
    rw [hk, Int.natCast_mul]
    calc n * (k : Int) = ((g : Int) * (n / g)) * k := by rw [← e]
      _ = n / g * ((g : Int) * k) := by rw [Int.mul_comm (g : Int) (n / g), Int.mul_assoc])
  -- the primitive ones have no common divisor
  have g1 : gcdl (ns.map (fun n => n / (g : Int)) ++ [(k : Int)]) = 1 := by
    have e : (ns.map (fun n => n / (g : Int)) ++ [(k : Int)]).map (fun n => (g : Int) * n) = ns ++ [(w : Int)] := by
      rw [List.map_append, List.map_map]
      congr 1
      · calc ns.map ((fun n => (g : Int) * n) ∘ fun n => n / (g : Int)) = ns.map id := List.map_congr_left fun n hn => (hns n hn).symm
          _ = ns := List.map_id ns
      · show [(g : Int) * (k : Int)] = [(w : Int)]
        rw [hk, Int.natCast_mul]
    have h := gcdl_mul g (ns.map (fun n => n / (g : Int)) ++ [(k : Int)])
    rw [e, hg] at h
    exact Nat.eq_of_mul_eq_mul_left hgp (by rw [Nat.mul_one]; exact h.symm)
  -- the common bottom is k
  have hl : lq (over ns w) = k := by
    refine Nat.dvd_antisymm (lcml_dvd fun b hb => ?_) ?_
    · obtain ⟨q, hq1, rfl⟩ := List.mem_map.mp hb
      obtain ⟨n, hn, rfl⟩ := List.mem_map.mp hq1
      rw [hq n hn]
      exact den_dvd _ _ hkp
    · have key : k ∣ gcdl ((ns.map (fun n => n / (g : Int)) ++ [(k : Int)]).map fun n => ((lq (over ns w) : Nat) : Int) * n) := dvd_gcdl fun m hm => by
        obtain ⟨m', hm', rfl⟩ := List.mem_map.mp hm
        rcases List.mem_append.mp hm' with z | z
        · obtain ⟨n, hn, rfl⟩ := List.mem_map.mp z
          have hd : (rat n w).den ∣ lq (over ns w) := lq_dvd (List.mem_map.mpr ⟨n, hn, rfl⟩)
          obtain ⟨c, hc⟩ := hd
          have h1 := rat_mul_den (a := n / g) hkp
          rw [← hq n hn] at h1
          refine ⟨(rat n w).num * c, ?_⟩
          rw [hc, Int.natCast_mul]
          calc ((rat n w).den : Int) * c * (n / g) = (n / g * (rat n w).den) * c := by grind
            _ = ((rat n w).num * k) * c := by rw [h1]
            _ = (k : Int) * ((rat n w).num * c) := by grind
        · have e : m' = (k : Int) := by simpa using z
          subst e
          exact ⟨_, Int.mul_comm _ _⟩
      rw [gcdl_mul, g1, Nat.mul_one] at key
      exact key
  unfold prim rowQ
  rw [hg, List.map_append, hl]
  congr 1
  · unfold topQ over
    rw [List.map_map]
    refine List.map_congr_left fun n hn => ?_
    show n / (g : Int) = (rat n w).num * ((lq (over ns w) / (rat n w).den : Nat) : Int)
    rw [hl]
    have hd : (rat n w).den ∣ k := by rw [hq n hn]; exact den_dvd _ _ hkp
    obtain ⟨c, hc⟩ := hd
    have hdp := (rat n w).den_pos
    have e1 : k / (rat n w).den = c := by rw [hc, Nat.mul_div_cancel_left _ hdp]
    rw [e1]
    have h1 := rat_mul_den (a := n / g) hkp
    rw [← hq n hn, hc, Int.natCast_mul] at h1
    have h2 : ((rat n w).den : Int) * (n / g) = ((rat n w).den : Int) * ((rat n w).num * c) := by
      calc ((rat n w).den : Int) * (n / g) = n / g * (rat n w).den := Int.mul_comm _ _
        _ = (rat n w).num * (((rat n w).den : Int) * c) := h1.symm
        _ = ((rat n w).den : Int) * ((rat n w).num * c) := by grind
    exact Int.eq_of_mul_eq_mul_left (by omega) h2
  · show [(w : Int) / (g : Int)] = [(k : Int)]
    rw [hk, Int.natCast_mul, Int.mul_ediv_cancel_left _ (by omega)]
/-- the integers of a row, over the bottom, are its numbers -/
theorem over_top (qs : List Rat) : over (topQ qs) (lq qs) = qs := by
  unfold over topQ
  rw [List.map_map]
  calc qs.map ((fun n => rat n (lq qs)) ∘ fun q => q.num * ((lq qs / q.den : Nat) : Int)) = qs.map id := List.map_congr_left fun q hq => by
        show rat (q.num * ((lq qs / q.den : Nat) : Int)) (lq qs) = q
        have hd := lq_dvd hq
        obtain ⟨c, hc⟩ := hd
        have hdp := q.den_pos
        have hlp := lq_pos qs
        have e1 : lq qs / q.den = c := by rw [hc, Nat.mul_div_cancel_left _ hdp]
        rw [e1]
        calc rat (q.num * c) (lq qs) = rat q.num q.den := rat_eq hlp hdp (by rw [hc, Int.natCast_mul]; grind)
          _ = q := Rat.mkRat_self q
    _ = qs := List.map_id qs
theorem prim_rowQ (qs : List Rat) : prim (rowQ qs) = rowQ qs := by
  have h := prim_over (topQ qs) (lq_pos qs)
  rw [over_top] at h
  exact h
theorem gcdl_rowQ (qs : List Rat) : gcdl (rowQ qs) = 1 := by
  have h := prim_rowQ qs
  have hm : (lq qs : Int) ∈ rowQ qs := by simp [rowQ]
  have hp : 0 < gcdl (rowQ qs) := gcdl_pos hm (by have := lq_pos qs; omega)
  have e : (prim (rowQ qs)).getLast? = (rowQ qs).getLast? := by rw [h]
  unfold prim at e
  rw [List.getLast?_map] at e
  have e2 : (rowQ qs).getLast? = some (lq qs : Int) := by simp [rowQ]
  rw [e2] at e
  have e3 : (lq qs : Int) / (gcdl (rowQ qs) : Int) = (lq qs : Int) := by simpa using e
  have hl := lq_pos qs
  have d := gcdl_dvd _ hm
  obtain ⟨c, hc⟩ := d
  rw [hc, Int.mul_ediv_cancel_left _ (by omega)] at e3
  have h4 : (1 : Int) * c = (gcdl (rowQ qs) : Int) * c := by rw [Int.one_mul]; exact e3
  have hcz : c ≠ 0 := fun z => by rw [z] at hc; omega
  have h5 := Int.eq_of_mul_eq_mul_right hcz h4
  omega
end V1
set_option Elab.async false
set_option linter.all false
set_option maxRecDepth 100000
set_option maxHeartbeats 4000000
/-! The text of the law k02 by places; what the top has left. -/
namespace V1
open PySem PySem.Spec PyProof.Rows L2

/-- built-in names, and the two of math -/
structure Bt (K : PySem.W.Frag) (mg : Str → Option Value) : Prop where
  len : mg "len" = none
  abs : mg "abs" = none
  sum : mg "sum" = none
  min : mg "min" = none
  max : mg "max" = none
  repr : mg "repr" = none
  int : mg "int" = none
  bool : mg "bool" = none
  tuple : mg "tuple" = none
  zip : mg "zip" = none
  enumerate : mg "enumerate" = none
  range : mg "range" = none
  isinstance : mg "isinstance" = none
  str : mg "str" = none
  list : mg "list" = none
  all : mg "all" = none
  set : mg "set" = none
  sorted : mg "sorted" = none
/-- a def of the top as it stands -/
structure Df (K : PySem.W.Frag) (mg : Str → Option Value) (x : Str) (st : Stmt) (ps : List Str) (f : Addr) (fd : FuncData) : Prop where
  gm : mg x = some (.ref f)
  F : Fun K x x st f fd
  b : Binds K fd ps []
/-- .. and what it promises -/
structure Cal (P : Program) (w : World) (K : PySem.W.Frag) (mg : Str → Option Value) (base : Heap) (x : Str) (st : Stmt) (ps : List Str) (k : Nat) (sp : Sp) (f : Addr) (fd : FuncData) : Prop where
  gm : mg x = some (.ref f)
  F : Fun K x x st f fd
  b : Binds K fd ps []
  G : FnG P w K mg base k f fd ps sp
theorem Cal.kp {P : Program} {w : World} {K : PySem.W.Frag} {mg : Str → Option Value} {base : Heap} {x : Str} {st : Stmt} {ps : List Str} {k : Nat} {sp : Sp} {f : Addr} {fd : FuncData} (c : Cal P w K mg base x st ps k sp f fd) : PySem.W.keepIn K (.ref f) = true := c.F.kp
/-- a list or a tuple, walked -/
def iAny (K : PySem.W.Frag) (tl : TE) : TI := fun σ H R => tl σ H fun x H1 => ∃ a, x = .ref a ∧ ((∃ xs, SqL K H1 a xs) ∧ R (Itl K a) H1 ∨ (∃ xs, SqT K H1 a xs) ∧ R (Itt K a) H1)
theorem pi_any {X : Cx} {tg l : Expr} {tl : TE} (hl : PE X l tl) : PI X tg l (iAny X.K tl) := by
  refine ⟨fun pins s σ H R I h => thn (hl.run pins s σ H _ I h) fun v s1 ⟨x, H1, I1, r1, q1⟩ => ?_⟩
  obtain ⟨a, rfl, q1⟩ := q1
  cases r1
  have fr : ∀ b ∈ [s1.heap.objs.size], FpOk X pins H1 b := fun b hb => by
    have e : b = s1.heap.objs.size := by simpa using hb
    subst e
    exact I1.fpOk (Nat.le_refl _) (I1.hok.fresh (Nat.le_refl _))
  rcases q1 with ⟨⟨xs, hq⟩, q⟩ | ⟨⟨xs, hq⟩, q⟩
  · obtain ⟨its, rv, p, hz⟩ := I1.list hq
    exact wpAny_pyIter_list p.isList ⟨s1.heap.objs.size, [s1.heap.objs.size], _, _, H1, rfl, I1.kept (t' := s1.toks) (fun b o e => Heap.get?_push_of_some _ e), turn_list a _, ⟨_, Heap.get?_push_size _ rfl, rfl, rfl⟩, fr, q⟩
  · obtain ⟨its, rv, p, hz⟩ := I1.tuple hq
    exact wpAny_pyIter_tuple (show s1.heap.IsTuple a its.toArray from p) ⟨s1.heap.objs.size, [s1.heap.objs.size], _, _, H1, rfl, I1.kept (t' := s1.toks) (fun b o e => Heap.get?_push_of_some _ e), turn_tuple a _, ⟨_, Heap.get?_push_size _ rfl, rfl, rfl⟩, fr, q⟩
section
variable {L : Rl} {Γ : List (Option PyData)} {K : PySem.W.Frag} {tl te : TE}
theorem wk_any {k : Bool} {ds : List PyData} (h : EvD L tl Γ (sqD k ds)) : WkD L (iAny L.K tl) Γ ds := fun A σ H hi he hg R q => h A σ H hi he hg _ fun x d H1 r1 hx p => by
  subst p
  obtain ⟨p, xs, rfl, e, r⟩ := sq_dq hx
  refine ⟨p, rfl, ?_⟩
  cases k with
  | true => exact .inl ⟨⟨xs, e.now⟩, q _ H1 ds r1 rfl (jok_seq true e r _ rfl)⟩
  | false => exact .inr ⟨⟨xs, e.now⟩, q _ H1 ds r1 rfl (jok_seq false e r _ rfl)⟩
/-- the name of a value's class -/
def kindN : PyData → String
  | .none => "NoneType"
  | .bool _ => "bool"
  | .int _ => "int"
  | .str _ => "str"
  | .list _ => "list"
  | .tuple _ => "tuple"
  | .dict _ => "dict"
theorem dv_ty {A : Addr → Prop} {H : Hp} {x : V} {d : PyData} (h : Dv L.K A H x d) : TyX L.K H x (.type (kindN d)) := by
  cases h with
  | non => exact .base .non
  | bl b => exact .base (.bl b)
  | int i => exact .base (.int i)
  | str z => exact .base (.str z)
  | lst _ e _ => exact .base (.lst e)
  | tup _ e _ => exact .base (.tup e)
  | ktup e _ =>
    obtain ⟨o, its, n, e1, e2, _⟩ := e
    exact .kTuple e1 e2
/-- isinstance of any data -/
theorem eg_isi {d : PyData} {b : Bool} {n : String} (h : EvD L te Γ d) (hd : d ≠ mark) (hk : kitB (kindN d) n = some b) : EvD L (tCB (rIsi L.K) (tCons te (tCons (tC (.ty n)) tNil))) Γ (.bool b) := fun A σ H hi he hg Q q => h A σ H hi he hg _ fun x d1 H1 r1 hx p => by
  subst p
  exact ⟨x, .ty n, .type (kindN d1), .type n, b, rfl, .ty n, dv_ty (hx.ne hd), kit_ty hk, q _ _ H1 r1 (.inr (.bl b)) rfl⟩
theorem eg_isiI {i : Int} {b : Bool} {n : String} (h : EvD L te Γ (.int i)) (hk : kitB "int" n = some b) : EvD L (tCB (rIsi L.K) (tCons te (tCons (tC (.ty n)) tNil))) Γ (.bool b) := eg_isi h (by intro z; cases z) hk
theorem eg_isiT {ds : List PyData} {b : Bool} {n : String} (h : EvD L te Γ (.tuple ds)) (hk : kitB "tuple" n = some b) : EvD L (tCB (rIsi L.K) (tCons te (tCons (tC (.ty n)) tNil))) Γ (.bool b) := eg_isi h (by intro z; cases z) hk
/-- and, or: the right one is looked at where the left one asks it -/
theorem eg_andC {a b : Bool} {ta tb : TE} (ha : EvD L ta Γ (.bool a)) (hb : a = true → EvD L tb Γ (.bool b)) : EvD L (tAndV ta tb) Γ (.bool (a && b)) := fun A σ H hi he hg Q q => ha A σ H hi he hg _ fun x d H1 r1 hx p => by
  subst p
  obtain rfl := hx.bool
  refine ⟨a, rfl, ?_⟩
  cases a with
  | true => exact hb rfl A σ H1 (hi.r r1) (he.r r1) (Rl.gR (b := 0) hg r1) _ fun y d H2 r2 hy p => q y d H2 (L.tr (a := 0) (b := 0) r1 r2) hy p
  | false => exact q _ _ H1 r1 (.inr (.bl false)) rfl
theorem eg_and {a b : Bool} {ta tb : TE} (ha : EvD L ta Γ (.bool a)) (hb : EvD L tb Γ (.bool b)) : EvD L (tAndV ta tb) Γ (.bool (a && b)) := fun A σ H hi he hg Q q => ha A σ H hi he hg _ fun x d H1 r1 hx p => by
  subst p
  obtain rfl := hx.bool
  refine ⟨a, rfl, ?_⟩
  cases a with
  | true => exact hb A σ H1 (hi.r r1) (he.r r1) (Rl.gR (b := 0) hg r1) _ fun y d H2 r2 hy p => q y d H2 (L.tr (a := 0) (b := 0) r1 r2) hy p
  | false => exact q _ _ H1 r1 (.inr (.bl false)) rfl
theorem eg_not {a : Bool} {ta : TE} (ha : EvD L ta Γ (.bool a)) : EvD L (tNotV ta) Γ (.bool (!a)) := fun A σ H hi he hg Q q => ha A σ H hi he hg _ fun x d H1 r1 hx p => by
  subst p
  obtain rfl := hx.bool
  exact ⟨a, rfl, q _ _ H1 r1 (.inr (.bl _)) rfl⟩
end
end V1
namespace V1
open PySem PySem.Spec PyProof.Rows L2
/-- a def whose answer is told for each a -/
def spR (K : PySem.W.Frag) {α : Type} (args : α → List PyData) (ok : α → Prop) (val : α → PyData) : Sp := fun vs H Q E => ∃ a, ok a ∧ spL (pureL K) 0 (fun ds => ds = args a) (fun _ d => d = val a) vs H Q E
section
variable {L : Rl} {Γ : List (Option PyData)} {t tk : TA} {E : XK} {α : Type} {args : α → List PyData} {ok : α → Prop} {val : α → PyData}
theorem eg_callR (a : α) (ha : EaD L t Γ (args a)) (ho : ok a) (hn : nomk (args a) = true := by rfl) : EvD L (tCall (spR L.K args ok val) [] E t) Γ (val a) := fun A σ H hi he hg Q q => ha A σ H hi he hg _ fun vs ds H1 r1 l hv p => by
  subst p
  show spR L.K args ok val (vs ++ []) H1 Q E
  rw [List.append_nil]
  refine ⟨a, ho, A, args a, hi.r r1, l, fun i d e => ?_, rfl, trivial, fun v d H2 r2 hd hpo => q v d H2 (L.tr (a := 0) (b := 0) r1 (L.same (Rl.gR (b := 0) hg r1) r2)) (pure_dq hd) hpo⟩
  obtain ⟨v, e1, e2⟩ := hv i d e
  exact ⟨v, e1, .inr (e2.ne (nomk_ne hn i d e))⟩
/-- with keywords alone, in an order of their own -/
theorem eg_callRK (a : α) {ds : List PyData} {gV : List V → List V → List V} (ha : EaD L tk Γ ds) (hg2 : ∀ zs : List V, zs.length = ds.length → (gV [] zs).length = (args a).length ∧ ∀ (i : Nat) d, (args a)[i]? = some d → ∃ j : Nat, ds[j]? = some d ∧ (gV [] zs)[i]? = zs[j]?) (ho : ok a) (hn : nomk (args a) = true := by rfl) :
    EvD L (tCallK (spR L.K args ok val) gV E tNil tk) Γ (val a) := fun A σ H hi he hg Q q => ha A σ H hi he hg _ fun vs ds' H1 r1 l hv p => by
  subst p
  obtain ⟨g1, g2⟩ := hg2 vs l
  refine ⟨a, ho, A, args a, hi.r r1, g1, fun i d e => ?_, rfl, trivial, fun v d H2 r2 hd hpo => q v d H2 (L.tr (a := 0) (b := 0) r1 (L.same (Rl.gR (b := 0) hg r1) r2)) (pure_dq hd) hpo⟩
  obtain ⟨j, e1, e2⟩ := g2 i d e
  obtain ⟨v, e3, e4⟩ := hv j d e1
  exact ⟨v, by rw [e2]; exact e3, .inr (e4.ne (nomk_ne hn i d e))⟩
end
section
variable {P : Program} {w : World} {K : PySem.W.Frag} {mg : Str → Option Value} {base : Heap}
theorem ok_R {α : Type} {args : α → List PyData} {ok : α → Prop} {val : α → PyData} {x : Str} {st : Stmt} {f : Addr} {fd : FuncData} {N ps : List Str} {k : Nat} (D : Df K mg x st ps f fd) (Sc : FnScope N ps (defScope st)) (hlen : ∀ a, (args a).length = ps.length)
    (hb : ∀ (cdv : Value) (A : Around) (outer : List Env) (s : Shared) (H : Hp) (E : XK), (cxOf CX0 P w K mg base N x (defScope st) f cdv A outer s H E).nox.A.guards = some [] → Room k (cxOf CX0 P w K mg base N x (defScope st) f cdv A outer s H E).nox.A →
      ∃ t, PSs (cxOf CX0 P w K mg base N x (defScope st) f cdv A outer s H E).nox (defBody st) t ∧ ∀ a, ok a → SG (pureL K) 0 t (Ga N.length (args a)) (fun _ => .none = val a) (fun d => d = val a)) : Cal P w K mg base x st ps (k + 1) (spR K args ok val) f fd := by
  refine ⟨D.gm, D.F, D.b, okG D.F Sc (fun vs H Q E h => ?_) (fun cdv A outer s H vs Q E hg hr h => ?_)⟩
  · obtain ⟨a, _, Av, ds, _, hl, _, hp, _⟩ := h
    rw [hl, hp, hlen a]
  · obtain ⟨a, ho, Av, ds, hi, hl, hv, hp, hgg, q⟩ := h
    subst hp
    obtain ⟨t, h1, h2⟩ := hb cdv A outer s H E hg hr
    refine ⟨t, h1, h2 a ho Av _ H hi (start_ok hl hv) hgg _ (fun σ' H' Γ' r e p => ?_) fun v d H' r hd p => q v d H' r hd p⟩
    exact q .non .none H' r (.inr .non) p
end
def Bn (n : Nat) (ns : List Int) : Prop := ∀ z ∈ ns, z.natAbs < 2 ^ n
end V1
set_option Elab.async false
set_option linter.all false
set_option maxRecDepth 100000
set_option maxHeartbeats 4000000
/-! Rows as data; slices of them; helpers for comprehensions. -/
namespace V1
open PySem PySem.Spec PyProof.Rows L2
/-- the integer of q over the bottom l -/
def tq (l : Nat) (q : Rat) : Int := q.num * ((l / q.den : Nat) : Int)
theorem tq_rat {l : Nat} {q : Rat} (hl : 0 < l) (h : q.den ∣ l) : rat (tq l q) l = q := by
  obtain ⟨c, hc⟩ := h
  have hdp := q.den_pos
  have e1 : l / q.den = c := by rw [hc, Nat.mul_div_cancel_left _ hdp]
  unfold tq
  rw [e1]
  calc rat (q.num * c) l = rat q.num q.den := rat_eq hl hdp (by rw [hc, Int.natCast_mul]; grind)
    _ = q := Rat.mkRat_self q
theorem rat_cast {a : Int} {b : Nat} (hb : 0 < b) : ((a : Int) : Rat) = rat a b * (b : Rat) := by
  rw [rat_div]
  have : (b : Rat) ≠ 0 := by
    intro z
    have : b = 0 := by exact_mod_cast z
    omega
  grind
theorem tq_cast {l : Nat} {q : Rat} (hl : 0 < l) (h : q.den ∣ l) : ((tq l q : Int) : Rat) = q * (l : Rat) := by
  rw [rat_cast (a := tq l q) hl, tq_rat hl h]
theorem natne {b : Nat} (hb : 0 < b) : (b : Rat) ≠ 0 := by
  intro z
  have : b = 0 := by exact_mod_cast z
  omega
/-- an integer over a bottom is q if it is q times the bottom -/
theorem rat_of {a : Int} {b : Nat} {q : Rat} (hb : 0 < b) (h : ((a : Int) : Rat) = q * (b : Rat)) : rat a b = q := by
  rw [rat_div, h]
  have := natne hb
  grind
theorem topQ_eq (qs : List Rat) : topQ qs = qs.map (tq (lq qs)) := rfl
def iv (l : Nat) (q : Rat) : PyData := .int (tq l q)
theorem rowD_one (x : List Rat) : rowD x = .tuple (x.map (iv (lq x)) ++ [.int (lq x : Int)]) := by
  unfold rowD tI rowQ
  rw [topQ_eq, List.map_append, List.map_map]
  rfl
theorem rowD_two (r : List Rat) (c : Rat) : rowD (r ++ [c]) = .tuple (r.map (iv (lq (r ++ [c]))) ++ [iv (lq (r ++ [c])) c, .int (lq (r ++ [c]) : Int)]) := by
  rw [rowD_one, List.map_append, List.append_assoc]
  rfl
/-- bounds -/
def rb (n : Nat) (r : List Rat) : Prop := r.length ≤ 50 ∧ Bn n (rowQ r)
theorem rb_lq {n : Nat} {r : List Rat} (h : rb n r) : lq r < 2 ^ n := by
  have := h.2 (lq r : Int) (by simp [rowQ])
  simpa using this
theorem rb_tq {n : Nat} {r : List Rat} (h : rb n r) {q : Rat} (hq : q ∈ r) : (tq (lq r) q).natAbs < 2 ^ n := h.2 _ (by
  unfold rowQ
  rw [topQ_eq]
  exact List.mem_append_left _ (List.mem_map.mpr ⟨q, hq, rfl⟩))
theorem bn_prim {n : Nat} {ns : List Int} (h : Bn n ns) : Bn n (prim ns) := fun z hz => by
  unfold prim at hz
  obtain ⟨m, hm, rfl⟩ := List.mem_map.mp hz
  have h1 := h m hm
  have h2 := Int.natAbs_ediv_le_natAbs m (gcdl ns : Int)
  omega
theorem rb_over {n : Nat} {ns : List Int} {w : Nat} (hw : 0 < w) (h : Bn n (ns ++ [(w : Int)])) (hl : ns.length ≤ 50) : rb n (over ns w) := by
  refine ⟨by unfold over; rw [List.length_map]; exact hl, ?_⟩
  rw [← prim_over ns hw]
  exact bn_prim h
theorem Bn.mono {a b : Nat} {ns : List Int} (h : Bn a ns) (hab : a ≤ b) : Bn b ns := fun z hz => Nat.lt_of_lt_of_le (h z hz) (Nat.pow_le_pow_right (by decide) hab)
theorem rb.mono {a b : Nat} {r : List Rat} (h : rb a r) (hab : a ≤ b) : rb b r := ⟨h.1, h.2.mono hab⟩

theorem ix_tupK {X : Cx} {K : PySem.W.Frag} (h : X.K = K) : IxR X (rIxT K) := h ▸ ix_tup
theorem ix_listK {X : Cx} {K : PySem.W.Frag} (h : X.K = K) : IxR X (rIxL K) := h ▸ ix_list
section
variable {L : Rl} {Γ : List (Option PyData)} {te : TE} {t : TA}
theorem cut1 (xs : List PyData) (a : PyData) : cutD (xs ++ [a]) none (some (-1)) = xs := by
  rw [show (-1 : Int) = -((1 : Nat) : Int) from rfl, cut_neg (by decide) (by simp)]
  simp
theorem cut2 (xs : List PyData) (a b : PyData) : cutD (xs ++ [a, b]) none (some (-2)) = xs := by
  rw [show (-2 : Int) = -((2 : Nat) : Int) from rfl, cut_neg (by decide) (by simp)]
  simp
theorem eg_init1 {xs : List PyData} {a : PyData} (h : EvD L te Γ (.tuple (xs ++ [a]))) : EvD L (tSl (rSlT L.K) te tNoPart (tPart (tUn (rU fun i => .int (-i)) (tC (.int 1))))) Γ (.tuple xs) := by
  have h1 := eg_slT h eo_none (eo_some (eg_neg (eg_int (i := 1)))) (by
    rintro ⟨_, z⟩
    have z2 : (if (-1 : Int) < 0 then ((-1 : Int) + ((xs ++ [a]).length : Int)).toNat else min (-1 : Int).toNat (xs ++ [a]).length) = (xs ++ [a]).length := z
    rw [if_pos (by omega)] at z2
    simp at z2
    omega)
  rw [cut1] at h1
  exact h1
theorem eg_init2 {xs : List PyData} {a b : PyData} (h : EvD L te Γ (.tuple (xs ++ [a, b]))) : EvD L (tSl (rSlT L.K) te tNoPart (tPart (tUn (rU fun i => .int (-i)) (tC (.int 2))))) Γ (.tuple xs) := by
  have h1 := eg_slT h eo_none (eo_some (eg_neg (eg_int (i := 2)))) (by
    rintro ⟨_, z⟩
    have z2 : (if (-2 : Int) < 0 then ((-2 : Int) + ((xs ++ [a, b]).length : Int)).toNat else min (-2 : Int).toNat (xs ++ [a, b]).length) = (xs ++ [a, b]).length := z
    rw [if_pos (by omega)] at z2
    simp at z2
    omega)
  rw [cut2] at h1
  exact h1
theorem at_last2 (xs : List PyData) (a b : PyData) : atI (xs ++ [a, b]) (-1) = some b := by
  rw [show xs ++ [a, b] = (xs ++ [a]) ++ [b] by simp]
  exact atI_last _ _
theorem at_last3 (xs : List PyData) (a b : PyData) : atI (xs ++ [a, b]) (-2) = some a := by
  have e : ixN (xs ++ [a, b]).length (-2) = some xs.length := by
    unfold ixN
    rw [if_neg (by omega), if_pos (by simp; omega)]
    simp
    omega
  unfold atI
  rw [e]
  simp
/-- a comprehension over things that stand for data -/
theorem eg_lcm {α : Type} {wi : TI} {g : TG} {js vs : List Nat} {xs : List α} {enc res : α → PyData} (hw : WkD L wi Γ (xs.map enc)) (hj : ∀ j ∈ js, j ∈ vs) (hlen : xs.length ≤ 1000)
    (hb : ∀ x ∈ xs, res x ≠ mark ∧ ∃ Γ', TgG L g js (enc x) (wipeD Γ vs) Γ' ∧ EvD L te Γ' (res x)) : EvD L (tLc wi g tYes te vs) Γ (.list (xs.map res)) :=
  eg_lc hw hj (by rw [List.length_map]; exact hlen) (by rw [List.length_map, List.length_map]) fun i d r hd hr => by
    rw [List.getElem?_map] at hd hr
    cases hx : xs[i]? with
    | none => rw [hx] at hd; cases hd
    | some x =>
      rw [hx] at hd hr
      have e1 : enc x = d := Option.some.inj hd
      have e2 : res x = r := Option.some.inj hr
      subst e1 e2
      exact hb x (List.mem_of_getElem? hx)
theorem zipD_map {α β : Type} (e1 : α → PyData) (e2 : β → PyData) : ∀ (xs : List α) (ys : List β), zipD (xs.map e1) (ys.map e2) = (xs.zip ys).map fun p => PyData.tuple [e1 p.1, e2 p.2]
  | [], ys => by cases ys <;> rfl
  | x :: xs, [] => rfl
  | x :: xs, y :: ys => by
    have h := zipD_map e1 e2 xs ys
    unfold zipD at h ⊢
    rw [List.map_cons, List.map_cons, List.zipWith_cons_cons, h, List.zip_cons_cons, List.map_cons]
theorem eg_notN (h : EvD L te Γ .none) : EvD L (tOp (fun x y H Q => y = V.non ∧ Q (.bl (!decide (x = .non))) H) te (tC .non)) Γ (.bool false) := fun A σ H hi he hg Q q => h A σ H hi he hg _ fun x d H1 r1 hx p => by
  subst p
  have hx1 := hx.ne (by intro z; cases z)
  cases hx1
  exact ⟨rfl, q _ _ H1 r1 (.inr (.bl false)) rfl⟩
theorem eg_mulN {C : Int → Int → Prop} {i j : Int} {ta tb : TE} (ha : EvD L ta Γ (.int i)) (hb : EvD L tb Γ (.int j)) (hc : C i j) : EvD L (tOp (rI C fun i j => .int (i * j)) ta tb) Γ (.int (i * j)) := eg_op ha hb (os_I hc)
end
/-- products of bounded numbers -/
theorem mw {i j : Int} {a b : Nat} (ha : i.natAbs < 2 ^ a) (hb : j.natAbs < 2 ^ b) (h0 : 0 < a := by decide) (h1 : 0 < b := by decide) (h : a + b ≤ 1000000 := by decide) : CMulW i j := wide_mul ha hb h0 h1 h
theorem nb {b n : Nat} (h : b < 2 ^ n) : ((b : Int)).natAbs < 2 ^ n := by rw [Int.natAbs_natCast]; exact h
theorem nat_mul_lt {a b n m : Nat} (ha : a < 2 ^ n) (hb : b < 2 ^ m) : a * b < 2 ^ (n + m) := by
  rw [Nat.pow_add]
  exact Nat.mul_lt_mul'' ha hb
/-! ### the inner product -/
def dot (r x : List Rat) : Rat := (List.zipWith (fun a b => a * b) r x).sum
def dotI (l w : Nat) (r x : List Rat) : Int := ((r.zip x).map fun p => tq l p.1 * tq w p.2).sum
theorem dotI_cast {l w : Nat} (hl : 0 < l) (hw : 0 < w) : ∀ (r x : List Rat), (∀ q ∈ r, q.den ∣ l) → (∀ q ∈ x, q.den ∣ w) → ((dotI l w r x : Int) : Rat) = dot r x * ((l : Rat) * (w : Rat))
  | [], x, _, _ => by simp [dotI, dot]
  | a :: r, [], _, _ => by simp [dotI, dot]
  | a :: r, b :: x, h1, h2 => by
    have ih := dotI_cast hl hw r x (fun q hq => h1 q (List.mem_cons_of_mem _ hq)) (fun q hq => h2 q (List.mem_cons_of_mem _ hq))
    have e1 : dotI l w (a :: r) (b :: x) = tq l a * tq w b + dotI l w r x := by simp [dotI]
    have e2 : dot (a :: r) (b :: x) = a * b + dot r x := by simp [dot]
    rw [e1, e2, Rat.intCast_add, Rat.intCast_mul, ih, tq_cast hl (h1 a List.mem_cons_self), tq_cast hw (h2 b List.mem_cons_self)]
    grind
end V1
set_option Elab.async false
set_option linter.all false
set_option maxRecDepth 100000
set_option maxHeartbeats 4000000
/-! A list made here is written. -/
namespace V1
open PySem PySem.Spec PyProof.Rows L2
def FrS (H0 : Hp) (j : Nat) (σ : L2.St) : Prop := ∃ p, σ[j]? = some (some (V.ref p)) ∧ H0 p = none
def SF (L : Rl) (j : Nat) (ts : TS) (Γ : List (Option PyData)) (N : List (Option PyData) → Prop) : Prop := ∀ (H0 : Hp) A σ H, Inn A H → EnvOk L A σ H Γ → L.G 0 H → L.R 0 H0 H → FrS H0 j σ → ∀ D : Ends,
  (∀ σ' H' Γ', L.R 0 H H' → EnvOk L A σ' H' Γ' → FrS H0 j σ' → N Γ' → D.nx σ' H') → ts D σ H
def SW (L : Rl) (j : Nat) (ts : TS) (Γ : List (Option PyData)) (N : List (Option PyData) → Prop) : Prop := ∀ (H0 : Hp) A σ H, Inn A H → EnvOk L A σ H Γ → L.G 0 H → L.R 0 H0 H → FrS H0 j σ → ∀ D : Ends,
  (∀ σ' H' Γ', L.R 0 H0 H' → EnvOk L A σ' H' Γ' → N Γ' → D.nx σ' H') → ts D σ H
section
variable {L : Rl} {Γ : List (Option PyData)} {te : TE} {ts tf ta u : TS} {d : PyData} {i j : Nat} {N N1 N2 : List (Option PyData) → Prop} {Rt : PyData → Prop}
theorem sf_asg (hij : i ≠ j) (h : EvD L te Γ d) (k : N (Γ.set i (some d))) : SF L j (tAsg te (gName i)) Γ N := fun H0 A σ H hi he hg r0 ⟨p, hp, hn⟩ D q => h A σ H hi he hg _ fun v d' H1 r hv e => by
  subst e
  exact q _ H1 _ r ((he.r r).set hv i) ⟨p, by rw [List.getElem?_set_ne hij]; exact hp, hn⟩ k
theorem sf_asgF (h : EvF L 0 te Γ (fun x => x = d)) (k : N (Γ.set j (some d))) : SF L j (tAsg te (gName j)) Γ N := fun H0 A σ H hi he hg r0 ⟨p, hp, hn⟩ D q => h A σ H hi he hg _ fun p1 d' H1 r hf hv e => by
  subst e
  exact q _ H1 _ r ((he.r r).set hv j) ⟨p1, List.getElem?_set_self (List.getElem?_eq_some_iff.mp hp).1, L.free r0 hf⟩ k
theorem sf_seq (h : SF L j ts Γ N1) (k : ∀ G, N1 G → SF L j u G N) : SF L j (tSeq ts u) Γ N := fun H0 A σ H hi he hg r0 hf D q => h H0 A σ H hi he hg r0 hf { D with nx := u D } fun σ1 H1 G r e f p =>
  k G p H0 A σ1 H1 (hi.r r) e (Rl.gR (b := 0) hg r) (L.tr (a := 0) (b := 0) r0 r) f D fun σ2 H2 G2 r2 e2 f2 p2 => q σ2 H2 G2 (L.tr (a := 0) (b := 0) r r2) e2 f2 p2
theorem wipe_get {σ : L2.St} {j : Nat} : ∀ {vs : List Nat}, j ∉ vs → (wipe σ vs)[j]? = σ[j]?
  | [], _ => rfl
  | v :: vs, h => by
    show ((wipe σ vs).set v none)[j]? = _
    rw [List.getElem?_set_ne (fun z => h (by rw [z]; exact List.mem_cons_self))]
    exact wipe_get fun z => h (List.mem_cons_of_mem _ z)
theorem sf_for {wi : TI} {g : TG} {js : List Nat} {items : List PyData} (I : Nat → List (Option PyData) → Prop) (hjs : j ∉ js) (hw : WkD L wi Γ items) (h0 : I 0 Γ)
    (hb : ∀ (i : Nat) d Γi, items[i]? = some d → I i Γi → ∃ Γ', TgG L g js d Γi Γ' ∧ SF L j ts Γ' (I (i + 1))) (hN : ∀ Γe, I items.length Γe → N Γe) : SF L j (tFor wi g ts) Γ N := fun H0 A σ H hi he hg r0 hf D q1 =>
  hw A σ H hi he hg _ fun J H1 its r1 hp jk => by
  subst hp
  refine ⟨fun i m σ2 H2 => m = its.length - i ∧ i ≤ its.length ∧ L.R 0 H H2 ∧ Kp A H1 H2 ∧ FrS H0 j σ2 ∧ ∃ Γi, EnvOk L A σ2 H2 Γi ∧ I i Γi, ⟨its.length, ?_⟩, ?_⟩
  · exact ⟨by omega, Nat.zero_le _, r1, fun b o _ e k => e, hf, Γ, he.r r1, h0⟩
  · rintro i m σ2 H2 ⟨rfl, hle, r2, k2, f2, Γi, e2, p2⟩
    have g2 : L.G 0 H2 := Rl.gR (b := 0) hg r2
    by_cases hlt : i < its.length
    · refine .inr ⟨jk.go i H2 k2 hlt, fun σ3 H3 => i + 1 ≤ its.length ∧ L.R 0 H H3 ∧ Kp A H1 H3 ∧ FrS H0 j σ3 ∧ ∃ Γi, EnvOk L A σ3 H3 Γi ∧ I (i + 1) Γi, fun σ3 H3 h3 => ⟨its.length - (i + 1), by omega, rfl, h3⟩, fun x H3 y => ?_⟩
      have naD : ∀ b, A b → H2 b ≠ none := fun b z => hi.r r2 b z
      obtain ⟨d, hd, sm, hdv⟩ := jk.yld i H2 x H3 k2 naD y hlt
      obtain ⟨Γ', htg, hs⟩ := hb i d Γi hd p2
      have r3 : L.R 0 H2 H3 := L.same g2 sm
      have r23 : L.R 0 H H3 := L.tr (a := 0) (b := 0) r2 r3
      have dx : Dv L.K A H3 x d := hdv A naD fun b o na e _ => na
      refine htg A x σ2 H3 dx (e2.r r3) _ fun σ4 e4 w4 => ?_
      obtain ⟨p, hp, hn⟩ := f2
      have f4 : FrS H0 j σ4 := by
        refine ⟨p, ?_, hn⟩
        have hw4 := w4 js fun k hk => hk
        rw [← wipe_get hjs, hw4, wipe_get hjs]
        exact hp
      refine hs H0 A σ4 H3 (fun b z y => naD b z (L.free r3 y)) e4 (Rl.gR (b := 0) g2 r3) (L.tr (a := 0) (b := 0) r0 r23) f4 { D with nx := _, ct := _, bk := D.nx } (fun σ5 H5 Γ5 r5 e6 f5 p5 => ?_)
      exact ⟨hlt, L.tr (a := 0) (b := 0) r23 r5, fun b o na e k => L.keep r5 (sm _ _ (k2 b o na e k)) k, f5, Γ5, e6, p5⟩
    · have e : i = its.length := by omega
      subst e
      exact .inl ⟨jk.stop H2 k2, q1 σ2 H2 Γi r2 e2 f2 (hN Γi p2)⟩
/-- made, filled, written, and on -/
theorem sg_grown (hj : j < Γ.length) (h1 : EvF L 0 te Γ (fun x => x = d)) (h2 : SF L j tf (Γ.set j (some d)) N1) (h3 : ∀ G, N1 G → SW L j ta G N2) (h4 : ∀ G, N2 G → SG L 0 u G N Rt) : SG L 0 (tSeq (tAsg te (gName j)) (tSeq tf (tSeq ta u))) Γ N Rt := fun A σ H hi he hg D q1 q2 =>
  h1 A σ H hi he hg _ fun p d' H1 r1 hf hv e => by
  subst e
  have fr : FrS H j (σ.set j (some (V.ref p))) := ⟨p, List.getElem?_set_self (by rw [he.1]; exact hj), hf⟩
  refine h2 H A _ H1 (hi.r r1) ((he.r r1).set hv j) (Rl.gR (b := 0) hg r1) r1 fr { D with nx := _ } fun σ2 H2 G2 r2 e2 f2 p2 => ?_
  have r12 : L.R 0 H H2 := L.tr (a := 0) (b := 0) r1 r2
  refine h3 G2 p2 H A σ2 H2 (hi.r r12) e2 (Rl.gR (b := 0) hg r12) r12 f2 { D with nx := _ } fun σ3 H3 G3 r3 e3 p3 => ?_
  exact h4 G3 p3 A σ3 H3 (hi.r r3) e3 (Rl.gR (b := 0) hg r3) D (fun σ4 H4 G4 r4 e4 p4 => q1 σ4 H4 G4 (L.tr (a := 0) (b := 0) r3 r4) e4 p4) fun v d H4 r4 e4 p4 => q2 v d H4 (L.tr (a := 0) (b := 0) r3 r4) e4 p4
theorem DvAll.ofInts {K : PySem.W.Frag} {A : Addr → Prop} {H : Hp} (ns : List Int) : DvAll K A H (ns.map V.int) (ns.map PyData.int) := by
  induction ns with
  | nil => exact .nil
  | cons n r ih => exact .cons (.int n) ih
theorem sw_aug {ti : TE} {ns : List Int} {m e : Int} {Γ2 : List (Option PyData)} (hΓ : Γ[j]? = some (some (lI (ns ++ [m])))) (hi2 : EvD L ti Γ (.int (-1))) (he2 : EvD L te Γ (.int e)) (hl : Γ2.length = Γ.length)
    (h2 : ∀ (i : Nat) d, Γ2[i]? = some (some d) → (i = j ∧ d = lI (ns ++ [m + e])) ∨ (Γ[i]? = some (some d) ∧ ((∃ zs, d = tI zs) ∨ ∃ z, d = .int z))) :
    SW L j (tAugS (tVar j) ti te (rIxL L.K) (ipI fun i j => i + j) rSetL) Γ (fun G => G = Γ2) := fun H0 A σ H hi he hg r0 ⟨p, hp, hn⟩ D q => by
  obtain ⟨v, hv, dv⟩ := he.2 j _ hΓ
  rw [hp] at hv
  have ev : V.ref p = v := Option.some.inj (Option.some.inj hv)
  subst ev
  refine ⟨V.ref p, hp, ?_⟩
  refine hi2 A σ H hi he hg _ fun vi d1 H1 r1 hvi p1 => ?_
  subst p1
  obtain rfl := hvi.int
  obtain ⟨p', xs, ep, na, eH, rr⟩ := (dv.r r1).list
  have ep' : p = p' := by injection ep
  subst ep'
  have ex := rr.ints
  subst ex
  have hix : ixN ((ns ++ [m]).map V.int).length (-1) = some ns.length := by
    unfold ixN
    rw [List.length_map, List.length_append]
    rw [List.length_singleton, if_neg (by decide), if_pos (by omega)]
    congr 1
    omega
  refine ⟨p, (ns ++ [m]).map V.int, -1, .int m, rfl, rfl, SqL.of eH, ?_, ?_⟩
  · unfold atI
    rw [hix]
    simp
  refine he2 A σ H1 (hi.r r1) (he.r r1) (Rl.gR (b := 0) hg r1) _ fun vy d2 H2 r2 hvy p2 => ?_
  subst p2
  obtain rfl := hvy.int
  have eH2 : H2 p = some (.lst ((ns ++ [m]).map V.int)) := L.keep r2 eH fxLst
  have r02 : L.R 0 H0 H2 := L.tr (a := 0) (b := 0) (L.tr (a := 0) (b := 0) r0 r1) r2
  have he3 : EnvOk L A σ H2 Γ := (he.r r1).r r2
  refine ⟨m, e, rfl, rfl, p, _, -1, ns.length, rfl, rfl, eH2, hix, ?_⟩
  refine q σ _ Γ2 (L.fresh r02 hn (.inr ⟨_, eH2⟩)) ⟨by rw [hl]; exact he.1, fun i d hd => ?_⟩ rfl
  have es : ((ns ++ [m]).map V.int).set ns.length (V.int (m + e)) = (ns ++ [m + e]).map V.int := by simp
  rw [es]
  rcases h2 i d hd with ⟨rfl, rfl⟩ | ⟨h3, h4⟩
  · exact ⟨V.ref p, hp, .inr (.lst na upd_same (DvAll.ofInts _))⟩
  · obtain ⟨v, hv, dv⟩ := he3.2 i d h3
    refine ⟨v, hv, ?_⟩
    rcases h4 with ⟨zs, rfl⟩ | ⟨z, rfl⟩
    · obtain ⟨a, xs, rfl, ea, ra⟩ := dv.tuple
      rw [ra.ints] at ea
      refine .inr (TpAt.dv ?_ (DvAll.ofInts _))
      rcases ea with ⟨na2, ea⟩ | ea
      · have ne : a ≠ p := fun z => by
          rw [z, eH2] at ea
          cases ea
        exact .inl ⟨na2, by rw [upd_ne ne]; exact ea⟩
      · exact .inr ea
    · obtain rfl := dv.int
      exact .inr (.int z)
theorem os_repF {ds : List PyData} {i : Int} {ta tb : TE} (ha : EvD L ta Γ (.list ds)) (hb : EvD L tb Γ (.int i)) (h0 : 0 ≤ i) (h1 : i ≤ 1000) (hl : ds.length ≤ 100) : EvF L 0 (tOp rRep ta tb) Γ (fun x => x = .list (List.replicate i.toNat ds).flatten) := fun A σ H hi he hg Q q =>
  ha A σ H hi he hg _ fun x d1 H1 r1 hx p1 => hb A σ H1 (hi.r r1) (he.r r1) (Rl.gR (b := 0) hg r1) _ fun y d2 H2 r2 hy p2 => by
    subst p1 p2
    obtain ⟨p, xs, rfl, na, e, r⟩ := (hx.r r2).list
    obtain rfl := hy.int
    have r12 : L.R 0 H H2 := L.tr (a := 0) (b := 0) r1 r2
    refine ⟨p, i, xs, rfl, rfl, e, by omega, by omega, Nat.le_trans (Nat.mul_le_mul (by rw [r.length]; exact hl) (show i.toNat ≤ 1000 by omega)) (by decide), fun l hl2 => ?_⟩
    have rr := Rl.newR (o := .lst (List.replicate i.toNat xs).flatten) (Rl.gR (b := 0) hg r12) hl2
    exact q l _ _ (L.tr (a := 0) (b := 0) r12 rr) (L.free r12 hl2) (.inr (.lst ((hi.r r12).no hl2) upd_same ((r.rep _).r rr))) rfl
theorem eg_lcmF {α : Type} {wi : TI} {g : TG} {js vs : List Nat} {xs : List α} {enc res : α → PyData} (hw : WkD L wi Γ (xs.map enc)) (hj : ∀ j ∈ js, j ∈ vs) (hlen : xs.length ≤ 1000)
    (hb : ∀ x ∈ xs, res x ≠ mark ∧ ∃ Γ', TgG L g js (enc x) (wipeD Γ vs) Γ' ∧ EvD L te Γ' (res x)) : EvF L 0 (tLc wi g tYes te vs) Γ (fun x => x = .list (xs.map res)) :=
  eg_lcF hw hj (by rw [List.length_map]; exact hlen) (by rw [List.length_map, List.length_map]) fun i d r hd hr => by
    rw [List.getElem?_map] at hd hr
    cases hx : xs[i]? with
    | none => rw [hx] at hd; cases hd
    | some x =>
      rw [hx] at hd hr
      have e1 : enc x = d := Option.some.inj hd
      have e2 : res x = r := Option.some.inj hr
      subst e1 e2
      exact hb x (List.mem_of_getElem? hx)
end
end V1
set_option Elab.async false
set_option linter.all false
set_option maxRecDepth 100000
set_option maxHeartbeats 4000000
/-! The dict of the draws. -/
namespace V1
open PySem PySem.Spec PyProof.Rows L2
def dct (l sd : Int) (c : Addr) (s : Int) : List (Key × V) := [(.inr "left", .int l), (.inr "seed", .int sd), (.inr "cells", .ref c), (.inr "spot", .int s)]
def mG (T : List (Addr × Str)) (p c : Addr) (ns : List Int) (n : Nat) (H : Hp) : Prop := (∃ l sd s : Int, H p = some (.dK (dct l sd c s)) ∧ H c = some (.lst (ns.map V.int)) ∧ 0 ≤ s ∧ s + (n : Int) ≤ 2 ^ 50) ∧ LamX.Tabs T H
/-- all but the dict at p and the tables of code objects stays; the tables go on -/
structure mR (T : List (Addr × Str)) (p c : Addr) (n : Nat) (H H' : Hp) : Prop where
  st : ∀ b o, H b = some o → (b ≠ p ∨ ∀ kvs, o ≠ .dK kvs) → (∀ ps, o ≠ .tbl ps) → H' b = some o
  sp : ∀ l sd s : Int, H p = some (.dK (dct l sd c s)) → ∃ l' s' : Int, H' p = some (.dK (dct l' sd c s')) ∧ s ≤ s' ∧ s' ≤ s + (n : Int)
  nn : ∀ b, H b ≠ none → H' b ≠ none
  tb : LamX.Tabs T H'
theorem tabs_fresh {T : List (Addr × Str)} {H' : Hp} {q : Addr} {o : HO} (t : LamX.Tabs T H') (hq : H' q = none ∨ ∃ xs, H' q = some (.lst xs)) : LamX.Tabs T (upd H' q o) := fun r hr => by
  obtain ⟨ps, h1, h2, h3⟩ := t r hr
  have ne : ∀ b u, H' b = some u → (∀ xs, u ≠ .lst xs) → b ≠ q := fun b u e k z => by
    rw [z] at e
    rcases hq with y | ⟨xs, y⟩
    · rw [y] at e
      cases e
    · rw [y] at e
      exact k xs (Option.some.inj e).symm
  refine ⟨ps, by rw [upd_ne (ne _ _ h1 (fun xs z => by cases z))]; exact h1, h2, fun pos cv hc => ?_⟩
  obtain ⟨c, e1, e2⟩ := h3 pos cv hc
  refine ⟨c, e1, ?_⟩
  rw [upd_ne (ne _ _ e2 (fun xs z => by unfold LamX.CodeO at z; cases z))]
  exact e2
theorem same_nn {H H' : Hp} (s : Same H H') (b : Addr) (z : H b ≠ none) : H' b ≠ none := fun y => by
  cases e : H b with
  | none => exact z e
  | some o => rw [s _ _ e] at y; cases y
def mL (K : PySem.W.Frag) (T : List (Addr × Str)) (p c : Addr) (ns : List Int) : Rl where
  K := K
  G := mG T p c ns
  R := mR T p c
  M := fun v => v = .ref p
  gle := fun h ⟨⟨l, sd, s, h1, h2, h3, h4⟩, t⟩ => ⟨⟨l, sd, s, h1, h2, h3, by omega⟩, t⟩
  rle := fun h r => ⟨r.st, fun l sd s e => let ⟨l', s', e1, e2, e3⟩ := r.sp l sd s e; ⟨l', s', e1, e2, by omega⟩, r.nn, r.tb⟩
  gr := fun ⟨⟨l, sd, s, g1, g2, g3, g4⟩, t⟩ r => by
    obtain ⟨l', s', e1, e2, e3⟩ := r.sp l sd s g1
    exact ⟨⟨l', sd, s', e1, r.st _ _ g2 (.inr fun kvs z => by cases z) (fun ps z => by cases z), by omega, by omega⟩, r.tb⟩
  tr := fun {a b H H1 H2} r k => ⟨fun q o e z y => k.st q o (r.st q o e z y) z y, fun l sd s e => by
    obtain ⟨l', s', e1, e2, e3⟩ := r.sp l sd s e
    obtain ⟨l2, s2, f1, f2, f3⟩ := k.sp l' sd s' e1
    exact ⟨l2, s2, f1, by omega, by omega⟩, fun b z => k.nn b (r.nn b z), k.tb⟩
  same := fun g s => ⟨fun b o e _ _ => s b o e, fun l sd sp e => ⟨l, sp, s _ _ e, by omega, by omega⟩, same_nn s, g.2.ext s⟩
  fresh := fun {a H H' q o} r hq h2 => ⟨fun b u e z y => by rw [upd_ne (ne_of_none e hq)]; exact r.st b u e z y, fun l sd s e => by
    have ne := ne_of_none e hq
    rw [upd_ne ne]
    exact r.sp l sd s e, fun b z => by
    have ne : b ≠ q := fun y => z (by rw [y]; exact hq)
    rw [upd_ne ne]
    exact r.nn b z, tabs_fresh r.tb h2⟩
  keep := fun r e k => r.st _ _ e (.inr k.1) k.2
  free := fun {a H H' q} r e => Classical.byContradiction fun z => r.nn q z e
  mref := fun h => ⟨p, h⟩
/-- what lambdas may be made in -/
structure LamL (L : Rl) (T : List (Addr × Str)) : Prop where
  tb : ∀ {n H}, L.G n H → LamX.Tabs T H
  of : ∀ {n H H'}, L.G n H → LamX.ExtN H H' → LamX.Tabs T H' → (∀ b, H b ≠ none → H' b ≠ none) → L.R 0 H H'
theorem lamL_m {K : PySem.W.Frag} {T : List (Addr × Str)} {p c : Addr} {ns : List Int} : LamL (mL K T p c ns) T := ⟨fun g => (show mG T p c ns _ _ from g).2, fun _ e t' nn =>
  (show mR T p c 0 _ _ from ⟨fun b o h _ k => e b o h k, fun l sd s h => ⟨l, s, e _ _ h (fun ps z => by cases z), by omega, by omega⟩, nn, t'⟩)⟩
/-- nothing but the tables changes -/
def tabL (K : PySem.W.Frag) (T : List (Addr × Str)) : Rl where
  K := K
  G := fun _ H => LamX.Tabs T H
  R := fun _ H H' => LamX.ExtN H H' ∧ (∀ b, H b ≠ none → H' b ≠ none) ∧ LamX.Tabs T H'
  M := fun _ => False
  gle := fun _ h => h
  rle := fun _ r => r
  gr := fun _ r => r.2.2
  tr := fun a b => ⟨a.1.trans b.1, fun q z => b.2.1 q (a.2.1 q z), b.2.2⟩
  same := fun g s => ⟨LamX.ExtN.of s, same_nn s, g.ext s⟩
  fresh := fun r hq h2 => ⟨fun b u e y => by rw [upd_ne (ne_of_none e hq)]; exact r.1 b u e y, fun b z => by
    rw [upd_ne (fun y => z (by rw [y]; exact hq))]
    exact r.2.1 b z, tabs_fresh r.2.2 h2⟩
  keep := fun r e k => r.1 _ _ e k.2
  free := fun {a H H' q} r e => Classical.byContradiction fun z => r.2.1 q z e
  mref := fun h => h.elim
theorem lamL_t {K : PySem.W.Frag} {T : List (Addr × Str)} : LamL (tabL K T) T := ⟨fun g => g, fun _ e t nn => ⟨e, nn, t⟩⟩
/-- the way of some dict of draws -/
def SM (L : Rl) : Prop := ∃ K T p c ns, ns ≠ [] ∧ L = mL K T p c ns
/-- a def that draws -/
def spM (K : PySem.W.Frag) {α : Type} (n : Nat) (args : α → List PyData) (ok : α → Prop) (post : α → PyData → Prop) : Sp := fun vs H Q E => ∃ L a, L.K = K ∧ SM L ∧ ok a ∧ spL L n (fun ds => ds = args a) (fun _ d => post a d) vs H Q E
section
variable {P : Program} {w : World} {K : PySem.W.Frag} {mg : Str → Option Value} {base : Heap}
theorem ok_A {α : Type} {args : α → List PyData} {ok : α → Prop} {post : α → PyData → Prop} {n : Nat} {x : Str} {st : Stmt} {f : Addr} {fd : FuncData} {N ps : List Str} {k : Nat} (D : Df K mg x st ps f fd) (Sc : FnScope N ps (defScope st)) (hlen : ∀ a, (args a).length = ps.length)
    (hb : ∀ (cdv : Value) (A : Around) (outer : List Env) (s : Shared) (H : Hp) (E : XK), (cxOf CX0 P w K mg base N x (defScope st) f cdv A outer s H E).nox.A.guards = some [] → Room k (cxOf CX0 P w K mg base N x (defScope st) f cdv A outer s H E).nox.A →
      ∃ t, PSs (cxOf CX0 P w K mg base N x (defScope st) f cdv A outer s H E).nox (defBody st) t ∧ ∀ L, L.K = K → SM L → ∀ a, ok a → SG L n t (Ga N.length (args a)) (fun _ => False) (post a)) : Cal P w K mg base x st ps (k + 1) (spM K n args ok post) f fd := by
  refine ⟨D.gm, D.F, D.b, okG D.F Sc (fun vs H Q E h => ?_) (fun cdv A outer s H vs Q E hg hr h => ?_)⟩
  · obtain ⟨L, a, _, _, _, Av, ds, _, hl, _, e, _⟩ := h
    rw [hl, e, hlen a]
  · obtain ⟨L, a, hK, hS, ha, Av, ds, hi, hl, hv, e, hgg, q⟩ := h
    obtain ⟨t, h1, h2⟩ := hb cdv A outer s H E hg hr
    subst e
    exact ⟨t, h1, h2 L hK hS a ha Av (L2.start N vs) H hi (start_ok hl hv) hgg _ (fun σ' H' Γ' r e p => p.elim) fun v d H' r hd p => q v d H' r hd p⟩
end
section
variable {L : Rl} {Γ : List (Option PyData)} {t : TA} {te ta tb : TE} {E : XK} {α : Type} {args : α → List PyData} {ok : α → Prop} {val : α → PyData} {post : α → PyData → Prop} {a m n : Nat} {P1 P2 : PyData → Prop} {PA : List PyData → Prop}
theorem eg_callM (hS : SM L) (x : α) (ha : EaD L t Γ (args x)) (ho : ok x) : EvG L n (tCall (spM L.K n args ok post) [] E t) Γ (post x) := fun A σ H hi he hg Q q => ha A σ H hi he (L.g0 hg) _ fun vs ds H1 r1 l hv p => by
  subst p
  show spM L.K n args ok post (vs ++ []) H1 Q E
  rw [List.append_nil]
  exact ⟨L, x, rfl, hS, ho, A, args x, hi.r r1, l, hv, rfl, Rl.gR (a := 0) (by rw [Nat.zero_add]; exact hg) r1, fun v d H2 r2 hd hpo => q v d H2 (L.rle (Nat.le_of_eq (Nat.zero_add _)) (L.tr r1 r2)) hd hpo⟩
/-- a def that leaves all, called with drawn things -/
theorem eg_callRG (ha : EaG L m t Γ PA) (hp : ∀ ds, PA ds → nomk ds = true ∧ ∃ x, ok x ∧ ds = args x) : EvG L m (tCall (spR L.K args ok val) [] E t) Γ (fun d => ∃ x, PA (args x) ∧ ok x ∧ d = val x) := fun A σ H hi he hg Q q => ha A σ H hi he hg _ fun vs ds H1 r1 l hv p => by
  obtain ⟨hn, x, ho, e⟩ := hp ds p
  subst e
  show spR L.K args ok val (vs ++ []) H1 Q E
  rw [List.append_nil]
  refine ⟨x, ho, A, args x, hi.r r1, l, fun i d e => ?_, rfl, trivial, fun v d H2 r2 hd hpo => q v d H2 (L.tr (b := 0) r1 (L.same (Rl.gR (b := 0) hg r1) r2)) (pure_dq hd) ⟨x, p, ho, hpo⟩⟩
  obtain ⟨v, e1, e2⟩ := hv i d e
  exact ⟨v, e1, .inr (e2.ne (nomk_ne hn i d e))⟩
theorem eg_addG {P1 P2 : Int → Prop} (ha : EvG L m ta Γ (fun d => ∃ i, P1 i ∧ d = .int i)) (hb : EvG L n tb Γ (fun d => ∃ i, P2 i ∧ d = .int i)) : EvG L (m + n) (tOp (rI0 fun i j => .int (i + j)) ta tb) Γ (fun d => ∃ i, (∃ x y, P1 x ∧ P2 y ∧ i = x + y) ∧ d = .int i) :=
  eg_opG ha hb fun d1 d2 ⟨i, p1, e1⟩ ⟨j, p2, e2⟩ => by
    subst e1 e2
    exact fun A H x y hi hg hx hy Q q => os_I0 A H x y hi hg hx hy Q fun v d H' r hv e => q v d H' r hv ⟨i + j, ⟨i, j, p1, p2, rfl⟩, e⟩
theorem eg_subG {P1 P2 : Int → Prop} (ha : EvG L m ta Γ (fun d => ∃ i, P1 i ∧ d = .int i)) (hb : EvG L n tb Γ (fun d => ∃ i, P2 i ∧ d = .int i)) : EvG L (m + n) (tOp (rI0 fun i j => .int (i - j)) ta tb) Γ (fun d => ∃ i, (∃ x y, P1 x ∧ P2 y ∧ i = x - y) ∧ d = .int i) :=
  eg_opG ha hb fun d1 d2 ⟨i, p1, e1⟩ ⟨j, p2, e2⟩ => by
    subst e1 e2
    exact fun A H x y hi hg hx hy Q q => os_I0 A H x y hi hg hx hy Q fun v d H' r hv e => q v d H' r hv ⟨i - j, ⟨i, j, p1, p2, rfl⟩, e⟩
theorem eg_intG {i : Int} : EvG L 0 (tC (.int i)) Γ (fun d => ∃ j, j = i ∧ d = .int j) := EvG.mono eg_int (Nat.le_refl _) fun d e => ⟨i, rfl, e⟩
end
end V1
set_option Elab.async false
set_option linter.all false
set_option maxRecDepth 100000
set_option maxHeartbeats 4000000
/-! What readings share. -/
namespace V1
open PySem PySem.Spec PyProof.Rows L2
theorem take_next {α : Type} {xs : List α} {i : Nat} {x : α} (h : xs[i]? = some x) : xs.take (i + 1) = xs.take i ++ [x] := by
  rw [List.take_add_one, h]
  rfl
theorem map_at {α : Type} {xs : List α} {enc : α → PyData} {i : Nat} {d : PyData} (h : (xs.map enc)[i]? = some d) : ∃ x, xs[i]? = some x ∧ x ∈ xs ∧ d = enc x := by
  rw [List.getElem?_map] at h
  cases hx : xs[i]? with
  | none => rw [hx] at h; cases h
  | some x =>
    rw [hx] at h
    exact ⟨x, rfl, List.mem_of_getElem? hx, (Option.some.inj h).symm⟩
/-- what repr may be asked of -/
structure Sh (d : PyData) : Prop where
  seq : (∃ ds, d = .list ds) ∨ ∃ ds, d = .tuple ds
  show1 : d.showable = true
  nd : d.hasDict = false
  dep : d.depth ≤ 60
  len : d.shown.length ≤ sizeLine

theorem atI_zero {α : Type} (x : α) (xs : List α) : atI (x :: xs) 0 = some x := by
  unfold atI ixN
  rw [if_pos (by decide), if_pos (by rw [List.length_cons]; omega)]
  rfl
theorem split_last {α : Type} {xs : List α} {n : Nat} (h : xs.length = n + 1) : ∃ ys y, xs = ys ++ [y] ∧ ys.length = n := by
  refine ⟨xs.take n, xs[n], ?_, by rw [List.length_take]; omega⟩
  have := List.take_append_drop n xs
  rw [List.drop_eq_getElem_cons (by omega), List.drop_of_length_le (by omega)] at this
  exact this.symm
structure Shn (b k : Nat) (d : PyData) : Prop where
  s : d.showable = true
  nd : d.hasDict = false
  dp : d.depth ≤ k
  sh : d.leavesShort 1921 = true
  bk : d.bulk ≤ b
theorem shn_int {i : Int} {b k : Nat} (h : i.natAbs < 2 ^ 1900) : Shn b k (.int i) := by
  have hlog : i.natAbs.log2 < 1920 := by
    by_cases z : i.natAbs = 0
    · rw [z]; decide
    · exact Nat.lt_of_lt_of_le ((Nat.log2_lt z).mpr h) (by decide)
  refine ⟨by simp only [PyData.showable, decide_eq_true_eq]; exact hlog, by simp only [PyData.hasDict], by simp only [PyData.depth]; omega, ?_, by simp only [PyData.bulk]; omega⟩
  simp only [PyData.leavesShort, decide_eq_true_eq]
  show (Str.ofString (toString i)).length ≤ 1921
  rw [PySem.ofString_length]
  exact int_text_length_le (by decide) hlog
theorem shn_all {b k : Nat} : ∀ {ds : List PyData}, (∀ d ∈ ds, Shn b k d) → PyData.showableAll ds = true ∧ PyData.hasDictAll ds = false ∧ PyData.depthAll ds ≤ k ∧ PyData.leavesShortAll 1921 ds = true ∧ PyData.bulkAll ds ≤ ds.length * (b + 1)
  | [], _ => ⟨by simp only [PyData.showableAll], by simp only [PyData.hasDictAll], by simp only [PyData.depthAll]; omega, by simp only [PyData.leavesShortAll], by simp only [PyData.bulkAll]; omega⟩
  | d :: ds, h => by
    have h1 := h d List.mem_cons_self
    obtain ⟨a1, a2, a3, a4, a5⟩ := shn_all (ds := ds) fun x hx => h x (List.mem_cons_of_mem _ hx)
    refine ⟨?_, ?_, ?_, ?_, ?_⟩
    · simp only [PyData.showableAll, h1.s, a1, Bool.and_self]
    · simp only [PyData.hasDictAll, h1.nd, a2, Bool.or_self]
    · simp only [PyData.depthAll]
      have := h1.dp
      omega
    · simp only [PyData.leavesShortAll, h1.sh, a4, Bool.and_self]
    · simp only [PyData.bulkAll, List.length_cons]
      have := h1.bk
      rw [Nat.succ_mul]
      omega
theorem shn_tup {b k m : Nat} {ds : List PyData} (h : ∀ d ∈ ds, Shn b k d) (hl : ds.length ≤ m) : Shn (m * (b + 1)) (k + 1) (.tuple ds) := by
  obtain ⟨a1, a2, a3, a4, a5⟩ := shn_all h
  exact ⟨by simpa only [PyData.showable] using a1, by simpa only [PyData.hasDict] using a2, by simp only [PyData.depth]; omega, by simpa only [PyData.leavesShort] using a4, by simp only [PyData.bulk]; exact Nat.le_trans a5 (Nat.mul_le_mul_right _ hl)⟩
theorem shn_lst {b k m : Nat} {ds : List PyData} (h : ∀ d ∈ ds, Shn b k d) (hl : ds.length ≤ m) : Shn (m * (b + 1)) (k + 1) (.list ds) := by
  obtain ⟨a1, a2, a3, a4, a5⟩ := shn_all h
  exact ⟨by simpa only [PyData.showable] using a1, by simpa only [PyData.hasDict] using a2, by simp only [PyData.depth]; omega, by simpa only [PyData.leavesShort] using a4, by simp only [PyData.bulk]; exact Nat.le_trans a5 (Nat.mul_le_mul_right _ hl)⟩
theorem Shn.mono {b k b' k' : Nat} {d : PyData} (h : Shn b k d) (hb : b ≤ b' := by decide) (hk : k ≤ k' := by decide) : Shn b' k' d := ⟨h.s, h.nd, Nat.le_trans h.dp hk, h.sh, Nat.le_trans h.bk hb⟩
theorem Shn.fits {b k : Nat} {d : PyData} (h : Shn b k d) (hb : b ≤ 8000) : d.shown.length ≤ sizeLine := by
  have h1 := PyData.shown_le_bulk 1921 (by decide) d h.sh
  have h2 : (1921 + 2) * d.bulk ≤ 1923 * 8000 := Nat.mul_le_mul (by decide) (Nat.le_trans h.bk hb)
  rw [sizeLine_eq]
  omega
theorem sh_lst {b k : Nat} {ds : List PyData} (h : Shn b k (.list ds)) (hb : b ≤ 8000 := by decide) (hk : k ≤ 60 := by decide) : Sh (.list ds) := ⟨.inl ⟨ds, rfl⟩, h.s, h.nd, Nat.le_trans h.dp hk, h.fits hb⟩
theorem sh_tup {b k : Nat} {ds : List PyData} (h : Shn b k (.tuple ds)) (hb : b ≤ 8000 := by decide) (hk : k ≤ 60 := by decide) : Sh (.tuple ds) := ⟨.inr ⟨ds, rfl⟩, h.s, h.nd, Nat.le_trans h.dp hk, h.fits hb⟩
theorem p1900 {i : Int} {n : Nat} (h : i.natAbs < 2 ^ n) (hn : n ≤ 1900 := by decide) : i.natAbs < 2 ^ 1900 := Nat.lt_of_lt_of_le h (Nat.pow_le_pow_right (by decide) hn)
section
variable {L : Rl} {Γ : List (Option PyData)} {t : TA} {te ta tb : TE} {E : XK} {a b c m n : Nat} {P1 P2 P3 P4 : PyData → Prop}
theorem ea2G (h1 : EvG L a ta Γ P1) (h2 : EvG L b tb Γ P2) : EaG L (a + (b + 0)) (tCons ta (tCons tb tNil)) Γ (fun ds => ∃ d1 d2, ds = [d1, d2] ∧ P1 d1 ∧ P2 d2) :=
  EaG.mono (ea_consG h1 (ea_consG h2 ea_nil)) (Nat.le_refl _) fun ds ⟨d1, r, e, p1, d2, r2, e2, p2, e3⟩ => ⟨d1, d2, by rw [e, e2, e3], p1, p2⟩
theorem ea1G (h1 : EvG L a ta Γ P1) : EaG L (a + 0) (tCons ta tNil) Γ (fun ds => ∃ d1, ds = [d1] ∧ P1 d1) :=
  EaG.mono (ea_consG h1 ea_nil) (Nat.le_refl _) fun ds ⟨d1, r, e, p1, e2⟩ => ⟨d1, by rw [e, e2], p1⟩
theorem enc_of {α : Type} {enc : α → PyData} {P : α → Prop} : ∀ {rs : List PyData}, (∀ (i : Nat) d, rs[i]? = some d → ∃ x, P x ∧ d = enc x) → ∃ xs : List α, rs = xs.map enc ∧ xs.length = rs.length ∧ ∀ x ∈ xs, P x
  | [], _ => ⟨[], rfl, rfl, fun x h => by simp at h⟩
  | d :: r, h => by
    obtain ⟨x, hx, e⟩ := h 0 d rfl
    obtain ⟨xs, e2, hl, hP⟩ := enc_of (rs := r) fun i d' e => h (i + 1) d' (by simpa using e)
    refine ⟨x :: xs, by rw [e, e2]; rfl, by rw [List.length_cons, List.length_cons, hl], fun y hy => ?_⟩
    rcases List.mem_cons.mp hy with rfl | hy
    · exact hx
    · exact hP y hy
/-- a comprehension of drawn things -/
theorem eg_lcX {α : Type} {enc : α → PyData} {P : α → Prop} {wi : TI} {g : TG} {js vs : List Nat} {items : List PyData} (henc : ∀ x, enc x ≠ mark) (hw : WkD L wi Γ items) (hj : ∀ j ∈ js, j ∈ vs) (hlen : items.length ≤ b) (hb1 : b ≤ 1000)
    (hb : ∀ (i : Nat) d, items[i]? = some d → ∃ Γ', TgG L g js d (wipeD Γ vs) Γ' ∧ EvG L c te Γ' (fun r => ∃ x, P x ∧ r = enc x)) : EvG L (0 + b * c) (tLc wi g tYes te vs) Γ (fun r => ∃ xs : List α, r = .list (xs.map enc) ∧ xs.length = items.length ∧ ∀ x ∈ xs, P x) :=
  EvG.mono (eg_lcG (a := 0) (b := b) (c := c) (Pt := fun _ _ r => ∃ x, P x ∧ r = enc x) hw hj (fun its e => by rw [e]; exact ⟨hlen, hb1⟩) fun its e i d hd => by
    subst e
    obtain ⟨Γ', h1, h2⟩ := hb i d hd
    exact ⟨Γ', h1, EvG.mono h2 (Nat.le_refl _) fun r ⟨x, hx, e⟩ => ⟨by rw [e]; exact henc x, x, hx, e⟩⟩) (Nat.le_refl _) fun r ⟨its, rs, e1, e2, e3, e4⟩ => by
    obtain ⟨xs, f1, f2, f3⟩ := enc_of e4
    exact ⟨xs, by rw [e2, f1], by rw [f2, e3, e1], f3⟩
end
theorem rng_len (n : Nat) : (rngD 0 n).length = n := by unfold rngD; rw [List.length_map, List.length_range]
section
variable {L : Rl} {Γ : List (Option PyData)} {t : TA} {te ta tb : TE} {E : XK} {a b c m n j : Nat} {P P1 P2 : PyData → Prop} {N N2 : List (Option PyData) → Prop} {Rt : PyData → Prop} {u us : TS} {d : PyData}
theorem eg_tupG {PA : List PyData → Prop} (h : EaG L a t Γ PA) (hn : ∀ ds, PA ds → nomk ds = true ∧ ds.length ≤ 1000) : EvG L a (tTup t) Γ (fun d => ∃ ds, PA ds ∧ d = .tuple ds) := fun A σ H hi he hg Q q => h A σ H hi he hg _ fun vs ds' H1 r1 l hv p => by
  obtain ⟨h1, h2⟩ := hn ds' p
  refine ⟨Nat.le_trans (by rw [l]; exact h2) (by decide), fun p1 hp => ?_⟩
  have rr := Rl.newR (o := .tup vs) (Rl.gR (b := 0) hg r1) hp
  exact q _ _ _ (L.tr (b := 0) r1 rr) (.inr (.tup ((hi.r r1).no hp) upd_same ((all_of l hv h1).r rr))) ⟨ds', p, rfl⟩
theorem eg_lstF {ds : List PyData} (h : EaD L t Γ ds) (hn : nomk ds = true := by rfl) (hl : ds.length ≤ 1000 := by simp) : EvF L 0 (tLst t) Γ (fun x => x = .list ds) := fun A σ H hi he hg Q q => h A σ H hi he hg _ fun vs ds' H1 r1 l hv p => by
  subst p
  refine ⟨Nat.le_trans (by rw [l]; exact hl) (by decide), fun p hp => ?_⟩
  have rr := Rl.newR (o := .lst vs) (Rl.gR (b := 0) hg r1) hp
  exact q p _ _ (L.tr (a := 0) (b := 0) r1 rr) (L.free r1 hp) (.inr (.lst ((hi.r r1).no hp) upd_same ((all_of l hv hn).r rr))) rfl
theorem sq_tgG {g : TG} {js : List Nat} (h : EvG L a te Γ P) (hm : ∀ d, P d → d ≠ mark) (k : ∀ d, P d → ∃ Γ', TgG L g js d Γ Γ' ∧ SG L b u Γ' N Rt) : SG L (a + b) (tSeq (tAsg te g) u) Γ N Rt := fun A σ H hi he hg D q1 q2 =>
  h A σ H hi he (L.gle (Nat.le_add_right _ _) hg) _ fun v d H1 r hv p => by
    obtain ⟨Γ', h1, h2⟩ := k d p
    exact h1 A v σ H1 (hv.ne (hm d p)) (he.r r) _ fun σ' e' _ => h2 A σ' H1 (hi.r r) e' (Rl.gR hg r) D (fun σ2 H2 Γ2 r2 e2 p2 => q1 σ2 H2 Γ2 (L.tr r r2) e2 p2) fun v d H2 r2 e2 p2 => q2 v d H2 (L.tr r r2) e2 p2
/-- made, written, and on -/
theorem sg_grown2 {n : Nat} (hj : j < Γ.length) (h1 : EvF L 0 te Γ (fun x => x = d)) (h3 : SW L j us (Γ.set j (some d)) N2) (h4 : ∀ G, N2 G → SG L n u G N Rt) : SG L n (tSeq (tAsg te (gName j)) (tSeq us u)) Γ N Rt := fun A σ H hi he hg D q1 q2 =>
  h1 A σ H hi he (L.g0 hg) _ fun p d' H1 r1 hf hv e => by
  subst e
  have fr : FrS H j (σ.set j (some (V.ref p))) := ⟨p, List.getElem?_set_self (by rw [he.1]; exact hj), hf⟩
  refine h3 H A _ H1 (hi.r r1) ((he.r r1).set hv j) (Rl.gR (b := 0) (L.g0 hg) r1) r1 fr { D with nx := _ } fun σ3 H3 G3 r3 e3 p3 => ?_
  have e0 : n = 0 + n := (Nat.zero_add n).symm
  have g3 : L.G n H3 := Rl.gR (a := 0) (by rw [Nat.zero_add]; exact hg) r3
  exact h4 G3 p3 A σ3 H3 (hi.r r3) e3 g3 D (fun σ4 H4 G4 r4 e4 p4 => q1 σ4 H4 G4 (L.rle (Nat.le_of_eq (Nat.zero_add n)) (L.tr r3 r4)) e4 p4) fun v d H4 r4 e4 p4 => q2 v d H4 (L.rle (Nat.le_of_eq (Nat.zero_add n)) (L.tr r3 r4)) e4 p4
theorem flat_upd {K : PySem.W.Frag} {A : Addr → Prop} {H : Hp} {v : V} {zs : List Int} {p : Addr} {xs : List V} {o : HO} (h : Dv K A H v (tI zs)) (e : H p = some (.lst xs)) : Dv K A (upd H p o) v (tI zs) := by
  cases h with
  | @tup a ys ds na ea ra =>
    have ne : a ≠ p := fun z => by
      rw [z, e] at ea
      cases ea
    refine .tup na (by rw [upd_ne ne]; exact ea) ?_
    rw [ra.ints]
    exact DvAll.ofInts _
  | @ktup a ys ds ea ra =>
    rw [ra.ints] at ea
    exact .ktup ea (DvAll.ofInts _)
theorem flats_upd {A : Addr → Prop} {H : Hp} {p : Addr} {xs : List V} {o : HO} (e : H p = some (.lst xs)) : ∀ {zss : List (List Int)} {vs : List V}, DvAll L.K A H vs (zss.map tI) → DvAll L.K A (upd H p o) vs (zss.map tI)
  | [], _, h => by cases h; exact .nil
  | z :: zs, _, h => by
    cases h with
    | cons h1 h2 => exact .cons (flat_upd h1 e) (flats_upd e h2)
theorem sw_app {zss : List (List Int)} {zs : List Int} {Γ2 : List (Option PyData)} (hj : Γ[j]? = some (some (.list (zss.map tI)))) (hlen : zss.length ≤ 1000) (he2 : EvD L te Γ (tI zs)) (hl : Γ2.length = Γ.length)
    (h2 : ∀ (i : Nat) d, Γ2[i]? = some (some d) → (i = j ∧ d = .list ((zss ++ [zs]).map tI)) ∨ (Γ[i]? = some (some d) ∧ ((∃ zs, d = tI zs) ∨ (∃ z, d = .int z) ∨ d = mark))) :
    SW L j (tDrop (tBM L.K "list" rAppend (tVar j) (tCons te tNil))) Γ (fun G => G = Γ2) := fun H0 A σ H hi he hg r0 ⟨p, hp, hn⟩ D q => by
  obtain ⟨v, hv, dv⟩ := he.2 j _ hj
  rw [hp] at hv
  have ev : V.ref p = v := Option.some.inj (Option.some.inj hv)
  subst ev
  obtain ⟨p', xs, ep, na, eH, rr⟩ := dv.list
  have ep' : p = p' := by injection ep
  subst ep'
  refine ⟨V.ref p, hp, .inl ⟨rfl, xs, SqL.of eH⟩, ?_⟩
  refine he2 A σ H hi he hg _ fun vy d2 H2 r2 hvy p2 => ?_
  subst p2
  have eH2 : H2 p = some (.lst xs) := L.keep r2 eH fxLst
  have r02 : L.R 0 H0 H2 := L.tr (a := 0) (b := 0) r0 r2
  have he3 : EnvOk L A σ H2 Γ := he.r r2
  have rr2 := rr.r r2
  have hlx : xs.length = zss.length := by rw [rr.length, List.length_map]
  refine ⟨p, xs, vy, rfl, rfl, eH2, Nat.lt_of_le_of_lt (show xs.length ≤ 1000 by omega) (by decide), ?_⟩
  refine q σ _ Γ2 (L.fresh r02 hn (.inr ⟨_, eH2⟩)) ⟨by rw [hl]; exact he.1, fun i d hd => ?_⟩ rfl
  rcases h2 i d hd with ⟨rfl, rfl⟩ | ⟨h3, h4⟩
  · refine ⟨V.ref p, hp, .inr (.lst na upd_same ?_)⟩
    rw [List.map_append]
    have hvy2 : Dv L.K A H2 vy (tI zs) := hvy.ne (by unfold tI; intro z; cases z)
    exact (flats_upd eH2 rr2).app (.cons (flat_upd hvy2 eH2) .nil)
  · obtain ⟨v, hv, dv⟩ := he3.2 i d h3
    refine ⟨v, hv, ?_⟩
    rcases h4 with ⟨zs, rfl⟩ | ⟨z, rfl⟩ | rfl
    · exact .inr (flat_upd (dv.ne (by unfold tI; intro z; cases z)) eH2)
    · obtain rfl := dv.int
      exact .inr (.int z)
    · rcases dv with dv | dv
      · exact .inl dv
      · cases dv
end

end V1
set_option Elab.async false
set_option linter.all false
set_option maxRecDepth 100000
set_option maxHeartbeats 4000000
/-! The script: a list that is read alone. -/
namespace V1
open PySem PySem.Spec PyProof.Rows L2
theorem SqL.same {K : PySem.W.Frag} {H H' : Hp} {a : Addr} {xs : List V} (h : SqL K H a xs) (s : Same H H') : SqL K H' a xs := by
  rcases h with (e | ⟨o, e⟩) | h
  · exact .inl (.inl (s _ _ e))
  · exact .inl (.inr ⟨o, s _ _ e⟩)
  · exact .inr h
theorem SqL.ext {K : PySem.W.Frag} {H H' : Hp} {a : Addr} {xs : List V} (h : SqL K H a xs) (s : LamX.ExtN H H') : SqL K H' a xs := by
  rcases h with (e | ⟨o, e⟩) | h
  · exact .inl (.inl (s _ _ e (fun ps z => by cases z)))
  · exact .inl (.inr ⟨o, s _ _ e (fun ps z => by cases z)⟩)
  · exact .inr h
def scL (K : PySem.W.Frag) (T : List (Addr × Str)) (a : Addr) (sc : List Int) : Rl where
  K := K
  G := fun _ H => SqL K H a (sc.map V.int) ∧ LamX.Tabs T H
  R := (tabL K T).R
  M := fun v => v = .ref a
  gle := fun _ h => h
  rle := fun _ r => r
  gr := fun g r => ⟨SqL.ext g.1 r.1, r.2.2⟩
  tr := fun a b => (tabL K T).tr a b
  same := fun g s => (tabL K T).same g.2 s
  fresh := fun r hq h2 => (tabL K T).fresh r hq h2
  keep := fun r e k => (tabL K T).keep r e k
  free := fun r e => (tabL K T).free r e
  mref := fun h => ⟨a, h⟩
theorem lamL_s {K : PySem.W.Frag} {T : List (Addr × Str)} {a : Addr} {sc : List Int} : LamL (scL K T a sc) T := ⟨fun g => g.2, fun _ e t nn => (show (tabL K T).R 0 _ _ from ⟨e, nn, t⟩)⟩
section
variable {T : List (Addr × Str)} {K : PySem.W.Frag} {L : Rl} {Γ : List (Option PyData)} {a : Addr} {sc : List Int} {i : Nat} {te : TE} {tt : TT}
theorem dq_mark {A : Addr → Prop} {H : Hp} {v : V} (h : Dq (scL K T a sc) A H v mark) : v = .ref a := by
  rcases h with ⟨_, h⟩ | h
  · exact h
  · cases h
theorem cut_ints (xs : List Int) (lo hi : Option Int) : ∃ zs : List Int, cutV (xs.map V.int) lo hi = zs.map V.int ∧ zs.length ≤ xs.length := by
  refine ⟨(xs.drop (HT.sIx (xs.map V.int).length 0 lo)).take (HT.sIx (xs.map V.int).length (xs.map V.int).length hi - HT.sIx (xs.map V.int).length 0 lo), ?_, ?_⟩
  · unfold cutV
    rw [List.map_take, List.map_drop]
  · rw [List.length_take, List.length_drop]
    omega
theorem eg_slS {tl th : TO} {lo hi0 : Option Int} (e : Γ[i]? = some (some mark)) (h1 : EoD (scL K T a sc) tl Γ lo) (h2 : EoD (scL K T a sc) th Γ hi0) : EvG (scL K T a sc) 0 (tSl (rSlL K) (tVar i) tl th) Γ (fun d => ∃ zs : List Int, zs.length ≤ sc.length ∧ d = lI zs) := fun A σ H hi he hg Q q => by
  obtain ⟨v, hv, dv⟩ := he.2 i _ e
  have ev := dq_mark dv
  subst ev
  refine ⟨_, hv, h1 A σ H hi he hg _ fun H1 r1 => h2 A σ H1 (hi.r r1) (he.r r1) (Rl.gR (a := 0) (b := 0) hg r1) _ fun H2 r2 => ?_⟩
  have r12 : (scL K T a sc).R 0 H H2 := (scL K T a sc).tr (a := 0) (b := 0) r1 r2
  have g2 : (scL K T a sc).G 0 H2 := Rl.gR (a := 0) (b := 0) hg r12
  obtain ⟨zs, e1, e2⟩ := cut_ints sc lo hi0
  refine ⟨a, sc.map V.int, rfl, g2.1, fun p hp => ?_⟩
  have rr := Rl.newR (L := scL K T a sc) (o := .lst (cutV (sc.map V.int) lo hi0)) g2 hp
  rw [e1] at rr ⊢
  exact q _ _ _ ((scL K T a sc).tr (a := 0) (b := 0) r12 rr) (.inr (.lst ((hi.r r12).no hp) upd_same (DvAll.ofInts zs))) ⟨zs, e2, rfl⟩
theorem cs_lenS (e : Γ[i]? = some (some mark)) : EvD (scL K T a sc) (tCB (fun xs H Q => ∃ p ys, xs = [.ref p] ∧ (SqL K H p ys ∨ SqT K H p ys) ∧ Q (.int ys.length) H) (tCons (tVar i) tNil)) Γ (.int (sc.length : Int)) := fun A σ H hi he hg Q q => by
  obtain ⟨v, hv, dv⟩ := he.2 i _ e
  have ev := dq_mark dv
  subst ev
  refine ⟨_, hv, a, sc.map V.int, rfl, .inl hg.1, ?_⟩
  rw [List.length_map]
  exact q _ _ H (Rl.refl hg) (.inr (.int _)) rfl
/-- a comprehension with a test -/
theorem eg_lcT {wi : TI} {g : TG} {js vs : List Nat} {items : List PyData} {Pt : PyData → Prop} (hw : WkD L wi Γ items) (hj : ∀ j ∈ js, j ∈ vs) (hlen : items.length ≤ 1000)
    (hb : ∀ (i : Nat) d, items[i]? = some d → ∃ Γ', TgG L g js d (wipeD Γ vs) Γ' ∧ (∃ k, EtD L tt Γ' k) ∧ EvG L 0 te Γ' (fun r => r ≠ mark ∧ Pt r)) :
    EvG L 0 (tLc wi g tt te vs) Γ (fun r => ∃ rs, r = .list rs ∧ rs.length ≤ items.length ∧ ∀ (i : Nat) d, rs[i]? = some d → Pt d) := fun A σ H hi he hg Q q => hw A σ H hi he hg _ fun J H1 its r1 hp jk D hD => by
  subst hp
  have hD0 : H D = none := L.free r1 hD
  have g1 : L.G 0 H1 := Rl.gR (b := 0) hg r1
  refine ⟨fun i m H2 => m = its.length - i ∧ i ≤ its.length ∧ L.R 0 H H2 ∧ Kp A H1 H2 ∧ ∃ acc rs, H2 D = some (.lst acc) ∧ DvAll L.K (fun b => A b ∨ b = D) H2 acc rs ∧ rs.length ≤ i ∧ ∀ (j : Nat) d, rs[j]? = some d → Pt d, ⟨its.length, ?_⟩, ?_⟩
  · exact ⟨by omega, Nat.zero_le _, L.fresh r1 hD0 (.inl hD), fun b o _ e k => by rw [upd_ne (ne_of_none e hD)]; exact e, [], [], upd_same, .nil, Nat.le_refl _, fun j d e => by simp at e⟩
  · rintro i m H2 ⟨rfl, hle, r2, k2, acc, rs, eD, dv, hrl, hpt⟩
    have naD : ∀ b, A b → H2 b ≠ none := fun b z => hi.r r2 b z
    by_cases hlt : i < its.length
    · refine .inr ⟨jk.go i H2 k2 hlt, fun H3 => i + 1 ≤ its.length ∧ L.R 0 H H3 ∧ Kp A H1 H3 ∧ ∃ acc rs, H3 D = some (.lst acc) ∧ DvAll L.K (fun b => A b ∨ b = D) H3 acc rs ∧ rs.length ≤ i + 1 ∧ ∀ (j : Nat) d, rs[j]? = some d → Pt d,
        fun H3 h3 => ⟨its.length - (i + 1), by omega, rfl, h3⟩, fun x H3 y => ?_⟩
      obtain ⟨d, hd, sm, hdv⟩ := jk.yld i H2 x H3 k2 naD y hlt
      obtain ⟨Γ', htg, ⟨kk, htt⟩, hev⟩ := hb i d hd
      have innA' : ∀ b, (A b ∨ b = D) → H2 b ≠ none := fun b z => z.elim (naD b) fun e => by rw [e, eD]; simp
      have dx : Dv L.K (fun b => A b ∨ b = D) H3 x d := hdv _ innA' fun b o na e _ z => z.elim na (ne_of_none e hD)
      have ev2 : EnvOk L (fun b => A b ∨ b = D) (wipe σ vs) H3 (wipeD Γ vs) := by
        have h0 : EnvOk L (fun b => A b ∨ b = D) (wipe σ vs) (upd H1 D (.lst [])) (wipeD Γ vs) := ((he.r r1).wipe vs).avoid hD
        refine ⟨h0.1, fun j d' e => ?_⟩
        obtain ⟨v, e1, e2⟩ := h0.2 j d' e
        refine ⟨v, e1, e2.imp (fun z => z) fun z => z.map fun b o na eb kd => ⟨na, sm _ _ (k2 b o (fun w => na (.inl w)) ?_ kd)⟩⟩
        rwa [upd_ne (fun w => na (.inr w))] at eb
      refine htg (fun b => A b ∨ b = D) x (wipe σ vs) H3 dx ev2 _ fun σ2 e3 w3 => ⟨?_, ?_⟩
      · rw [w3 vs hj, wipe_wipe vs fun v hv => hv]
      · have g2 : L.G 0 H2 := Rl.gR (b := 0) hg r2
        have r3 : L.R 0 H2 H3 := L.same g2 sm
        have g3 : L.G 0 H3 := Rl.gR (b := 0) g2 r3
        have inn3 : Inn (fun b => A b ∨ b = D) H3 := fun b z y => innA' b z (L.free r3 y)
        refine htt (fun b => A b ∨ b = D) σ2 H3 inn3 e3 g3 _ fun H4 r4 => ?_
        have r34 : L.R 0 H2 H4 := L.tr (a := 0) (b := 0) r3 r4
        have k4 : Kp A H1 H4 := fun b o na e k => L.keep r34 (k2 b o na e k) k
        have eD4 : H4 D = some (.lst acc) := L.keep r34 eD fxLst
        cases kk with
        | false =>
          show i + 1 ≤ its.length ∧ _
          exact ⟨hlt, L.tr (a := 0) (b := 0) r2 r34, k4, acc, rs, eD4, dv.r r34, by omega, hpt⟩
        | true =>
          show te σ2 H4 _
          refine hev (fun b => A b ∨ b = D) σ2 H4 (inn3.r r4) (e3.r r4) (Rl.gR (b := 0) g3 r4) _ fun y dy H5 r5 hy pw => ?_
          obtain ⟨hmk, hpt4⟩ := pw
          have eD5 : H5 D = some (.lst acc) := L.keep r5 eD4 fxLst
          have r25 : L.R 0 H2 H5 := L.tr (a := 0) (b := 0) r34 r5
          refine ⟨acc, eD5, Nat.lt_of_le_of_lt (show acc.length ≤ 1000 by rw [dv.length]; omega) (by decide), hlt, L.fresh (L.tr (a := 0) (b := 0) r2 r25) hD0 (.inr ⟨_, eD5⟩), ?_, acc ++ [y], rs ++ [dy], upd_same, ?_, by rw [List.length_append]; show _ + 1 ≤ _; omega, fun j d' e => ?_⟩
          · intro b o na e k
            have ne : b ≠ D := ne_of_none e hD
            rw [upd_ne ne]
            exact L.keep r25 (k2 b o na e k) k
          · exact ((dv.r r25).app (.cons (hy.ne hmk) .nil)).off
          · by_cases hj2 : j < rs.length
            · rw [List.getElem?_append_left hj2] at e
              exact hpt j d' e
            · rw [List.getElem?_append_right (by omega)] at e
              have hj3 : j - rs.length = 0 := by
                have := (List.getElem?_eq_some_iff.mp e).1
                simp at this
                omega
              rw [hj3] at e
              simp at e
              subst e
              exact hpt4
    · have e : i = its.length := by omega
      subst e
      refine .inl ⟨jk.stop H2 k2, ?_⟩
      have nD : ¬ A D := hi.no hD0
      exact q (.ref D) (.list rs) H2 r2 (.inr (.lst nD eD (dv.map fun b o na e _ => ⟨fun z => na (.inl z), e⟩))) ⟨rs, rfl, hrl, hpt⟩
theorem eg_catG {P1 P2 : List Int → Prop} {ta tb : TE} {m n : Nat} (ha : EvG L m ta Γ (fun d => ∃ zs, P1 zs ∧ d = lI zs)) (hb : EvG L n tb Γ (fun d => ∃ zs, P2 zs ∧ d = lI zs)) (hl : ∀ xs ys, P1 xs → P2 ys → xs.length + ys.length ≤ 100000) : EvG L (m + n) (tOp rCat ta tb) Γ (fun d => ∃ xs ys, P1 xs ∧ P2 ys ∧ d = lI (xs ++ ys)) :=
  eg_opG ha hb fun d1 d2 ⟨xs, p1, e1⟩ ⟨ys, p2, e2⟩ => by
    subst e1 e2
    exact fun A H x y hi hg hx hy Q q => os_cat (by rw [List.length_map, List.length_map]; exact hl xs ys p1 p2) A H x y hi hg hx hy Q fun v d H' r hv e => q v d H' r hv ⟨xs, ys, p1, p2, by rw [e]; unfold lI; rw [List.map_append]⟩
theorem dp_nil {K : PySem.W.Frag} {A : Addr → Prop} {H : Hp} {p : Addr} (h : H p = some (.lst [])) : Dp K H (.ref p) (.list []) := .lst (SqL.of h) .nil
theorem eqv_nil (ds : List PyData) : PyData.eqv (.list ds) (.list []) = ds.isEmpty := by
  cases ds with
  | nil => rfl
  | cons d ds => rfl
theorem canlay_ints : ∀ zs : List Int, PyData.canLayAll0 (zs.map .int) = true
  | [] => rfl
  | z :: zs => by simp only [List.map_cons, PyData.canLayAll0, PyData.canLay0, canlay_ints zs, Bool.and_self]
theorem depth_ints : ∀ zs : List Int, PyData.depthAll (zs.map .int) = 0
  | [] => rfl
  | z :: zs => by simp only [List.map_cons, PyData.depthAll, PyData.depth, depth_ints zs, Nat.max_self]
theorem shaped_ints (zs : List Int) : SeqAt.shaped (lI zs) = true := by
  unfold SeqAt.shaped lI
  rw [Bool.and_eq_true]
  refine ⟨by simp only [PyData.canLay0]; exact canlay_ints zs, decide_eq_true ?_⟩
  simp only [PyData.depth, depth_ints]
  omega
/-- xs != [] -/
theorem eg_neNil {ta : TE} {zs : List Int} (h : EvD L ta Γ (lI zs)) : EvD L (tOp (rNeD L.K) ta (tLst tNil)) Γ (.bool (!zs.isEmpty)) := fun A σ H hi he hg Q q => h A σ H hi he hg _ fun x d H1 r1 hx p => by
  subst p
  refine eg_lst (L := L) (Γ := Γ) (t := tNil) (ds := []) ea_nil rfl (by decide) A σ H1 (hi.r r1) (he.r r1) (Rl.gR (b := 0) hg r1) _ fun y d2 H2 r2 hy p2 => ?_
  subst p2
  have dx : Dp L.K H2 x (lI zs) := ((hx.r r2).ne (by unfold lI; intro z; cases z)).dp
  have dy : Dp L.K H2 y (.list []) := (hy.ne (by intro z; cases z)).dp
  refine ⟨lI zs, .list [], dx, dy, shaped_ints zs, rfl, ?_⟩
  have e : PyData.eqv (lI zs) (.list []) = zs.isEmpty := by
    unfold lI
    rw [eqv_nil]
    cases zs <;> rfl
  rw [e]
  exact q _ _ H2 (L.tr (a := 0) (b := 0) r1 r2) (.inr (.bl _)) rfl
/-- a way through statements, to an end of its own -/
def SX (L : Rl) (A : Addr → Prop) (H0 : Hp) (D : Ends) (ts : TS) (Γ : List (Option PyData)) : Prop := ∀ σ H, Inn A H → EnvOk L A σ H Γ → L.G 0 H → L.R 0 H0 H → ts D σ H
theorem sx_asgG {A : Addr → Prop} {H0 : Hp} {D : Ends} {u : TS} {P : PyData → Prop} {j : Nat} (h : EvG L 0 te Γ P) (k : ∀ d, P d → SX L A H0 D u (Γ.set j (some d))) : SX L A H0 D (tSeq (tAsg te (gName j)) u) Γ := fun σ H hi he hg r0 =>
  h A σ H hi he hg _ fun v d H1 r1 hv p => k d p _ H1 (hi.r r1) ((he.r r1).set hv j) (Rl.gR (b := 0) hg r1) (L.tr (a := 0) (b := 0) r0 r1)
theorem sx_sg {A : Addr → Prop} {H0 : Hp} {D : Ends} {ts u : TS} {N : List (Option PyData) → Prop} (h : SG L 0 ts Γ N (fun _ => False)) (k : ∀ Γ', N Γ' → SX L A H0 D u Γ') : SX L A H0 D (tSeq ts u) Γ := fun σ H hi he hg r0 =>
  h A σ H hi he hg { D with nx := u D } (fun σ' H' Γ' r e p => k Γ' p σ' H' (hi.r r) e (Rl.gR (b := 0) hg r) (L.tr (a := 0) (b := 0) r0 r)) fun v d H' r hd z => z.elim
end
end V1
set_option Elab.async false
set_option linter.all false
set_option maxRecDepth 100000
set_option maxHeartbeats 4000000
/-! A way that leaves one slot as it is. -/
namespace V1
open PySem PySem.Spec PyProof.Rows L2
def SK (L : Rl) (j : Nat) (v0 : V) (n : Nat) (ts : TS) (Γ : List (Option PyData)) (N : List (Option PyData) → Prop) : Prop := ∀ A σ H, Inn A H → EnvOk L A σ H Γ → L.G n H → σ[j]? = some (some v0) → ∀ D : Ends,
  (∀ σ' H' Γ', L.R n H H' → EnvOk L A σ' H' Γ' → σ'[j]? = some (some v0) → N Γ' → D.nx σ' H') → ts D σ H
section
variable {L : Rl} {Γ : List (Option PyData)} {te : TE} {t : TA} {tt : TT} {ts u : TS} {i j a b c : Nat} {v0 : V} {N : List (Option PyData) → Prop} {P : PyData → Prop}
theorem sk_asgG (hij : i ≠ j) (h : EvG L a te Γ P) (k : ∀ d, P d → SK L j v0 b u (Γ.set i (some d)) N) : SK L j v0 (a + b) (tSeq (tAsg te (gName i)) u) Γ N := fun A σ H hi he hg hs D q =>
  h A σ H hi he (L.gle (Nat.le_add_right _ _) hg) _ fun v d H1 r hv p => k d p A _ H1 (hi.r r) ((he.r r).set hv i) (Rl.gR hg r) (by rw [List.getElem?_set_ne hij]; exact hs) D fun σ2 H2 Γ2 r2 e2 s2 p2 => q σ2 H2 Γ2 (L.tr r r2) e2 s2 p2
theorem sk_parG {i2 : Nat} {PP : List PyData → Prop} (h1 : i ≠ j) (h2 : i2 ≠ j) (h : EaG L a t Γ PP) (k : ∀ ds, PP ds → ∃ d1 d2, ds = [d1, d2] ∧ SK L j v0 b u ((Γ.set i (some d1)).set i2 (some d2)) N) : SK L j v0 (a + b) (tSeq (tPar i i2 t) u) Γ N := fun A σ H hi he hg hs D q =>
  h A σ H hi he (L.gle (Nat.le_add_right _ _) hg) _ fun vs ds H1 r hl hv p => by
    obtain ⟨d1, d2, rfl, k⟩ := k ds p
    obtain ⟨v, w, rfl, h3, h4⟩ := two_of hl hv
    exact ⟨v, w, rfl, k A _ H1 (hi.r r) (((he.r r).set h3 i).set h4 i2) (Rl.gR hg r) (by rw [List.getElem?_set_ne h2, List.getElem?_set_ne h1]; exact hs) D fun σ2 H2 Γ2 r2 e2 s2 p2 => q σ2 H2 Γ2 (L.tr r r2) e2 s2 p2⟩
theorem sk_ifn (h : EtG L a tt Γ (fun k => k = false)) (k : N Γ) : SK L j v0 a (tIfS tt ts tNext) Γ N := fun A σ H hi he hg hs D q => h A σ H hi he hg _ fun b H1 r1 e => by
  subst e
  exact q σ H1 Γ r1 (he.r r1) hs k
theorem sk_for {wi : TI} {g : TG} {js : List Nat} {items : List PyData} (I : Nat → List (Option PyData) → Prop) (hjs : j ∉ js) (hw : WkD L wi Γ items) (hlen : items.length ≤ b) (h0 : I 0 Γ)
    (hb : ∀ (i : Nat) d Γi, items[i]? = some d → I i Γi → ∃ Γ', TgG L g js d Γi Γ' ∧ SK L j v0 c ts Γ' (I (i + 1))) (hN : ∀ Γe, I items.length Γe → N Γe) : SK L j v0 (b * c) (tFor wi g ts) Γ N := fun A σ H hi he hg hs D q1 =>
  hw A σ H hi he (L.g0 hg) _ fun J H1 its r1 hp jk => by
  subst hp
  refine ⟨fun i m σ2 H2 => m = its.length - i ∧ i ≤ its.length ∧ L.R (i * c) H H2 ∧ Kp A H1 H2 ∧ σ2[j]? = some (some v0) ∧ ∃ Γi, EnvOk L A σ2 H2 Γi ∧ I i Γi, ⟨its.length, ?_⟩, ?_⟩
  · refine ⟨by omega, Nat.zero_le _, ?_, fun b o _ e k => e, hs, Γ, he.r r1, h0⟩
    rw [Nat.zero_mul]
    exact r1
  · rintro i m σ2 H2 ⟨rfl, hle, r2, k2, s2, Γi, e2, p2⟩
    by_cases hlt : i < its.length
    · refine .inr ⟨jk.go i H2 k2 hlt, fun σ3 H3 => i + 1 ≤ its.length ∧ L.R ((i + 1) * c) H H3 ∧ Kp A H1 H3 ∧ σ3[j]? = some (some v0) ∧ ∃ Γi, EnvOk L A σ3 H3 Γi ∧ I (i + 1) Γi, fun σ3 H3 h3 => ⟨its.length - (i + 1), by omega, rfl, h3⟩, fun x H3 y => ?_⟩
      have naD : ∀ b, A b → H2 b ≠ none := fun b z => hi.r r2 b z
      obtain ⟨d, hd, sm, hdv⟩ := jk.yld i H2 x H3 k2 naD y hlt
      obtain ⟨Γ', htg, hs'⟩ := hb i d Γi hd p2
      have e5 : (i + 1) * c = i * c + 0 + c := by rw [Nat.succ_mul]; omega
      have g0 : L.G (c + 0) H2 := by
        refine Rl.gR (a := i * c) ?_ r2
        refine L.gle ?_ hg
        have h1 : (i + 1) * c ≤ b * c := Nat.mul_le_mul_right _ (by omega)
        have h2 : (i + 1) * c = i * c + c := Nat.succ_mul _ _
        omega
      have r3 : L.R 0 H2 H3 := L.same (L.g0 g0) sm
      have g3 : L.G c H3 := Rl.gR (a := 0) (by rw [Nat.zero_add]; exact g0) r3
      have dx : Dv L.K A H3 x d := hdv A naD fun b o na e _ => na
      refine htg A x σ2 H3 dx (e2.r r3) _ fun σ4 e4 w4 => ?_
      have s4 : σ4[j]? = some (some v0) := by
        have hw4 := w4 js fun k hk => hk
        rw [← wipe_get hjs, hw4, wipe_get hjs]
        exact s2
      refine hs' A σ4 H3 (fun b z y => naD b z (L.free r3 y)) e4 g3 s4 { D with nx := _, ct := _, bk := D.nx } (fun σ5 H5 Γ5 r5 e6 s5 p5 => ?_)
      refine ⟨hlt, ?_, fun b o na e k => L.keep r5 (sm _ _ (k2 b o na e k)) k, s5, Γ5, e6, p5⟩
      rw [e5]
      exact L.tr (L.tr r2 r3) r5
    · have e : i = its.length := by omega
      subst e
      exact .inl ⟨jk.stop H2 k2, q1 σ2 H2 Γi (L.rle (Nat.mul_le_mul_right c hlen) r2) e2 s2 (hN Γi p2)⟩
end
end V1
set_option Elab.async false
set_option linter.all false
set_option maxRecDepth 100000
set_option maxHeartbeats 4000000
/-! max of a list with a default. -/
namespace V1
open PySem PySem.Spec PyProof.Rows L2
def maxI (d : Int) : List Int → Int
  | [] => d
  | n :: r => r.foldl max n
theorem dpAll_ints {K : PySem.W.Frag} {H : Hp} : ∀ ns : List Int, DpAll K H (ns.map V.int) (ns.map PyData.int)
  | [] => .nil
  | n :: r => .cons (.int n) (dpAll_ints r)
theorem alike_ints (ns : List Int) : PySem.W.AlikeAll (ns.map PyData.int) := by
  refine ⟨fun x hx y hy => ?_, fun x hx => ?_⟩
  · obtain ⟨a, _, rfl⟩ := List.mem_map.mp hx
    obtain ⟨b, _, rfl⟩ := List.mem_map.mp hy
    rfl
  · obtain ⟨a, _, rfl⟩ := List.mem_map.mp hx
    intro z
    cases z
theorem cr_maxDef {X : Cx} {K : PySem.W.Frag} (hK : X.K = K) (hc : X.calm = true) (hu : X.A.units + 64 < cLine) : CallRK X (.builtin "max") [Str.ofString "default"] (fun vs zs H Q => ∃ (a : Addr) (ns : List Int) (d : Int), vs = [.ref a] ∧ zs = [.int d] ∧ SqL K H a (ns.map V.int) ∧ Q (.int (maxI d ns)) H) := by
  subst hK
  intro pins s σ H vs zs us ws Q I r rz h
  obtain ⟨a, ns, d, rfl, rfl, hs, q⟩ := h
  obtain rfl := Vals.ref1 r
  obtain ⟨w1, rfl, e1⟩ := vals1 rz
  obtain ⟨t, rfl⟩ := e1
  obtain ⟨its, rv, pl, hz⟩ := I.list hs
  obtain ⟨as, ra⟩ := Dp.readsAll I _ _ _ (dpAll_ints ns) rv
  refine PySem.W.max_list_default (vs := its.toArray) (I.ok.hd hc) pl.isList (by simpa using ra) (alike_ints ns) (by rw [depth_ints]; omega) (fun e h' tk hk => ?_) fun y ys i v h' tk bs e hv rr hk => ?_
  · have e2 : ns = [] := by simpa using e
    subst e2
    exact ⟨.int d, H, I.kept hk, ⟨_, rfl⟩, q⟩
  · cases ns with
    | nil => cases e
    | cons n r =>
      rw [List.map_cons] at e
      injection e with e2 e3
      subst e2 e3
      rw [PySem.W.maxD_ints] at rr
      cases rr
      exact ⟨.int (r.foldl max n), H, I.kept hk, ⟨_, rfl⟩, q⟩
section
variable {L : Rl} {Γ : List (Option PyData)} {ta : TE}
theorem eg_maxDef {ns : List Int} {d : Int} (h : EvD L ta Γ (lI ns)) : EvD L (tCKw (fun vs zs H Q => ∃ (a : Addr) (ns : List Int) (d : Int), vs = [.ref a] ∧ zs = [.int d] ∧ SqL L.K H a (ns.map V.int) ∧ Q (.int (maxI d ns)) H) (tCons ta tNil) (tCons (tC (.int d)) tNil)) Γ (.int (maxI d ns)) := fun A σ H hi he hg Q q => h A σ H hi he hg _ fun v d1 H1 r1 hv p => by
  subst p
  obtain ⟨p, xs, rfl, na, e, r⟩ := hv.list
  rw [r.ints] at e
  exact ⟨p, ns, d, rfl, rfl, SqL.of e, q _ _ H1 r1 (.inr (.int _)) rfl⟩
/-- a tuple of texts of the written part, by its address -/
theorem eg_gtup {a : Addr} {ws : List Str} (h : ∀ H, SqT L.K H a (ws.map V.str)) : EvD L (tC (.ref a)) Γ (.tuple (ws.map .str)) := fun A σ H hi he hg Q q => by
  have hk : KT L.K a (ws.map V.str) := by
    rcases h (fun _ => none) with (e | ⟨o, e⟩) | e
    · cases e
    · cases e
    · exact e
  refine q _ _ H (Rl.refl hg) (.inr (.ktup hk ?_)) rfl
  clear h hk q
  induction ws with
  | nil => exact .nil
  | cons w r ih => exact .cons (.str w) ih
end
end V1
set_option Elab.async false
set_option linter.all false
set_option maxRecDepth 100000
set_option maxHeartbeats 4000000
/-! A text, or None, in a dict of the written part. -/
namespace V1
open PySem PySem.Spec PyProof.Rows L2
theorem none_mapK {P : Program} {w : World} {K : PySem.W.Frag} {h : Heap} {d : Addr} {es : Array DictEntry} {n : Nat} (X : K.In h) (D : KDict K w d es n) : ∃ f, h.MapOf (noneKind P w) d f ∧ f none = none := by
  refine ⟨fun k => findBy (noneKind P w).is es k, ⟨_, es, n, X _ _ D.at_, ⟨rfl, rfl, rfl⟩, rfl, fun e he => ?_, fun k => rfl⟩, ?_⟩
  · obtain ⟨x, t, e1, e2⟩ := D.lit.all e (Array.mem_toList_iff.mpr he)
    refine ⟨some (.inr x), ?_, e2⟩
    show keyIs (.inr x) e.key = true
    rw [e1]
    exact PySem.strKind_is P w x t
  · have q : (es.find? fun e => nkIs none e.key) = none := by
      rw [Array.find?_eq_none]
      intro e he hq
      obtain ⟨x, t, e1, _⟩ := D.lit.all e (Array.mem_toList_iff.mpr he)
      rw [nk_none hq] at e1
      cases e1
    show (es.find? fun e => nkIs none e.key).map (·.val) = none
    rw [q] <;> rfl
section
variable {X : Cx} {d : Addr} {es : Array DictEntry} {n : Nat}
theorem op_in_kdN (D : KDict X.K X.w d es n) : OpR X (compareOp .In) (fun x y H Q => y = .ref d ∧ ((∃ (z : Str) (r : Option Value), x = .str z ∧ PySem.W.nsIn X.K d z = some r ∧ Q (.bl r.isSome) H) ∨ (x = .non ∧ Q (.bl false) H))) := by
  intro pins s σ H x y v u Q I rx ry h
  obtain ⟨rfl, h⟩ := h
  rcases h with ⟨z, r, rfl, e, q⟩ | ⟨rfl, q⟩
  · exact op_in_kd D pins s σ H _ _ v u Q I rx ry ⟨z, r, rfl, rfl, e, q⟩
  · cases ry
    obtain rfl : v = Value.none := rx
    obtain ⟨f, hm, hf⟩ := none_mapK (P := X.prog) (w := X.w) I.kIn D
    refine wpAny_in_of (show (noneKind X.prog X.w).is none .none = true from rfl) D.low hm ?_
    rw [hf]
    exact ⟨.bl false, H, I.tok _, rfl, q⟩
end
end V1
set_option Elab.async false
set_option linter.all false
set_option maxRecDepth 100000
set_option maxHeartbeats 4000000
/-! A list made here that grows in a loop. -/
namespace V1
open PySem PySem.Spec PyProof.Rows L2
/-- a new list whose things stand away from it -/
def EvL (L : Rl) (te : TE) (Γ : List (Option PyData)) (ds : List PyData) : Prop := ∀ A σ H, Inn A H → EnvOk L A σ H Γ → L.G 0 H → ∀ Q : VK, (∀ p xs H', L.R 0 H H' → H p = none → H' p = some (.lst xs) → DvAll L.K (fun b => A b ∨ b = p) H' xs ds → Q (.ref p) H') → te σ H Q
section
variable {L : Rl} {Γ : List (Option PyData)} {t : TA} {te te2 : TE} {B u : TS} {j : Nat} {N : List (Option PyData) → Prop} {Rt : PyData → Prop}
theorem evl_lst {ds : List PyData} (h : EaD L t Γ ds) (hn : nomk ds = true := by rfl) (hl : ds.length ≤ 1000 := by simp) : EvL L (tLst t) Γ ds := fun A σ H hi he hg Q q => h A σ H hi he hg _ fun vs ds' H1 r1 l hv p => by
  subst p
  refine ⟨Nat.le_trans (by rw [l]; exact hl) (by decide), fun p hp => ?_⟩
  have rr := Rl.newR (o := .lst vs) (Rl.gR (b := 0) hg r1) hp
  refine q p vs _ (L.tr (a := 0) (b := 0) r1 rr) (L.free r1 hp) upd_same ((all_of l hv hn).map fun b o na e k => ⟨fun z => z.elim na (ne_of_none e hp), ?_⟩)
  rw [upd_ne (ne_of_none e hp)]
  exact e
theorem EnvOk.less {A A' : Addr → Prop} {σ : L2.St} {H : Hp} (h : EnvOk L A' σ H Γ) (f : ∀ b, A b → A' b) : EnvOk L A σ H Γ := ⟨h.1, fun i d e => let ⟨v, h1, h2⟩ := h.2 i d e; ⟨v, h1, h2.imp (fun z => z) fun z => z.map fun b o na e k => ⟨fun w => na (f b w), e⟩⟩⟩
theorem sg_growE {wi : TI} {g : TG} {js : List Nat} {items ds0 : List PyData} {acc : Nat → List PyData} (I : Nat → List (Option PyData) → Prop) (hj : j < Γ.length) (hjs : j ∉ js) (h1 : EvL L te Γ ds0) (ha0 : acc 0 = ds0) (hlen : ∀ i, (acc i).length ≤ 100000)
    (hw : WkD L wi (Γ.set j none) items) (h0 : I 0 (Γ.set j none))
    (hb : ∀ (i : Nat) d Γi, items[i]? = some d → I i Γi → ∃ Γ' N1, TgG L g js d Γi Γ' ∧ (∀ v0, SK L j v0 0 B Γ' N1) ∧ ∀ G, N1 G → ∃ es, EvD L te2 G (.list es) ∧ es.length ≤ 100000 ∧ acc (i + 1) = acc i ++ es ∧ I (i + 1) G)
    (hN : ∀ Γe, I items.length Γe → SG L 0 u (Γe.set j (some (.list (acc items.length)))) N Rt) :
    SG L 0 (tSeq (tAsg te (gName j)) (tSeq (tFor wi g (tSeq B (tDrop (tBM L.K "list" rExtend (tVar j) (tCons te2 tNil))))) u)) Γ N Rt := fun A σ H hi he hg D q1 q2 => h1 A σ H hi he hg _ fun p xs0 H1 r1 hp0 eP dv0 => by
  have nAp : ¬ A p := fun z => hi p z hp0
  have g1 : L.G 0 H1 := Rl.gR (b := 0) hg r1
  have hi1 : Inn (fun b => A b ∨ b = p) H1 := fun b z y => z.elim (fun z => (hi.r r1) b z y) fun z => by rw [z, eP] at y; cases y
  have sj : (σ.set j (some (V.ref p)))[j]? = some (some (V.ref p)) := List.getElem?_set_self (by rw [he.1]; exact hj)
  have he1 : EnvOk L (fun b => A b ∨ b = p) (σ.set j (some (V.ref p))) H1 (Γ.set j none) := by
    refine ⟨by rw [List.length_set, List.length_set]; exact he.1, fun i d e => ?_⟩
    by_cases hij : j = i
    · subst hij
      rw [List.getElem?_set_self hj] at e
      cases e
    · rw [List.getElem?_set_ne hij] at e
      obtain ⟨v, e1, e2⟩ := he.2 i d e
      refine ⟨v, by rw [List.getElem?_set_ne hij]; exact e1, e2.imp (fun z => z) fun z => z.map fun b o na eb k => ⟨fun w => w.elim na (ne_of_none eb hp0), L.keep r1 eb k⟩⟩
  refine hw (fun b => A b ∨ b = p) _ H1 hi1 he1 g1 _ fun J H2 its r2 hits jk => ?_
  subst hits
  have eP2 : H2 p = some (.lst xs0) := L.keep r2 eP fxLst
  refine ⟨fun i m σ3 H3 => m = its.length - i ∧ i ≤ its.length ∧ L.R 0 H H3 ∧ Kp (fun b => A b ∨ b = p) H2 H3 ∧ σ3[j]? = some (some (V.ref p)) ∧ (∃ xs, H3 p = some (.lst xs) ∧ DvAll L.K (fun b => A b ∨ b = p) H3 xs (acc i)) ∧ ∃ Γi, EnvOk L (fun b => A b ∨ b = p) σ3 H3 Γi ∧ I i Γi, ⟨its.length, ?_⟩, ?_⟩
  · exact ⟨by omega, Nat.zero_le _, L.tr (a := 0) (b := 0) r1 r2, fun b o _ e _ => e, sj, ⟨xs0, eP2, by rw [ha0]; exact dv0.r r2⟩, _, he1.r r2, h0⟩
  · rintro i m σ3 H3 ⟨rfl, hle, r3, k3, s3, ⟨xs, eP3, dv3⟩, Γi, e3, p3⟩
    have g3 : L.G 0 H3 := Rl.gR (b := 0) hg r3
    have hi3 : Inn (fun b => A b ∨ b = p) H3 := fun b z y => z.elim (fun z => (hi.r r3) b z y) fun z => by rw [z, eP3] at y; cases y
    by_cases hlt : i < its.length
    · refine .inr ⟨jk.go i H3 k3 hlt, fun σ4 H4 => i + 1 ≤ its.length ∧ L.R 0 H H4 ∧ Kp (fun b => A b ∨ b = p) H2 H4 ∧ σ4[j]? = some (some (V.ref p)) ∧ (∃ xs, H4 p = some (.lst xs) ∧ DvAll L.K (fun b => A b ∨ b = p) H4 xs (acc (i + 1))) ∧ ∃ Γi, EnvOk L (fun b => A b ∨ b = p) σ4 H4 Γi ∧ I (i + 1) Γi, fun σ4 H4 h4 => ⟨its.length - (i + 1), by omega, rfl, h4⟩, fun x H4 y => ?_⟩
      obtain ⟨d, hd, sm, hdv⟩ := jk.yld i H3 x H4 k3 hi3 y hlt
      obtain ⟨Γ', N1, htg, hB, hes⟩ := hb i d Γi hd p3
      have r34 : L.R 0 H3 H4 := L.same g3 sm
      have dx : Dv L.K (fun b => A b ∨ b = p) H4 x d := hdv _ hi3 fun b o na e _ => na
      refine htg _ x σ3 H4 dx (e3.r r34) _ fun σ5 e5 w5 => ?_
      have s5 : σ5[j]? = some (some (V.ref p)) := by
        have hw5 := w5 js fun k hk => hk
        rw [← wipe_get hjs, hw5, wipe_get hjs]
        exact s3
      have g4 : L.G 0 H4 := Rl.gR (b := 0) g3 r34
      refine hB (V.ref p) _ σ5 H4 (hi3.r r34) e5 g4 s5 { nx := _, rt := _, bk := _, ct := _ } fun σ6 H6 Γ6 r6 e6 s6 p6 => ?_
      obtain ⟨es, he2, hl2, hacc, hI⟩ := hes Γ6 p6
      have r36 : L.R 0 H3 H6 := L.tr (a := 0) (b := 0) r34 r6
      have eP6 : H6 p = some (.lst xs) := L.keep r36 eP3 fxLst
      refine ⟨V.ref p, s6, .inl ⟨rfl, xs, SqL.of eP6⟩, ?_⟩
      refine he2 _ σ6 H6 (hi3.r r36) e6 (Rl.gR (b := 0) g3 r36) _ fun v d7 H7 r7 hv7 ed => ?_
      subst ed
      obtain ⟨b7, zs, rfl, nb7, eb7, dz⟩ := hv7.list
      have r37 : L.R 0 H3 H7 := L.tr (a := 0) (b := 0) r36 r7
      have eP7 : H7 p = some (.lst xs) := L.keep r37 eP3 fxLst
      have dv7 := dv3.r r37
      refine ⟨p, b7, xs, zs, rfl, rfl, eP7, eb7, ?_, ?_⟩
      · rw [dv7.length, dz.length]
        exact Nat.le_trans (Nat.add_le_add (hlen i) hl2) (by decide)
      · refine ⟨hlt, L.fresh (L.tr (a := 0) (b := 0) r3 r37) hp0 (.inr ⟨_, eP7⟩), fun b o na e k => ?_, s6, ⟨xs ++ zs, upd_same, ?_⟩, Γ6, (e6.r r7).off, hI⟩
        · rw [upd_ne (fun z => na (.inr z))]
          exact L.keep r37 (k3 b o na e k) k
        · rw [hacc]
          exact (dv7.app dz).off
    · have e : i = its.length := by omega
      subst e
      refine .inl ⟨jk.stop H3 k3, ?_⟩
      have e4 : EnvOk L A σ3 H3 Γi := e3.less fun b z => .inl z
      have dA : DvAll L.K A H3 xs (acc its.length) := dv3.map fun b o na e k => ⟨fun z => na (.inl z), e⟩
      have hlj : j < σ3.length := (List.getElem?_eq_some_iff.mp s3).1
      have e5 : EnvOk L A σ3 H3 (Γi.set j (some (.list (acc its.length)))) := by
        have h5 := e4.set (d := .list (acc its.length)) (v := V.ref p) (.inr (.lst nAp eP3 dA)) j
        have hs : σ3.set j (some (V.ref p)) = σ3 := by
          refine List.ext_getElem? fun i => ?_
          by_cases hij : j = i
          · subst hij
            rw [List.getElem?_set_self hlj, s3]
          · rw [List.getElem?_set_ne hij]
        rwa [hs] at h5
      exact hN Γi p3 A σ3 H3 (hi.r r3) e5 g3 D (fun σ6 H6 G6 r6 e6 p6 => q1 σ6 H6 G6 (L.tr (a := 0) (b := 0) r3 r6) e6 p6) fun v d H6 r6 e6 p6 => q2 v d H6 (L.tr (a := 0) (b := 0) r3 r6) e6 p6
end
end V1
set_option Elab.async false
set_option linter.all false
set_option maxRecDepth 100000
set_option maxHeartbeats 4000000
/-! A comprehension with two walks. -/
namespace V1
open PySem PySem.Spec PyProof.Rows L2
theorem EnvOk.kp {L : Rl} {Γ : List (Option PyData)} {A : Addr → Prop} {σ : L2.St} {H H' : Hp} (h : EnvOk L A σ H Γ) (k : Kp A H H') : EnvOk L A σ H' Γ := ⟨h.1, fun i d e => let ⟨v, h1, h2⟩ := h.2 i d e; ⟨v, h1, h2.imp (fun z => z) fun z => z.map fun b o na e kd => ⟨na, k b o na e kd⟩⟩⟩
def rowR (res : Nat → Nat → PyData) (i k : Nat) : List PyData := (List.range k).map (res i)
def flatR (inn : Nat → List PyData) (res : Nat → Nat → PyData) (n : Nat) : List PyData := (List.range n).flatMap fun i => rowR res i (inn i).length
theorem flatR_succ (inn : Nat → List PyData) (res : Nat → Nat → PyData) (n : Nat) : flatR inn res (n + 1) = flatR inn res n ++ rowR res n (inn n).length := by
  unfold flatR
  rw [List.range_succ, List.flatMap_append]
  simp
theorem rowR_succ (res : Nat → Nat → PyData) (i k : Nat) : rowR res i (k + 1) = rowR res i k ++ [res i k] := by
  unfold rowR
  rw [List.range_succ, List.map_append]
  rfl
section
variable {L : Rl} {Γ : List (Option PyData)} {te : TE}
theorem eg_lc2 {wi wi1 : TI} {g g1 : TG} {js js1 vs vs1 : List Nat} {items : List PyData} {inn : Nat → List PyData} {res : Nat → Nat → PyData} (hw : WkD L wi Γ items) (hj : ∀ j ∈ js, j ∈ vs) (hj1 : ∀ j ∈ js1, j ∈ vs1) (hl : items.length ≤ 1000) (hl2 : ∀ i, (inn i).length ≤ 1000)
    (hb : ∀ (i : Nat) d, items[i]? = some d → ∃ Γ', TgG L g js d (wipeD Γ vs) Γ' ∧ WkD L wi1 Γ' (inn i) ∧ ∀ (k : Nat) e, (inn i)[k]? = some e → ∃ Γ'', TgG L g1 js1 e (wipeD Γ' vs1) Γ'' ∧ res i k ≠ mark ∧ EvD L te Γ'' (res i k)) :
    EvD L (tLc2 wi g tYes wi1 g1 tYes te vs vs1) Γ (.list (flatR inn res items.length)) := fun A σ H hi he hg Q q => hw A σ H hi he hg _ fun J H1 its r1 hits jk D hD => by
  subst hits
  have hD0 : H D = none := L.free r1 hD
  have g1' : L.G 0 H1 := Rl.gR (b := 0) hg r1
  have lenF : ∀ n, n ≤ its.length → (flatR inn res n).length ≤ n * 1000 := by
    intro n
    induction n with
    | zero => intro _; exact Nat.le_refl _
    | succ n ih =>
      intro hn
      have h1 := ih (by omega)
      have h2 := hl2 n
      rw [flatR_succ, List.length_append]
      unfold rowR
      rw [List.length_map, List.length_range]
      omega
  refine ⟨fun i m H2 => m = its.length - i ∧ i ≤ its.length ∧ L.R 0 H H2 ∧ Kp A H1 H2 ∧ ∃ acc, H2 D = some (.lst acc) ∧ DvAll L.K (fun b => A b ∨ b = D) H2 acc (flatR inn res i), ⟨its.length, ?_⟩, ?_⟩
  · exact ⟨by omega, Nat.zero_le _, L.fresh r1 hD0 (.inl hD), fun b o _ e k => by rw [upd_ne (ne_of_none e hD)]; exact e, [], upd_same, .nil⟩
  · rintro i m H2 ⟨rfl, hle, r2, k2, acc, eD, dv⟩
    have naD : ∀ b, A b → H2 b ≠ none := fun b z => hi.r r2 b z
    by_cases hlt : i < its.length
    · refine .inr ⟨jk.go i H2 k2 hlt, fun H3 => i + 1 ≤ its.length ∧ L.R 0 H H3 ∧ Kp A H1 H3 ∧ ∃ acc, H3 D = some (.lst acc) ∧ DvAll L.K (fun b => A b ∨ b = D) H3 acc (flatR inn res (i + 1)),
        fun H3 h3 => ⟨its.length - (i + 1), by omega, rfl, h3⟩, fun x H3 y => ?_⟩
      obtain ⟨d, hd, sm, hdv⟩ := jk.yld i H2 x H3 k2 naD y hlt
      obtain ⟨Γ', htg, hw1, hin⟩ := hb i d hd
      have innA' : ∀ b, (A b ∨ b = D) → H2 b ≠ none := fun b z => z.elim (naD b) fun e => by rw [e, eD]; simp
      have dx : Dv L.K (fun b => A b ∨ b = D) H3 x d := hdv _ innA' fun b o na e _ z => z.elim na (ne_of_none e hD)
      have ev2 : EnvOk L (fun b => A b ∨ b = D) (wipe σ vs) H3 (wipeD Γ vs) := by
        have h0 : EnvOk L (fun b => A b ∨ b = D) (wipe σ vs) (upd H1 D (.lst [])) (wipeD Γ vs) := ((he.r r1).wipe vs).avoid hD
        refine ⟨h0.1, fun j d' e => ?_⟩
        obtain ⟨v, e1, e2⟩ := h0.2 j d' e
        refine ⟨v, e1, e2.imp (fun z => z) fun z => z.map fun b o na eb kd => ⟨na, sm _ _ (k2 b o (fun w => na (.inl w)) ?_ kd)⟩⟩
        rwa [upd_ne (fun w => na (.inr w))] at eb
      refine htg (fun b => A b ∨ b = D) x (wipe σ vs) H3 dx ev2 _ fun σ2 e3 w3 => ⟨?_, ?_⟩
      · rw [w3 vs hj, wipe_wipe vs fun v hv => hv]
      · show wi1 σ2 H3 _
        have g2 : L.G 0 H2 := Rl.gR (b := 0) hg r2
        have r3 : L.R 0 H2 H3 := L.same g2 sm
        have g3 : L.G 0 H3 := Rl.gR (b := 0) g2 r3
        have inn3 : Inn (fun b => A b ∨ b = D) H3 := fun b z y => innA' b z (L.free r3 y)
        refine hw1 (fun b => A b ∨ b = D) σ2 H3 inn3 e3 g3 _ fun J1 H4 its1 r4 hits1 jk1 => ?_
        subst hits1
        have r24 : L.R 0 H2 H4 := L.tr (a := 0) (b := 0) r3 r4
        have eD4 : H4 D = some (.lst acc) := L.keep r24 eD fxLst
        have e4 : EnvOk L (fun b => A b ∨ b = D) σ2 H4 Γ' := e3.r r4
        refine ⟨fun j k H5 => k = (inn i).length - j ∧ j ≤ (inn i).length ∧ L.R 0 H H5 ∧ Kp A H1 H5 ∧ Kp (fun b => A b ∨ b = D) H4 H5 ∧ ∃ acc, H5 D = some (.lst acc) ∧ DvAll L.K (fun b => A b ∨ b = D) H5 acc (flatR inn res i ++ rowR res i j), ⟨(inn i).length, ?_⟩, ?_⟩
        · exact ⟨by omega, Nat.zero_le _, L.tr (a := 0) (b := 0) r2 r24, fun b o na e k => L.keep r24 (k2 b o na e k) k, fun b o _ e _ => e, acc, eD4, by
            have e : rowR res i 0 = [] := rfl
            rw [e, List.append_nil]
            exact dv.r r24⟩
        · rintro j k H5 ⟨rfl, hle5, r5, k5, k45, acc5, eD5, dv5⟩
          have inn5 : ∀ b, (A b ∨ b = D) → H5 b ≠ none := fun b z => z.elim (fun z => hi.r r5 b z) fun e => by rw [e, eD5]; simp
          have g5 : L.G 0 H5 := Rl.gR (b := 0) hg r5
          by_cases hlt5 : j < (inn i).length
          · refine .inr ⟨jk1.go j H5 k45 hlt5, fun H6 => j + 1 ≤ (inn i).length ∧ L.R 0 H H6 ∧ Kp A H1 H6 ∧ Kp (fun b => A b ∨ b = D) H4 H6 ∧ ∃ acc, H6 D = some (.lst acc) ∧ DvAll L.K (fun b => A b ∨ b = D) H6 acc (flatR inn res i ++ rowR res i (j + 1)),
              fun H6 h6 => ⟨(inn i).length - (j + 1), by omega, rfl, h6⟩, fun x1 H6 y1 => ?_⟩
            obtain ⟨d1, hd1, sm1, hdv1⟩ := jk1.yld j H5 x1 H6 k45 inn5 y1 hlt5
            obtain ⟨Γ'', htg1, hmk, hev⟩ := hin j d1 hd1
            have dx1 : Dv L.K (fun b => A b ∨ b = D) H6 x1 d1 := hdv1 _ inn5 fun b o na e _ => na
            have r6 : L.R 0 H5 H6 := L.same g5 sm1
            have e6 : EnvOk L (fun b => A b ∨ b = D) (wipe σ2 vs1) H6 (wipeD Γ' vs1) := ((e4.kp k45).r r6).wipe vs1
            have inn6 : Inn (fun b => A b ∨ b = D) H6 := fun b z y => inn5 b z (L.free r6 y)
            refine htg1 (fun b => A b ∨ b = D) x1 (wipe σ2 vs1) H6 dx1 e6 _ fun σ3 e7 w7 => ⟨?_, ?_⟩
            · rw [w7 vs1 hj1, wipe_wipe vs1 fun v hv => hv]
            · show te σ3 H6 _
              refine hev (fun b => A b ∨ b = D) σ3 H6 inn6 e7 (Rl.gR (b := 0) g5 r6) _ fun yv dy H7 r7 hy ed => ?_
              subst ed
              have r57 : L.R 0 H5 H7 := L.tr (a := 0) (b := 0) r6 r7
              have eD7 : H7 D = some (.lst acc5) := L.keep r57 eD5 fxLst
              have hlen5 : acc5.length ≤ 2000000 := by
                rw [dv5.length, List.length_append]
                have h1 := lenF i hle
                have h2 := hl2 i
                unfold rowR
                rw [List.length_map, List.length_range]
                have h3 : i * 1000 ≤ 1000 * 1000 := Nat.mul_le_mul_right _ (by omega)
                omega
              refine ⟨acc5, eD7, Nat.lt_of_le_of_lt hlen5 (by decide), hlt5, L.fresh (L.tr (a := 0) (b := 0) r5 r57) hD0 (.inr ⟨_, eD7⟩), ?_, ?_, acc5 ++ [yv], upd_same, ?_⟩
              · intro b o na e k
                rw [upd_ne (ne_of_none e hD)]
                exact L.keep r57 (k5 b o na e k) k
              · intro b o na e k
                rw [upd_ne (fun z => na (.inr z))]
                exact L.keep r57 (k45 b o na e k) k
              · rw [rowR_succ, ← List.append_assoc]
                exact ((dv5.r r57).app (.cons (hy.ne hmk) .nil)).off
          · have e : j = (inn i).length := by omega
            subst e
            refine .inl ⟨jk1.stop H5 k45, ?_⟩
            show i + 1 ≤ its.length ∧ _
            exact ⟨hlt, r5, k5, acc5, eD5, by rw [flatR_succ]; exact dv5⟩
    · have e : i = its.length := by omega
      subst e
      refine .inl ⟨jk.stop H2 k2, ?_⟩
      have nD : ¬ A D := hi.no hD0
      exact q (.ref D) _ H2 r2 (.inr (.lst nD eD (dv.map fun b o na e _ => ⟨fun z => na (.inl z), e⟩))) rfl
end
end V1
set_option Elab.async false
set_option linter.all false
set_option maxRecDepth 100000
set_option maxHeartbeats 4000000
/-! A walk over range(a, b). -/
namespace V1
open PySem PySem.Spec PyProof.Rows L2
section
variable {L : Rl} {Γ : List (Option PyData)} {t : TA}
theorem wk_rng2 {i0 j0 : Int} (h : EaD L t Γ [.int i0, .int j0]) (hb : -(2 ^ 62) ≤ i0 ∧ i0 < 2 ^ 62 ∧ -(2 ^ 62) ≤ j0 ∧ j0 < 2 ^ 62) : WkD L (iRng2 t) Γ (rngD i0 (j0 - i0).toNat) := fun A σ H hi he hg R q => h A σ H hi he hg _ fun vs ds' H1 r1 hl hv p => by
  have p' : ds' = [.int i0, .int j0] := p
  subst p'
  obtain ⟨v, w, rfl, hx, hy⟩ := two_of hl hv
  obtain rfl := hx.int
  obtain rfl := hy.int
  refine ⟨i0, j0, rfl, hb, q _ H1 _ r1 rfl ⟨fun i H' k hi => ?_, fun i H' x H'' k hA y hi => ?_, fun H' k => ?_⟩⟩
  · have hi' : i < (j0 - i0).toNat := by simpa [rngD] using hi
    exact hi'
  · obtain ⟨rfl, rfl⟩ := y
    have hi' : i < (j0 - i0).toNat := by simpa [rngD] using hi
    refine ⟨.int (i0 + (i : Int)), ?_, Same.refl _, fun A' _ _ => .int _⟩
    unfold rngD
    rw [List.getElem?_map, List.getElem?_range hi']
    rfl
  · show (j0 - i0).toNat ≤ (rngD i0 (j0 - i0).toNat).length
    simp [rngD]
end
end V1
set_option Elab.async false
set_option linter.all false
set_option maxRecDepth 100000
set_option maxHeartbeats 4000000
/-! Comprehensions over longer walks. -/
namespace V1
open PySem PySem.Spec PyProof.Rows L2
section
variable {L : Rl} {A : Addr → Prop} {H H' H1 : Hp} {v : V} {d : PyData} {σ : L2.St} {Γ : List (Option PyData)} {n a b c : Nat} {te ta tb tl : TE} {t : TA} {tt tu : TT} {P P1 P2 : PyData → Prop}
theorem eg_lcGFW {wi : TI} {g : TG} {js vs : List Nat} {PI1 : List PyData → Prop} {Pt : List PyData → Nat → PyData → Prop} (hw : WkG L a wi Γ PI1) (hj : ∀ j ∈ js, j ∈ vs) (hlen : ∀ items, PI1 items → items.length ≤ b ∧ b ≤ 100000)
    (hb : ∀ items, PI1 items → ∀ (i : Nat) d, items[i]? = some d → ∃ Γ', TgG L g js d (wipeD Γ vs) Γ' ∧ EvG L c te Γ' (fun r => r ≠ mark ∧ Pt items i r)) :
    EvF L (a + b * c) (tLc wi g tYes te vs) Γ (fun r => ∃ items rs, PI1 items ∧ r = .list rs ∧ rs.length = items.length ∧ ∀ (i : Nat) d, rs[i]? = some d → Pt items i d) := fun A σ H hi he hg Q q => hw A σ H hi he (L.gle (Nat.le_add_right _ _) hg) _ fun J H1 items r1 hp jk D hD => by
  have hD0 : H D = none := L.free r1 hD
  obtain ⟨hl, hl2⟩ := hlen items hp
  have g1 : L.G (b * c) H1 := Rl.gR hg r1
  -- the walk's word
  refine ⟨fun i m H2 => m = items.length - i ∧ i ≤ items.length ∧ L.R (a + i * c) H H2 ∧ Kp A H1 H2 ∧ ∃ acc rs, H2 D = some (.lst acc) ∧ DvAll L.K (fun b => A b ∨ b = D) H2 acc rs ∧ rs.length = i ∧ ∀ (j : Nat) d, rs[j]? = some d → Pt items j d, ⟨items.length, ?_⟩, ?_⟩
  · refine ⟨by omega, Nat.zero_le _, ?_, fun b o _ e k => by rw [upd_ne (ne_of_none e hD)]; exact e, [], [], upd_same, .nil, rfl, fun j d e => by simp at e⟩
    have e0 : a + 0 * c = a := by rw [Nat.zero_mul, Nat.add_zero]
    rw [e0]
    exact L.fresh r1 hD0 (.inl hD)
  · rintro i m H2 ⟨rfl, hle, r2, k2, acc, rs, eD, dv, hrl, hpt⟩
    have naD : ∀ b, A b → H2 b ≠ none := fun b z => hi.r r2 b z
    by_cases hlt : i < items.length
    · refine .inr ⟨jk.go i H2 k2 hlt, fun H3 => i + 1 ≤ items.length ∧ L.R (a + (i + 1) * c) H H3 ∧ Kp A H1 H3 ∧ ∃ acc rs, H3 D = some (.lst acc) ∧ DvAll L.K (fun b => A b ∨ b = D) H3 acc rs ∧ rs.length = i + 1 ∧ ∀ (j : Nat) d, rs[j]? = some d → Pt items j d,
        fun H3 h3 => ⟨items.length - (i + 1), by omega, rfl, h3⟩, fun x H3 y => ?_⟩
      obtain ⟨d, hd, sm, hdv⟩ := jk.yld i H2 x H3 k2 naD y hlt
      obtain ⟨Γ', htg, hev⟩ := hb items hp i d hd
      have innA' : ∀ b, (A b ∨ b = D) → H2 b ≠ none := fun b z => z.elim (naD b) fun e => by rw [e, eD]; simp
      have dx : Dv L.K (fun b => A b ∨ b = D) H3 x d := hdv _ innA' fun b o na e _ z => z.elim na (ne_of_none e hD)
      -- the names, away from the new list
      have ev2 : EnvOk L (fun b => A b ∨ b = D) (wipe σ vs) H3 (wipeD Γ vs) := by
        have h0 : EnvOk L (fun b => A b ∨ b = D) (wipe σ vs) (upd H1 D (.lst [])) (wipeD Γ vs) := ((he.r r1).wipe vs).avoid hD
        refine ⟨h0.1, fun j d' e => ?_⟩
        obtain ⟨v, e1, e2⟩ := h0.2 j d' e
        refine ⟨v, e1, e2.imp (fun z => z) fun z => z.map fun b o na eb kd => ⟨na, sm _ _ (k2 b o (fun w => na (.inl w)) ?_ kd)⟩⟩
        rwa [upd_ne (fun w => na (.inr w))] at eb
      refine htg (fun b => A b ∨ b = D) x (wipe σ vs) H3 dx ev2 _ fun σ2 e3 w3 => ⟨?_, ?_⟩
      · rw [w3 vs hj, wipe_wipe vs fun v hv => hv]
      · show te σ2 H3 _
        have g0 : L.G (c + 0) H2 := by
          refine Rl.gR (a := a + i * c) ?_ r2
          refine L.gle ?_ hg
          have h1 : (i + 1) * c ≤ b * c := Nat.mul_le_mul_right _ (by omega)
          have h2 : (i + 1) * c = i * c + c := Nat.succ_mul _ _
          omega
        have r3 : L.R 0 H2 H3 := L.same (L.g0 g0) sm
        have g3 : L.G c H3 := Rl.gR (a := 0) (by rw [Nat.zero_add]; exact g0) r3
        refine hev (fun b => A b ∨ b = D) σ2 H3 (fun b z y => innA' b z (L.free r3 y)) e3 g3 _ fun y dy H4 r4 hy pw => ?_
        obtain ⟨hmk, hpt4⟩ := pw
        have eD4 : H4 D = some (.lst acc) := L.keep r4 (sm _ _ eD) fxLst
        refine ⟨acc, eD4, Nat.lt_of_le_of_lt (show acc.length ≤ 100000 by rw [dv.length, hrl]; omega) (by decide), hlt, ?_, ?_, acc ++ [y], rs ++ [dy], upd_same, ?_, by rw [List.length_append, hrl]; rfl, fun j d' e => ?_⟩
        · have hh : L.R (a + i * c + 0 + c) H H4 := L.tr (L.tr r2 r3) r4
          have e5 : a + (i + 1) * c = a + i * c + 0 + c := by rw [Nat.succ_mul]; omega
          rw [e5]
          exact L.fresh hh hD0 (.inr ⟨_, eD4⟩)
        · intro b o na e k
          have ne : b ≠ D := ne_of_none e hD
          rw [upd_ne ne]
          exact L.keep r4 (sm _ _ (k2 b o na e k)) k
        · have dv4 : DvAll L.K (fun b => A b ∨ b = D) H4 acc rs := (dv.map (fun b o na e k => ⟨na, sm _ _ e⟩) : DvAll L.K (fun b => A b ∨ b = D) H3 acc rs).r r4
          exact (dv4.app (.cons (hy.ne hmk) .nil)).off
        · by_cases hj2 : j < rs.length
          · rw [List.getElem?_append_left hj2] at e
            exact hpt j d' e
          · rw [List.getElem?_append_right (by omega)] at e
            have hj3 : j - rs.length = 0 := by
              have := (List.getElem?_eq_some_iff.mp e).1
              simp at this
              omega
            rw [hj3] at e
            simp at e
            subst e
            have : j = i := by omega
            subst this
            exact hpt4
    · have e : i = items.length := by omega
      subst e
      refine .inl ⟨jk.stop H2 k2, ?_⟩
      have nD : ¬ A D := hi.no hD0
      refine q D (.list rs) H2 (L.rle ?_ r2) hD0 (.inr (.lst nD eD (dv.map fun b o na e _ => ⟨fun z => na (.inl z), e⟩))) ⟨items, rs, hp, rfl, hrl, hpt⟩
      have := Nat.mul_le_mul_right c hl
      omega
theorem eg_lcGW {wi : TI} {g : TG} {js vs : List Nat} {PI1 : List PyData → Prop} {Pt : List PyData → Nat → PyData → Prop} (hw : WkG L a wi Γ PI1) (hj : ∀ j ∈ js, j ∈ vs) (hlen : ∀ items, PI1 items → items.length ≤ b ∧ b ≤ 100000)
    (hb : ∀ items, PI1 items → ∀ (i : Nat) d, items[i]? = some d → ∃ Γ', TgG L g js d (wipeD Γ vs) Γ' ∧ EvG L c te Γ' (fun r => r ≠ mark ∧ Pt items i r)) :
    EvG L (a + b * c) (tLc wi g tYes te vs) Γ (fun r => ∃ items rs, PI1 items ∧ r = .list rs ∧ rs.length = items.length ∧ ∀ (i : Nat) d, rs[i]? = some d → Pt items i d) := (eg_lcGFW hw hj hlen hb).eg
/-- each item comes to one thing -/
theorem eg_lcFW {wi : TI} {g : TG} {js vs : List Nat} {items rs : List PyData} (hw : WkD L wi Γ items) (hj : ∀ j ∈ js, j ∈ vs) (hlen : items.length ≤ 100000) (hr : rs.length = items.length)
    (hb : ∀ (i : Nat) d r, items[i]? = some d → rs[i]? = some r → r ≠ mark ∧ ∃ Γ', TgG L g js d (wipeD Γ vs) Γ' ∧ EvD L te Γ' r) : EvF L 0 (tLc wi g tYes te vs) Γ (fun x => x = .list rs) := by
  have h := eg_lcGFW (a := 0) (b := items.length) (c := 0) (te := te) (Pt := fun its i r => rs[i]? = some r) hw hj (fun its e => by rw [e]; exact ⟨Nat.le_refl _, hlen⟩) (fun its e i d hd => by
    subst e
    have hi : i < rs.length := by rw [hr]; exact (List.getElem?_eq_some_iff.mp hd).1
    obtain ⟨nm, Γ', h1, h2⟩ := hb i d rs[i] hd (List.getElem?_eq_getElem hi)
    refine ⟨Γ', h1, EvG.mono h2 (Nat.le_refl _) fun r e => ?_⟩
    rw [e]
    exact ⟨nm, List.getElem?_eq_getElem hi⟩)
  intro A σ H hi he hg Q q
  refine h A σ H hi he (L.gle (Nat.le_of_eq (by simp)) hg) Q fun p r H' rr hp hv ⟨its, rs', e1, e2, e3, e4⟩ => q p r H' (L.rle (Nat.le_of_eq (by simp)) rr) hp hv ?_
  rw [e2]
  congr 1
  subst e1
  refine List.ext_getElem? fun i => ?_
  by_cases hi : i < rs'.length
  · have z := e4 i rs'[i] (List.getElem?_eq_getElem hi)
    rw [z, List.getElem?_eq_getElem hi]
  · rw [List.getElem?_eq_none (by omega), List.getElem?_eq_none (by omega)]
theorem eg_lcW {wi : TI} {g : TG} {js vs : List Nat} {items rs : List PyData} (hw : WkD L wi Γ items) (hj : ∀ j ∈ js, j ∈ vs) (hlen : items.length ≤ 100000) (hr : rs.length = items.length)
    (hb : ∀ (i : Nat) d r, items[i]? = some d → rs[i]? = some r → r ≠ mark ∧ ∃ Γ', TgG L g js d (wipeD Γ vs) Γ' ∧ EvD L te Γ' r) : EvD L (tLc wi g tYes te vs) Γ (.list rs) := (eg_lcFW hw hj hlen hr hb).eg
end
end V1
set_option Elab.async false
set_option linter.all false
set_option maxRecDepth 100000
set_option maxHeartbeats 4000000
/-! A comprehension with a test, told for each item; targets of three. -/
namespace V1
open PySem PySem.Spec PyProof.Rows L2
def fil (keep : Nat → Bool) (res : Nat → PyData) (n : Nat) : List PyData := ((List.range n).filter keep).map res
theorem fil_succ (keep : Nat → Bool) (res : Nat → PyData) (n : Nat) : fil keep res (n + 1) = fil keep res n ++ (if keep n then [res n] else []) := by
  unfold fil
  rw [List.range_succ, List.filter_append, List.map_append]
  congr 1
  cases h : keep n <;> simp [List.filter, h]
theorem fil_len (keep : Nat → Bool) (res : Nat → PyData) (n : Nat) : (fil keep res n).length ≤ n := by
  unfold fil
  rw [List.length_map]
  exact Nat.le_trans (List.length_filter_le _ _) (by rw [List.length_range]; exact Nat.le_refl _)
section
variable {L : Rl} {Γ : List (Option PyData)} {te : TE} {tt : TT}
theorem eg_lcTD {wi : TI} {g : TG} {js vs : List Nat} {items : List PyData} {keep : Nat → Bool} {res : Nat → PyData} (hw : WkD L wi Γ items) (hj : ∀ j ∈ js, j ∈ vs) (hlen : items.length ≤ 100000)
    (hb : ∀ (i : Nat) d, items[i]? = some d → ∃ Γ', TgG L g js d (wipeD Γ vs) Γ' ∧ EtD L tt Γ' (keep i) ∧ (keep i = true → EvD L te Γ' (res i) ∧ res i ≠ mark)) :
    EvD L (tLc wi g tt te vs) Γ (.list (fil keep res items.length)) := fun A σ H hi he hg Q q => hw A σ H hi he hg _ fun J H1 its r1 hp jk D hD => by
  subst hp
  have hD0 : H D = none := L.free r1 hD
  have g1 : L.G 0 H1 := Rl.gR (b := 0) hg r1
  refine ⟨fun i m H2 => m = its.length - i ∧ i ≤ its.length ∧ L.R 0 H H2 ∧ Kp A H1 H2 ∧ ∃ acc, H2 D = some (.lst acc) ∧ DvAll L.K (fun b => A b ∨ b = D) H2 acc (fil keep res i), ⟨its.length, ?_⟩, ?_⟩
  · exact ⟨by omega, Nat.zero_le _, L.fresh r1 hD0 (.inl hD), fun b o _ e k => by rw [upd_ne (ne_of_none e hD)]; exact e, [], upd_same, .nil⟩
  · rintro i m H2 ⟨rfl, hle, r2, k2, acc, eD, dv⟩
    have naD : ∀ b, A b → H2 b ≠ none := fun b z => hi.r r2 b z
    by_cases hlt : i < its.length
    · refine .inr ⟨jk.go i H2 k2 hlt, fun H3 => i + 1 ≤ its.length ∧ L.R 0 H H3 ∧ Kp A H1 H3 ∧ ∃ acc, H3 D = some (.lst acc) ∧ DvAll L.K (fun b => A b ∨ b = D) H3 acc (fil keep res (i + 1)),
        fun H3 h3 => ⟨its.length - (i + 1), by omega, rfl, h3⟩, fun x H3 y => ?_⟩
      obtain ⟨d, hd, sm, hdv⟩ := jk.yld i H2 x H3 k2 naD y hlt
      obtain ⟨Γ', htg, htt, hev⟩ := hb i d hd
      have innA' : ∀ b, (A b ∨ b = D) → H2 b ≠ none := fun b z => z.elim (naD b) fun e => by rw [e, eD]; simp
      have dx : Dv L.K (fun b => A b ∨ b = D) H3 x d := hdv _ innA' fun b o na e _ z => z.elim na (ne_of_none e hD)
      have ev2 : EnvOk L (fun b => A b ∨ b = D) (wipe σ vs) H3 (wipeD Γ vs) := by
        have h0 : EnvOk L (fun b => A b ∨ b = D) (wipe σ vs) (upd H1 D (.lst [])) (wipeD Γ vs) := ((he.r r1).wipe vs).avoid hD
        refine ⟨h0.1, fun j d' e => ?_⟩
        obtain ⟨v, e1, e2⟩ := h0.2 j d' e
        refine ⟨v, e1, e2.imp (fun z => z) fun z => z.map fun b o na eb kd => ⟨na, sm _ _ (k2 b o (fun w => na (.inl w)) ?_ kd)⟩⟩
        rwa [upd_ne (fun w => na (.inr w))] at eb
      refine htg (fun b => A b ∨ b = D) x (wipe σ vs) H3 dx ev2 _ fun σ2 e3 w3 => ⟨?_, ?_⟩
      · rw [w3 vs hj, wipe_wipe vs fun v hv => hv]
      · have g2 : L.G 0 H2 := Rl.gR (b := 0) hg r2
        have r3 : L.R 0 H2 H3 := L.same g2 sm
        have g3 : L.G 0 H3 := Rl.gR (b := 0) g2 r3
        have inn3 : Inn (fun b => A b ∨ b = D) H3 := fun b z y => innA' b z (L.free r3 y)
        refine htt (fun b => A b ∨ b = D) σ2 H3 inn3 e3 g3 _ fun H4 r4 => ?_
        have r34 : L.R 0 H2 H4 := L.tr (a := 0) (b := 0) r3 r4
        have k4 : Kp A H1 H4 := fun b o na e k => L.keep r34 (k2 b o na e k) k
        have eD4 : H4 D = some (.lst acc) := L.keep r34 eD fxLst
        rw [fil_succ]
        have hal : acc.length ≤ 100000 := by
          rw [dv.length]
          have := fil_len keep res i
          omega
        cases hk : keep i with
        | false =>
          show i + 1 ≤ its.length ∧ _
          refine ⟨hlt, L.tr (a := 0) (b := 0) r2 r34, k4, acc, eD4, ?_⟩
          have e : (if false = true then [res i] else []) = ([] : List PyData) := rfl
          rw [e, List.append_nil]
          exact dv.r r34
        | true =>
          obtain ⟨hev1, hmk⟩ := hev hk
          show te σ2 H4 _
          refine hev1 (fun b => A b ∨ b = D) σ2 H4 (inn3.r r4) (e3.r r4) (Rl.gR (b := 0) g3 r4) _ fun y dy H5 r5 hy pw => ?_
          have pw' : dy = res i := pw
          subst pw'
          have eD5 : H5 D = some (.lst acc) := L.keep r5 eD4 fxLst
          have r25 : L.R 0 H2 H5 := L.tr (a := 0) (b := 0) r34 r5
          refine ⟨acc, eD5, Nat.lt_of_le_of_lt hal (by decide), hlt, L.fresh (L.tr (a := 0) (b := 0) r2 r25) hD0 (.inr ⟨_, eD5⟩), ?_, acc ++ [y], upd_same, ?_⟩
          · intro b o na e k
            have ne : b ≠ D := ne_of_none e hD
            rw [upd_ne ne]
            exact L.keep r25 (k2 b o na e k) k
          · exact ((dv.r r25).app (.cons (hy.ne hmk) .nil)).off
    · have e : i = its.length := by omega
      subst e
      refine .inl ⟨jk.stop H2 k2, ?_⟩
      have nD : ¬ A D := hi.no hD0
      exact q (.ref D) _ H2 r2 (.inr (.lst nD eD (dv.map fun b o na e _ => ⟨fun z => na (.inl z), e⟩))) rfl
theorem tg_three {i j k : Nat} {d1 d2 d3 : PyData} : TgG L (gTup L.K 3 (gCons (gName i) (gCons (gName j) (gCons (gName k) gNil)))) [i, j, k] (.tuple [d1, d2, d3]) Γ (((Γ.set i (some d1)).set j (some d2)).set k (some d3)) := fun A x σ H hx he Q q => by
  obtain ⟨p, xs, rfl, e, r⟩ := Dq.tuple (L := L) (.inr hx)
  cases r with
  | cons r1 r =>
    cases r with
    | cons r2 r =>
      cases r with
      | cons r3 r =>
        cases r
        refine ⟨p, _, rfl, e.sq, rfl, _, _, rfl, _, _, rfl, _, _, rfl, rfl, ?_⟩
        refine q _ (((he.set (.inr r1) i).set (.inr r2) j).set (.inr r3) k) fun vs hv => ?_
        rw [wipe_set (hv k (by simp)), wipe_set (hv j (by simp)), wipe_set (hv i (by simp))]
end
end V1
set_option Elab.async false
set_option linter.all false
set_option maxRecDepth 100000
set_option maxHeartbeats 4000000
/-! Lambdas, with default values at dV: made, and called. -/
namespace V1
open PySem PySem.Spec PySem.Calls PyProof.Rows L2
/-- a lambda's function data, its default values at dV -/
abbrev lamF (q : Str) (pa : Arguments) (b : Expr) (sc : Scope) (cl : List (Str × Addr)) (dV pm cd ct : Value) : FuncData := { PySem.W.kla_fn "<lambda>" q pa b sc cl pm cd ct with defaults := dV }
abbrev lamO (q : Str) (pa : Arguments) (b : Expr) (sc : Scope) (cl : List (Str × Addr)) (dV pm : Value) (c' : Addr) (ct : Value) : Obj := { cls := .type "function", data := .func (lamF q pa b sc cl dV pm (.ref c') ct) }
/-- the record of a code object -/
def RecAt (h : Heap) (c : Addr) (q : Str) : Prop := ∃ (oc : Obj) (vs : Array Value) (t : Tok), h.get? c = some oc ∧ oc.data = .fields vs ∧ vs[1]? = some (.str q t)
/-- what is left behind a lambda's code: found in the table, or the table one longer -/
inductive Left (P : Addr) (ps : Array Value) (q : Str) (h h' : Heap) (c' : Addr) : Prop
  | old : (∀ b o, h.get? b = some o → h'.get? b = some o) → (∃ pos, codeAmong pos ps.toList = some (.ref c')) → h.objs.size ≤ h'.objs.size → Left P ps q h h' c'
  | new (pos : Pos) : (∀ b o, b ≠ P → h.get? b = some o → h'.get? b = some o) → h.objs.size ≤ c' → c' < h'.objs.size → RecAt h' c' q → h'.get? P = some { cls := .none, data := .fields (ps ++ #[rawInt pos.line, rawInt pos.col, .ref c']) } → Left P ps q h h' c'
/-- the end of a lambda's making, its closure's tuple made -/
def tailC (q : Str) (pa : Arguments) (b : Expr) (sc : Scope) (env : Env) (cl : List (Str × Addr)) (dV : Value) (pos : Pos) (fl : Nat) (ct : Value) : Sem Value := do
  let code ← functionCode env pos fl "<lambda>" q pa sc (.expr b)
  let bl ← builtinsFor mainGlobals env.builtins
  let pm ← nsGet mainGlobals "__name__"
  let doc ← (pure .none : Sem Value)
  newObj (.type "function") (.func { name := "<lambda>", qualname := q, params := pa, body := .expr b, scope := sc, globals := mainGlobals, closure := cl, closureTuple := ct, code := code, builtins := bl, defaults := dV, kwdefaults := .none, annotations := none, pyModule := pm.getD .none, doc := doc })
section
variable {M : Model} {A : Around} {E : Value → Shared → Prop} {s : Shared} {q : Str} {pa : Arguments} {b : Expr} {sc : Scope} {env : Env} {c P : Addr} {ps : Array Value} {pos : Pos} {fl : Nat} {mg : Str → Option Value} {cl : List (Str × Addr)} {dV ct : Value} {Q : Value → Shared → Prop}
theorem tail_c (hg : s.heap.Ns mainGlobals mg) (ec : env.code = .ref c) (C : PySem.W.CodeHd s.heap c P) (tP : s.heap.get? P = some { cls := .none, data := .fields ps }) (ht : TriplesOk ps.toList) (nP : mainGlobals ≠ P) (hb : s.heap.BuiltinsAt mg P)
    (ha : ∀ (p' : Pos) (cv : Value), codeAmong p' ps.toList = some cv → ∃ c', cv = .ref c')
    (h : ∀ (c' : Addr) (h' : Heap) (tk : Tok), Left P ps q s.heap h' c' → Q (.ref h'.objs.size) { s with heap := h'.push (lamO q pa b sc cl dV ((mg "__name__").getD .none) c' ct), toks := tk }) :
    wpAny M A (tailC q pa b sc env cl dV pos fl ct) Q E s := by
  obtain ⟨bm, ob, b1, b2, b3, b4, b5, b6, b7, b8⟩ := hb
  unfold tailC
  cases hc : codeAmong pos ps.toList with
  | some cv =>
    obtain ⟨c', rfl⟩ := ha pos cv hc
    refine wpAny_bind (wpAny_functionCode_hit ec (C.code tP ht) hc ?_)
    refine wpAny_bind (wpAny_builtinsFor hg b1 b2 b5 b6 b7 b8 ?_)
    refine wpAny_bind (wpAny_nsGet hg (wpAny_bind (wpAny_pure ?_)))
    exact wpAny_newObj_type (h c' s.heap s.toks (.old (fun _ _ e => e) ⟨pos, hc⟩ (Nat.le_refl _))) (by size_fits)
  | none =>
    refine wpAny_bind (wpAny_functionCodeX ec (C.code tP ht) (C.tab tP) hc fun c' h' tk hx g1 g2 _ hr tb _ => ?_)
    have hg2 := hg.extBut hx nP
    refine wpAny_bind (wpAny_builtinsFor hg2 b1 b2 (hx _ _ b4 b5) b6 b7 b8 ?_)
    refine wpAny_bind (wpAny_nsGet hg2 (wpAny_bind (wpAny_pure ?_)))
    obtain ⟨c2, oc, vs, t, z, z1, z2, z3⟩ := hr
    cases z
    exact wpAny_newObj_type (h c' h' tk (.new pos hx g1 g2 ⟨oc, vs, t, z1, z2, z3⟩ tb.2)) (by size_fits)
theorem lam_tail (hcl : closureFor sc env = pure cl) (ge : env.globals = mainGlobals) (hg : s.heap.Ns mainGlobals mg) (ec : env.code = .ref c) (C : PySem.W.CodeHd s.heap c P) (tP : s.heap.get? P = some { cls := .none, data := .fields ps }) (ht : TriplesOk ps.toList) (nP : mainGlobals ≠ P) (hb : s.heap.BuiltinsAt mg P)
    (ha : ∀ (p' : Pos) (cv : Value), codeAmong p' ps.toList = some cv → ∃ c', cv = .ref c')
    (h : ∀ (c' : Addr) (ct : Value) (h' : Heap) (tk : Tok), Left P ps q s.heap h' c' → Q (.ref h'.objs.size) { s with heap := h'.push (lamO q pa b sc cl dV ((mg "__name__").getD .none) c' ct), toks := tk }) :
    wpAny M A (makeTail "<lambda>" q pa (.expr b) sc env dV .none none pos fl) Q E s := by
  unfold makeTail
  rw [hcl, ge]
  refine wpAny_bind (wpAny_pure ?_)
  cases cl with
  | nil =>
    simp only [List.isEmpty_nil, if_true]
    refine wpAny_bind (wpAny_pure ?_)
    exact tail_c hg ec C tP ht nP hb ha fun c' h' tk l => h c' _ h' tk l
  | cons y r =>
    simp only [List.isEmpty_cons, Bool.false_eq_true, if_false]
    refine wpAny_bind (wpAny_newTextTuple ?_)
    have kp : ∀ (o : Obj) (b : Addr) (u : Obj), s.heap.get? b = some u → (s.heap.push o).get? b = some u := fun o b u e => Heap.get?_push_of_some _ e
    refine tail_c (s := { s with heap := s.heap.push _ }) (hg.push _) ec (C.keeps (kp _)) (kp _ _ _ tP) ht nP (hb.keeps (kp _)) ha fun c' h' tk l => h c' _ h' tk ?_
    cases l with
    | old k1 k2 k3 => exact .old (fun b o e => k1 b o (kp _ b o e)) k2 (Nat.le_trans (by rw [Heap.size_push]; omega) k3)
    | new p2 k1 k2 k3 k4 k5 => exact .new p2 (fun b o n e => k1 b o n (kp _ b o e)) (Nat.le_trans (by rw [Heap.size_push]; omega) k2) k3 k4 k5
end
end V1
set_option Elab.async false
set_option linter.all false
set_option maxRecDepth 100000
set_option maxHeartbeats 4000000
namespace V1
open PySem PySem.Spec PySem.Calls PyProof.Rows L2 LamX
section
variable {X : Cx} {pins : List (Addr × Obj)} {σ : L2.St} {H : Hp} {s : Shared}
/-- a lambda is made: what holds of the function object at f -/
structure Made (X : Cx) (T : List (Addr × Str)) (H H1 : Hp) (q : Str) (f c' : Addr) : Prop where
  ext : ExtN H H1
  nn : ∀ b, H b ≠ none → H1 b ≠ none
  tabs : Tabs T H1
  free : H1 f = none
  nofr : f ∉ frs X.stack
  code : H1 c' = some (CodeO c' q)
theorem lam_mk {T : List (Addr × Str)} {c P : Addr} {pa : Arguments} {b : Expr} {sc : Scope} {pos : Pos} {fl : Nat} {dV : Value} {E : Value → Shared → Prop} {Q : Value → Shared → Prop} (I : Inv X pins σ H s) (TB : TabB X.base X.mg c P) (ec : X.env.code = .ref c)
    (hm : (P, X.env.qual ++ "<lambda>") ∈ T) (hu : ∀ p ∈ T, p.1 = P → p.2 = X.env.qual ++ "<lambda>") (hT : Tabs T H) (hfree : ∀ y ∈ sc.names, y.2 = .free → ∃ c, X.env.cells.lookup y.1 = some c)
    (h : ∀ (f c' : Addr) (pm ct : Value) (H1 : Hp) (s' : Shared), Inv X pins σ H1 s' → Made X T H H1 (X.env.qual ++ "<lambda>") f c' →
      s'.heap.get? f = some (lamO (X.env.qual ++ "<lambda>") pa b sc (cloFrom X.env.cells sc.names []) dV pm c' ct) → Q (.ref f) s') :
    wpAny (model X.prog X.w) X.A (makeTail "<lambda>" (X.env.qual ++ "<lambda>") pa (.expr b) sc X.env dV .none none pos fl) Q E s := by
  obtain ⟨ps, hP, ht, ha⟩ := hT _ hm
  have tP : s.heap.get? P = some { cls := .none, data := .fields ps } := I.hok P _ hP
  have nof : ∀ f, s.heap.objs.size ≤ f → f ∉ frs X.stack := fun f hf z => by
    rcases List.mem_cons.mp (I.stkSub _ z) with e | e
    · have l2 := I.lt
      rw [← e] at l2
      exact absurd hf (Nat.not_le.mpr l2)
    · exact I.nofs hf e
  refine lam_tail (mg := X.mg) (c := c) (P := P) (ps := ps) (closure_ok hfree) I.ok.glob (I.mod.glob.keeps I.bk) ec (TB.code.keeps I.bk) tP ht TB.gP (TB.bm.keeps I.bk) (fun p' cv e => ?_) fun c' ct h' tk l => ?_
  · obtain ⟨c', e1, _⟩ := ha p' cv e
    exact ⟨c', e1⟩
  cases l with
  | old k1 k2 k3 =>
    obtain ⟨p2, e2⟩ := k2
    obtain ⟨c3, e3, e4⟩ := ha p2 _ e2
    cases e3
    have I1 := I.kept (t' := tk) (h' := h'.push (lamO (X.env.qual ++ "<lambda>") pa b sc (cloFrom X.env.cells sc.names []) dV ((X.mg "__name__").getD .none) c' ct)) fun b o e => Heap.get?_push_of_some _ (k1 b o e)
    exact h _ c' _ ct H _ I1 ⟨ExtN.refl H, fun b z => z, hT, I.hok.fresh k3, nof _ k3, e4⟩ (Heap.get?_push_size _ rfl)
  | new p2 k1 k2 k3 k4 k5 =>
    have hsz := Nat.le_trans k2 (Nat.le_of_lt k3)
    have nC : H c' = none := I.hok.fresh k2
    have nPc : P ≠ c' := ne_of_none hP nC
    obtain ⟨oc, vs, t, r1, r2, r3⟩ := k4
    have I1 := inv_table (t' := tk) (more := #[rawInt p2.line, rawInt p2.col, .ref c']) (h' := h'.push (lamO (X.env.qual ++ "<lambda>") pa b sc (cloFrom X.env.cells sc.names []) dV ((X.mg "__name__").getD .none) c' ct)) I hP
      (fun b o n e => Heap.get?_push_of_some _ (k1 b o n e)) (Heap.get?_push_of_some _ k5) k2 ⟨oc, vs, t, Heap.get?_push_of_some _ r1, r2, r3⟩
    generalize hH1 : upd (upd H P (.tbl (ps ++ #[rawInt p2.line, rawInt p2.col, .ref c']))) c' (CodeO c' (X.env.qual ++ "<lambda>")) = H1 at I1
    have at1 : ∀ b, b ≠ P → b ≠ c' → H1 b = H b := fun b n1 n2 => by rw [← hH1, upd_ne n2, upd_ne n1]
    have atP : H1 P = some (.tbl (ps ++ #[rawInt p2.line, rawInt p2.col, .ref c'])) := by rw [← hH1, upd_ne nPc, upd_same]
    have atC : H1 c' = some (CodeO c' (X.env.qual ++ "<lambda>")) := by rw [← hH1, upd_same]
    have hE : ExtN H H1 := fun b o e n => by
      rw [at1 b (fun z => n ps (by rw [z, hP] at e; exact (Option.some.inj e).symm)) (ne_of_none e nC)]
      exact e
    have hN : ∀ b, H b ≠ none → H1 b ≠ none := fun b z y => by
      by_cases n1 : b = P
      · rw [n1, atP] at y
        cases y
      · by_cases n2 : b = c'
        · rw [n2, atC] at y
          cases y
        · rw [at1 b n1 n2] at y
          exact z y
    have eL : (ps ++ #[rawInt p2.line, rawInt p2.col, .ref c']).toList = ps.toList ++ [rawInt p2.line, rawInt p2.col, .ref c'] := by simp
    refine h _ c' _ ct H1 _ I1 ⟨hE, hN, fun p hp => ?_, ?_, nof _ hsz, atC⟩ (Heap.get?_push_size _ rfl)
    · by_cases hb : p.1 = P
      · rw [hu p hp hb, hb]
        refine ⟨_, atP, by rw [eL]; exact PySem.TriplesOk_snoc _ _ _ _ ht, fun p' cv hcv => ?_⟩
        rw [eL] at hcv
        rcases among_app _ ht hcv with z | z
        · obtain ⟨c0, e1, e2⟩ := ha p' cv z
          exact ⟨c0, e1, hE _ _ e2 codeO_ne⟩
        · exact ⟨c', z, atC⟩
      · obtain ⟨ps', a1, a2, a3⟩ := hT p hp
        refine ⟨ps', by rw [at1 _ hb (ne_of_none a1 nC)]; exact a1, a2, fun p' cv hcv => ?_⟩
        obtain ⟨c0, e1, e2⟩ := a3 p' cv hcv
        exact ⟨c0, e1, hE _ _ e2 codeO_ne⟩
    · have n1 : h'.objs.size ≠ c' := Nat.ne_of_gt k3
      have n2 : h'.objs.size ≠ P := Nat.ne_of_gt (Nat.lt_of_lt_of_le (Heap.lt_size tP) hsz)
      rw [at1 _ n2 n1]
      exact I.hok.fresh hsz
end
end V1
set_option Elab.async false
set_option linter.all false
set_option maxRecDepth 100000
set_option maxHeartbeats 4000000
namespace V1
open PySem PySem.Spec PySem.Calls PyProof.Rows L2 LamX
/-- a lambda's names: captured ones, globals, its own parameters, which are no slots of the maker (N) -/
structure LamN (N : List Str) (sc scope : Scope) : Prop where
  kind : scope.kind = .function
  co : scope.isCoroutine = false
  gen : scope.isGenerator = false
  cell : ∀ y ∈ scope.names, y.2 ≠ .cell
  loc : ∀ y ∈ scope.names, y.2 = .local → y.1 ∉ N
  free : ∀ y ∈ scope.names, y.2 = .free → sc.names.lookup y.1 = some .cell ∨ sc.names.lookup y.1 = some .free
def lamNB (N : List Str) (sc scope : Scope) : Bool :=
  decide (scope.kind = .function) && (!scope.isCoroutine && (!scope.isGenerator && (scope.names.all (fun y => !decide (y.2 = .cell)) && (scope.names.all (fun y => !decide (y.2 = .local) || !decide (y.1 ∈ N)) && scope.names.all fun y => !decide (y.2 = .free) || (decide (sc.names.lookup y.1 = some .cell) || decide (sc.names.lookup y.1 = some .free))))))
theorem lamN_by {N : List Str} {sc scope : Scope} (h : lamNB N sc scope = true) : LamN N sc scope := by
  unfold lamNB at h
  simp only [Bool.and_eq_true, Bool.or_eq_true, Bool.not_eq_true', decide_eq_true_eq, decide_eq_false_iff_not, List.all_eq_true] at h
  obtain ⟨a1, a2, a3, a4, a5, a6⟩ := h
  exact ⟨a1, a2, a3, a4, fun y hy e => (a5 y hy).elim (fun z => absurd e z) id, fun y hy e => (a6 y hy).elim (fun z => absurd e z) id⟩
section
variable {X : Cx} {pins : List (Addr × Obj)} {σ : L2.St} {H HZ : Hp} {s s1 : Shared}
theorem LamN.has {scope : Scope} (L : LamN X.N X.env.scope scope) (ok : X.Ok) (y : Str × NameKind) (hy : y ∈ scope.names) (e : y.2 = .free) : ∃ c, X.env.cells.lookup y.1 = some c :=
  (L.free y hy e).elim (fun k => ok.has _ (.inl k)) fun k => ok.has _ (.inr k)
theorem lam_in {A : Around} {outer : List Env} {E : XK} {scope : Scope} {f c' : Addr} {h₁ : Heap} {tk : Nat} {mm : Str → Option Value} (I : Inv X pins σ H s) (L : LamN X.N X.env.scope scope) (e0 : Env0 X.prog X.w X.K X.mg X.base A outer s1 HZ) (hd : A.handled = none)
    (un : Un (frs X.stack) [] H HZ s.heap s1.heap) (hns : h₁.Ns s1.heap.objs.size mm) (kp : ∀ b o, s1.heap.get? b = some o → h₁.get? b = some o) :
    Inv (lamCx X A outer s1 HZ E scope f c') [] σ HZ { s1 with heap := h₁, toks := tk } := by
  have hfree := L.has I.ok
  have cm : ∀ {y c}, (cloFrom X.env.cells scope.names []).lookup y = some c → X.env.cells.lookup y = some c := by
    intro y c e
    rcases cloFrom_mem (PySem.mem_of_lookup e) with hm | ⟨g1, g2⟩
    · cases hm
    · obtain ⟨c1, hc⟩ := hfree _ g1 rfl
      have hc1 : X.env.cells.lookup y = some c1 := hc
      have ee : c = c1 := by
        rw [g2, hc1]
        rfl
      rw [ee]
      exact hc1
  have look : ∀ {y}, scope.names.lookup y = some .free → ∃ c, (cloFrom X.env.cells scope.names []).lookup y = some c := fun {y} hl =>
    mem_lookup (cloFrom_has (cells := X.env.cells) (acc := []) (show (y, NameKind.free) ∈ scope.names from PySem.mem_of_lookup hl))
  have cellK : ∀ {c : Addr} {v : Option Value}, H c = none → s.heap.IsCell c v → h₁.IsCell c v := by
    intro c v n ⟨o, ho, q⟩
    obtain ⟨sl, z⟩ := un.any ho n (by simp)
    exact ⟨_, kp _ _ z, q⟩
  have noE : ∀ b : Addr, b ∉ (lamCx X A outer s1 HZ E scope f c').ex := fun b z => absurd (show b ∈ ([] : List Addr) from z) (by simp)
  have ok : (lamCx X A outer s1 HZ E scope f c').Ok := {
    mod := e0.mod
    kind := L.kind
    glob := rfl
    blt := rfl
    above := Nat.le_refl _
    inj := fun y z c e1 e2 => I.ok.inj y z c (cm e1) (cm e2)
    has := fun y hy => by
      have hy2 : scope.names.lookup y = some .cell ∨ scope.names.lookup y = some .free := hy
      rcases hy2 with z | z
      · exact absurd rfl (L.cell _ (PySem.mem_of_lookup z))
      · exact look z
    cab := fun y c z _ => by
      have z2 : false = true := z
      cases z2
    hd := fun _ => hd
    frames := Around.frames_deeper e0.frames
    stk := .inr ⟨rfl, rfl⟩
    exf := fun b z => absurd z (noE b)
    bs := e0.bs
    bsz := e0.bsz
    noex := fun b _ _ => noE b
    exfs := fun b z => absurd z (noE b)
    funs := e0.funs
    frf := e0.frf }
  refine { ok := ok, os := rfl, bare := e0.bare, base := Un.kept kp, loc := ⟨mm, hns, fun i y v e1 e2 e3 => ?_⟩, cell := fun y c e => ?_, free := e0.hok.fresh (Nat.le_refl _), freeC := fun y c e => ?_, pin := fun q hq => absurd (show q ∈ ([] : List (Addr × Obj)) ++ [] from hq) (by simp), hok := e0.hok.kept kp, len := I.len }
  · have e4 : Vis scope y := e3
    have hyN : y ∈ X.N := List.mem_of_getElem? (show X.N[i]? = some y from e1)
    rcases e4 with k | k | k
    · exact absurd hyN (L.loc _ (PySem.mem_of_lookup k) rfl)
    · exact absurd rfl (L.cell _ (PySem.mem_of_lookup k))
    · obtain ⟨m, hn, hl⟩ := I.loc
      have fr := L.free _ (PySem.mem_of_lookup k) rfl
      obtain ⟨u, r, q⟩ := hl i y v e1 e2 (fr.elim (fun z => .inr (.inl z)) fun z => .inr (.inr z))
      obtain ⟨c2, h2⟩ := look k
      refine ⟨u, r, .inr ⟨.inr k, c2, h2, ?_⟩⟩
      have c1 := cm h2
      rcases q with ⟨k1, _⟩ | ⟨_, c3, e5, z⟩
      · have k2 : X.env.scope.names.lookup y = some .local := k1
        rcases fr with f1 | f1
        · rw [show X.env.scope.names.lookup y = _ from f1] at k2
          cases k2
        · rw [show X.env.scope.names.lookup y = _ from f1] at k2
          cases k2
      · rw [c1] at e5
        cases e5
        exact cellK (I.freeC y _ c1) z
  · obtain ⟨u, z⟩ := I.cell y c (cm e)
    exact ⟨u, cellK (I.freeC y c (cm e)) z⟩
  · obtain ⟨v, o, ho, q⟩ := I.cell y c (cm e)
    exact un.free c o ho (I.freeC y c (cm e)) (by simp)
end
end V1
set_option Elab.async false
set_option linter.all false
set_option maxRecDepth 100000
set_option maxHeartbeats 4000000
namespace V1
open PySem PySem.Spec PySem.Calls PyProof.Rows L2 LamX
/-- what a call without arguments binds, the tuples of H being there -/
def BindL (H : Hp) (fd : FuncData) : Prop := ∀ (P : Program) (w : World) (HZ : Hp) (h : Heap), (∀ b xs, H b = some (.tup xs) → HZ b = some (.tup xs)) → HOk P w HZ h → ∃ bs : List (Str × Value), (∀ M, PySem.W.Looks M h (bindArgs fd ⟨[], []⟩) bs) ∧ ∀ y ∈ bs, fd.scope.names.lookup y.1 = some .local
theorem bindL_pure {H : Hp} {fd : FuncData} (h : bindArgs fd ⟨[], []⟩ = pure []) : BindL H fd := fun _ _ _ _ _ _ => ⟨[], fun M => PySem.W.Looks.of_pure h, fun y hy => by cases hy⟩
section
variable {X : Cx} {pins : List (Addr × Obj)} {σ : L2.St} {H : Hp} {s : Shared}
/-- call(), in the def that got the lambda at f -/
theorem pe_actD {CXg : CXT} {Eg : XK} {Ng : List Str} {qg : Str} {sg : Scope} {g f c' : Addr} {cdg pm ct dV : Value} {pa : Arguments} {body : Expr} {scope : Scope} {k i : Nat} {a : Str} {pn : List (Addr × Obj)} {xe : Value → Shared → Prop} {W : WX} {tb : XK → TE} {p1 p2 : Pos}
    (I : Inv X pins σ H s) (L : LamN X.N X.env.scope scope) (hf : s.heap.get? f = some (lamO (X.env.qual ++ "<lambda>") pa body scope (cloFrom X.env.cells scope.names []) dV pm c' ct)) (hfn : H f = none) (hfr : f ∉ frs X.stack)
    (hb : BindL H (lamF (X.env.qual ++ "<lambda>") pa body scope (cloFrom X.env.cells scope.names []) dV pm (.ref c') ct))
    (tk : Takes ((cxOf CXg X.prog X.w X.K X.mg X.base Ng qg sg g cdg X.A X.stack s H Eg).tr pn xe) W) (hr : Room (k + 1) (X.A.deeper (envOfC qg sg s.heap.objs.size g cdg)))
    (hbody : ∀ (A : Around) (outer : List Env) (s2 : Shared) (H2 : Hp) (E : XK), A = X.A.deeper (envOfC qg sg s.heap.objs.size g cdg) → Room k (A.deeper (lamEnv X scope s2.heap.objs.size f c')) → PE (lamCx X A outer s2 H2 E scope f c') body (tb E))
    (hN : Ng[i]? = some a) (hv : Vis sg a) (hd : (a == ("__debug__" : Str)) = false) (hcd : (a == ("__classdict__" : Str)) = false) :
    PE ((cxOf CXg X.prog X.w X.K X.mg X.base Ng qg sg g cdg X.A X.stack s H Eg).tr pn xe) (.Call (.Name a p1) [] [] p2)
      (fun σZ HZ Q => σZ[i]? = some (some (.ref f)) ∧ HZ c' = some (CodeO c' (X.env.qual ++ "<lambda>")) ∧ tb (WE W σZ) σ HZ Q) := by
  refine ⟨fun pZ sZ σZ HZ Q IZ ⟨hs, hc, ht⟩ => ?_⟩
  refine wpAny_Call_Name_kw (thn ((pe_var (pos := p1) (i := i) hN hv hd hcd).run pZ sZ σZ HZ (fun v H1 => v = .ref f ∧ H1 = HZ) IZ ⟨.ref f, hs, rfl, rfl⟩) fun u s1 ⟨v, H1, I1, r1, ev, eH⟩ => ?_)
  subst ev eH
  obtain rfl : u = Value.ref f := r1
  have un : Un (frs X.stack) [] H H1 s.heap s1.heap := I1.base
  have of1 : s1.heap.get? f = some (lamO (X.env.qual ++ "<lambda>") pa body scope (cloFrom X.env.cells scope.names []) dV pm c' ct) := un.keep f _ hf hfn hfr (fun z => nomatch (show f ∈ ([] : List Addr) from z))
  refine PySem.W.callWith_F0 ⟨_, _, _, _, of1⟩ ?_
  obtain ⟨⟨oc, vs, t, z1, z2, z3⟩, _, _⟩ := I1.hok c' _ hc
  obtain ⟨bs, b1, b2⟩ := hb _ _ H1 s1.heap un.tups I1.hok
  have rc : codeAny (model X.prog X.w) (X.A.deeper (envOfC qg sg s.heap.objs.size g cdg)) (.call (.ref f) ⟨[], []⟩) (CR (L2.CX X.prog X.w) (envOfC qg sg s.heap.objs.size g cdg :: X.stack) X.prog X.w H1 s1 Q (WE W σZ)) s1 := by
    refine PySem.W.kla_callFunE hr.depth of1 rfl L.co L.gen rfl ⟨c', oc, vs, t, rfl, z1, z2, z3⟩ ((b1 _).here ?_)
    refine wpAny_newFunctionEnv L.cell b2 (fun h₁ hns hsb => ⟨I1.nolimit.fresh _ hsb, ?_⟩) L.kind
    have kp : ∀ b o, s1.heap.get? b = some o → h₁.get? b = some o := fun b o e => hsb.extBut b o (Nat.ne_of_lt (Heap.lt_size e)) (Heap.get?_push_of_some _ e)
    have J := lam_in (E := WE W σZ) (f := f) (c' := c') (tk := s1.toks + bs.length) I L I1.env0 hr.hd un hns kp
    show codeAny _ _ (.expr body (lamEnv X scope _ f c')) _ _
    refine PySem.W.kla_codeExpr (wpAny_mono ((hbody _ _ s1 H1 (WE W σZ) rfl (hr.deeper _)).run [] _ _ H1 Q J ht) (fun v s' hq => ?_) fun e s' hq => hq)
    obtain ⟨w', H', J', rv, q⟩ := hq
    exact ⟨w', H', J'.os, J'.bare, J'.base, J'.hok, rv, q⟩
  refine wpAny_call (codeAny_mono rc fun r s' hq => ?_)
  match r, hq with
  | .error e, hq => exact passAt tk σZ pZ H1 s1 e s' I1 hq
  | .ok (.ret u), hq => exact I1.after hq
  | .ok .next, hq => exact hq.elim
  | .ok .brk, hq => exact hq.elim
  | .ok .cont, hq => exact hq.elim
end
end V1
set_option Elab.async false
set_option linter.all false
set_option maxRecDepth 100000
set_option maxHeartbeats 4000000
namespace V1
open PySem PySem.Spec PySem.Calls PyProof.Rows L2 LamX
/-- a lambda expression: it makes a function object whose call without arguments binds -/
def MkL (X : Cx) (T : List (Addr × Str)) (e : Expr) (pa : Arguments) (body : Expr) (sc : Scope) : Prop := ∀ (pins : List (Addr × Obj)) (σ : L2.St) (H : Hp) (s : Shared) (E Q : Value → Shared → Prop), Inv X pins σ H s → Tabs T H →
  (∀ (f c' : Addr) (pm ct dV : Value) (H1 : Hp) (s' : Shared), Inv X pins σ H1 s' → Made X T H H1 (X.env.qual ++ "<lambda>") f c' → s'.heap.get? f = some (lamO (X.env.qual ++ "<lambda>") pa body sc (cloFrom X.env.cells sc.names []) dV pm c' ct) →
    BindL H1 (lamF (X.env.qual ++ "<lambda>") pa body sc (cloFrom X.env.cells sc.names []) dV pm (.ref c') ct) → Q (.ref f) s') → wpAny (model X.prog X.w) X.A (eval e X.env) Q E s
/-- where the maker's lambdas stand: its code object, its table -/
structure LamP (X : Cx) (T : List (Addr × Str)) : Prop where
  ex : ∃ c P, TabB X.base X.mg c P ∧ X.env.code = .ref c ∧ (P, X.env.qual ++ "<lambda>") ∈ T ∧ ∀ p ∈ T, p.1 = P → p.2 = X.env.qual ++ "<lambda>"
section
variable {X : Cx} {T : List (Addr × Str)} {pa : Arguments} {body : Expr} {sc : Scope} {pos : Pos}
theorem mkl0 (LP : LamP X T) (L : LamN X.N X.env.scope sc) (hd : defaultsOf pa X.env = ([], []))
    (hb : ∀ (q : Str) (cl : List (Str × Addr)) (pm cv ct : Value), bindArgs (lamF q pa body sc cl .none pm cv ct) ⟨[], []⟩ = pure []) : MkL X T (.Lambda pa body sc pos) pa body sc := fun pins σ H s E Q I hT h => by
  obtain ⟨c, P, TB, ec, hm, hu⟩ := LP.ex
  refine PySem.W.kla_eval hd ?_
  rw [makeFunction_eq]
  simp only [List.zip_nil_right, List.filterMap_nil, List.isEmpty_nil, if_true, pure_bind]
  exact lam_mk I TB ec hm hu hT (L.has I.ok) fun f c' pm ct H1 s' I1 md e => h f c' pm ct .none H1 s' I1 md e (bindL_pure (hb _ _ _ _ _))
theorem mkl1 {a : Str} {i : Int} {j : Nat} {p2 : Pos} (LP : LamP X T) (L : LamN X.N X.env.scope sc) (hd : pa.defaults = [.Constant (.int i) j p2]) (hk : pa.kw_defaults = [])
    (hl : sc.names.lookup a = some .local)
    (hb : ∀ (q : Str) (cl : List (Str × Addr)) (tp : Addr) (pm cv ct u : Value), ∃ k, bindArgs (lamF q pa body sc cl (.ref tp) pm cv ct) ⟨[], []⟩ = seqItems? (.ref tp) >>= k ∧ k (some #[u]) = pure [(a, u)]) : MkL X T (.Lambda pa body sc pos) pa body sc := fun pins σ H s E Q I hT h => by
  obtain ⟨c, P, TB, ec, hm, hu⟩ := LP.ex
  refine PySem.W.kdv_lam (by rw [hd]; rfl) hk ?_
  rw [hd]
  refine PySem.W.kdv_all1 ?_
  refine wpAny_Constant_int ?_
  have I0 := I.tok (s.toks + 1)
  refine PyProof.Rows.evalAll_nil ?_
  rw [makeFunction_eq]
  simp only [List.zip_nil_right, List.filterMap_nil, List.isEmpty_nil, List.isEmpty_cons, Bool.false_eq_true, if_true, if_false, pure_bind]
  refine wpAny_bind (wpAny_newTextTuple ?_)
  generalize htp : s.heap.objs.size = tp
  have hn : H tp = none := I0.hok.fresh (Nat.le_of_eq htp)
  have hs : (s.heap.push { cls := .type "tuple", data := .seq (#[Value.int i s.toks]) }).get? tp = some { cls := .type "tuple", data := .seq (#[Value.int i s.toks]) } := by
    rw [← htp]
    exact Heap.get?_push_size _ rfl
  have I1 : Inv X pins σ (upd H tp (.tup [.int i])) { { s with toks := s.toks + 1 } with heap := s.heap.push { cls := .type "tuple", data := .seq (#[Value.int i s.toks]) }, toks := s.toks + 1 } :=
    I0.laid (fun b u e => Heap.get?_push_of_some _ e) (Nat.le_of_eq htp) ⟨(show 1 ≤ sizeLine by decide), [Value.int i s.toks], .cons ⟨_, rfl⟩ .nil, _, hs, rfl, _, rfl⟩
  have kp : ∀ b o, H b = some o → upd H tp (.tup [.int i]) b = some o := fun b o e => by
    rw [upd_ne (ne_of_none e hn)]
    exact e
  have hT1 : Tabs T (upd H tp (.tup [.int i])) := hT.ext kp
  refine lam_mk I1 TB ec hm hu hT1 (L.has I.ok) fun f c' pm ct H1 s' I2 md e => h f c' pm ct (.ref tp) H1 s' I2 ⟨(ExtN.of kp).trans md.ext, fun b z => md.nn b (same_nn kp b z), md.tabs, md.free, md.nofr, md.code⟩ e ?_
  intro P2 w2 HZ hz ht hok
  have et : HZ tp = some (.tup [.int i]) := ht _ _ (md.ext _ _ upd_same (fun ps z => by cases z))
  obtain ⟨_, its, r, o, e1, e2, n, e3⟩ := hok tp _ et
  cases r with
  | cons r1 r2 =>
    cases r2
    rename_i u
    obtain ⟨k, b1, b2⟩ := hb (X.env.qual ++ "<lambda>") (cloFrom X.env.cells sc.names []) tp pm (.ref c') ct u
    refine ⟨[(a, u)], fun M => ?_, fun y hy => ?_⟩
    · rw [b1]
      exact fun A Q E s kq q => wpAny_bind (wpAny_seqItems (kq _ _ e1) e3 (by rw [b2]; exact wpAny_pure q))
    · rcases List.mem_cons.mp hy with rfl | hy
      · exact hl
      · cases hy
end
end V1
set_option Elab.async false
set_option linter.all false
set_option maxRecDepth 100000
set_option maxHeartbeats 4000000
namespace V1
open PySem PySem.Spec PySem.Calls PyProof.Rows L2 LamX
/-- what a def that gets a lambda makes of its reading -/
abbrev HT : Type := (XK → Hp → VK → Prop) → Hp → VK → Prop
def Hears (X : Cx) (Ng : List Str) (x : Str) (sg : Scope) (g : Addr) (cdg : Value) (bg : List Stmt) (a q : Str) (TT : HT) : Prop :=
  ∀ (f c' : Addr) (s : Shared) (H : Hp) (Q : VK) (tl : XK → Hp → VK → Prop),
    (∀ (W : WX) (pn : List (Addr × Obj)) (xe : Value → Shared → Prop) (p1 p2 : Pos), Takes ((cxOf CX0 X.prog X.w X.K X.mg X.base Ng x sg g cdg X.A X.stack s H E0).tr pn xe) W →
      PE ((cxOf CX0 X.prog X.w X.K X.mg X.base Ng x sg g cdg X.A X.stack s H E0).tr pn xe) (.Call (.Name a p1) [] [] p2) (fun σZ HZ Q => σZ[0]? = some (some (.ref f)) ∧ HZ c' = some (CodeO c' q) ∧ tl (WE W σZ) HZ Q)) →
    H c' = some (CodeO c' q) → TT tl H Q →
    ∃ t, PSs (cxOf CX0 X.prog X.w X.K X.mg X.base Ng x sg g cdg X.A X.stack s H E0).nox bg t ∧ t { nx := fun _ H' => Q .non H', rt := Q } (L2.start Ng [.ref f]) H
def tHd (T : List (Addr × Str)) (TT : HT) (t : XK → TE) : TE := fun σ H Q => Tabs T H ∧ ∀ H1, ExtN H H1 → (∀ b, H b ≠ none → H1 b ≠ none) → Tabs T H1 → TT (fun E H' Q' => t E σ H' Q') H1 Q
section
variable {X : Cx} {T : List (Addr × Str)} {TT : HT} {x a : Str} {g : Addr} {fd : FuncData} {st : Stmt} {Ng : List Str} {e : Expr} {pa : Arguments} {body : Expr} {sc : Scope} {t : XK → TE} {k : Nat} {p pos : Pos}
/-- x(lambda: ..) -/
theorem pe_heard (hg : Gl X x) (hm : X.mg x = some (.ref g)) (F : Fun X.K x x st g fd) (hb : Binds X.K fd [a] []) (Sg : FnScope Ng [a] (defScope st)) (h0 : Ng[0]? = some a) (hva : Vis (defScope st) a)
    (M : MkL X T e pa body sc) (L : LamN X.N X.env.scope sc) (hr : Room (k + 2) X.A) (hgd : X.A.guards = some [])
    (hG : ∀ cdv, Hears X Ng x (defScope st) g cdv (defBody st) a (X.env.qual ++ "<lambda>") TT)
    (hbody : ∀ (A : Around) (outer : List Env) (s2 : Shared) (H2 : Hp) (E : XK) (f c' : Addr), (lamCx X A outer s2 H2 E sc f c').A.guards = some [] → Room k (lamCx X A outer s2 H2 E sc f c').A → PE (lamCx X A outer s2 H2 E sc f c') body (t E))
    (hdb : (x == ("__debug__" : Str)) = false := by decide) (hd : (a == ("__debug__" : Str)) = false := by decide) (hcd : (a == ("__classdict__" : Str)) = false := by decide)
    (hs : starEach [e] X.env = (false, eval e X.env) :: starEach [] X.env := by rfl) : PE X (.Call (.Name x p) [e] [] pos) (tHd T TT t) := by
  refine ⟨fun pins s σ H Q I ⟨hT, h⟩ => ?_⟩
  refine wpAny_Call_Name_kw (ld_glob I hg hm ?_ hdb)
  refine PySem.W.callWith_K (h₀ := X.base) I.ok.mod.kin F.kp ?_ hs (by rfl)
  rw [hs]
  show wpAny _ _ (spliced ((false, eval e X.env) :: backTo pos (starEach [] X.env))) _ _ s
  refine PySem.Calls.spliced_cons (M pins σ H s _ _ I hT fun f c' pm ct dV H1 s' I1 md hf hB => ?_)
  refine PySem.Calls.spliced_nil ⟨I1.kIn, ?_⟩
  have b1 := hb s' [.ref f] I1.kIn rfl
  obtain ⟨oc, od, kV, doc, pm2, an, cdv, ct2, osl, e1, lk, hcd2⟩ := F.ex
  have rc : codeAny (model X.prog X.w) X.A (.call (.ref g) ⟨[.ref f], []⟩) (CR CX0 X.stack X.prog X.w H1 s' Q E0) s' := by
    subst e1
    refine LamX.run_ofS (k := k + 1) (N := Ng) (ps := [a]) (us := [.ref f]) (vs := [.ref f]) lk hcd2 Sg hr I1.env0 b1 (.cons rfl .nil) rfl fun hr2 => ?_
    obtain ⟨t2, ht, hq⟩ := hG cdv f c' s' H1 Q (fun E H' Q' => t E σ H' Q') (fun W pn xe p1 p2 tk => pe_actD (k := k) (i := 0) (tb := t) I1 L hf md.free md.nofr hB tk hr2 (fun A outer s2 H2 E eA hr3 => hbody A outer s2 H2 E f c' (by subst eA; exact hgd) hr3) h0 hva hd hcd) md.code (h H1 md.ext md.nn md.tabs)
    exact ⟨t2, ht.nox, hq⟩
  refine wpAny_call (codeAny_mono rc fun r s2 hq => ?_)
  match r, hq with
  | .error e, hq => exact (show False from hq).elim
  | .ok (.ret u), hq => exact I1.after hq
  | .ok .next, hq => exact hq.elim
  | .ok .brk, hq => exact hq.elim
  | .ok .cont, hq => exact hq.elim
end
end V1
set_option Elab.async false
set_option linter.all false
set_option maxRecDepth 100000
set_option maxHeartbeats 4000000
/-! try: return [call()] / except C as caught: return (word, caught.field) -/
namespace V1
open PySem PySem.Spec PySem.Calls PyProof.Rows L2 LamX
def TT1 (C : Addr) (wd fld : Str) : HT := fun tl H Q => ∀ (E : XK) (Q' : VK), (∀ (dd : Addr) (fs : List (Str × V)) (v : V) (H' : Hp), H' dd = some (.xd fs) → fs.lookup fld = some v → (∀ p, H' p = none → Q (.ref p) (upd H' p (.tup [.str wd, v]))) → E (.ref C) (some dd) H') →
  (∀ (v : V) (H1 : Hp), (∀ p, H1 p = none → Q (.ref p) (upd H1 p (.lst [v]))) → Q' v H1) → tl E H Q'
theorem hears1 {X : Cx} {x a q ec cn wd fld : Str} {sg : Scope} {g C : Addr} {cdg : Value} {j n9 : Nat} {p1 p2 p3 p4 p5 p6 p7 p8 p9 p10 p11 p12 : Pos} (hge : sg.names.lookup ec = some .globalImplicit) (hme : X.mg ec = some (.ref C)) (hde : (ec == ("__debug__" : Str)) = false)
    (ht : PySem.W.exmOne X.K (.ref C) (.ref C) = some true) (XF : XfC X.K C) (no : PySem.W.findIn X.K (.ref C) fld = some none) (hac : (a == cn) = false) (hlc : sg.names.lookup cn = some .local) (hcn1 : (cn == ("__debug__" : Str)) = false) (hcn2 : (cn == ("__classdict__" : Str)) = false)
    (hat : ∀ env : Env, attributeBase (.Name cn p7) fld env (eval (.Name cn p7) env) = eval (.Name cn p7) env) :
    Hears X [a, cn] x sg g cdg [.Try [.Return (some (.List [.Call (.Name a p1) [] [] p2] p3)) p4] [.ExceptHandler (some (.Name ec p5)) (some cn) [.Return (some (.Tuple [.Constant (.str wd) j p6, .Attribute (.Name cn p7) fld p8] n9 p9)) p10] p11] [] [] p12] a q (TT1 C wd fld) := by
  intro f c' s H Q tl act hc h
  have hnd : ([a, cn] : List Str).Nodup := by
    simp only [List.nodup_cons, List.mem_singleton, List.not_mem_nil, not_false_eq_true, List.nodup_nil, and_true]
    intro z
    subst z
    simp at hac
  have hgl : Gl (cxOf CX0 X.prog X.w X.K X.mg X.base [a, cn] x sg g cdg X.A X.stack s H E0).nox ec := hge
  refine ⟨_, pss_one (ps_try_as (X := (cxOf CX0 X.prog X.w X.K X.mg X.base [a, cn] x sg g cdg X.A X.stack s H E0).nox) (c := .ref C) (i := 1) (Wout := fun _ _ _ _ => False)
      (tb := fun W D σ H => σ[0]? = some (some (.ref f)) ∧ H c' = some (CodeO c' q) ∧ tl (WE W σ) H fun v H1 => (1 ≤ sizeLine ∧ ∀ p, H1 p = none → D.rt (.ref p) (upd H1 p (.lst [v]))))
      (ts := fun a' cls d => tRet (tTup (tCons (tC (.str wd)) (tCons (tXf a' cls d C fld (tVar 1)) tNil))))
      rfl rfl hnd rfl hlc ⟨hgl, hde, .inl hme⟩ L2.takes0 (fun W pn xe tk _ => ?_) (fun a' oe cls d pn hz hf => pss_one (ps_ret (pe_tup (pa_cons pe_str (pa_cons (pe_xf (X := (cxOf CX0 X.prog X.w X.K X.mg X.base [a, cn] x sg g cdg X.A X.stack s H E0).nox) XF no hz hf (pe_var (i := 1) rfl (Or.inl hlc) hcn1 hcn2) (hat _)) pa_nil)))))), ?_⟩
  · refine ⟨fun pins s' σ H' D I ⟨h1, h2, h3⟩ => ?_⟩
    have hq := pss_one (ps_ret (pos := p4) (pe_lst (pos := p3) (pa_cons (act W pn xe p1 p2 tk) pa_nil)))
    exact hq.run pins s' σ H' D I ⟨h1, h2, h3⟩
  · refine ⟨rfl, hc, h _ _ (fun dd fs v H' e1 e2 e3 => ?_) fun v H1 hq => ⟨(show 1 ≤ sizeLine by decide), hq⟩⟩
    refine ⟨true, ht, fun _ a' ha => ?_, fun z => by cases z⟩
    exact ⟨.ref a', rfl, rfl, rfl, dd, fs, v, rfl, e1, e2, (show 2 ≤ sizeLine by decide), e3⟩
end V1
set_option Elab.async false
set_option linter.all false
set_option maxRecDepth 100000
set_option maxHeartbeats 4000000
/-! By data: what a def that gets a lambda tells; defs that may raise. -/
namespace V1
open PySem PySem.Spec PySem.Calls PyProof.Rows L2 LamX
/-- by data: it raises C, its field holding dq -/
def RzD (L : Rl) (C : Addr) (fld : Str) (t : XK → TE) (Γ : List (Option PyData)) (dq : PyData) : Prop := ∀ (E : XK) (A : Addr → Prop) (σ : L2.St) (H : Hp), Inn A H → EnvOk L A σ H Γ → L.G 0 H →
  (∀ (v : V) (dd : Addr) (H' : Hp), L.R 0 H H' → H' dd = some (.xd [(fld, v)]) → Dv L.K A H' v dq → E (.ref C) (some dd) H') → ∀ Q : VK, t E σ H Q
section
variable {L : Rl} {Γ : List (Option PyData)} {T : List (Addr × Str)} {C : Addr} {wd fld : Str} {t : XK → TE} {d dq : PyData}
theorem laid_same {H : Hp} {p : Addr} {o : HO} (hp : H p = none) : Same H (upd H p o) := fun b u e => by
  rw [upd_ne (ne_of_none e hp)]
  exact e
theorem eg_heardV (LL : LamL L T) (hd : d ≠ mark) (h : ∀ E : XK, EvD L (t E) Γ d) : EvD L (tHd T (TT1 C wd fld) t) Γ (.list [d]) := fun A σ H hi he hg Q q => by
  refine ⟨LL.tb hg, fun H1 e nn tb E Q' hE hQ => ?_⟩
  have r1 : L.R 0 H H1 := LL.of hg e tb nn
  refine h E A σ H1 (hi.r r1) (he.r r1) (Rl.gR (b := 0) hg r1) Q' fun v d' H2 r2 hv ed => hQ v H2 fun p hp => ?_
  subst ed
  have r12 := L.tr (a := 0) (b := 0) r1 r2
  have sm := laid_same (o := .lst [v]) hp
  have r3 := L.same (Rl.gR (b := 0) hg r12) sm
  have hi2 := hi.r r12
  exact q _ _ _ (L.tr (a := 0) (b := 0) r12 r3) (.inr (.lst (hi2.no hp) upd_same (.cons ((hv.ne hd).map fun b o na e k => ⟨na, sm b o e⟩) .nil))) rfl
theorem eg_heardX (LL : LamL L T) (h : RzD L C fld t Γ dq) : EvD L (tHd T (TT1 C wd fld) t) Γ (.tuple [.str wd, dq]) := fun A σ H hi he hg Q q => by
  refine ⟨LL.tb hg, fun H1 e nn tb E Q' hE hQ => ?_⟩
  have r1 : L.R 0 H H1 := LL.of hg e tb nn
  refine h E A σ H1 (hi.r r1) (he.r r1) (Rl.gR (b := 0) hg r1) (fun v dd H2 r2 hx hv => hE dd _ v H2 hx (by simp [List.lookup]) fun p hp => ?_) Q'
  have r12 := L.tr (a := 0) (b := 0) r1 r2
  have sm := laid_same (o := .tup [.str wd, v]) hp
  have r3 := L.same (Rl.gR (b := 0) hg r12) sm
  have hi2 := hi.r r12
  exact q _ _ _ (L.tr (a := 0) (b := 0) r12 r3) (.inr (.tup (hi2.no hp) upd_same (.cons (.str wd) (.cons (hv.map fun b o na e k => ⟨na, sm b o e⟩) .nil)))) rfl
end
/-- a def that leaves all, and answers or raises C -/
def spX (K : PySem.W.Frag) (C : Addr) (fld : Str) {α : Type} (args : α → List PyData) (ok : α → Prop) (res : α → Except PyData PyData) : Sp := fun vs H Q E => ∃ (a : α) (A : Addr → Prop), ok a ∧ Inn A H ∧ vs.length = (args a).length ∧ (∀ (i : Nat) d, (args a)[i]? = some d → ∃ v, vs[i]? = some v ∧ Dv K A H v d) ∧
  (∀ d, res a = .ok d → ∀ v H', Same H H' → Dv K A H' v d → Q v H') ∧ ∀ q, res a = .error q → ∀ v dd H', Same H H' → H' dd = some (.xd [(fld, v)]) → Dv K A H' v q → E (.ref C) (some dd) H'
section
variable {L : Rl} {Γ : List (Option PyData)} {C : Addr} {fld : Str} {α : Type} {args : α → List PyData} {ok : α → Prop} {res : α → Except PyData PyData} {ta : TA} {d dq : PyData}
theorem eg_callXv {E : L2.St → XK} (a : α) (ha : EaD L ta Γ (args a)) (ho : ok a) (hr : res a = .ok d) (hn : nomk (args a) = true := by rfl) : EvD L (tCallS (spX L.K C fld args ok res) E ta) Γ d := fun A σ H hi he hg Q q => ha A σ H hi he hg _ fun vs ds H1 r1 l hv p => by
  subst p
  refine ⟨a, A, ho, hi.r r1, l, fun i d e => ?_, fun d2 e v H' sm hd => ?_, fun q2 e => by rw [hr] at e; cases e⟩
  · obtain ⟨v, e1, e2⟩ := hv i d e
    exact ⟨v, e1, e2.ne (nomk_ne hn i d e)⟩
  · rw [hr] at e
    cases e
    exact q v _ H' (L.tr (a := 0) (b := 0) r1 (L.same (Rl.gR (b := 0) hg r1) sm)) (.inr hd) rfl
theorem rz_callX (a : α) (ha : EaD L ta Γ (args a)) (ho : ok a) (hr : res a = .error dq) (hn : nomk (args a) = true := by rfl) : RzD L C fld (fun E => tCallS (spX L.K C fld args ok res) (fun _ => E) ta) Γ dq := fun E A σ H hi he hg hE Q => ha A σ H hi he hg _ fun vs ds H1 r1 l hv p => by
  subst p
  refine ⟨a, A, ho, hi.r r1, l, fun i d e => ?_, fun d2 e => (by rw [hr] at e; cases e), fun q2 e v dd H' sm hx hv2 => ?_⟩
  · obtain ⟨v, e1, e2⟩ := hv i d e
    exact ⟨v, e1, e2.ne (nomk_ne hn i d e)⟩
  · rw [hr] at e
    cases e
    exact hE v dd H' (L.tr (a := 0) (b := 0) r1 (L.same (Rl.gR (b := 0) hg r1) sm)) hx hv2
end
end V1
set_option Elab.async false
set_option linter.all false
set_option maxRecDepth 100000
set_option maxHeartbeats 4000000
/-! The end of a law row with tables of code objects, by a promise that knows the guards. -/
namespace V1
open PySem PySem.Spec PyProof.Rows L2 LamX
/-- the tables at the head: code objects and their tables, empty, off the written part -/
structure Tb0 (K : PySem.W.Frag) (h : Heap) (cs : List (Addr × Addr)) : Prop where
  emp : ∀ p ∈ cs, h.get? p.2 = some { cls := .none, data := .fields #[] }
  off : ∀ p ∈ cs, K.lookup p.2 = none
  hd : ∀ p ∈ cs, PySem.W.CodeHd h p.1 p.2
/-- the tracked things at the law's call: the script, the tables -/
structure Trk (cs : List (Addr × Addr)) (a : Addr) (H : Hp) : Prop where
  tb : ∀ p ∈ cs, H p.2 = some (.tbl #[])
  kd : ∀ b, H b = none ∨ b ∈ cs.map (·.2) ∨ ∃ o xs, H b = some (.frz o (.lst xs))
  at_ : ∀ b, H b ≠ none → b = a ∨ b ∈ cs.map (·.2)
theorem not_fields {d : Data} (h : ∀ vs, d ≠ .fields vs) : d ≠ .fields #[] := h _
section
variable {P : Program} {w : World} {K : PySem.W.Frag} {mg mb : Str → Option Value} {k : Nat} {fa a : Addr} {cs : List (Addr × Addr)} {fd : FuncData} {x : Str} {sp : Sp} {s1 : Shared} {vs : List Value} {ns : List Int}
theorem tb_in {h : Heap} (t : Tb0 K h cs) (b : Addr) (hb : b ∈ cs.map (·.2)) : h.get? b = some { cls := .none, data := .fields #[] } := by
  obtain ⟨p, hp, e⟩ := List.mem_map.mp hb
  subst e
  exact t.emp p hp
/-- what is neither a list nor an empty record is not tracked -/
theorem trk_no {H : Hp} (t : Tb0 K s1.heap cs) (R : Trk cs a H) (ha : s1.heap.get? a = some { cls := .type "list", data := .seq vs.toArray }) {b : Addr} {o : Obj} (e : s1.heap.get? b = some o) (h1 : ∀ us n, o.data ≠ .seq us n) (h2 : o.data ≠ .fields #[]) : H b = none := by
  cases q : H b with
  | none => rfl
  | some u =>
    rcases R.at_ b (by rw [q]; exact Option.some_ne_none _) with z | z
    · subst z
      rw [ha] at e
      cases e
      exact (h1 _ _ rfl).elim
    · rw [tb_in t b z] at e
      cases e
      exact (h2 rfl).elim
theorem end_core {H : Hp} (KX : K.In s1.heap) (hns : s1.heap.Ns mainGlobals mg) (hb : s1.heap.Ns builtinsNs mb) (hbb : ∀ x : Str, x ≠ "__name__" → mb x = bootBuiltins x) (nl : s1.heap.NoLimit) (hg : s1.gens = #[]) (t : Tb0 K s1.heap cs)
    (hbm : ∃ (bm : Addr) (ob : Obj), mg "__builtins__" = some (.ref bm) ∧ bm ≠ builtinsNs ∧ s1.heap.get? bm = some ob ∧ ob.cls = .type "module" ∧ ob.dict = some builtinsNs ∧ ob.data = .plain)
    (ha : s1.heap.get? a = some { cls := .type "list", data := .seq vs.toArray }) (hr : Room k callerA)
    (F : ∀ base : Heap, K.In base → base.Ns mainGlobals mg → (∀ p ∈ cs, TabB base mg p.1 p.2) → FnG P w K mg base k fa fd [x] sp) (bnd : ∀ (s : Shared) (u : Value), BindsTo s fd ⟨[u], []⟩ [(x, u)])
    (R : Trk cs a H) (ok : HOk P w H s1.heap) (nk : H a ≠ none → K.lookup a = none) (hsp : sp [.ref a] H (fun v _ => v = .bl true) fun _ _ _ => False) :
    codeAny (model P w) callerA (.call (.ref fa) ⟨[.ref a], []⟩) (fun r t => r = .ok (.ret (.bool true)) ∧ OldK s1.heap t.heap ∧ t.os = s1.os ∧ AllBare t.gens) s1 := by
  have dk : ∀ {b : Addr} {o : Obj} {es : Array DictEntry} {ep : Nat}, s1.heap.get? b = some o → o.data = .dict es ep → H b = none := by
    intro b o es ep e d
    refine trk_no t R ha e (fun us n z => ?_) (fun z => ?_) <;> · rw [d] at z; cases z
  have nsK : ∀ {b : Addr} {m : Str → Option Value}, s1.heap.Ns b m → (hidT s1.heap H).Ns b m := by
    rintro b m ⟨o, es, ep, e, d, r⟩
    exact ⟨o, es, ep, hidT_get e (dk e d), d, r⟩
  have hK2 : K.In (hidT s1.heap H) := by
    intro b o e
    refine hidT_get (KX b o e) ?_
    cases q : H b with
    | none => rfl
    | some u =>
      rcases R.at_ b (by rw [q]; exact Option.some_ne_none _) with z | z
      · subst z
        rw [nk (by rw [q]; exact Option.some_ne_none _)] at e
        cases e
      · obtain ⟨p, hp, ep⟩ := List.mem_map.mp z
        subst ep
        rw [t.off p hp] at e
        cases e
  have hM : Mod K mg (hidT s1.heap H) := ⟨hK2, nsK hns, ⟨mb, nsK hb, hbb⟩, let ⟨mc, g1, g2⟩ := nl; ⟨mc, nsK g1, g2⟩⟩
  obtain ⟨og, eg, pg, ng1, ng2, ng3⟩ := hns
  have TB : ∀ p ∈ cs, TabB (hidT s1.heap H) mg p.1 p.2 := by
    intro p hp
    have hE := t.emp p hp
    constructor
    · obtain ⟨o, us, file, tf, fl, tg, inF, tx, tt, e1, r1, r2, r3, r4⟩ := t.hd p hp
      refine ⟨o, us, file, tf, fl, tg, inF, tx, tt, hidT_get e1 (trk_no t R ha e1 (fun vs n z => ?_) fun z => ?_), r1, r2, r3, r4⟩
      · rw [r2] at z
        cases z
      · rw [r2] at z
        cases z
        simp at r3
    · obtain ⟨bm, ob, b1, b2, b3, b4, b5, b6⟩ := hbm
      refine ⟨bm, ob, b1, b2, fun q => ?_, fun q => ?_, hidT_get b3 (trk_no t R ha b3 (fun vs n z => ?_) fun z => ?_), b4, b5, b6⟩
      · subst q
        rw [ng1] at b3
        cases b3
        rw [ng2] at b6
        cases b6
      · subst q
        rw [hE] at b3
        cases b3
        cases b6
      · rw [b6] at z
        cases z
      · rw [b6] at z
        cases z
    · intro z
      rw [z, hE] at ng1
      cases ng1
      cases ng2
  have e0 : Env0 P w K mg (hidT s1.heap H) callerA [] s1 H := { frames := rfl, mod := hM, bs := fun b o e => of_hidT e, bsz := Nat.le_of_eq (hidT_size _ _), funs := trivial, frf := fun b hb => absurd (show b ∈ ([] : List Addr) from hb) (by simp), hok := ok, bare := .of_eq hg }
  refine codeAny_mono ((F _ hK2 (nsK ⟨og, eg, pg, ng1, ng2, ng3⟩) TB).run callerA [] s1 H ⟨[.ref a], []⟩ [.ref a] [.ref a] _ _ rfl hr e0 (bnd s1 (.ref a)) (.cons rfl .nil) hsp) fun r t2 h => ?_
  match r, h with
  | .error e, h => exact h.elim
  | .ok .next, h => exact h.elim
  | .ok .brk, h => exact h.elim
  | .ok .cont, h => exact h.elim
  | .ok (.ret u), h =>
    obtain ⟨v, H2, os, bare, un, ok2, r2, q⟩ := h
    obtain rfl : v = .bl true := q
    obtain rfl : u = Value.bool true := r2
    have kept : ∀ b o, b ∉ cs.map (·.2) → s1.heap.get? b = some o → t2.heap.get? b = some o := by
      intro b o nb e
      rcases R.kd b with z | z | ⟨ob, xs, z⟩
      · exact un.keep b o e z (fun y => absurd (show b ∈ ([] : List Addr) from y) (by simp)) (by simp)
      · exact absurd z nb
      · have e1 := (ok b _ z).1
        have e2 := (ok2 b _ (un.frzs b ob _ z)).1
        rw [e] at e1
        cases e1
        exact e2
    have grow : ∀ p ∈ cs, ∃ more : Array Value, t2.heap.get? p.2 = some { cls := .none, data := .fields more } := by
      intro p hp
      obtain ⟨more, z⟩ := un.tbls p.2 #[] (R.tb p hp)
      exact ⟨_, ok2 p.2 _ z⟩
    refine ⟨rfl, ⟨fun b o e => ?_, fun b o e => ?_⟩, os, bare⟩
    · by_cases hb : b ∈ cs.map (·.2)
      · obtain ⟨p, hp, ep⟩ := List.mem_map.mp hb
        subst ep
        obtain ⟨more, hm⟩ := grow p hp
        have eo : o = { cls := .none, data := .fields #[] } := Option.some.inj (e.symm.trans (t.emp p hp))
        subst eo
        refine .inr (.inl ⟨((t.hd p hp).tab (t.emp p hp)).isCodeTable, rfl, #[], more, rfl, ?_⟩)
        rw [Array.empty_append]
        exact hm
      · exact .inl (kept b o hb e)
    · by_cases hb : b ∈ cs.map (·.2)
      · obtain ⟨p, hp, ep⟩ := List.mem_map.mp hb
        subst ep
        obtain ⟨more, hm⟩ := grow p hp
        exact ⟨_, hm⟩
      · exact ⟨o, kept b o hb e⟩
end
end V1
set_option Elab.async false
set_option linter.all false
set_option maxRecDepth 100000
set_option maxHeartbeats 4000000
namespace V1
open PySem PySem.Spec PyProof.Rows L2 LamX
section
variable {P : Program} {w : World} {K : PySem.W.Frag} {mg mb : Str → Option Value} {k : Nat} {fa a : Addr} {cs : List (Addr × Addr)} {fd : FuncData} {x : Str} {sp : Sp} {s1 : Shared} {vs : List Value} {ns : List Int}
theorem endGT (KX : K.In s1.heap) (hns : s1.heap.Ns mainGlobals mg) (hb : s1.heap.Ns builtinsNs mb) (hbb : ∀ x : Str, x ≠ "__name__" → mb x = bootBuiltins x) (nl : s1.heap.NoLimit) (hg : s1.gens = #[]) (t : Tb0 K s1.heap cs)
    (hbm : ∃ (bm : Addr) (ob : Obj), mg "__builtins__" = some (.ref bm) ∧ bm ≠ builtinsNs ∧ s1.heap.get? bm = some ob ∧ ob.cls = .type "module" ∧ ob.dict = some builtinsNs ∧ ob.data = .plain)
    (ha : s1.heap.get? a = some { cls := .type "list", data := .seq vs.toArray }) (hi : IntsAre vs ns) (hl : ns.length ≤ sizeLine) (hr : Room k callerA)
    (F : ∀ base : Heap, K.In base → base.Ns mainGlobals mg → (∀ p ∈ cs, TabB base mg p.1 p.2) → FnG P w K mg base k fa fd [x] sp) (bnd : ∀ (s : Shared) (u : Value), BindsTo s fd ⟨[u], []⟩ [(x, u)])
    (hsp : ∀ H : Hp, (∀ p ∈ cs, H p.2 = some (.tbl #[])) → SqL K H a (ns.map V.int) → sp [.ref a] H (fun v _ => v = .bl true) fun _ _ _ => False) :
    codeAny (model P w) callerA (.call (.ref fa) ⟨[.ref a], []⟩) (fun r t => r = .ok (.ret (.bool true)) ∧ OldK s1.heap t.heap ∧ t.os = s1.os ∧ AllBare t.gens) s1 := by
  have rv := vals_ints hi
  have lenV := hi.length
  have aT : a ∉ cs.map (·.2) := by
    intro z
    have q := tb_in t a z
    rw [ha] at q
    cases q
  have mT : ∀ p ∈ cs, p.2 ∈ cs.map (·.2) := fun p hp => List.mem_map.mpr ⟨p, hp, rfl⟩
  have nT : ∀ p ∈ cs, p.2 ≠ a := fun p hp z => aT (by rw [← z]; exact mT p hp)
  generalize hfz : ({ cls := .type "list", data := .seq vs.toArray } : Obj) = fz at ha
  generalize hH0 : (fun b => if b ∈ cs.map (·.2) then some (HO.tbl #[]) else none : Hp) = H0
  have t0 : ∀ b, b ∈ cs.map (·.2) → H0 b = some (.tbl #[]) := fun b hb => by rw [← hH0]; exact if_pos hb
  have n0 : ∀ b, b ∉ cs.map (·.2) → H0 b = none := fun b hb => by rw [← hH0]; exact if_neg hb
  have ok0 : ∀ b u, H0 b = some u → b ∈ cs.map (·.2) ∧ u = .tbl #[] := fun b u e => by
    by_cases hb : b ∈ cs.map (·.2)
    · rw [t0 b hb] at e
      exact ⟨hb, (Option.some.inj e).symm⟩
    · rw [n0 b hb] at e
      cases e
  cases hk : K.lookup a with
  | some o =>
    have e := KX a o hk
    rw [ha] at e
    have eo : fz = o := Option.some.inj e
    subst eo
    refine end_core (vs := vs) (H := H0) KX hns hb hbb nl hg t hbm (by rw [hfz]; exact ha) hr F bnd ⟨fun p hp => t0 _ (mT p hp), fun b => ?_, fun b z => ?_⟩ (fun b u e => ?_) (fun z => absurd (n0 a aT) z) (hsp H0 (fun p hp => t0 _ (mT p hp)) (.inr ⟨_, vs.toArray, _, hk, by rw [← hfz], by rw [← hfz], by rw [← hfz], by rw [List.size_toArray, lenV]; exact hl, by simpa using rv⟩))
    · by_cases hb : b ∈ cs.map (·.2)
      · exact .inr (.inl hb)
      · exact .inl (n0 b hb)
    · by_cases hb : b ∈ cs.map (·.2)
      · exact .inr hb
      · exact absurd (n0 b hb) z
    · obtain ⟨m, rfl⟩ := ok0 b u e
      exact tb_in t b m
  | none =>
    have hH : ∀ b, b ≠ a → upd H0 a (.frz fz (.lst (ns.map V.int))) b = H0 b := fun b n => upd_ne n
    refine end_core (vs := vs) (H := upd H0 a (.frz fz (.lst (ns.map V.int)))) KX hns hb hbb nl hg t hbm (by rw [hfz]; exact ha) hr F bnd ⟨fun p hp => by rw [hH _ (nT p hp)]; exact t0 _ (mT p hp), fun b => ?_, fun b z => ?_⟩ (fun b u e => ?_) (fun _ => hk) (hsp _ (fun p hp => by rw [hH _ (nT p hp)]; exact t0 _ (mT p hp)) (.inl (.inr ⟨fz, upd_same⟩)))
    · by_cases hba : b = a
      · subst hba
        exact .inr (.inr ⟨_, _, upd_same⟩)
      · rw [hH b hba]
        by_cases hb : b ∈ cs.map (·.2)
        · exact .inr (.inl hb)
        · exact .inl (n0 b hb)
    · by_cases hba : b = a
      · exact .inl hba
      · rw [hH b hba] at z
        by_cases hb : b ∈ cs.map (·.2)
        · exact .inr hb
        · exact absurd (n0 b hb) z
    · by_cases hba : b = a
      · subst hba
        rw [upd_same] at e
        have eu := Option.some.inj e
        subst eu
        exact ⟨ha, by rw [List.length_map]; exact hl, vs, _, rv, by rw [ha, ← hfz]⟩
      · rw [hH b hba] at e
        obtain ⟨m, rfl⟩ := ok0 b u e
        exact tb_in t b m
end
/-- the end, where the defs make lambdas -/
theorem walkGT {l : PySem.W.OpenLaw} {n k : Nat} {q : Program} {loose : List Str} {XP : (Str → Option Value) → Heap → Prop} {YP : World → Heap → Prop} {d : DefRec} {x : Str}
    (hn : l.most = some n) (hn2 : n ≤ sizeLine) (hdf : d.params.defaults = []) (hr : Room k callerA)
    (F : ∀ (w : World) (mg : Str → Option Value) (fa : Addr) (h : Heap), YP w h → h.Ns mainGlobals mg → mg d.name = some (.ref fa) →
      ∃ (K : PySem.W.Frag) (fd : FuncData) (sp : Sp) (cs : List (Addr × Addr)), K.In h ∧ Tb0 K h cs ∧ (∀ (s : Shared) (u : Value), BindsTo s fd ⟨[u], []⟩ [(x, u)]) ∧
        (∀ (H : Hp) (a : Addr) (ns : List Int), ns.length ≤ n → (∀ p ∈ cs, H p.2 = some (.tbl #[])) → SqL K H a (ns.map V.int) → sp [.ref a] H (fun v _ => v = .bl true) fun _ _ _ => False) ∧
        ∀ base : Heap, K.In base → base.Ns mainGlobals mg → (∀ p ∈ cs, TabB base mg p.1 p.2) → FnG l.prog w K mg base k fa fd [x] sp) :
    PySem.W.WalkO q loose XP YP l.row.toRowW d [] (fun f vs => PySem.call f vs) := by
  refine Att.attach_call hn hdf fun w s0 s1 mg mb fa o pm cd doc a vs ns G Y ho hd hcd hmg hobj hints hlen hg => ?_
  obtain ⟨K, fd, sp, cs, KX, t, hb, hsp, hF⟩ := F w mg fa _ Y G.T.g hmg
  exact endGT KX G.T.g G.T.b G.T.builtins G.T.nolimit hg t G.T.bmain hobj hints (Nat.le_trans hlen hn2) hr hF hb fun H hT hS => hsp H a ns hlen hT hS
end V1
set_option Elab.async false
set_option linter.all false
set_option maxRecDepth 100000
set_option maxHeartbeats 4000000
/-! Defs that make lambdas: the code object is told; promises that leave all but the tables. -/
namespace V1
open PySem PySem.Spec PyProof.Rows L2 LamX
section
variable {P : Program} {w : World} {K : PySem.W.Frag} {mg : Str → Option Value} {base : Heap}
theorem okGc {x qual : Str} {st : Stmt} {f : Addr} {fd : FuncData} {N ps : List Str} {k : Nat} {sp : Sp} (F : Fun K x qual st f fd) (S : FnScope N ps (defScope st)) (hlen : ∀ vs H Q E, sp vs H Q E → vs.length = ps.length)
    (bd : ∀ (cdv : Value) (A : Around) (outer : List Env) (s : Shared) (H : Hp) (vs : List V) (Q : VK) (E : XK), fd.code = cdv → A.guards = some [] → Room k (A.deeper (envOfC qual (defScope st) s.heap.objs.size f cdv)) → sp vs H Q E →
      ∃ t, PSs (cxOf CX0 P w K mg base N qual (defScope st) f cdv A outer s H E).nox (defBody st) t ∧ t { nx := fun _ H' => Q .non H', rt := Q } (start N vs) H) : FnG P w K mg base (k + 1) f fd ps sp := by
  obtain ⟨oc, od, kV, doc, pm, an, cdv, ct, osl, e1, lk, hcd⟩ := F.ex
  have ec : fd.code = cdv := by rw [e1]
  have bd2 := fun A outer s H vs Q E => bd cdv A outer s H vs Q E ec
  subst e1
  constructor
  · exact hlen
  · intro A outer s H args us vs Q E hgd hr e0 hb r hs0
    have kin := e0.mod.kin.keeps (fun b o z => (e0.bs b o z).1)
    have lim := e0.mod.nolimit.keeps (fun b o z => (e0.bs b o z).1)
    have par : ∀ y ∈ ps.zip us, (defScope st).names.lookup y.1 = some .local ∨ ((defScope st).names.lookup y.1 = some .cell ∧ ((cellsFrom (s.heap.objs.size + 1) (defScope st).names []).lookup y.1).isSome = true) := by
      rintro ⟨n, v⟩ hy
      exact (S.par n (List.of_mem_zip hy).1).imp id fun q => ⟨q, PySem.W.cellsFrom_some _ _ _ (.inl q)⟩
    refine codeAny_call_function hr.depth (kin _ _ lk) rfl S.co S.gen rfl (PySem.W.codeRec_of kin hcd) (hb _ _ _ _ (wpAny_newFunctionEnv_cells S.kind par fun env he s1 y => ?_))
    subst he
    refine ⟨lim.keeps y.toInCall.keep, codeAny_func ?_⟩
    obtain ⟨t, ht, hq⟩ := bd2 A outer s H vs Q E hgd (hr.deeper _) hs0
    have I := inv_start (CX := CX0) (E := E) S hr.hd e0 (hlen _ _ _ _ hs0) r y
    refine wpAny_mono (ht.nox.run [] s1 (start N vs) H _ I hq) (fun fl s2 z => ?_) fun e s2 z => z
    match fl, z with
    | .ret u, ⟨v, σ2, H2, J, rv, q⟩ => exact ⟨v, H2, J.os, J.bare, J.base, J.hok, rv, q⟩
    | .next, ⟨σ2, H2, J, q⟩ => exact ⟨V.non, H2, J.os, J.bare, J.base, J.hok, rfl, q⟩
    | .brk, ⟨_, _, _, q⟩ => exact q.elim
    | .cont, ⟨_, _, _, q⟩ => exact q.elim
/-- a def whose answer is told for each a, and that leaves all but the tables -/
def spT (K : PySem.W.Frag) (T : List (Addr × Str)) {α : Type} (args : α → List PyData) (ok : α → Prop) (val : α → PyData) : Sp := fun vs H Q E => ∃ a, ok a ∧ spL (tabL K T) 0 (fun ds => ds = args a) (fun _ d => d = val a) vs H Q E
/-- a def that draws, and makes lambdas -/
def spMT (K : PySem.W.Frag) (T : List (Addr × Str)) {α : Type} (n : Nat) (args : α → List PyData) (ok : α → Prop) (post : α → PyData → Prop) : Sp := fun vs H Q E => ∃ (L : Rl) (a : α), L.K = K ∧ SM L ∧ LamL L T ∧ ok a ∧ spL L n (fun ds => ds = args a) (fun _ d => post a d) vs H Q E
theorem ok_T {T : List (Addr × Str)} {α : Type} {args : α → List PyData} {ok : α → Prop} {val : α → PyData} {x : Str} {st : Stmt} {f : Addr} {fd : FuncData} {N ps : List Str} {k : Nat} (D : Df K mg x st ps f fd) (Sc : FnScope N ps (defScope st)) (hlen : ∀ a, (args a).length = ps.length)
    (hb : ∀ (cdv : Value) (A : Around) (outer : List Env) (s : Shared) (H : Hp) (E : XK), fd.code = cdv → (cxOf CX0 P w K mg base N x (defScope st) f cdv A outer s H E).nox.A.guards = some [] → Room k (cxOf CX0 P w K mg base N x (defScope st) f cdv A outer s H E).nox.A →
      ∃ t, PSs (cxOf CX0 P w K mg base N x (defScope st) f cdv A outer s H E).nox (defBody st) t ∧ ∀ a, ok a → SG (tabL K T) 0 t (Ga N.length (args a)) (fun _ => .none = val a) (fun d => d = val a)) : Cal P w K mg base x st ps (k + 1) (spT K T args ok val) f fd := by
  refine ⟨D.gm, D.F, D.b, okGc D.F Sc (fun vs H Q E ⟨a, _, Av, ds, _, hl, _, hp, _⟩ => by rw [hl, hp, hlen a]) fun cdv A outer s H vs Q E ec hg hr ⟨a, ho, Av, ds, hi, hl, hv, hp, hgg, q⟩ => ?_⟩
  subst hp
  obtain ⟨t, h1, h2⟩ := hb cdv A outer s H E ec hg hr
  exact ⟨t, h1, h2 a ho Av _ H hi (start_ok hl hv) hgg _ (fun σ' H' Γ' r e p => q .non .none H' r (.inr .non) p) fun v d H' r hd p => q v d H' r hd p⟩
theorem ok_MT {T : List (Addr × Str)} {α : Type} {args : α → List PyData} {ok : α → Prop} {post : α → PyData → Prop} {n : Nat} {x : Str} {st : Stmt} {f : Addr} {fd : FuncData} {N ps : List Str} {k : Nat} (D : Df K mg x st ps f fd) (Sc : FnScope N ps (defScope st)) (hlen : ∀ a, (args a).length = ps.length)
    (hb : ∀ (cdv : Value) (A : Around) (outer : List Env) (s : Shared) (H : Hp) (E : XK), fd.code = cdv → (cxOf CX0 P w K mg base N x (defScope st) f cdv A outer s H E).nox.A.guards = some [] → Room k (cxOf CX0 P w K mg base N x (defScope st) f cdv A outer s H E).nox.A →
      ∃ t, PSs (cxOf CX0 P w K mg base N x (defScope st) f cdv A outer s H E).nox (defBody st) t ∧ ∀ L, L.K = K → SM L → LamL L T → ∀ a, ok a → SG L n t (Ga N.length (args a)) (fun _ => False) (post a)) : Cal P w K mg base x st ps (k + 1) (spMT K T n args ok post) f fd := by
  refine ⟨D.gm, D.F, D.b, okGc D.F Sc (fun vs H Q E ⟨L, a, _, _, _, _, Av, ds, _, hl, _, hp, _⟩ => by rw [hl, hp, hlen a]) fun cdv A outer s H vs Q E ec hg hr ⟨L, a, hK, hS, hL, ho, Av, ds, hi, hl, hv, hp, hgg, q⟩ => ?_⟩
  subst hp
  obtain ⟨t, h1, h2⟩ := hb cdv A outer s H E ec hg hr
  exact ⟨t, h1, h2 L hK hS hL a ho Av _ H hi (start_ok hl hv) hgg _ (fun σ' H' Γ' r e p => p.elim) fun v d H' r hd p => q v d H' r hd p⟩
end
section
variable {L : Rl} {T : List (Addr × Str)} {Γ : List (Option PyData)} {t : TA} {E : XK} {α : Type} {args : α → List PyData} {ok : α → Prop} {val : α → PyData} {post : α → PyData → Prop} {n : Nat}
theorem tab_dq {K : PySem.W.Frag} {A : Addr → Prop} {H : Hp} {v : V} {d : PyData} (h : Dq (tabL K T) A H v d) : Dv K A H v d := h.elim (fun z => z.2.elim) id
theorem eg_callT (LL : LamL L T) (a : α) (ha : EaD L t Γ (args a)) (ho : ok a) (hn : nomk (args a) = true := by rfl) : EvD L (tCall (spT L.K T args ok val) [] E t) Γ (val a) := fun A σ H hi he hg Q q => ha A σ H hi he hg _ fun vs ds H1 r1 l hv p => by
  subst p
  show spT L.K T args ok val (vs ++ []) H1 Q E
  rw [List.append_nil]
  have g1 := Rl.gR (b := 0) hg r1
  refine ⟨a, ho, A, args a, hi.r r1, l, fun i d e => ?_, rfl, LL.tb g1, fun v d H2 r2 hd hpo => q v d H2 (L.tr (a := 0) (b := 0) r1 (LL.of g1 r2.1 r2.2.2 r2.2.1)) (.inr (tab_dq hd)) hpo⟩
  obtain ⟨v, e1, e2⟩ := hv i d e
  exact ⟨v, e1, .inr (e2.ne (nomk_ne hn i d e))⟩
theorem eg_callMT (hS : SM L) (LL : LamL L T) (x : α) (ha : EaD L t Γ (args x)) (ho : ok x) : EvG L n (tCall (spMT L.K T n args ok post) [] E t) Γ (post x) := fun A σ H hi he hg Q q => ha A σ H hi he (L.g0 hg) _ fun vs ds H1 r1 l hv p => by
  subst p
  show spMT L.K T n args ok post (vs ++ []) H1 Q E
  rw [List.append_nil]
  exact ⟨L, x, rfl, hS, LL, ho, A, args x, hi.r r1, l, hv, rfl, Rl.gR (a := 0) (by rw [Nat.zero_add]; exact hg) r1, fun v d H2 r2 hd hpo => q v d H2 (L.rle (Nat.le_of_eq (Nat.zero_add _)) (L.tr r1 r2)) hd hpo⟩
end
end V1
set_option Elab.async false
set_option linter.all false
set_option maxRecDepth 100000
set_option maxHeartbeats 4000000
/-! Lambdas in whose bodies something is drawn. -/
namespace V1
open PySem PySem.Spec PyProof.Rows L2 LamX
def RzG (L : Rl) (n : Nat) (C : Addr) (fld : Str) (t : XK → TE) (Γ : List (Option PyData)) (dq : PyData) : Prop := ∀ (E : XK) (A : Addr → Prop) (σ : L2.St) (H : Hp), Inn A H → EnvOk L A σ H Γ → L.G n H →
  (∀ (v : V) (dd : Addr) (H' : Hp), L.R n H H' → H' dd = some (.xd [(fld, v)]) → Dv L.K A H' v dq → E (.ref C) (some dd) H') → ∀ Q : VK, t E σ H Q
section
variable {L : Rl} {n : Nat} {Γ : List (Option PyData)} {T : List (Addr × Str)} {C : Addr} {wd fld : Str} {t : XK → TE} {dq : PyData} {Pd : PyData → Prop}
theorem eg_heardXG (LL : LamL L T) (h : RzG L n C fld t Γ dq) : EvG L n (tHd T (TT1 C wd fld) t) Γ (fun y => y = .tuple [.str wd, dq]) := fun A σ H hi he hg Q q => by
  refine ⟨LL.tb hg, fun H1 e nn tb E Q' hE hQ => ?_⟩
  have r1 : L.R 0 H H1 := LL.of hg e tb nn
  have g1 : L.G n H1 := L.gr (a := 0) (by rw [Nat.zero_add]; exact hg) r1
  refine h E A σ H1 (hi.r r1) (he.r r1) g1 (fun v dd H2 r2 hx hv => hE dd _ v H2 hx (by simp [List.lookup]) fun p hp => ?_) Q'
  have r12 : L.R n H H2 := L.rle (Nat.le_of_eq (Nat.zero_add n)) (L.tr r1 r2)
  have g2 : L.G 0 H2 := L.gr (a := n) (b := 0) hg r12
  have sm := laid_same (o := .tup [.str wd, v]) hp
  have r3 := L.same g2 sm
  have hi2 := hi.r r12
  exact q _ _ _ (L.tr (b := 0) r12 r3) (.inr (.tup (hi2.no hp) upd_same (.cons (.str wd) (.cons (hv.map fun b o na e k => ⟨na, sm b o e⟩) .nil)))) rfl
theorem eg_heardVG (LL : LamL L T) (hd : ∀ d, Pd d → d ≠ mark) (h : ∀ E : XK, EvG L n (t E) Γ Pd) : EvG L n (tHd T (TT1 C wd fld) t) Γ (fun y => ∃ d, Pd d ∧ y = .list [d]) := fun A σ H hi he hg Q q => by
  refine ⟨LL.tb hg, fun H1 e nn tb E Q' hE hQ => ?_⟩
  have r1 : L.R 0 H H1 := LL.of hg e tb nn
  have g1 : L.G n H1 := L.gr (a := 0) (by rw [Nat.zero_add]; exact hg) r1
  refine h E A σ H1 (hi.r r1) (he.r r1) g1 Q' fun v d H2 r2 hv pd => hQ v H2 fun p hp => ?_
  have r12 : L.R n H H2 := L.rle (Nat.le_of_eq (Nat.zero_add n)) (L.tr r1 r2)
  have g2 : L.G 0 H2 := L.gr (a := n) (b := 0) hg r12
  have sm := laid_same (o := .lst [v]) hp
  have r3 := L.same g2 sm
  have hi2 := hi.r r12
  exact q _ _ _ (L.tr (b := 0) r12 r3) (.inr (.lst (hi2.no hp) upd_same (.cons ((hv.ne (hd d pd)).map fun b o na e k => ⟨na, sm b o e⟩) .nil))) ⟨d, pd, rfl⟩
theorem rz_callXG {α : Type} {args : α → List PyData} {ok : α → Prop} {res : α → Except PyData PyData} {ta : TA} {PA : List PyData → Prop} (ha : EaG L n ta Γ PA) (hp : ∀ ds, PA ds → ∃ a, ds = args a ∧ ok a ∧ res a = .error dq ∧ nomk (args a) = true) :
    RzG L n C fld (fun E => tCallS (spX L.K C fld args ok res) (fun _ => E) ta) Γ dq := fun E A σ H hi he hg hE Q => ha A σ H hi he hg _ fun vs ds H1 r1 l hv p => by
  obtain ⟨a, e, ho, hr, hn⟩ := hp ds p
  subst e
  have g1 : L.G 0 H1 := L.gr (a := n) (b := 0) hg r1
  refine ⟨a, A, ho, hi.r r1, l, fun i d e => ?_, fun d2 e => (by rw [hr] at e; cases e), fun q2 e v dd H' sm hx hv2 => ?_⟩
  · obtain ⟨v, e1, e2⟩ := hv i d e
    exact ⟨v, e1, e2.ne (nomk_ne hn i d e)⟩
  · rw [hr] at e
    cases e
    exact hE v dd H' (L.tr (b := 0) r1 (L.same g1 sm)) hx hv2
end
end V1
namespace V1
open PySem
def top (i : Nat) : Stmt := PySem.Challenge.pw_everyfont_k01_points_and_rows_judged.main.body.getD i (.Pass ⟨0, 0, 0, 0⟩)
end V1
set_option Elab.async false
set_option linter.all false
set_option maxRecDepth 100000
set_option maxHeartbeats 4000000
namespace V1
open PySem PySem.Spec PyProof.Rows L2
variable {P : Program} {w : World} {K : PySem.W.Frag} {mg : Str → Option Value} {base : Heap}
theorem v_left (l sd : Int) (c : Addr) (s : Int) : valV (dct l sd c s) (.inr "left") = some (.int l) := rfl
theorem v_seed (l sd : Int) (c : Addr) (s : Int) : valV (dct l sd c s) (.inr "seed") = some (.int sd) := rfl
theorem v_cells (l sd : Int) (c : Addr) (s : Int) : valV (dct l sd c s) (.inr "cells") = some (.ref c) := rfl
theorem v_spot (l sd : Int) (c : Addr) (s : Int) : valV (dct l sd c s) (.inr "spot") = some (.int s) := rfl
theorem p_left (l sd : Int) (c : Addr) (s x : Int) : putK (dct l sd c s) (.inr "left") (.int x) = dct x sd c s := rfl
theorem p_spot (l sd : Int) (c : Addr) (s x : Int) : putK (dct l sd c s) (.inr "spot") (.int x) = dct l sd c x := rfl
theorem h_get {σ : L2.St} {H : Hp} {p : Addr} {kvs : List (Key × V)} {x : Str} {v : V} {Q : VK} (h0 : σ[0]? = some (some (V.ref p))) (e : H p = some (.dK kvs)) (hv : valV kvs (.inr x) = some v) (q : Q v H) : tDGet (tVar 0) (tC (.str x)) σ H Q :=
  ⟨V.ref p, h0, p, v, rfl, by rw [← hv]; exact DGet.k (k := .inr x) e, q⟩
theorem h_put {σ : L2.St} {H H1 : Hp} {p : Addr} {kvs : List (Key × V)} {x : Str} {v : V} {te : TE} {D : Ends} (h0 : σ[0]? = some (some (V.ref p))) (e : H p = some (.dK kvs)) (hl : kvs.length < sizeLine) (ht : ∀ Q : VK, Q v H → te σ H Q) (q : D.nx σ (upd H p (.dK (putK kvs (.inr x) v)))) : sDPut (tVar 0) (tC (.str x)) te D σ H :=
  ht _ ⟨V.ref p, h0, p, _, rfl, DPut.k (k := .inr x) e hl, q⟩
theorem dct_len (l sd : Int) (c : Addr) (s : Int) : (dct l sd c s).length < sizeLine := by
  show 4 < sizeLine
  exact Nat.lt_of_lt_of_le (by decide) (show 100000 ≤ sizeLine by decide)
theorem mR_put {T : List (Addr × Str)} {p c : Addr} {n : Nat} {H : Hp} {l sd s l' s' : Int} (hP : H p = some (.dK (dct l sd c s))) (hT : LamX.Tabs T H) (h1 : s ≤ s') (h2 : s' ≤ s + (n : Int)) : mR T p c n H (upd H p (.dK (dct l' sd c s'))) := by
  have ne : ∀ b u, H b = some u → (∀ kvs, u ≠ .dK kvs) → b ≠ p := fun b u e k z => by
    rw [z, hP] at e
    exact k _ (Option.some.inj e).symm
  refine ⟨fun q o e z _ => ?_, fun l2 sd2 s2 e => ?_, fun b z => ?_, fun r hr => ?_⟩
  · have hq : q ≠ p := z.elim id fun k => ne q o e k
    rw [upd_ne hq]
    exact e
  · rw [hP] at e
    have e2 : dct l sd c s = dct l2 sd2 c s2 := HO.dK.inj (Option.some.inj e)
    unfold dct at e2
    simp at e2
    obtain ⟨rfl, rfl, rfl⟩ := e2
    exact ⟨l', s', upd_same, h1, h2⟩
  · by_cases hb : b = p
    · rw [hb, upd_same]
      simp
    · rw [upd_ne hb]
      exact z
  · obtain ⟨ps, a1, a2, a3⟩ := hT r hr
    refine ⟨ps, by rw [upd_ne (ne _ _ a1 (fun kvs z => by cases z))]; exact a1, a2, fun pos cv hc => ?_⟩
    obtain ⟨c0, e1, e2⟩ := a3 pos cv hc
    refine ⟨c0, e1, ?_⟩
    rw [upd_ne (ne _ _ e2 (fun kvs z => by unfold LamX.CodeO at z; cases z))]
    exact e2
theorem cmul_l {i j : Int} (h1 : 0 ≤ i) (h2 : i < 2 ^ 64) : CMul i j := .inl ⟨by omega, h2⟩
theorem cmul_r {i j : Int} (h1 : 0 ≤ j) (h2 : j < 2 ^ 64) : CMul i j := .inr ⟨by omega, h2⟩

abbrev s_law_draw : Stmt := top 20
abbrev n_law_draw : List Str := ["m", "bound", "found", "spot", "cells", "extra", "cell", "blend"]
theorem sc_law_draw : FnScope n_law_draw ["m", "bound"] (defScope s_law_draw) := ⟨rfl, rfl, rfl, by decide +kernel, rfl, by decide +kernel, by decide +kernel⟩
def sp_law_draw (K : PySem.W.Frag) : Sp := spM K 1 (fun b : Nat => [mark, .int (b : Int)]) (fun b => 0 < b ∧ b < 2 ^ 30) fun b d => ∃ r : Nat, r < b ∧ d = .int (r : Int)
theorem ok_law_draw {f : Addr} {fd : FuncData} (T : Bt K mg) (D : Df K mg "_law_draw" s_law_draw ["m", "bound"] f fd) : Cal P w K mg base "_law_draw" s_law_draw ["m", "bound"] 1 (sp_law_draw K) f fd := by
  refine ok_A D sc_law_draw (fun _ => rfl) fun cdv A outer s H E hgd hr => ⟨_, (pss_cons (ps_if (pt_cmpR op_gt (pe_dget (hu_of hr) (pv 0) pe_str (fun _ _ => rfl)) pe_int (nomark _)) (pss_cons (ps_set (i := 2) sc_law_draw.nd rfl (Or.inl rfl) (pe_op op_modN (pe_callTy call_int1 (by rfl) T.int (by decide +kernel) (pa_cons (pe_dget (hu_of hr) (pv 0) pe_str (fun _ _ => rfl)) pa_nil)) (pv 1)))
        (pss_cons (ps_dput (hu_of hr) (pv 0) pe_str (pe_op op_fdivW (pe_dget (hu_of hr) (pv 0) pe_str (fun _ _ => rfl)) (pv 1)) rfl)
        (pss_one (ps_ret (pv 2))))) pss_nil)
        (pss_cons (ps_set (i := 3) sc_law_draw.nd rfl (Or.inl rfl) (pe_dget (hu_of hr) (pv 0) pe_str (fun _ _ => rfl)))
        (pss_cons (ps_dput (hu_of hr) (pv 0) pe_str (pe_op op_add (pv 3) pe_int) rfl)
        (pss_cons (ps_par (i := 4) (j := 5) rfl sc_law_draw.nd rfl rfl (by decide) rfl rfl (pa_cons (pe_dget (hu_of hr) (pv 0) pe_str (fun _ _ => rfl)) (pa_cons (pe_op op_add (pe_dget (hu_of hr) (pv 0) pe_str (fun _ _ => rfl)) (pe_op op_mul (pe_op op_mul pe_int (pv 3)) (pv 3))) pa_nil)) (by rfl))
        (pss_cons (ps_set (i := 6) sc_law_draw.nd rfl (Or.inl rfl) (pe_ix (ix_listK (K := K) rfl) (pv 4) (pe_op op_modN (pe_callTy call_int1 (by rfl) T.int (by decide +kernel) (pa_cons (pv 3) pa_nil)) (pe_callB call_len_seq (by rfl) T.len PySem.boot_len (pa_cons (pv 4) pa_nil))) (fun _ _ => rfl)))
        (pss_cons (ps_set (i := 7) sc_law_draw.nd rfl (Or.inl rfl) (pe_op op_modN (pe_callTy call_int1 (by rfl) T.int (by decide +kernel) (pa_cons (pe_op op_add (pe_op op_mul (pv 6) (pe_op op_add (pe_op op_mul pe_int (pv 3)) pe_int)) (pv 5)) pa_nil)) pe_int))
        (pss_cons (ps_set (i := 7) sc_law_draw.nd rfl (Or.inl rfl) (pe_op op_modN (pe_callTy call_int1 (by rfl) T.int (by decide +kernel) (pa_cons (pe_op op_add (pe_op op_add (pe_op op_mul (pv 7) (pv 7)) (pe_op op_mul pe_int (pv 3))) (pe_dget (hu_of hr) (pv 0) pe_str (fun _ _ => rfl))) pa_nil)) pe_int))
        (pss_one (ps_ret (pe_op op_modN (pe_op op_fdivW (pe_op op_modN (pe_callTy call_int1 (by rfl) T.int (by decide +kernel) (pa_cons (pe_op op_add (pe_op op_mul (pv 7) pe_int) (pv 3)) pa_nil)) pe_int) pe_int) (pv 1))))))))))), ?_⟩
  rintro L hK ⟨K', T', p, c, ns, hne, rfl⟩ b ⟨hb0, hb1⟩ A σ H hi he hg DD q1 q2
  have hK2 : K' = K := hK
  subst hK2
  obtain ⟨v0, hv0, d0⟩ := he.2 0 mark rfl
  obtain ⟨v1, hv1, d1⟩ := he.2 1 (.int (b : Int)) rfl
  obtain rfl := d1.int
  have hp0 : v0 = .ref p := by
    rcases d0 with ⟨_, h⟩ | h
    · exact h
    · cases h
  subst hp0
  have hl : σ.length = 8 := he.1
  obtain ⟨a0, a1, a2, a3, a4, a5, a6, a7, rfl⟩ : ∃ a0 a1 a2 a3 a4 a5 a6 a7, σ = [a0, a1, a2, a3, a4, a5, a6, a7] := by
    match σ, hl with
    | [a0, a1, a2, a3, a4, a5, a6, a7], _ => exact ⟨a0, a1, a2, a3, a4, a5, a6, a7, rfl⟩
  have e0 : a0 = some (.ref p) := Option.some.inj hv0
  have e1 : a1 = some (.int (b : Int)) := Option.some.inj hv1
  subst e0 e1
  clear hi he d0 d1 hv0 hv1 hl q1
  obtain ⟨⟨l, sd, s, hP, hC, hs0, hs1⟩, hTb⟩ := hg
  have hb : (b : Int) ≠ 0 := by omega
  have hbp : (0 : Int) < (b : Int) := by omega
  have mod_b : ∀ x : Int, ∃ r : Nat, r < b ∧ x.fmod (b : Int) = (r : Int) := fun x => by
    rw [Int.fmod_eq_emod_of_nonneg _ (by omega)]
    have h1 := Int.emod_nonneg x hb
    have h2 := Int.emod_lt_of_pos x hbp
    exact ⟨(x % (b : Int)).toNat, by omega, by omega⟩
  have hcd : ∀ x : Int, CDivW x (b : Int) := fun x => wide_div (b := 30) hbp (nb hb1) (by decide) (by decide)
  refine h_get rfl hP (v_left l sd c s) ⟨l, 0, rfl, rfl, _, rfl, ?_⟩
  by_cases hl0 : (0 : Int) < l
  · rw [decide_eq_true hl0]
    obtain ⟨r, hr1, hr2⟩ := mod_b l
    refine h_get rfl hP (v_left l sd c s) (.inl ⟨l, rfl, ⟨.int (b : Int), rfl, l, b, rfl, rfl, hb, ?_⟩⟩)
    refine h_get rfl hP (v_left l sd c s) ⟨.int (b : Int), rfl, l, b, rfl, rfl, hcd l, .ref p, rfl, p, _, rfl, DPut.k (k := .inr "left") hP (dct_len l sd c s), ?_⟩
    refine ⟨.int (l.fmod b), rfl, q2 _ (.int (r : Int)) _ ?_ (by rw [hr2]; exact .inr (.int _)) ⟨r, hr1, rfl⟩⟩
    rw [p_left]
    exact mR_put hP hTb (Int.le_refl _) (by omega)
  · rw [decide_eq_false hl0]
    have hs2 : s < 2 ^ 50 := by omega
    have hn0 : 0 < ns.length := List.length_pos_iff.mpr hne
    refine h_get rfl hP (v_spot l sd c s) ?_
    refine ⟨.int s, rfl, s, 1, rfl, rfl, .ref p, rfl, p, _, rfl, DPut.k (k := .inr "spot") hP (dct_len l sd c s), ?_⟩
    rw [p_spot]
    have hne2 : c ≠ p := fun z => by
      rw [z, hP] at hC
      cases hC
    generalize hH1 : upd H p (.dK (dct l sd c (s + 1))) = H1
    have hP1 : H1 p = some (.dK (dct l sd c (s + 1))) := by rw [← hH1]; exact upd_same
    have hC1 : H1 c = some (.lst (ns.map V.int)) := by rw [← hH1, upd_ne hne2]; exact hC
    have c1 : CMul 40503 s := cmul_l (by decide) (by decide)
    refine h_get rfl hP1 (v_cells l sd c _) (h_get rfl hP1 (v_seed l sd c _) ⟨.int s, rfl, 40503, s, rfl, rfl, c1, ⟨.int s, rfl, _, s, rfl, rfl, cmul_r hs0 (by omega), sd, _, rfl, rfl, _, _, rfl, ?_⟩⟩)
    refine ⟨.ref c, rfl, .int s, rfl, .inl ⟨s, rfl, .ref c, rfl, c, ns.map V.int, rfl, .inl (SqL.of hC1), s, _, rfl, rfl, by rw [List.length_map]; omega, ?_⟩⟩
    have hmod : ∀ (x y : Int), 0 < y → 0 ≤ x.fmod y ∧ x.fmod y < y := fun x y hy => by
      rw [Int.fmod_eq_emod_of_nonneg _ (by omega)]
      exact ⟨Int.emod_nonneg x (by omega), Int.emod_lt_of_pos x hy⟩
    obtain ⟨m1, m2⟩ := hmod s ((ns.map V.int).length : Nat) (by rw [List.length_map]; omega)
    generalize hk : s.fmod ((ns.map V.int).length : Nat) = k at m1 m2
    obtain ⟨cell, hcell⟩ : ∃ cell : Int, atI (ns.map V.int) k = some (.int cell) := by
      unfold atI ixN
      rw [if_pos m1, if_pos m2]
      have hkn : k.toNat < ns.length := by rw [List.length_map] at m2; omega
      refine ⟨ns[k.toNat], ?_⟩
      show (ns.map V.int)[k.toNat]? = _
      rw [List.getElem?_map, List.getElem?_eq_getElem hkn]
      rfl
    refine ⟨c, ns.map V.int, k, .int cell, rfl, congrArg V.int hk, SqL.of hC1, hcell, ?_⟩
    refine ⟨.int cell, rfl, .int s, rfl, 2, s, rfl, rfl, cmul_l (by decide) (by decide), 2 * s, 3, rfl, rfl, cell, 2 * s + 3, rfl, rfl, cmul_r (by omega) (by omega), V.int (sd + 40503 * s * s), rfl, cell * (2 * s + 3), sd + 40503 * s * s, rfl, rfl, .inl ⟨_, rfl, cell * (2 * s + 3) + (sd + 40503 * s * s), 2147483647, rfl, rfl, (show (2147483647 : Int) ≠ 0 by decide), ?_⟩⟩
    obtain ⟨b1, b2⟩ := hmod (cell * (2 * s + 3) + (sd + 40503 * s * s)) 2147483647 (by decide)
    generalize hbl : (cell * (2 * s + 3) + (sd + 40503 * s * s)).fmod 2147483647 = bl at b1 b2
    refine ⟨.int bl, congrArg (fun z => some (some (V.int z))) hbl, .int bl, congrArg (fun z => some (some (V.int z))) hbl, bl, bl, rfl, rfl, cmul_l b1 (by omega), .int s, rfl, 69621, s, rfl, rfl, cmul_l (by decide) (by decide), bl * bl, 69621 * s, rfl, rfl, ?_⟩
    refine h_get rfl hP1 (v_seed l sd c _) ⟨_, _, rfl, rfl, .inl ⟨_, rfl, bl * bl + 69621 * s + sd, 2147483629, rfl, rfl, (show (2147483629 : Int) ≠ 0 by decide), ?_⟩⟩
    obtain ⟨d1, d2⟩ := hmod (bl * bl + 69621 * s + sd) 2147483629 (by decide)
    generalize hbl2 : (bl * bl + 69621 * s + sd).fmod 2147483629 = bl2 at d1 d2
    have hcd11 : ∀ x : Int, CDivW x 11 := fun x => wide_div (b := 30) (by decide) (by decide) (by decide) (by decide)
    refine ⟨.int bl2, congrArg (fun z => some (some (V.int z))) hbl2, bl2, 48271, rfl, rfl, cmul_r (by decide) (by decide), .int s, rfl, bl2 * 48271, s, rfl, rfl, .inl ⟨_, rfl, bl2 * 48271 + s, 2147483647, rfl, rfl, (show (2147483647 : Int) ≠ 0 by decide), (bl2 * 48271 + s).fmod 2147483647, 11, rfl, rfl, hcd11 _, .int (b : Int), rfl, (bl2 * 48271 + s).fmod 2147483647 / 11, b, rfl, rfl, hb, ?_⟩⟩
    obtain ⟨r, hr1, hr2⟩ := mod_b ((bl2 * 48271 + s).fmod 2147483647 / 11)
    refine q2 _ (.int (r : Int)) _ ?_ (by show Dq _ A H1 (V.int (((bl2 * 48271 + s).fmod 2147483647 / 11).fmod (b : Int))) _; rw [hr2]; exact .inr (.int _)) ⟨r, hr1, rfl⟩
    rw [← hH1]
    exact mR_put hP hTb (by omega) (by omega)

abbrev s_law_begun : Stmt := top 19
abbrev n_law_begun : List Str := ["script", "k", "cells", "great", "seed", "cell"]
theorem sc_law_begun : FnScope n_law_begun ["script", "k"] (defScope s_law_begun) := ⟨rfl, rfl, rfl, by decide +kernel, rfl, by decide +kernel, by decide +kernel⟩
def sp_law_begun (K : PySem.W.Frag) : Sp := fun vs H Q _ => ∃ (T' : List (Addr × Str)) (a : Addr) (sc : List Int) (k : Nat), vs = [.ref a, .int (k : Int)] ∧ SqL K H a (sc.map V.int) ∧ LamX.Tabs T' H ∧ k ≤ 4 ∧ sc.length ≤ 63 ∧
  ∀ p c l sd ns H', (tabL K T').R 0 H H' → H p = none → ns ≠ [] → H' p = some (.dK (dct l sd c 0)) → H' c = some (.lst (ns.map V.int)) → Q (.ref p) H'
theorem len_law_begun : ∀ vs H Q E, sp_law_begun K vs H Q E → vs.length = (["script", "k"] : List Str).length := fun vs H Q E ⟨T', a, sc, k, e, _⟩ => by rw [e]; rfl
theorem tab_put {T : List (Addr × Str)} {p : Addr} {H H7 : Hp} {kvs kvs' : List (Key × V)} (r : (tabL K T).R 0 H H7) (hp : H p = none) (h7 : H7 p = some (.dK kvs)) : (tabL K T).R 0 H (upd H7 p (.dK kvs')) := by
  have ne : ∀ b u, H7 b = some u → (∀ kvs, u ≠ .dK kvs) → b ≠ p := fun b u e k z => by
    rw [z, h7] at e
    exact k _ (Option.some.inj e).symm
  refine ⟨fun b o e n => by rw [upd_ne (ne_of_none e hp)]; exact r.1 b o e n, fun b z => ?_, fun x hx => ?_⟩
  · rw [upd_ne (fun y => z (by rw [y]; exact hp))]
    exact r.2.1 b z
  · obtain ⟨ps, a1, a2, a3⟩ := r.2.2 x hx
    refine ⟨ps, by rw [upd_ne (ne _ _ a1 (fun kvs z => by cases z))]; exact a1, a2, fun pos cv hc => ?_⟩
    obtain ⟨c0, e1, e2⟩ := a3 pos cv hc
    refine ⟨c0, e1, ?_⟩
    rw [upd_ne (ne _ _ e2 (fun kvs z => by unfold LamX.CodeO at z; cases z))]
    exact e2
theorem ok_law_begun {f : Addr} {fd : FuncData} (T : Bt K mg) (D : Df K mg "_law_begun" s_law_begun ["script", "k"] f fd) : Cal P w K mg base "_law_begun" s_law_begun ["script", "k"] 1 (sp_law_begun K) f fd := by
  refine ⟨D.gm, D.F, D.b, okG D.F sc_law_begun len_law_begun (fun cdv A outer s H vs Q E hgd hr h => ⟨_, (pss_cons (ps_set (i := 2) sc_law_begun.nd rfl (Or.inl rfl) (pe_op op_cat (pe_slice sl_list (pv 0) (po_some (pv 1)) po_none) (pe_slice sl_list (pv 0) po_none (po_some (pv 1)))))
        (pss_cons (ps_setLc (i := 3) (own := [("cell", 5)]) (g := gName 5) rfl sc_law_begun.nd rfl rfl (sw_true rfl rfl rfl (by decide +kernel)) (pi_list (pv 2)) (blkOk_by (own := [("cell", 5)]) (N := n_law_begun) (sc := defScope s_law_begun) (by decide +kernel)) (fun _ _ _ _ _ => (pg_name (i := 5) sc_law_begun.nd rfl (Or.inl rfl))) (fun _ _ _ _ _ => (pts_one (pt_cmpR op_ge (pv 5) (pe_op op_pow pe_int pe_int) (nomark _)))) (fun _ _ _ _ _ => (pv 5)))
        (pss_cons (ps_set (i := 4) sc_law_begun.nd rfl (Or.inl rfl) (pe_op op_add pe_int (pv 1)))
        (pss_cons (ps_for PassesOwn.never rfl (pi_list (pv 2)) (pg_name (i := 5) sc_law_begun.nd rfl (Or.inl rfl))
        (pss_one (ps_set (i := 4) sc_law_begun.nd rfl (Or.inl rfl) (pe_op op_modN (pe_callTy call_int1 (by rfl) T.int (by decide +kernel) (pa_cons (pe_op op_add (pe_op op_mul (pv 4) pe_int) (pv 5)) pa_nil)) pe_int))))
        (pss_one (ps_ret (pe_disp (pps_cons pe_str (pe_ifExp (pt_cmpR (op_neD hr.units) (pv 3) (pe_lst pa_nil) (nomark _)) (pe_ix (ix_listK (K := K) rfl) (pv 3) pe_int (fun _ _ => rfl)) pe_int) (pps_cons pe_str (pv 4) (pps_cons pe_str (pe_op op_cat (pv 2) (pe_lst (pa_cons (pe_op op_add (pe_op op_mul pe_int (pv 1)) pe_int) pa_nil))) (pps_cons pe_str pe_int pps_nil)))) (by rfl) (by rfl) (fun z => by cases z) (by decide)))))))), ?_⟩)⟩
  obtain ⟨T', a, sc, k, rfl, hsc, hT, hk, hl, q⟩ := h
  have he : EnvOk (scL K T' a sc) (fun _ => False) (L2.start n_law_begun [V.ref a, .int (k : Int)]) H [some mark, some (.int (k : Int)), none, none, none, none] := ⟨rfl, fun i d e => by
    match i, e with
    | 0, e =>
      have e1 : mark = d := Option.some.inj (Option.some.inj e)
      subst e1
      exact ⟨_, rfl, .inl ⟨rfl, rfl⟩⟩
    | 1, e =>
      have e1 : PyData.int (k : Int) = d := Option.some.inj (Option.some.inj e)
      subst e1
      exact ⟨_, rfl, .inr (.int _)⟩
    | 2, e => cases e
    | 3, e => cases e
    | 4, e => cases e
    | 5, e => cases e
    | i + 6, e => cases e⟩
  have hi : Inn (fun _ => False) H := fun b z => z.elim
  refine (?run : SX (scL K T' a sc) (fun _ => False) H _ _ [some mark, some (.int (k : Int)), none, none, none, none]) _ H hi he ⟨hsc, hT⟩ ((tabL K T').same (H := H) hT (Same.refl H))
  case run =>
    refine sx_asgG (eg_catG (P1 := fun zs => zs.length ≤ sc.length) (P2 := fun zs => zs.length ≤ sc.length) (eg_slS (i := 0) rfl (eo_some (eg_var (i := 1) rfl)) eo_none) (eg_slS (i := 0) rfl eo_none (eo_some (eg_var (i := 1) rfl))) (fun xs ys h1 h2 => by omega)) ?_
    rintro d ⟨xs, ys, hx, hy, rfl⟩
    generalize hc : xs ++ ys = cs
    have hcl : cs.length ≤ 126 := by rw [← hc, List.length_append]; omega
    clear hc hx hy
    refine sx_asgG (eg_lcT (js := [5]) (vs := [5]) (items := cs.map .int) (Pt := fun r => ∃ z : Int, r = .int z) (wk_list (eg_var (i := 2) rfl)) (by simp) (by rw [List.length_map]; omega) (fun i d hd => ?_)) ?_
    · obtain ⟨n, _, _, rfl⟩ := map_at hd
      exact ⟨_, tg_name, ⟨_, et_test (eg_ge (eg_var rfl) (eg_pow eg_int eg_int (by unfold CPow; decide)))⟩, EvG.mono (eg_var rfl) (Nat.le_refl _) fun r e => by rw [e]; exact ⟨(fun z => by cases z), n, rfl⟩⟩
    rintro d ⟨rs, rfl, hrl, hrs⟩
    obtain ⟨gs, rfl, hgl, _⟩ := enc_of (enc := PyData.int) (P := fun _ : Int => True) (rs := rs) fun i d e => let ⟨z, hz⟩ := hrs i d e; ⟨z, trivial, hz⟩
    refine sx_asgG (EvG.mono (eg_add (eg_int (i := 91)) (eg_var (i := 1) rfl)) (Nat.le_refl _) fun d e => e) ?_
    rintro d rfl
    refine sx_sg (N := fun G => ∃ s x, G = [some mark, some (.int (k : Int)), some (lI cs), some (.list (gs.map .int)), some (.int s), x]) (sg_for (js := [5]) (fun i G => ∃ s x, G = [some mark, some (.int (k : Int)), some (lI cs), some (.list (gs.map .int)), some (.int s), x]) (wk_list (eg_var (i := 2) rfl)) ⟨_, none, rfl⟩ (fun i d G hd ⟨s, x, eG⟩ => by
      subst eG
      obtain ⟨n, hn, _, rfl⟩ := map_at hd
      exact ⟨_, tg_name (j := 5), sg_asg (i := 4) (eg_mod (eg_cb (ea_cons (eg_add (eg_mulN (C := CMul) (eg_var (i := 4) rfl) (eg_int (i := 48271)) (cmul_r (by decide) (by decide))) (eg_var (i := 5) rfl)) ea_nil) cs_int) (eg_int (i := 2147483647)) (by decide)) ⟨_, _, rfl⟩⟩) fun G hG => hG) ?_
    rintro G ⟨sd, x, rfl⟩ σ3 H3 hi3 he3 hg3 r3
    have r13 : (tabL K T').R 0 H H3 := r3
    -- the dict
    intro p hp
    have rp : Same H3 (upd H3 p (.dK [])) := fun b o z => by rw [upd_ne (ne_of_none z hp)]; exact z
    have he4 : EnvOk (scL K T' a sc) (fun _ => False) σ3 (upd H3 p (.dK [])) _ := he3.r (L := scL K T' a sc) (n := 0) ((tabL K T').same (H := H3) hg3.2 rp)
    have hP4 : (upd H3 p (.dK [])) p = some (.dK []) := upd_same
    have hg4 : (scL K T' a sc).G 0 (upd H3 p (.dK [])) := ⟨SqL.same hg3.1 rp, hg3.2.ext rp⟩
    have rp2 : (tabL K T').R 0 H3 (upd H3 p (.dK [])) := (tabL K T').same (H := H3) hg3.2 rp
    generalize upd H3 p (.dK []) = H4 at rp rp2 he4 hP4 hg4
    have left : EvG (scL K T' a sc) 0 (tIf (tTest (tOp (rNeD K) (tVar 3) (tLst tNil))) (tOp (rIxL K) (tVar 3) (tC (.int 0))) (tC (.int 0))) [some mark, some (.int (k : Int)), some (lI cs), some (.list (gs.map .int)), some (.int sd), x] (fun d => ∃ l : Int, d = .int l) := by
      cases gs with
      | nil => exact EvG.mono (eg_if (d := .int 0) (et_test (eg_neNil (zs := []) (eg_var (i := 3) rfl))) (fun z => by cases z) fun _ => eg_int) (Nat.le_refl _) fun d e => ⟨0, e⟩
      | cons g gs => exact EvG.mono (eg_if (d := .int g) (et_test (eg_neNil (zs := g :: gs) (eg_var (i := 3) rfl))) (fun _ => eg_ixL (eg_var (i := 3) rfl) eg_int (atI_zero _ _)) fun z => by cases z) (Nat.le_refl _) fun d e => ⟨g, e⟩
    show tIf _ _ _ σ3 H4 _
    refine left _ σ3 H4 (fun b z => z.elim) he4 hg4 _ fun v1 d H5 r5 hv1 ⟨l, e⟩ => ?_
    subst e
    obtain rfl := hv1.int
    have he5 := he4.r r5
    obtain ⟨v2, hs2, hv2⟩ := he5.2 4 (.int sd) rfl
    obtain rfl := hv2.int
    refine ⟨_, hs2, ?_⟩
    show tOp rCat _ _ σ3 H5 _
    refine eg_cat (L := scL K T' a sc) (ds := cs.map .int) (es := [.int (61 * (k : Int) + 17)]) (eg_var (i := 2) rfl) (eg_lst (ea_cons (eg_add (eg_mulN (C := CMul) (eg_int (i := 61)) (eg_var (i := 1) rfl) (cmul_l (by decide) (by decide))) (eg_int (i := 17))) ea_nil)) (by rw [List.length_map]; show _ + 1 ≤ _; omega) _ σ3 H5 (fun b z => z.elim) he5 ⟨SqL.ext hg4.1 r5.1, r5.2.2⟩ _ fun v3 d H7 r7 hv3 e => ?_
    subst e
    obtain ⟨c, xs7, rfl, _, e7, r7'⟩ := hv3.list
    have e8 : (cs.map PyData.int ++ [.int (61 * (k : Int) + 17)]) = (cs ++ [61 * (k : Int) + 17]).map .int := by rw [List.map_append]; rfl
    rw [e8] at r7'
    rw [r7'.ints] at e7
    have r47 : (tabL K T').R 0 H4 H7 := (tabL K T').tr (a := 0) (b := 0) r5 r7
    have hP7 := r47.1 _ _ hP4 (fun ps z => by cases z)
    refine ⟨hP7, [(.inr "left", .int l), (.inr "seed", .int sd), (.inr "cells", .ref c), (.inr "spot", .int 0)], rfl, (show 4 ≤ 15 by decide), ?_⟩
    have hcp : c ≠ p := fun z => by
      rw [z, hP7] at e7
      cases e7
    have r17 : (tabL K T').R 0 H H7 := (tabL K T').tr (a := 0) (b := 0) r13 ((tabL K T').tr (a := 0) (b := 0) rp2 r47)
    refine q p c l sd (cs ++ [61 * (k : Int) + 17]) _ (tab_put r17 ((tabL K T').free (a := 0) r13 hp) hP7) ((tabL K T').free (a := 0) r13 hp) (by simp) upd_same (by rw [upd_ne hcp]; exact e7)

abbrev s_law_like : Stmt := top 22
abbrev n_law_like : List Str := ["told", "due"]
theorem sc_law_like : FnScope n_law_like ["told", "due"] (defScope s_law_like) := ⟨rfl, rfl, rfl, by decide +kernel, rfl, by decide +kernel, by decide +kernel⟩
def sp_law_like (K : PySem.W.Frag) : Sp := spR K (fun d : PyData => [d, d]) Sh fun _ => .bool true
theorem ok_law_like {f : Addr} {fd : FuncData} (T : Bt K mg) (D : Df K mg "_law_like" s_law_like ["told", "due"] f fd) : Cal P w K mg base "_law_like" s_law_like ["told", "due"] 1 (sp_law_like K) f fd := by
  refine ok_R D sc_law_like (fun _ => rfl) fun cdv A outer s H E hgd hr => ⟨_, (pss_one (ps_ret (pe_cmpR op_eq (pe_callB (call_repr hgd hr.units) (by rfl) T.repr (by decide +kernel) (pa_cons (pv 0) pa_nil)) (pe_callB (call_repr hgd hr.units) (by rfl) T.repr (by decide +kernel) (pa_cons (pv 1) pa_nil)) (nomark _)))), ?_⟩
  rintro d ⟨h0, h1, h2, h3, h4⟩
  show SG (pureL K) 0 _ [some d, some d] _ _
  have e : PyData.bool (decide (d.shown = d.shown)) = .bool true := by rw [decide_eq_true rfl]
  rcases h0 with ⟨ds, rfl⟩ | ⟨ds, rfl⟩
  · exact sg_ret ((eg_eqS (eg_cb (ea_cons (eg_var rfl) ea_nil) (cs_reprL h1 h2 h3 h4)) (eg_cb (ea_cons (eg_var rfl) ea_nil) (cs_reprL h1 h2 h3 h4))).to e) rfl
  · exact sg_ret ((eg_eqS (eg_cb (ea_cons (eg_var rfl) ea_nil) (cs_reprT h1 h2 h3 h4)) (eg_cb (ea_cons (eg_var rfl) ea_nil) (cs_reprT h1 h2 h3 h4))).to e) rfl

section
variable {L : Rl} {Γ : List (Option PyData)} {t : TA} {te ta tb : TE} {E : XK} {a b c m n : Nat} {P1 P2 P3 P4 : PyData → Prop}
theorem eg_draw (hS : SM L) {b : Nat} (hb : 0 < b ∧ b < 2 ^ 30) (h0 : Γ[0]? = some (some mark)) : EvG L 1 (tCall (sp_law_draw L.K) [] E (tCons (tVar 0) (tCons (tC (.int (b : Int))) tNil))) Γ (fun d => ∃ z : Int, (0 ≤ z ∧ z < (b : Int)) ∧ d = .int z) :=
  EvG.mono (eg_callM hS b (ea_cons (eg_var h0) (ea_cons eg_int ea_nil)) hb) (Nat.le_refl _) fun d ⟨r, h1, e⟩ => ⟨(r : Int), ⟨by omega, by omega⟩, e⟩
end

end V1
set_option Elab.async false
set_option linter.all false
set_option maxRecDepth 100000
set_option maxHeartbeats 4000000
namespace V1
open PySem PySem.Spec PyProof.Rows L2
variable {P : Program} {w : World} {K : PySem.W.Frag} {mg : Str → Option Value} {base : Heap}
abbrev s_law_of : Stmt := top 21
abbrev n_law_of : List Str := ["m", "some"]
theorem sc_law_of : FnScope n_law_of ["m", "some"] (defScope s_law_of) := ⟨rfl, rfl, rfl, by decide +kernel, rfl, by decide +kernel, by decide +kernel⟩
def sp_law_of (K : PySem.W.Frag) : Sp := spM K 1 (fun ds : List PyData => [mark, .list ds]) (fun ds => ds ≠ [] ∧ ds.length ≤ 100) fun ds d => d ∈ ds
theorem ok_law_of {f : Addr} {fd : FuncData} (T : Bt K mg) (D : Df K mg "_law_of" s_law_of ["m", "some"] f fd)
    {f_law_draw : Addr} {d_law_draw : FuncData} (h_law_draw : Cal P w K mg base "_law_draw" s_law_draw ["m", "bound"] 1 (sp_law_draw K) f_law_draw d_law_draw) : Cal P w K mg base "_law_of" s_law_of ["m", "some"] 2 (sp_law_of K) f fd := by
  refine ok_A D sc_law_of (fun _ => rfl) fun cdv A outer s H E hgd hr => ⟨_, (pss_one (ps_ret (pe_ix (ix_listK (K := K) rfl) (pv 1) (pe_fn (E := E0) h_law_draw.G hgd (hr.mono (by decide)) (by rfl) h_law_draw.gm h_law_draw.kp h_law_draw.b (pa_cons (pv 0) (pa_cons (pe_callB call_len_seq (by rfl) T.len PySem.boot_len (pa_cons (pv 1) pa_nil)) pa_nil))) (fun _ _ => rfl)))), ?_⟩
  rintro L rfl hS ds ⟨h1, h2⟩
  show SG L 1 _ [some mark, some (.list ds)] _ _
  have hl : 0 < ds.length := List.length_pos_iff.mpr h1
  refine sg_retG (EvG.mono (a := 0 + 1) (eg_opG (P := fun d => d ∈ ds) (eg_var rfl) (EvG.mono (eg_callM hS ds.length (ea_cons (eg_var rfl) (ea_cons (eg_cb (ea_cons (eg_var rfl) ea_nil) cs_lenL) ea_nil)) ⟨hl, Nat.lt_of_le_of_lt h2 (by decide)⟩) (Nat.le_refl _) fun d h => h) ?_) (Nat.le_refl _) fun d h => h) fun d h => h
  rintro d1 d2 rfl ⟨r, hr, rfl⟩
  have hat : atI ds (r : Int) = some ds[r] := by
    unfold atI ixN
    rw [if_pos (by omega), if_pos (by omega)]
    show ds[(r : Int).toNat]? = _
    rw [Int.toNat_natCast, List.getElem?_eq_getElem hr]
  exact fun A H x y hi hg hx hy Q q => os_ixL hat A H x y hi hg hx hy Q fun v d H' r' hv e => q v d H' r' hv (by rw [e]; exact List.getElem_mem hr)

end V1
set_option Elab.async false
set_option linter.all false
set_option maxRecDepth 100000
set_option maxHeartbeats 4000000
namespace V1
open PySem PySem.Spec PyProof.Rows L2
variable {P : Program} {w : World} {K : PySem.W.Frag} {mg : Str → Option Value} {base : Heap}
theorem call_tupleK {X : Cx} {K : PySem.W.Frag} (h : X.K = K) : CallR X (.type "tuple") (fun xs H Q => ∃ p ys, xs = [.ref p] ∧ ((SqL K H p ys ∧ ∀ l, H l = none → Q (.ref l) (upd H l (.tup ys))) ∨ (SqT K H p ys ∧ Q (.ref p) H))) := h ▸ call_tuple_of
theorem call_lenK {X : Cx} {K : PySem.W.Frag} (h : X.K = K) : CallR X (.builtin "len") (fun xs H Q => ∃ p ys, xs = [.ref p] ∧ (SqL K H p ys ∨ SqT K H p ys) ∧ Q (.int ys.length) H) := h ▸ call_len_seq
section
variable {L : Rl} {Γ : List (Option PyData)} {t : TA} {te ta tb : TE} {tt tu : TT} {ts u z : TS} {E : XK} {a b c m n : Nat} {N : List (Option PyData) → Prop} {Rt : PyData → Prop}
/-- tuples, one behind the other; the left one isn't empty -/
theorem eg_catTG {P1 P2 : List PyData → Prop} (ha : EvG L a ta Γ (fun d => ∃ ds, d = .tuple ds ∧ P1 ds)) (hb : EvG L b tb Γ (fun d => ∃ ds, d = .tuple ds ∧ P2 ds)) (h1 : ∀ ds, P1 ds → ds ≠ [] ∧ ds.length ≤ 100000) (h2 : ∀ ds, P2 ds → ds.length ≤ 100000) : EvG L (a + b) (tOp (rCatT L.K) ta tb) Γ (fun d => ∃ ds es, d = .tuple (ds ++ es) ∧ P1 ds ∧ P2 es) :=
  eg_opG ha hb fun d1 d2 ⟨ds, e1, p1⟩ ⟨es, e2, p2⟩ => by
    subst e1 e2
    intro A H x y hi hg hx hy Q q
    obtain ⟨p, xs, rfl, e, r⟩ := hx.tuple
    obtain ⟨p2', ys, rfl, e2, r2⟩ := hy.tuple
    obtain ⟨n1, l1⟩ := h1 ds p1
    have l2 := h2 es p2
    have hxs : xs ≠ [] := fun z => n1 (List.length_eq_zero_iff.mp (by rw [← r.length, z]; rfl))
    refine ⟨p, p2', xs, ys, rfl, rfl, e.sq, e2.sq, hxs, Nat.le_trans (by rw [r.length, r2.length]; exact Nat.add_le_add l1 l2) (by decide), fun z => ?_, fun z l hl => ?_⟩
    · have e3 : es = [] := List.length_eq_zero_iff.mp (by rw [← r2.length, z]; rfl)
      subst e3
      exact q _ (.tuple ds) H (Rl.refl hg) (.inr (e.dv r)) ⟨ds, [], by rw [List.append_nil], p1, p2⟩
    · have rr := Rl.newR (o := .tup (xs ++ ys)) hg hl
      exact q _ (.tuple (ds ++ es)) _ rr (.inr (.tup (hi.no hl) upd_same ((r.app r2).r rr))) ⟨ds, es, rfl, p1, p2⟩
theorem eg_tupleG {P : List PyData → Prop} (h : EvG L a te Γ (fun d => ∃ ds, d = .list ds ∧ P ds)) : EvG L a (tCB (fun xs H Q => ∃ p ys, xs = [.ref p] ∧ ((SqL L.K H p ys ∧ ∀ l, H l = none → Q (.ref l) (upd H l (.tup ys))) ∨ (SqT L.K H p ys ∧ Q (.ref p) H))) (tCons te tNil)) Γ (fun d => ∃ ds, d = .tuple ds ∧ P ds) := fun A σ H hi he hg Q q =>
  h A σ H hi he hg _ fun v d H1 r1 hv ⟨ds, e, p⟩ => by
    subst e
    obtain ⟨b, xs, rfl, na, e, r⟩ := hv.list
    refine ⟨b, xs, rfl, .inl ⟨SqL.of e, fun l hl2 => ?_⟩⟩
    have rr := Rl.newR (o := .tup xs) (Rl.gR (b := 0) hg r1) hl2
    exact q _ _ _ (L.tr (b := 0) r1 rr) (.inr (.tup ((hi.r r1).no hl2) upd_same (r.r rr))) ⟨ds, rfl, p⟩
/-- a comprehension: things of one kind -/
theorem eg_lcP {P : PyData → Prop} {PI1 : List PyData → Prop} {wi : TI} {g : TG} {js vs : List Nat} (hP : ∀ d, P d → d ≠ mark) (hw : WkG L a wi Γ PI1) (hj : ∀ j ∈ js, j ∈ vs) (hlen : ∀ items, PI1 items → items.length ≤ b) (hb1 : b ≤ 1000)
    (hb : ∀ items, PI1 items → ∀ (i : Nat) d, items[i]? = some d → ∃ Γ', TgG L g js d (wipeD Γ vs) Γ' ∧ EvG L c te Γ' P) : EvG L (a + b * c) (tLc wi g tYes te vs) Γ (fun r => ∃ ds, r = .list ds ∧ ∃ items, PI1 items ∧ ds.length = items.length ∧ ∀ d ∈ ds, P d) :=
  EvG.mono (eg_lcG (a := a) (b := b) (c := c) (Pt := fun _ _ r => P r) hw hj (fun its e => ⟨hlen its e, hb1⟩) fun its e i d hd => by
    obtain ⟨Γ', h1, h2⟩ := hb its e i d hd
    exact ⟨Γ', h1, EvG.mono h2 (Nat.le_refl _) fun r h => ⟨hP r h, h⟩⟩) (Nat.le_refl _) fun r ⟨its, rs, e1, e2, e3, e4⟩ => ⟨rs, e2, its, e1, e3, fun d hd => by
    obtain ⟨i, hi⟩ := List.getElem?_of_mem hd
    exact e4 i d hi⟩
theorem inV_str (w : Str) (ws : List Str) : inV (.str w) (ws.map V.str) = decide (w ∈ ws) := by
  unfold inV
  induction ws with
  | nil => rfl
  | cons x r ih =>
    rw [List.map_cons, List.any_cons, ih]
    by_cases h : w = x
    · subst h
      have e : eqV (.str w) (.str w) = true := by simp [eqV]
      rw [e]
      simp
    · have e : eqV (.str x) (.str w) = false := by
        simp [eqV]
        exact fun z => h z.symm
      rw [e]
      simp [h]
theorem DvAll.strs {K : PySem.W.Frag} {A : Addr → Prop} {H : Hp} {xs : List V} {ws : List Str} (h : DvAll K A H xs (ws.map PyData.str)) : xs = ws.map V.str := by
  induction ws generalizing xs with
  | nil => cases h; rfl
  | cons n ns ih =>
    cases h with
    | cons a b =>
      cases a
      rw [ih b]
      rfl
theorem flat_strs (ws : List Str) : (ws.map V.str).all flatV = true := by
  induction ws with
  | nil => rfl
  | cons w r ih => rw [List.map_cons, List.all_cons, ih]; rfl
theorem eg_inS {w : Str} {ws : List Str} (ha : EvD L ta Γ (.str w)) (hb : EvD L tb Γ (.tuple (ws.map .str))) : EvD L (tOp (rIn L.K false) ta tb) Γ (.bool (decide (w ∈ ws))) := eg_op ha hb fun A H x y hi hg hx hy Q q => by
  obtain rfl := hx.str
  obtain ⟨p, xs, rfl, e, r⟩ := hy.tuple
  have ex := r.strs
  subst ex
  refine ⟨p, _, rfl, .inr e.sq, rfl, flat_strs ws, ?_⟩
  show Q (.bl (inV (.str w) (ws.map V.str))) H
  rw [inV_str]
  exact q _ _ H (Rl.refl hg) (.inr (.bl _)) rfl
theorem et_orD {k : Bool} {P : Bool → Prop} (h : EtD L tt Γ k) (h1 : k = true → P true) (h2 : k = false → EtG L a tu Γ P) : EtG L a (tOr tt tu) Γ P := fun A σ H hi he hg Q q => h A σ H hi he (L.g0 hg) _ fun H1 r1 => by
  cases k with
  | true => exact q true H1 (L.rle (Nat.zero_le _) r1) (h1 rfl)
  | false => exact h2 rfl A σ H1 (hi.r r1) (he.r r1) (Rl.gR (a := 0) (by rw [Nat.zero_add]; exact hg) r1) Q fun k H2 r2 p => q k H2 (L.rle (Nat.le_of_eq (Nat.zero_add _)) (L.tr r1 r2)) p
theorem et_testG {P : Bool → Prop} (h : EvG L a te Γ (fun d => ∃ k, d = .bool k ∧ P k)) : EtG L a (tTest te) Γ P := fun A σ H hi he hg Q q => h A σ H hi he hg _ fun v d H1 r1 hv ⟨k, e, p⟩ => by
  subst e
  obtain rfl := hv.bool
  exact ⟨k, rfl, q k H1 r1 p⟩
theorem eg_eqIG {P1 : Int → Prop} {j : Int} (ha : EvG L a ta Γ (fun d => ∃ i, P1 i ∧ d = .int i)) (hb : EvD L tb Γ (.int j)) : EvG L (a + 0) (tOp rEq ta tb) Γ (fun d => ∃ k, d = .bool k ∧ True) := eg_opG ha hb fun d1 d2 ⟨i, _, e1⟩ e2 => by
  subst e1 e2
  intro A H x y hi hg hx hy Q q
  obtain rfl := hx.int
  obtain rfl := hy.int
  exact ⟨rfl, q _ (.bool (decide (V.int i = V.int j))) H (Rl.refl hg) (.inr (.bl _)) ⟨_, rfl, trivial⟩⟩
theorem sq_ifG {P : Bool → Prop} (h : EtG L a tt Γ P) (h1 : P true → SG L b (tSeq ts z) Γ N Rt) (h2 : P false → SG L b (tSeq u z) Γ N Rt) : SG L (a + b) (tSeq (tIfS tt ts u) z) Γ N Rt := fun A σ H hi he hg D q1 q2 => h A σ H hi he (L.gle (Nat.le_add_right _ _) hg) _ fun k H1 r1 p => by
  have fin : ∀ {tx : TS}, SG L b tx Γ N Rt → tx D σ H1 := fun {tx} hx => hx A σ H1 (hi.r r1) (he.r r1) (Rl.gR hg r1) D
    (fun σ2 H2 Γ2 r2 e2 p2 => q1 σ2 H2 Γ2 (L.tr r1 r2) e2 p2) fun v d H2 r2 e2 p2 => q2 v d H2 (L.tr r1 r2) e2 p2
  cases k with
  | true => exact fin (h1 p)
  | false => exact fin (h2 p)
theorem sg_retqG {P : PyData → Prop} (h : EvG L a te Γ P) (k : ∀ d, P d → Rt d) : SG L a (tSeq (tRet te) z) Γ N Rt := fun A σ H hi he hg D q1 q2 => h A σ H hi he hg _ fun v d H1 r hv p => q2 v d H1 r hv (k d p)
end

end V1
set_option Elab.async false
set_option linter.all false
set_option maxRecDepth 100000
set_option maxHeartbeats 4000000
/-! (rules) tuple * int for any int, tuple + tuple, slices of tuples: by data. -/
namespace V1
open PySem PySem.Spec PyProof.Rows L2
theorem tmul_self (l : Addr) (items : Array Value) (n : Nat) (dd : Option Addr) (sl : Array (Option Value)) (x : Int) (u : Tok) (c0 : (decide (x < -(2 ^ 63)) || decide (x ≥ 2 ^ 63)) = false) (c1 : (items.isEmpty || x == 1) = true) :
    Meets (Builtin.«tuple.__mul__» ⟨[.ref l, .int x u], []⟩) (fun _ R s => s.heap.get? l = some { cls := .type "tuple", dict := dd, data := .seq items n, slots := sl } ∧ R (.ok (.ret (Value.ref l))) s) :=
  .of_wp fun prog w A R s h => by
    obtain ⟨hp, g, d, tk, os⟩ := s
    obtain ⟨hl, h⟩ := h
    have f1 := AutoSeq1.idx_int
    wp_walk using wpAny_loadPart' hl
    repeat (first
      | (refine wpAny_ite_false (decide_eq_false (by rw [c0]; exact Bool.false_ne_true)) ?_; wp_walk using wpAny_loadPart' hl)
      | (refine wpAny_ite_true (decide_eq_true c1) ?_; wp_walk using wpAny_loadPart' hl)
      | (refine wpAny_ite_true (by simpa using c1) ?_; wp_walk using wpAny_loadPart' hl))
    exact ⟨_, rfl, h⟩
theorem tmul_none (l : Addr) (items : Array Value) (n : Nat) (dd : Option Addr) (sl : Array (Option Value)) (x : Int) (u : Tok) (c0 : (decide (x < -(2 ^ 63)) || decide (x ≥ 2 ^ 63)) = false) (c1 : (items.isEmpty || x == 1) = false) (c2 : (decide (x ≤ 0) || items.isEmpty) = true) :
    Meets (Builtin.«tuple.__mul__» ⟨[.ref l, .int x u], []⟩) (fun _ R s => s.heap.get? l = some { cls := .type "tuple", dict := dd, data := .seq items n, slots := sl } ∧
      R (.ok (.ret (Value.ref s.heap.objs.size))) { s with heap := s.heap.push { cls := Value.type "tuple", data := Data.seq #[] }, toks := s.toks }) :=
  .of_wp fun prog w A R s h => by
    obtain ⟨hp, g, d, tk, os⟩ := s
    obtain ⟨hl, h⟩ := h
    have f1 := AutoSeq1.idx_int
    wp_walk using wpAny_loadPart' hl
    repeat (first
      | (refine wpAny_ite_false (decide_eq_false (by rw [c0]; exact Bool.false_ne_true)) ?_; wp_walk using wpAny_loadPart' hl)
      | (refine wpAny_ite_false (decide_eq_false (by rw [c1]; exact Bool.false_ne_true)) ?_; wp_walk using wpAny_loadPart' hl)
      | (refine wpAny_ite_true (decide_eq_true c2) ?_; wp_walk using wpAny_loadPart' hl))
    exact ⟨_, rfl, h⟩

/-- t * k -/
def rRepA (K : PySem.W.Frag) : R2 := fun x y H Q => ∃ l k xs, x = .ref l ∧ y = .int k ∧ SqT K H l xs ∧ 0 ≤ k ∧ k ≤ 1000 ∧ xs.length ≤ 1000 ∧ ((xs = [] ∨ k = 1) → Q (.ref l) H) ∧
  (xs ≠ [] → k ≠ 1 → ∀ p, H p = none → Q (.ref p) (upd H p (.tup (List.replicate k.toNat xs).flatten)))
theorem op_repA {X : Cx} : OpR X (binaryOp .Mult) (rRepA X.K) := by
  intro pins s σ H x y v u Q I rx ry h
  obtain ⟨l, k, xs, rfl, rfl, hT, h1, h2, hz, q0, q1⟩ := h
  by_cases hs : xs ≠ [] ∧ 2 ≤ k
  · exact op_repT pins s σ H _ _ v u Q I rx ry ⟨l, k, xs, rfl, rfl, hT, hs.1, hs.2, h2, hz, q1 hs.1 (by omega)⟩
  cases rx
  obtain ⟨t, rfl⟩ := ry
  obtain ⟨its, r, ⟨⟨cls, dd, data, sl⟩, ho, hc, n, hd⟩, hsz⟩ := I.tuple hT
  simp only at hc hd
  subst hc hd
  have hle : its.length = xs.length := r.length.symm
  have c0 : (decide (k < -(2 ^ 63)) || decide (k ≥ 2 ^ 63)) = false := by
    rw [decide_eq_false (by omega), decide_eq_false (by omega)] <;> rfl
  have ie : its.toArray.isEmpty = xs.isEmpty := by
    cases its with
    | nil =>
      have : xs = [] := List.length_eq_zero_iff.mp (by rw [← hle]; rfl)
      subst this
      rfl
    | cons a b =>
      cases xs with
      | nil => simp at hle
      | cons c d => rfl
  have go : ∀ {R : Result → Shared → Prop}, (codeAny (model X.prog X.w) X.A (.call (.builtin "tuple.__mul__") ⟨[.ref l, .int k t], []⟩) R s → codeAny (model X.prog X.w) X.A (.call (.builtin "tuple.__mul__") ⟨[.ref l, .int k t], []⟩) R s) := fun h => h
  by_cases hone : xs = [] ∨ k = 1
  · have c1 : (its.toArray.isEmpty || k == 1) = true := by
      rw [ie]
      rcases hone with z | z
      · rw [z]; rfl
      · rw [z]; simp
    exact wpAny_binaryOp_repeat_ref (T := "tuple") (U := "int") (by decide) ⟨_, ho, rfl⟩ (fun s' => typeIs_int s' k t) noFill_tuple_mul F.fills_int_mul F.slot_int_rmul repeat_tuple F.slot_int_index.lookup
      (call_meets F.slot_int_rmul (typeIs_int s k t) F.entry_int_rmul (F.args_int_rmul_2 _ _) (int_rmul_tuple k t l its.toArray n dd sl)
        ⟨ho, rfl, ⟨_, ho, rfl⟩, call_meets F.slot_tuple_mul ⟨_, ho, rfl⟩ F.entry_tuple_mul (F.args_tuple_mul_2 _ _) (tmul_self l its.toArray n dd sl k t c0 c1) ⟨ho, ⟨.ref l, H, I, rfl, q0 hone⟩⟩⟩)
  · have hx : xs ≠ [] := fun z => hone (.inl z)
    have hk1 : k ≠ 1 := fun z => hone (.inr z)
    have hk : k = 0 := by
      by_cases h2 : 2 ≤ k
      · exact absurd ⟨hx, h2⟩ hs
      · omega
    subst hk
    have xe : xs.isEmpty = false := by
      cases xs with
      | nil => exact absurd rfl hx
      | cons c d => rfl
    have c1 : (its.toArray.isEmpty || (0 : Int) == 1) = false := by rw [ie, xe]; rfl
    have c2 : (decide ((0 : Int) ≤ 0) || its.toArray.isEmpty) = true := by simp
    refine wpAny_binaryOp_repeat_ref (T := "tuple") (U := "int") (by decide) ⟨_, ho, rfl⟩ (fun s' => typeIs_int s' 0 t) noFill_tuple_mul F.fills_int_mul F.slot_int_rmul repeat_tuple F.slot_int_index.lookup
      (call_meets F.slot_int_rmul (typeIs_int s 0 t) F.entry_int_rmul (F.args_int_rmul_2 _ _) (int_rmul_tuple 0 t l its.toArray n dd sl)
        ⟨ho, rfl, ⟨_, ho, rfl⟩, call_meets F.slot_tuple_mul ⟨_, ho, rfl⟩ F.entry_tuple_mul (F.args_tuple_mul_2 _ _) (tmul_none l its.toArray n dd sl 0 t c0 c1 c2) ⟨ho, ?_⟩⟩)
    refine ⟨.ref s.heap.objs.size, _, I.laid (t' := s.toks) (o := .tup []) (fun b ob q => Heap.get?_push_of_some _ q) (Nat.le_refl _) ?_, rfl, q1 hx (by decide) _ (I.hok.fresh (Nat.le_refl _))⟩
    exact ⟨by rw [sizeLine_eq]; exact Nat.zero_le _, _, .nil, IsTup.new _ _⟩
section
variable {L : Rl} {Γ : List (Option PyData)} {t : TA} {te ta tb : TE} {tt tu : TT} {E : XK} {a b c m n : Nat}
theorem dv_tup0 {A : Addr → Prop} {H : Hp} {p : Addr} {xs : List V} {ds : List PyData} (h : TpAt L.K A H p xs) (r : DvAll L.K A H xs ds) : Dq L A H (.ref p) (.tuple ds) := .inr (h.dv r)
theorem eg_catA {ds es : List PyData} (ha : EvD L ta Γ (.tuple ds)) (hb : EvD L tb Γ (.tuple es)) (hl : ds.length + es.length ≤ 100000) : EvD L (tOp (rCatA L.K) ta tb) Γ (.tuple (ds ++ es)) := eg_op ha hb fun A H x y hi hg hx hy Q q => by
  obtain ⟨p, xs, rfl, e, r⟩ := hx.tuple
  obtain ⟨p2, ys, rfl, e2, r2⟩ := hy.tuple
  refine ⟨p, p2, xs, ys, rfl, rfl, e.sq, e2.sq, Nat.le_trans (by rw [r.length, r2.length]; exact hl) (by decide), fun z => ?_, fun _ z => ?_, fun _ _ l hl2 => ?_⟩
  · have e3 : ds = [] := List.length_eq_zero_iff.mp (by rw [← r.length, z]; rfl)
    subst e3
    exact q _ _ H (Rl.refl hg) (dv_tup0 e2 r2) (by rw [List.nil_append])
  · have e3 : es = [] := List.length_eq_zero_iff.mp (by rw [← r2.length, z]; rfl)
    subst e3
    exact q _ _ H (Rl.refl hg) (dv_tup0 e r) (by rw [List.append_nil])
  · have rr := Rl.newR (o := .tup (xs ++ ys)) hg hl2
    exact q _ _ _ rr (.inr (.tup (hi.no hl2) upd_same ((r.app r2).r rr))) rfl
theorem rep_one {α : Type} (xs : List α) : (List.replicate (1 : Int).toNat xs).flatten = xs := by
  show [xs].flatten = xs
  simp
theorem rep_nil {α : Type} (n : Nat) : (List.replicate n ([] : List α)).flatten = [] := by
  induction n with
  | zero => rfl
  | succ n ih => rw [List.replicate_succ, List.flatten_cons, ih]; rfl
theorem eg_repA {ds : List PyData} {k : Int} (ha : EvD L ta Γ (.tuple ds)) (hb : EvD L tb Γ (.int k)) (h0 : 0 ≤ k) (h1 : k ≤ 1000) (hl : ds.length ≤ 1000) : EvD L (tOp (rRepA L.K) ta tb) Γ (.tuple (List.replicate k.toNat ds).flatten) := eg_op ha hb fun A H x y hi hg hx hy Q q => by
  obtain ⟨p, xs, rfl, e, r⟩ := hx.tuple
  obtain rfl := hy.int
  refine ⟨p, k, xs, rfl, rfl, e.sq, h0, h1, by rw [r.length]; exact hl, fun z => ?_, fun _ _ l hl2 => ?_⟩
  · refine q _ _ H (Rl.refl hg) (dv_tup0 e r) ?_
    rcases z with z | z
    · have e3 : ds = [] := List.length_eq_zero_iff.mp (by rw [← r.length, z]; rfl)
      subst e3
      rw [rep_nil]
    · subst z
      rw [rep_one]
  · have rr := Rl.newR (o := .tup (List.replicate k.toNat xs).flatten) hg hl2
    exact q _ _ _ rr (.inr (.tup (hi.no hl2) upd_same ((r.rep _).r rr))) rfl
theorem cut_whole {ds : List PyData} {lo hi : Option Int} (h : HT.sIx ds.length 0 lo = 0 ∧ HT.sIx ds.length ds.length hi = ds.length) : cutD ds lo hi = ds := by
  unfold cutD
  rw [h.1, h.2]
  simp
theorem eg_slA {ds : List PyData} {tl th : TO} {lo0 hi0 : Option Int} (h : EvD L te Γ (.tuple ds)) (h1 : EoD L tl Γ lo0) (h2 : EoD L th Γ hi0) : EvD L (tSl (rSlA L.K) te tl th) Γ (.tuple (cutD ds lo0 hi0)) := fun A σ H hi he hg Q q => h A σ H hi he hg _ fun x d1 H1 r1 hx p => by
  subst p
  refine h1 A σ H1 (hi.r r1) (he.r r1) (Rl.gR (b := 0) hg r1) _ fun H2 r2 => h2 A σ H2 ((hi.r r1).r r2) ((he.r r1).r r2) (Rl.gR (b := 0) (Rl.gR (b := 0) hg r1) r2) _ fun H3 r3 => ?_
  have g3 : L.G 0 H3 := Rl.gR (b := 0) (Rl.gR (b := 0) (Rl.gR (b := 0) hg r1) r2) r3
  obtain ⟨p, xs, rfl, e, r⟩ := ((hx.r r2).r r3).tuple
  have r13 := L.tr (a := 0) (b := 0) (L.tr (a := 0) (b := 0) r1 r2) r3
  refine ⟨p, xs, rfl, e.sq, fun hw => ?_, fun hw q1 hq => ?_⟩
  · rw [r.length] at hw
    rw [cut_whole hw] at q
    exact q _ _ H3 r13 (dv_tup0 e r) rfl
  · have rr := Rl.newR (o := .tup (cutV xs lo0 hi0)) g3 hq
    exact q _ _ _ (L.tr (a := 0) (b := 0) r13 rr) (.inr (.tup ((((hi.r r1).r r2).r r3).no hq) upd_same ((r.cut lo0 hi0).r rr))) rfl
end
/-! ### equality of data, x in t -/
theorem dp_of {K : PySem.W.Frag} {L : Rl} {A : Addr → Prop} {H : Hp} {v : V} {d : PyData} (hK : L.K = K) (h : Dq L A H v d) (hd : d ≠ mark) : Dp K H v d := hK ▸ (h.ne hd).dp (K := L.K)
def rInT (K : PySem.W.Frag) : R2 := fun x y H Q => ∃ d ds, Dp K H x d ∧ Dp K H y (.tuple ds) ∧ SeqAt.shaped d = true ∧ SeqAt.shaped (.tuple ds) = true ∧ Q (.bl (ds.any fun z => PyData.eqv z d)) H
theorem op_inT {X : Cx} (hu : X.A.units + 65 < cLine) : OpR X (compareOp .In) (rInT X.K) := by
  intro pins s σ H x y v u Q I rx ry h
  obtain ⟨d, ds, hd, he, sd, se, q⟩ := h
  obtain ⟨as, r1⟩ := Dp.reads I d x v hd rx
  obtain ⟨bs, r2⟩ := Dp.reads I (.tuple ds) y u he ry
  exact SeqAt.in_tuple_reads r2 r1 (SeqAt.canLay_of_shaped se) (SeqAt.canLay_of_shaped sd) (room_in_shaped sd hu) ⟨.bl _, H, I, rfl, q⟩
section
variable {L : Rl} {Γ : List (Option PyData)} {t : TA} {te ta tb : TE}
theorem eg_eqD {d e : PyData} (ha : EvD L ta Γ d) (hb : EvD L tb Γ e) (hd : d ≠ mark) (he : e ≠ mark) (h1 : SeqAt.shaped d = true) (h2 : SeqAt.shaped e = true) : EvD L (tOp (rEqD L.K) ta tb) Γ (.bool (PyData.eqv d e)) := eg_op ha hb fun A H x y hi hg hx hy Q q =>
  ⟨d, e, dp_of rfl hx hd, dp_of rfl hy he, h1, h2, q _ _ H (Rl.refl hg) (.inr (.bl _)) rfl⟩
theorem eg_neD {d e : PyData} (ha : EvD L ta Γ d) (hb : EvD L tb Γ e) (hd : d ≠ mark) (he : e ≠ mark) (h1 : SeqAt.shaped d = true) (h2 : SeqAt.shaped e = true) : EvD L (tOp (rNeD L.K) ta tb) Γ (.bool (!PyData.eqv d e)) := eg_op ha hb fun A H x y hi hg hx hy Q q =>
  ⟨d, e, dp_of rfl hx hd, dp_of rfl hy he, h1, h2, q _ _ H (Rl.refl hg) (.inr (.bl _)) rfl⟩
theorem eg_inT {d : PyData} {ds : List PyData} (ha : EvD L ta Γ d) (hb : EvD L tb Γ (.tuple ds)) (hd : d ≠ mark) (h1 : SeqAt.shaped d = true) (h2 : SeqAt.shaped (.tuple ds) = true) : EvD L (tOp (rInT L.K) ta tb) Γ (.bool (ds.any fun z => PyData.eqv z d)) := eg_op ha hb fun A H x y hi hg hx hy Q q =>
  ⟨d, ds, dp_of rfl hx hd, dp_of rfl hy (by intro z; cases z), h1, h2, q _ _ H (Rl.refl hg) (.inr (.bl _)) rfl⟩
theorem eqv_tup0 (ds : List PyData) : PyData.eqv (.tuple ds) (.tuple []) = ds.isEmpty := by
  cases ds with
  | nil => rfl
  | cons d ds => rfl
theorem eqv_tup1 (y : PyData) (z : Str) : PyData.eqv (.tuple [.str z]) (.tuple [y]) = (match y with | .str x => z == x | _ => false) := by
  cases y <;> simp [PyData.eqv, PyData.eqvAll]
/-! ### isinstance by data -/
def isTup : PyData → Bool
  | .tuple _ => true
  | _ => false
def isStr : PyData → Bool
  | .str _ => true
  | _ => false
theorem kit_tup {d : PyData} (h : d.hasDict = false) : kitB (kindN d) "tuple" = some (isTup d) := by
  cases d with
  | dict k => simp [PyData.hasDict] at h
  | none => exact (show kitB "NoneType" "tuple" = some false by decide +kernel)
  | bool b => exact (show kitB "bool" "tuple" = some false by decide +kernel)
  | int b => exact (show kitB "int" "tuple" = some false by decide +kernel)
  | str b => exact (show kitB "str" "tuple" = some false by decide +kernel)
  | list b => exact (show kitB "list" "tuple" = some false by decide +kernel)
  | tuple b => exact (show kitB "tuple" "tuple" = some true by decide +kernel)
theorem kit_str {d : PyData} (h : d.hasDict = false) : kitB (kindN d) "str" = some (isStr d) := by
  cases d with
  | dict k => simp [PyData.hasDict] at h
  | none => exact (show kitB "NoneType" "str" = some false by decide +kernel)
  | bool b => exact (show kitB "bool" "str" = some false by decide +kernel)
  | int b => exact (show kitB "int" "str" = some false by decide +kernel)
  | str b => exact (show kitB "str" "str" = some true by decide +kernel)
  | list b => exact (show kitB "list" "str" = some false by decide +kernel)
  | tuple b => exact (show kitB "tuple" "str" = some false by decide +kernel)
theorem hd_nm {d : PyData} (h : d.hasDict = false) : d ≠ mark := fun z => by
  rw [z] at h
  simp [PyData.hasDict] at h
theorem eg_isT {d : PyData} (h : EvD L te Γ d) (hd : d.hasDict = false) : EvD L (tCB (rIsi L.K) (tCons te (tCons (tC (.ty "tuple")) tNil))) Γ (.bool (isTup d)) := eg_isi h (hd_nm hd) (kit_tup hd)
theorem eg_isS {d : PyData} (h : EvD L te Γ d) (hd : d.hasDict = false) : EvD L (tCB (rIsi L.K) (tCons te (tCons (tC (.ty "str")) tNil))) Γ (.bool (isStr d)) := eg_isi h (hd_nm hd) (kit_str hd)
/-! ### the signs of a text, chains, all -/
def signsD (z : Str) : List PyData := z.cps.toList.map fun c => PyData.str ⟨#[c]⟩
theorem wk_str {z : Str} (h : EvD L te Γ (.str z)) : WkD L (iStr te) Γ (signsD z) := fun A σ H hi he hg R q => h A σ H hi he hg _ fun x d1 H1 r1 hx p => by
  subst p
  obtain rfl := hx.str
  have hl : (signsD z).length = z.cps.size := by unfold signsD; rw [List.length_map, Array.length_toList]
  refine ⟨z, rfl, q _ H1 _ r1 rfl ⟨fun i H' k hi => ?_, fun i H' x H'' k hA y hi => ?_, fun H' k => ?_⟩⟩
  · show i < z.cps.size
    omega
  · obtain ⟨rfl, c, hc, rfl⟩ := y
    refine ⟨.str ⟨#[c]⟩, ?_, Same.refl _, fun A' _ _ => .str _⟩
    unfold signsD
    rw [List.getElem?_map, Array.getElem?_toList, hc]
    rfl
  · show z.cps.size ≤ (signsD z).length
    omega
theorem eg_chainI {i j k : Int} {tc : TE} {a b : Int → Int → Bool} (ha : EvD L ta Γ (.int i)) (hb : EvD L tb Γ (.int j)) (hc : EvD L tc Γ (.int k)) : EvD L (tChain (rI0 fun i j => .bl (a i j)) (rI0 fun i j => .bl (b i j)) ta tb tc) Γ (.bool (a i j && b j k)) := fun A σ H hi he hg Q q =>
  ha A σ H hi he hg _ fun x d1 H1 r1 hx e1 => hb A σ H1 (hi.r r1) (he.r r1) (Rl.gR (b := 0) hg r1) _ fun y d2 H2 r2 hy e2 => by
    subst e1 e2
    obtain rfl := hx.int
    obtain rfl := hy.int
    refine ⟨i, j, rfl, rfl, _, rfl, ?_⟩
    have r12 := L.tr (a := 0) (b := 0) r1 r2
    cases h : a i j with
    | true =>
      rw [if_pos rfl]
      refine hc A σ H2 ((hi.r r1).r r2) ((he.r r1).r r2) (Rl.gR (b := 0) hg r12) _ fun w d3 H3 r3 hw e3 => ?_
      subst e3
      obtain rfl := hw.int
      exact ⟨j, k, rfl, rfl, q _ _ H3 (L.tr (a := 0) (b := 0) r12 r3) (.inr (.bl _)) (by rw [h, Bool.true_and])⟩
    | false =>
      rw [if_neg (by decide)]
      exact q _ _ H2 r12 (.inr (.bl _)) (by rw [h]; rfl)
def rS2 (f : Str → Str → Bool) : R2 := fun x y H Q => ∃ i j, x = .str i ∧ y = .str j ∧ Q (.bl (f i j)) H
theorem eg_chainS {i j k : Str} {tc : TE} {a b : Str → Str → Bool} (ha : EvD L ta Γ (.str i)) (hb : EvD L tb Γ (.str j)) (hc : EvD L tc Γ (.str k)) : EvD L (tChain (rS2 a) (rS2 b) ta tb tc) Γ (.bool (a i j && b j k)) := fun A σ H hi he hg Q q =>
  ha A σ H hi he hg _ fun x d1 H1 r1 hx e1 => hb A σ H1 (hi.r r1) (he.r r1) (Rl.gR (b := 0) hg r1) _ fun y d2 H2 r2 hy e2 => by
    subst e1 e2
    obtain rfl := hx.str
    obtain rfl := hy.str
    refine ⟨i, j, rfl, rfl, _, rfl, ?_⟩
    have r12 := L.tr (a := 0) (b := 0) r1 r2
    cases h : a i j with
    | true =>
      rw [if_pos rfl]
      refine hc A σ H2 ((hi.r r1).r r2) ((he.r r1).r r2) (Rl.gR (b := 0) hg r12) _ fun w d3 H3 r3 hw e3 => ?_
      subst e3
      obtain rfl := hw.str
      exact ⟨j, k, rfl, rfl, q _ _ H3 (L.tr (a := 0) (b := 0) r12 r3) (.inr (.bl _)) (by rw [h, Bool.true_and])⟩
    | false =>
      rw [if_neg (by decide)]
      exact q _ _ H2 r12 (.inr (.bl _)) (by rw [h]; rfl)
theorem DvAll.bls {K : PySem.W.Frag} {A : Addr → Prop} {H : Hp} {xs : List V} {bs : List Bool} (h : DvAll K A H xs (bs.map PyData.bool)) : xs = bs.map V.bl := by
  induction bs generalizing xs with
  | nil => cases h; rfl
  | cons n ns ih =>
    cases h with
    | cons a b =>
      cases a
      rw [ih b]
      rfl
theorem eg_all {bs : List Bool} (h : EvD L te Γ (.list (bs.map .bool))) : EvD L (tCB (rAll L.K) (tCons te tNil)) Γ (.bool (bs.all id)) := fun A σ H hi he hg Q q => h A σ H hi he hg _ fun x d H1 r1 hx e => by
  subst e
  obtain ⟨p, xs, rfl, na, e, r⟩ := hx.list
  rw [r.bls] at e
  exact ⟨p, bs, rfl, SqL.of e, q _ _ H1 r1 (.inr (.bl _)) rfl⟩
end
end V1
set_option Elab.async false
set_option linter.all false
set_option maxRecDepth 100000
set_option maxHeartbeats 4000000
/-! k01: the two names of math; shared. -/
namespace V1
open PySem PySem.Spec PyProof.Rows L2
theorem call_isiK {X : Cx} {K : PySem.W.Frag} (h : X.K = K) : CallR X (.builtin "isinstance") (rIsi K) := h ▸ call_isi
structure Cst (K : PySem.W.Frag) (w : World) (mg : Str → Option Value) : Prop where
  gcd : mg "gcd" = some (.builtin "math.gcd")
  lcm : mg "lcm" = some (.builtin "math.lcm")
theorem hd_ne {d : PyData} (h : d.hasDict = false) : d ≠ mark := fun z => by
  rw [z] at h
  simp [PyData.hasDict] at h
theorem hd_nomk {d : PyData} (h : d.hasDict = false) : nomk [d] = true := by
  cases d with
  | dict k => simp [PyData.hasDict] at h
  | _ => rfl
theorem hd_nomk2 {d e : PyData} (h : d.hasDict = false) (h2 : e.hasDict = false) : nomk [d, e] = true := by
  cases d with
  | dict k => simp [PyData.hasDict] at h
  | _ => cases e with
    | dict k => simp [PyData.hasDict] at h2
    | _ => rfl
theorem hd_mem {ds : List PyData} (h : (PyData.tuple ds).hasDict = false) : ∀ d ∈ ds, d.hasDict = false := by
  have h1 : PyData.hasDictAll ds = false := by simpa only [PyData.hasDict] using h
  clear h
  induction ds with
  | nil => intro d hd; simp at hd
  | cons x r ih =>
    simp only [PyData.hasDictAll, Bool.or_eq_false_iff] at h1
    intro d hd
    rcases List.mem_cons.mp hd with rfl | hd
    · exact h1.1
    · exact ih h1.2 d hd
theorem len_bulkA : ∀ (ds : List PyData), ds.length ≤ PyData.bulkAll ds
  | [] => Nat.zero_le _
  | d :: ds => by
    have := len_bulkA ds
    simp only [PyData.bulkAll, List.length_cons]
    omega
theorem len_bulk (ds : List PyData) : ds.length ≤ (PyData.tuple ds).bulk := by
  have := len_bulkA ds
  simpa only [PyData.bulk] using this
end V1
set_option Elab.async false
set_option linter.all false
set_option maxRecDepth 100000
set_option maxHeartbeats 4000000
namespace V1
open PySem PySem.Spec PyProof.Rows L2
variable {P : Program} {w : World} {K : PySem.W.Frag} {mg : Str → Option Value} {base : Heap}

theorem fq_row (q : Rat) : fq q = rowD [q] := by
  have h : lq [q] = q.den := by
    show lcml [q.den] = q.den
    rw [lcml_cons]
    exact Nat.lcm_one_right _
  rw [rowD_one, h]
  show fq q = .tuple [.int (q.num * ((q.den / q.den : Nat) : Int)), .int (q.den : Int)]
  rw [Nat.div_self q.den_pos]
  show fq q = .tuple [.int (q.num * 1), .int (q.den : Int)]
  rw [Int.mul_one]
  rfl

abbrev s_is_int : Stmt := top 7
abbrev n_is_int : List Str := ["value"]
theorem sc_is_int : FnScope n_is_int ["value"] (defScope s_is_int) := ⟨rfl, rfl, rfl, by decide +kernel, rfl, by decide +kernel, by decide +kernel⟩
def isIntD : PyData → Bool
  | .int _ => true
  | _ => false
def sp_is_int (K : PySem.W.Frag) : Sp := spR K (fun d : PyData => [d]) (fun d => d.hasDict = false) fun d => .bool (isIntD d)
theorem ok_is_int {f : Addr} {fd : FuncData} (T : Bt K mg) (C : Cst K w mg) (D : Df K mg "is_int" s_is_int ["value"] f fd) : Cal P w K mg base "is_int" s_is_int ["value"] 1 (sp_is_int K) f fd := by
  refine ok_R D sc_is_int (fun _ => rfl) fun cdv A outer s H E hgd hr => ⟨_, (pss_one (ps_ret (pe_and (pe_callB (id := "isinstance") (x := "isinstance") call_isi (by rfl) T.isinstance (by decide +kernel) (pa_cons (pv 0) (pa_cons (pe_bltn (x := "int") (v := .ty "int") (by rfl) T.int (by decide +kernel) rfl) pa_nil))) (pe_one (pe_not (pe_callB (id := "isinstance") (x := "isinstance") call_isi (by rfl) T.isinstance (by decide +kernel) (pa_cons (pv 0) (pa_cons (pe_bltn (x := "bool") (v := .ty "bool") (by rfl) T.bool (by decide +kernel) rfl) pa_nil)))))))), ?_⟩
  intro d hd
  have hne := hd_ne hd
  have hnm := hd_nomk hd
  show SG (pureL K) 0 _ [some d] _ _
  cases d with
  | int i => exact sg_ret ((eg_andC (L := pureL K) (a := true) (b := true) (eg_isi (n := "int") (L := pureL K) (eg_var rfl) hne (by rfl)) fun _ => eg_not (a := false) (eg_isi (n := "bool") (L := pureL K) (eg_var rfl) hne (by rfl))).to (by rfl)) rfl
  | bool b => exact sg_ret ((eg_andC (L := pureL K) (a := true) (b := false) (eg_isi (n := "int") (L := pureL K) (eg_var rfl) hne (by rfl)) fun _ => eg_not (a := true) (eg_isi (n := "bool") (L := pureL K) (eg_var rfl) hne (by rfl))).to (by rfl)) rfl
  | dict k => simp [PyData.hasDict] at hd
  | none => exact sg_ret ((eg_andC (L := pureL K) (a := false) (b := false) (eg_isi (n := "int") (L := pureL K) (eg_var rfl) hne (by rfl)) fun z => by cases z).to (by rfl)) rfl
  | str z => exact sg_ret ((eg_andC (L := pureL K) (a := false) (b := false) (eg_isi (n := "int") (L := pureL K) (eg_var rfl) hne (by rfl)) fun z => by cases z).to (by rfl)) rfl
  | list z => exact sg_ret ((eg_andC (L := pureL K) (a := false) (b := false) (eg_isi (n := "int") (L := pureL K) (eg_var rfl) hne (by rfl)) fun z => by cases z).to (by rfl)) rfl
  | tuple z => exact sg_ret ((eg_andC (L := pureL K) (a := false) (b := false) (eg_isi (n := "int") (L := pureL K) (eg_var rfl) hne (by rfl)) fun z => by cases z).to (by rfl)) rfl

abbrev s_lowest : Stmt := top 8
abbrev n_lowest : List Str := ["top", "bottom", "shared"]
theorem sc_lowest : FnScope n_lowest ["top", "bottom"] (defScope s_lowest) := ⟨rfl, rfl, rfl, by decide +kernel, rfl, by decide +kernel, by decide +kernel⟩
/-- the fraction a / b, b from 1 -/
def sp_lowest (K : PySem.W.Frag) : Sp := spR K (fun p : Int × Nat => [.int p.1, .int (p.2 : Int)]) (fun p => 0 < p.2 ∧ p.2 < 2 ^ 8000) fun p => fq (rat p.1 p.2)
theorem ok_lowest {f : Addr} {fd : FuncData} (T : Bt K mg) (C : Cst K w mg) (D : Df K mg "lowest" s_lowest ["top", "bottom"] f fd) : Cal P w K mg base "lowest" s_lowest ["top", "bottom"] 1 (sp_lowest K) f fd := by
  refine ok_R D sc_lowest (fun _ => rfl) fun cdv A outer s H E hgd hr => ⟨_, (pss_cons (ps_if (pt_cmpR op_eq (pv 1) pe_int (nomark _)) (pss_one ps_never) pss_nil)
        (pss_cons (ps_set (i := 2) sc_lowest.nd rfl (Or.inl rfl) (pe_callBfun cr_gcd (by rfl) C.gcd (pa_cons (pv 0) (pa_cons (pv 1) pa_nil))))
        (pss_cons (ps_if (pt_cmpR op_lt (pv 1) pe_int (nomark _)) (pss_one (ps_set (i := 2) sc_lowest.nd rfl (Or.inl rfl) (pe_un un_neg (pv 2)))) pss_nil)
        (pss_one (ps_ret (pe_tup (pa_cons (pe_op op_fdivW (pv 0) (pv 2)) (pa_cons (pe_op op_fdivW (pv 1) (pv 2)) pa_nil)))))))), ?_⟩
  rintro ⟨a, b⟩ ⟨h1, h2⟩
  show SG (pureL K) 0 _ [some (.int a), some (.int (b : Int)), none] _ _
  have h1' : 0 < b := h1
  have hg : 0 < Nat.gcd a.natAbs b := Nat.gcd_pos_of_pos_right _ h1'
  have hle : Nat.gcd a.natAbs b ≤ b := Nat.le_of_dvd h1' (Nat.gcd_dvd_right _ _)
  have hd : CDivW a ((Nat.gcd a.natAbs b : Nat) : Int) := wide_div (b := 8000) (by omega) (by rw [Int.natAbs_natCast]; exact Nat.lt_of_le_of_lt hle h2) (by decide) (by decide)
  have hd2 : CDivW (b : Int) ((Nat.gcd a.natAbs b : Nat) : Int) := hd
  refine sq_if_no (et_is (et_test (eg_eqI (eg_var rfl) eg_int)) (decide_eq_false (by omega))) ?_
  refine sq_asg (eg_cb (ea_cons (eg_var rfl) (ea_cons (eg_var rfl) ea_nil)) cs_gcd) ?_
  refine sq_if_no (et_is (et_test (eg_lt (eg_var rfl) eg_int)) (decide_eq_false (by omega))) ?_
  rw [Int.natAbs_natCast]
  exact sg_ret (eg_tup (ea_cons (eg_div (eg_var rfl) (eg_var rfl) hd) (ea_cons (eg_div (eg_var rfl) (eg_var rfl) hd2) ea_nil))) (fq_of h1')

abbrev s_shared_divisor : Stmt := top 10
abbrev n_shared_divisor : List Str := ["integers", "shared", "integer"]
theorem sc_shared_divisor : FnScope n_shared_divisor ["integers"] (defScope s_shared_divisor) := ⟨rfl, rfl, rfl, by decide +kernel, rfl, by decide +kernel, by decide +kernel⟩
def sp_shared_divisor (K : PySem.W.Frag) : Sp := spR K (fun p : Bool × List Int => [sqD p.1 (p.2.map .int)]) (fun _ => True) fun p => .int (gcdl p.2)
theorem ok_shared_divisor {f : Addr} {fd : FuncData} (T : Bt K mg) (C : Cst K w mg) (D : Df K mg "shared_divisor" s_shared_divisor ["integers"] f fd) : Cal P w K mg base "shared_divisor" s_shared_divisor ["integers"] 1 (sp_shared_divisor K) f fd := by
  refine ok_R D sc_shared_divisor (fun _ => rfl) fun cdv A outer s H E hgd hr => ⟨_, (pss_cons (ps_set (i := 1) sc_shared_divisor.nd rfl (Or.inl rfl) pe_int)
        (pss_cons (ps_for PassesOwn.never rfl (pi_any (pv 0)) (pg_name (i := 2) sc_shared_divisor.nd rfl (Or.inl rfl))
        (pss_one (ps_set (i := 1) sc_shared_divisor.nd rfl (Or.inl rfl) (pe_callBfun cr_gcd (by rfl) C.gcd (pa_cons (pv 1) (pa_cons (pv 2) pa_nil))))))
        (pss_one (ps_ret (pv 1))))), ?_⟩
  rintro ⟨k, ns⟩ _
  show SG (pureL K) 0 _ [some (sqD k (ns.map .int)), none, none] _ _
  refine sq_asg eg_int ?_
  refine sg_seq (N1 := fun G => G[1]? = some (some (.int (gcdl ns)))) (sg_for (js := [2]) (fun i G => ∃ x, G = [some (sqD k (ns.map .int)), some (.int (gcdl (ns.take i))), x]) (wk_any (k := k) (eg_var rfl)) ⟨none, rfl⟩ ?_ ?_) fun G hG => ?_
  · rintro i d G hd ⟨x, rfl⟩
    rw [List.getElem?_map] at hd
    cases hn : ns[i]? with
    | none => rw [hn] at hd; cases hd
    | some n =>
      rw [hn] at hd
      have hd' : PyData.int n = d := Option.some.inj hd
      subst hd'
      refine ⟨_, tg_name, sg_asg (eg_cb (ea_cons (eg_var rfl) (ea_cons (eg_var rfl) ea_nil)) cs_gcd) ⟨some (.int n), ?_⟩⟩
      have e : (ns.take (i + 1)) = ns.take i ++ [n] := by
        rw [List.take_add_one, hn]
        rfl
      have e2 : gcdl (ns.take (i + 1)) = Nat.gcd (gcdl (ns.take i)) n.natAbs := by rw [e]; unfold gcdl; rw [List.foldl_append]; rfl
      rw [e2]
      rfl
  · rintro G ⟨x, rfl⟩
    show some (some (PyData.int _)) = _
    rw [List.length_map, List.take_length]
  · exact sg_ret (eg_var hG) rfl

abbrev s_shared_bottom : Stmt := top 11
abbrev n_shared_bottom : List Str := ["bottoms", "bottom", "own"]
theorem sc_shared_bottom : FnScope n_shared_bottom ["bottoms"] (defScope s_shared_bottom) := ⟨rfl, rfl, rfl, by decide +kernel, rfl, by decide +kernel, by decide +kernel⟩
def sp_shared_bottom (K : PySem.W.Frag) : Sp := spR K (fun bs : List Nat => [.list (bs.map fun (b : Nat) => PyData.int (b : Int))]) (fun bs => (∀ b ∈ bs, 0 < b) ∧ lcml bs < 2 ^ 64) fun bs => .int (lcml bs)
theorem ok_shared_bottom {f : Addr} {fd : FuncData} (T : Bt K mg) (C : Cst K w mg) (D : Df K mg "shared_bottom" s_shared_bottom ["bottoms"] f fd) : Cal P w K mg base "shared_bottom" s_shared_bottom ["bottoms"] 1 (sp_shared_bottom K) f fd := by
  refine ok_R D sc_shared_bottom (fun _ => rfl) fun cdv A outer s H E hgd hr => ⟨_, (pss_cons (ps_set (i := 1) sc_shared_bottom.nd rfl (Or.inl rfl) pe_int)
        (pss_cons (ps_for PassesOwn.never rfl (pi_list (pv 0)) (pg_name (i := 2) sc_shared_bottom.nd rfl (Or.inl rfl))
        (pss_one (ps_set (i := 1) sc_shared_bottom.nd rfl (Or.inl rfl) (pe_callBfun call_lcm (by rfl) C.lcm (pa_cons (pv 1) (pa_cons (pv 2) pa_nil))))))
        (pss_one (ps_ret (pv 1))))), ?_⟩
  rintro bs ⟨h0, h1⟩
  show SG (pureL K) 0 _ [some (.list (bs.map fun (b : Nat) => PyData.int (b : Int))), none, none] _ _
  refine sq_asg eg_int ?_
  refine sg_seq (N1 := fun G => G[1]? = some (some (.int (lcml bs)))) (sg_for (js := [2]) (fun i G => ∃ x, G = [some (.list (bs.map fun (b : Nat) => PyData.int (b : Int))), some (.int (lcml (bs.take i))), x]) (wk_list (eg_var rfl)) ⟨none, rfl⟩ ?_ ?_) fun G hG => ?_
  · rintro i d G hd ⟨x, rfl⟩
    rw [List.getElem?_map] at hd
    cases hn : bs[i]? with
    | none => rw [hn] at hd; cases hd
    | some n =>
      rw [hn] at hd
      have hd' : PyData.int (n : Int) = d := Option.some.inj hd
      subst hd'
      have e : (bs.take (i + 1)) = bs.take i ++ [n] := by
        rw [List.take_add_one, hn]
        rfl
      have e2 : lcml (bs.take (i + 1)) = Nat.lcm (lcml (bs.take i)) n := by rw [e]; unfold lcml; rw [List.foldl_append]; rfl
      have hdv : ∀ j, lcml (bs.take j) ≤ lcml bs := fun j => Nat.le_of_dvd (lcml_pos h0) (lcml_dvd fun b hb => dvd_lcml b (List.mem_of_mem_take hb))
      have hn2 : n ≤ lcml bs := Nat.le_of_dvd (lcml_pos h0) (dvd_lcml n (List.mem_of_getElem? hn))
      refine ⟨_, tg_name, sg_asg (eg_cb (ea_cons (eg_var rfl) (ea_cons (eg_var rfl) ea_nil)) (cs_lcm (by rw [Int.natAbs_natCast]; exact Nat.lt_of_le_of_lt (hdv i) h1) (by rw [Int.natAbs_natCast]; exact Nat.lt_of_le_of_lt hn2 h1))) ⟨some (.int n), ?_⟩⟩
      rw [e2, Int.natAbs_natCast, Int.natAbs_natCast]
      rfl
  · rintro G ⟨x, rfl⟩
    show some (some (PyData.int _)) = _
    rw [List.length_map, List.take_length]
  · exact sg_ret (eg_var hG) rfl

abbrev s_law_common : Stmt := top 23
abbrev n_law_common : List Str := ["numbers_so", "found", "number", "remnant"]
theorem sc_law_common : FnScope n_law_common ["numbers_so"] (defScope s_law_common) := ⟨rfl, rfl, rfl, by decide +kernel, rfl, by decide +kernel, by decide +kernel⟩
def sp_law_common (K : PySem.W.Frag) : Sp := spR K (fun p : Bool × List Int => [sqD p.1 (p.2.map .int)]) (fun _ => True) fun p => .int (gcdl p.2)
theorem ok_law_common {f : Addr} {fd : FuncData} (T : Bt K mg) (C : Cst K w mg) (D : Df K mg "_law_common" s_law_common ["numbers_so"] f fd) : Cal P w K mg base "_law_common" s_law_common ["numbers_so"] 1 (sp_law_common K) f fd := by
  refine ok_R D sc_law_common (fun _ => rfl) fun cdv A outer s H E hgd hr => ⟨_, (pss_cons (ps_set (i := 1) sc_law_common.nd rfl (Or.inl rfl) pe_int)
        (pss_cons (ps_for PassesOwn.never rfl (pi_any (pv 0)) (pg_name (i := 2) sc_law_common.nd rfl (Or.inl rfl))
        (pss_cons (ps_set (i := 3) sc_law_common.nd rfl (Or.inl rfl) (pe_callB call_abs (by rfl) T.abs (by decide +kernel) (pa_cons (pv 2) pa_nil)))
        (pss_one (ps_while PassesOwn.never (pt_cmpR op_ne (pv 3) pe_int (nomark _))
        (pss_one (ps_par (i := 1) (j := 3) rfl sc_law_common.nd rfl rfl (by decide) rfl rfl (pa_cons (pv 3) (pa_cons (pe_op op_modN (pe_callTy call_int1 (by rfl) T.int (by decide +kernel) (pa_cons (pv 1) pa_nil)) (pv 3)) pa_nil)) (by rfl)))))))
        (pss_one (ps_ret (pv 1))))), ?_⟩
  rintro ⟨k, ns⟩ _
  show SG (pureL K) 0 _ [some (sqD k (ns.map .int)), none, none, none] _ _
  refine sq_asg eg_int ?_
  refine sg_seq (N1 := fun G => G[1]? = some (some (.int (gcdl ns)))) (sg_for (js := [2]) (fun i G => ∃ x y, G = [some (sqD k (ns.map .int)), some (.int (gcdl (ns.take i))), x, y]) (wk_any (k := k) (eg_var rfl)) ⟨none, none, rfl⟩ ?_ ?_) fun G hG => sg_ret (eg_var hG) rfl
  · rintro i d G hd ⟨x, y, rfl⟩
    obtain ⟨n, hn, _, rfl⟩ := map_at hd
    have e2 : gcdl (ns.take (i + 1)) = Nat.gcd (gcdl (ns.take i)) n.natAbs := by rw [take_next hn]; unfold gcdl; rw [List.foldl_append]; rfl
    refine ⟨_, tg_name, sq_asg (eg_cb (ea_cons (eg_var rfl) ea_nil) cs_abs) ?_⟩
    refine sg_while (fun G => ∃ f r : Nat, G = [some (sqD k (ns.map .int)), some (.int (f : Int)), some (.int n), some (.int (r : Int))] ∧ Nat.gcd f r = gcdl (ns.take (i + 1))) (fun G => match G with | [_, _, _, some (.int r)] => r.toNat | _ => 0) ⟨gcdl (ns.take i), n.natAbs, rfl, e2.symm⟩ ?_
    rintro G ⟨f, r, rfl, hg⟩
    refine ⟨!decide ((r : Int) = 0), et_test (eg_neI (eg_var rfl) eg_int), fun hk => ?_, fun hk => ?_⟩
    · have hr : (r : Int) ≠ 0 := by simpa using hk
      refine sg_par (ea_cons (eg_var rfl) (ea_cons (eg_mod (eg_cb (ea_cons (eg_var rfl) ea_nil) cs_int) (eg_var rfl) hr) ea_nil)) ⟨⟨r, f % r, ?_, ?_⟩, ?_⟩
      · have e3 : (f : Int).fmod (r : Int) = ((f % r : Nat) : Int) := by rw [Int.fmod_eq_emod_of_nonneg _ (by omega)]; rfl
        rw [e3]
        rfl
      · rw [← hg, Nat.gcd_comm f r, Nat.gcd_rec r f, Nat.gcd_comm]
      · show ((f : Int).fmod (r : Int)).toNat < (r : Int).toNat
        have e3 : (f : Int).fmod (r : Int) = ((f % r : Nat) : Int) := by rw [Int.fmod_eq_emod_of_nonneg _ (by omega)]; rfl
        rw [e3]
        have := Nat.mod_lt f (show 0 < r by omega)
        show ((f % r : Nat) : Int).toNat < (r : Int).toNat
        rw [Int.toNat_natCast, Int.toNat_natCast]
        exact this
    · have hr : (r : Int) = 0 := by simpa using hk
      have hr0 : r = 0 := by omega
      subst hr0
      rw [Nat.gcd_zero_right] at hg
      subst hg
      exact ⟨_, _, rfl⟩
  · rintro G ⟨x, y, rfl⟩
    show some (some (PyData.int _)) = _
    rw [List.length_map, List.take_length]

abbrev s_law_lowered : Stmt := top 24
abbrev n_law_lowered : List Str := ["numbers_so", "whole", "number"]
theorem sc_law_lowered : FnScope n_law_lowered ["numbers_so"] (defScope s_law_lowered) := ⟨rfl, rfl, rfl, by decide +kernel, rfl, by decide +kernel, by decide +kernel⟩
def sp_law_lowered (K : PySem.W.Frag) : Sp := spR K (fun p : List Int × Nat => [lI (p.1 ++ [(p.2 : Int)])]) (fun p => 0 < p.2 ∧ p.2 < 2 ^ 8000 ∧ p.1.length ≤ 100) fun p => rowD (over p.1 p.2)
theorem ok_law_lowered {f : Addr} {fd : FuncData} (T : Bt K mg) (C : Cst K w mg) (D : Df K mg "_law_lowered" s_law_lowered ["numbers_so"] f fd)
    {f_law_common : Addr} {d_law_common : FuncData} (h_law_common : Cal P w K mg base "_law_common" s_law_common ["numbers_so"] 1 (sp_law_common K) f_law_common d_law_common) : Cal P w K mg base "_law_lowered" s_law_lowered ["numbers_so"] 2 (sp_law_lowered K) f fd := by
  refine ok_R D sc_law_lowered (fun _ => rfl) fun cdv A outer s H E hgd hr => ⟨_, (pss_cons (ps_set (i := 1) sc_law_lowered.nd rfl (Or.inr rfl) (pe_fn (E := E0) h_law_common.G hgd (hr.mono (by decide)) (by rfl) h_law_common.gm h_law_common.kp h_law_common.b (pa_cons (pv 0) pa_nil)))
        (pss_one (ps_ret (pe_ifExp (pt_cmpR op_gt (pv 1) pe_int (nomark _)) (pe_callTy call_tuple_of (by rfl) T.tuple (by decide +kernel) (pa_cons (pe_lc (own := [("number", 2)]) (g := gName 2) (tt := tYes) rfl sc_law_lowered.nd (pi_list (pv 0)) (blkOk_by (own := [("number", 2)]) (N := n_law_lowered) (sc := defScope s_law_lowered) (by decide +kernel)) (fun _ _ _ _ _ => (pg_name (i := 2) sc_law_lowered.nd rfl (Or.inl rfl))) (fun _ _ _ _ _ => pts_nil) (fun _ _ _ _ _ => (pe_op op_fdivW (pv 2) (pv 1)))) pa_nil)) (pe_callTy call_tuple_of (by rfl) T.tuple (by decide +kernel) (pa_cons (pv 0) pa_nil)))))), ?_⟩
  rintro ⟨ns, w⟩ ⟨h0, h1, h2⟩
  have h0' : 0 < w := h0
  generalize hms : ns ++ [(w : Int)] = ms
  show SG (pureL K) 0 _ [some (lI ms), none, none] _ _
  have hg : 0 < gcdl ms := by rw [← hms]; exact gcdl_pos (n := (w : Int)) (by simp) (by omega)
  have hgw : gcdl ms ≤ w := Nat.le_of_dvd h0' (Int.natCast_dvd_natCast.mp (by rw [← hms]; exact gcdl_dvd _ (by simp)))
  have hv : rowD (over ns w) = .tuple ((ms.map fun n => n / (gcdl ms : Int)).map .int) := by
    unfold rowD tI
    rw [← prim_over ns h0', ← hms]
    rfl
  rw [hv]
  have hcd : ∀ n : Int, CDivW n ((gcdl ms : Nat) : Int) := fun n => wide_div (b := 8000) (by omega) (by rw [Int.natAbs_natCast]; exact Nat.lt_of_le_of_lt hgw h1) (by decide) (by decide)
  refine sq_asg (eg_callR (true, ms) (ea_cons (eg_var rfl) ea_nil) trivial) ?_
  have hml : ms.length ≤ 1000 := by rw [← hms, List.length_append]; have : ns.length ≤ 100 := h2; show _ + 1 ≤ _; omega
  refine sg_ret (eg_if (et_test (eg_gt (eg_var rfl) eg_int)) (fun hk => ?_) fun hk => ?_) rfl
  · refine eg_cb (ea_cons ?_ ea_nil) cs_tuple
    rw [List.map_map]
    exact eg_lcm (js := [2]) (xs := ms) (enc := PyData.int) (wk_list (eg_var rfl)) (by simp) hml fun n _ => ⟨(fun z => by cases z), _, tg_name, eg_div (eg_var rfl) (eg_var rfl) (hcd n)⟩
  · have hk' : ¬ ((1 : Int) < (gcdl ms : Int)) := of_decide_eq_false hk
    have e1 : gcdl ms = 1 := by omega
    refine (eg_cb (ea_cons (eg_var rfl) ea_nil) cs_tuple).to ?_
    rw [e1]
    congr 1
    rw [List.map_map]
    refine List.map_congr_left fun n _ => ?_
    show PyData.int n = .int (n / 1)
    rw [Int.ediv_one]

abbrev s_law_fraction : Stmt := top 25
abbrev n_law_fraction : List Str := ["top", "bottom", "found"]
theorem sc_law_fraction : FnScope n_law_fraction ["top", "bottom"] (defScope s_law_fraction) := ⟨rfl, rfl, rfl, by decide +kernel, rfl, by decide +kernel, by decide +kernel⟩
def sp_law_fraction (K : PySem.W.Frag) : Sp := spR K (fun p : Int × Nat => [.int p.1, .int (p.2 : Int)]) (fun p => 0 < p.2 ∧ p.2 < 2 ^ 8000) fun p => fq (rat p.1 p.2)
theorem ok_law_fraction {f : Addr} {fd : FuncData} (T : Bt K mg) (C : Cst K w mg) (D : Df K mg "_law_fraction" s_law_fraction ["top", "bottom"] f fd)
    {f_law_lowered : Addr} {d_law_lowered : FuncData} (h_law_lowered : Cal P w K mg base "_law_lowered" s_law_lowered ["numbers_so"] 2 (sp_law_lowered K) f_law_lowered d_law_lowered) : Cal P w K mg base "_law_fraction" s_law_fraction ["top", "bottom"] 3 (sp_law_fraction K) f fd := by
  refine ok_R D sc_law_fraction (fun _ => rfl) fun cdv A outer s H E hgd hr => ⟨_, (pss_cons (ps_set (i := 2) sc_law_fraction.nd rfl (Or.inl rfl) (pe_fn (E := E0) h_law_lowered.G hgd (hr.mono (by decide)) (by rfl) h_law_lowered.gm h_law_lowered.kp h_law_lowered.b (pa_cons (pe_lst (pa_cons (pv 0) (pa_cons (pv 1) pa_nil))) pa_nil)))
        (pss_one (ps_ret (pe_ifExp (pt_cmpR op_gt (pv 1) pe_int (nomark _)) (pv 2) (pe_tup (pa_cons (pe_un un_neg (pe_ix (ix_tupK (K := K) rfl) (pv 2) pe_int (fun _ _ => rfl))) (pa_cons (pe_un un_neg (pe_ix (ix_tupK (K := K) rfl) (pv 2) pe_int (fun _ _ => rfl))) pa_nil))))))), ?_⟩
  rintro ⟨a, b⟩ ⟨h0, h1⟩
  have h0' : 0 < b := h0
  show SG (pureL K) 0 _ [some (.int a), some (.int (b : Int)), none] _ _
  refine sq_asg ((eg_callR ([a], b) (ea_cons (eg_lst (ds := [.int a, .int (b : Int)]) (ea_cons (eg_var rfl) (ea_cons (eg_var rfl) ea_nil))) ea_nil) ⟨h0, h1, (show 1 ≤ 100 by decide)⟩).to (d' := fq (rat a b)) (by rw [fq_row]; rfl)) ?_
  refine sg_ret (eg_if (et_test (eg_gt (eg_var rfl) eg_int)) (fun _ => eg_var rfl) fun hk => ?_) rfl
  have hk' : ¬ ((0 : Int) < (b : Int)) := of_decide_eq_false hk
  omega

abbrev s_law_point : Stmt := top 26
abbrev n_law_point : List Str := ["numbers_so", "bottom", "sign", "number"]
theorem sc_law_point : FnScope n_law_point ["numbers_so", "bottom"] (defScope s_law_point) := ⟨rfl, rfl, rfl, by decide +kernel, rfl, by decide +kernel, by decide +kernel⟩
def sp_law_point (K : PySem.W.Frag) : Sp := spR K (fun p : List Int × Nat => [lI p.1, .int (p.2 : Int)]) (fun p => 0 < p.2 ∧ p.2 < 2 ^ 8000 ∧ p.1.length ≤ 100 ∧ Bn 9000 p.1) fun p => rowD (over p.1 p.2)
theorem ok_law_point {f : Addr} {fd : FuncData} (T : Bt K mg) (C : Cst K w mg) (D : Df K mg "_law_point" s_law_point ["numbers_so", "bottom"] f fd)
    {f_law_lowered : Addr} {d_law_lowered : FuncData} (h_law_lowered : Cal P w K mg base "_law_lowered" s_law_lowered ["numbers_so"] 2 (sp_law_lowered K) f_law_lowered d_law_lowered) : Cal P w K mg base "_law_point" s_law_point ["numbers_so", "bottom"] 3 (sp_law_point K) f fd := by
  refine ok_R D sc_law_point (fun _ => rfl) fun cdv A outer s H E hgd hr => ⟨_, (pss_cons (ps_set (i := 2) sc_law_point.nd rfl (Or.inr rfl) (pe_ifExp (pt_cmpR op_gt (pv 1) pe_int (nomark _)) pe_int (pe_un un_neg pe_int)))
        (pss_one (ps_ret (pe_fn (E := E0) h_law_lowered.G hgd (hr.mono (by decide)) (by rfl) h_law_lowered.gm h_law_lowered.kp h_law_lowered.b (pa_cons (pe_op op_cat (pe_lc (own := [("number", 3)]) (g := gName 3) (tt := tYes) rfl sc_law_point.nd (pi_list (pv 0)) (blkOk_by (own := [("number", 3)]) (N := n_law_point) (sc := defScope s_law_point) (by decide +kernel)) (fun _ _ _ _ _ => (pg_name (i := 3) sc_law_point.nd rfl (Or.inl rfl))) (fun _ _ _ _ _ => pts_nil) (fun _ _ _ _ _ => (pe_op op_mulW (pv 2) (pv 3)))) (pe_lst (pa_cons (pe_op op_mulW (pv 2) (pv 1)) pa_nil))) pa_nil))))), ?_⟩
  rintro ⟨ns, w⟩ ⟨h0, h1, h2, h3⟩
  have h0' : 0 < w := h0
  have h2' : ns.length ≤ 100 := h2
  show SG (pureL K) 0 _ [some (lI ns), some (.int (w : Int)), none, none] _ _
  refine sq_asg (eg_if (d := .int 1) (et_test (eg_gt (eg_var rfl) eg_int)) (fun _ => eg_int) fun hk => ?_) ?_
  · have hk' : ¬ ((0 : Int) < (w : Int)) := of_decide_eq_false hk
    omega
  refine sg_ret (eg_callR (ns, w) (ea_cons ((eg_cat (eg_lcm (js := [3]) (xs := ns) (enc := PyData.int) (res := fun n => .int (1 * n)) (wk_list (eg_var rfl)) (by simp) (by omega) fun n hn => ⟨(fun z => by cases z), _, tg_name, eg_mul (eg_var rfl) (eg_var rfl) (mw (a := 1) (b := 9000) (by decide) (h3 n hn))⟩)
    (eg_lst (ea_cons (eg_mul (eg_var rfl) (eg_var rfl) (mw (a := 1) (b := 8000) (by decide) (nb h1))) ea_nil)) (by rw [List.length_map]; show _ + 1 ≤ _; omega)).to ?_) ea_nil) ⟨h0, h1, h2⟩) rfl
  unfold lI
  rw [List.map_append, Int.one_mul]
  congr 2
  exact List.map_congr_left fun n _ => by rw [Int.one_mul]

abbrev s_law_joint : Stmt := top 27
abbrev n_law_joint : List Str := ["fractions", "bottom", "one"]
theorem sc_law_joint : FnScope n_law_joint ["fractions"] (defScope s_law_joint) := ⟨rfl, rfl, rfl, by decide +kernel, rfl, by decide +kernel, by decide +kernel⟩
theorem num_le {n : Nat} {qs : List Rat} (h : rb n qs) {q : Rat} (hq : q ∈ qs) : q.num.natAbs < 2 ^ n := by
  have h2 := rb_tq h hq
  have h3 := Int.natAbs_mul q.num ((lq qs / q.den : Nat) : Int)
  have h4 : 0 < lq qs / q.den := Nat.div_pos (Nat.le_of_dvd (lq_pos qs) (lq_dvd hq)) q.den_pos
  unfold tq at h2
  rw [h3, Int.natAbs_natCast] at h2
  exact Nat.lt_of_le_of_lt (Nat.le_mul_of_pos_right _ h4) h2
theorem den_le {n : Nat} {qs : List Rat} (h : rb n qs) {q : Rat} (hq : q ∈ qs) : q.den < 2 ^ n := Nat.lt_of_le_of_lt (Nat.le_of_dvd (lq_pos qs) (lq_dvd hq)) (rb_lq h)
def sp_law_joint (K : PySem.W.Frag) : Sp := spR K (fun qs : List Rat => [.tuple (qs.map fq)]) (fun qs => rb 1500 qs) fun qs => rowD qs
theorem ok_law_joint {f : Addr} {fd : FuncData} (T : Bt K mg) (C : Cst K w mg) (D : Df K mg "_law_joint" s_law_joint ["fractions"] f fd)
    {f_law_common : Addr} {d_law_common : FuncData} (h_law_common : Cal P w K mg base "_law_common" s_law_common ["numbers_so"] 1 (sp_law_common K) f_law_common d_law_common)
    {f_law_point : Addr} {d_law_point : FuncData} (h_law_point : Cal P w K mg base "_law_point" s_law_point ["numbers_so", "bottom"] 3 (sp_law_point K) f_law_point d_law_point) : Cal P w K mg base "_law_joint" s_law_joint ["fractions"] 4 (sp_law_joint K) f fd := by
  refine ok_R D sc_law_joint (fun _ => rfl) fun cdv A outer s H E hgd hr => ⟨_, (pss_cons (ps_set (i := 1) sc_law_joint.nd rfl (Or.inr rfl) pe_int)
        (pss_cons (ps_for PassesOwn.never rfl (pi_tup (pv 0)) (pg_name (i := 2) sc_law_joint.nd rfl (Or.inl rfl))
        (pss_one (ps_set (i := 1) sc_law_joint.nd rfl (Or.inr rfl) (pe_op op_fdivW (pe_op op_mulW (pv 1) (pe_ix (ix_tupK (K := K) rfl) (pv 2) pe_int (fun _ _ => rfl))) (pe_fn (E := E0) h_law_common.G hgd (hr.mono (by decide)) (by rfl) h_law_common.gm h_law_common.kp h_law_common.b (pa_cons (pe_lst (pa_cons (pv 1) (pa_cons (pe_ix (ix_tupK (K := K) rfl) (pv 2) pe_int (fun _ _ => rfl)) pa_nil))) pa_nil))))))
        (pss_one (ps_ret (pe_fn (E := E0) h_law_point.G hgd (hr.mono (by decide)) (by rfl) h_law_point.gm h_law_point.kp h_law_point.b (pa_cons (pe_lc (own := [("one", 2)]) (g := gName 2) (tt := tYes) rfl sc_law_joint.nd (pi_tup (pv 0)) (blkOk_by (own := [("one", 2)]) (N := n_law_joint) (sc := defScope s_law_joint) (by decide +kernel)) (fun _ _ _ _ _ => (pg_name (i := 2) sc_law_joint.nd rfl (Or.inl rfl))) (fun _ _ _ _ _ => pts_nil) (fun _ _ _ _ _ => (pe_op op_mulW (pe_ix (ix_tupK (K := K) rfl) (pv 2) pe_int (fun _ _ => rfl)) (pe_op op_fdivW (pv 1) (pe_ix (ix_tupK (K := K) rfl) (pv 2) pe_int (fun _ _ => rfl)))))) (pa_cons (pv 1) pa_nil))))))), ?_⟩
  rintro qs h0
  have h0' : rb 1500 qs := h0
  show SG (pureL K) 0 _ [some (.tuple (qs.map fq)), none, none] _ _
  refine sq_asg eg_int ?_
  have hle : ∀ j, lcml ((qs.map fun (q : Rat) => q.den).take j) ≤ lq qs := fun j => Nat.le_of_dvd (lq_pos qs) (lcml_dvd fun b hb => dvd_lcml b (List.mem_of_mem_take hb))
  have hps : ∀ j, 0 < lcml ((qs.map fun (q : Rat) => q.den).take j) := fun j => lcml_pos fun b hb => by
    obtain ⟨q, _, rfl⟩ := List.mem_map.mp (List.mem_of_mem_take hb)
    exact q.den_pos
  refine sg_seq (N1 := fun G => ∃ x, G = [some (.tuple (qs.map fq)), some (.int (lq qs : Int)), x]) (sg_for (js := [2]) (fun i G => ∃ x, G = [some (.tuple (qs.map fq)), some (.int (lcml ((qs.map fun (q : Rat) => q.den).take i) : Nat)), x]) (wk_tup (eg_var rfl)) ⟨none, rfl⟩ ?_ ?_) ?_
  · rintro i d G hd ⟨x, rfl⟩
    obtain ⟨q, hn, hq, rfl⟩ := map_at hd
    have hn2 : (qs.map fun (q : Rat) => q.den)[i]? = some q.den := by rw [List.getElem?_map, hn]; rfl
    generalize hL : lcml ((qs.map fun (q : Rat) => q.den).take i) = Li
    have e2 : lcml ((qs.map fun (q : Rat) => q.den).take (i + 1)) = Nat.lcm Li q.den := by rw [take_next hn2, ← hL]; unfold lcml; rw [List.foldl_append]; rfl
    have hLi : Li < 2 ^ 1500 := by rw [← hL]; exact Nat.lt_of_le_of_lt (hle i) (rb_lq h0')
    have hLp : 0 < Li := by rw [← hL]; exact hps i
    have hqd := den_le h0' hq
    have hg : gcdl [(Li : Int), (q.den : Int)] = Nat.gcd Li q.den := by
      rw [gcdl_cons, gcdl_cons]
      show Nat.gcd Li (Nat.gcd q.den 0) = _
      rw [Nat.gcd_zero_right]
    have hgp : 0 < Nat.gcd Li q.den := Nat.gcd_pos_of_pos_left _ hLp
    have hgl : Nat.gcd Li q.den < 2 ^ 1500 := Nat.lt_of_le_of_lt (Nat.le_of_dvd hLp (Nat.gcd_dvd_left _ _)) hLi
    refine ⟨_, tg_name, sg_asg ((eg_div (eg_mul (eg_var rfl) (eg_ixT (ds := [.int q.num, .int (q.den : Int)]) (eg_var rfl) eg_int rfl) (mw (a := 1500) (b := 1500) (nb hLi) (nb hqd)))
      ((eg_callR (true, [(Li : Int), (q.den : Int)]) (ea_cons (eg_lst (ds := [.int (Li : Int), .int (q.den : Int)]) (ea_cons (eg_var rfl) (ea_cons (eg_ixT (ds := [.int q.num, .int (q.den : Int)]) (eg_var rfl) eg_int rfl) ea_nil))) ea_nil) trivial).to (by rw [hg])) (wide_div (b := 1500) (by omega) (nb hgl) (by decide) (by decide))).to (d' := .int ((Nat.lcm Li q.den : Nat) : Int)) ?_) ⟨_, by rw [e2]; rfl⟩⟩
    show PyData.int ((Li : Int) * (q.den : Int) / ((Nat.gcd Li q.den : Nat) : Int)) = _
    rw [← Int.natCast_mul]
    rfl
  · rintro G ⟨x, rfl⟩
    refine ⟨x, ?_⟩
    rw [List.take_of_length_le (by simp)]
    rfl
  · rintro G ⟨x, rfl⟩
    refine sg_ret ((eg_callR (topQ qs, lq qs) (ea_cons ((eg_lcm (js := [2]) (res := iv (lq qs)) (wk_tup (eg_var rfl)) (by simp) (by have := h0'.1; omega) fun q hq => ⟨(fun z => by cases z), _, tg_name, ?_⟩).to ?_) (ea_cons (eg_var rfl) ea_nil)) ⟨lq_pos qs, Nat.lt_of_lt_of_le (rb_lq h0') (Nat.pow_le_pow_right (by decide) (by decide)), by rw [topQ_len]; have := h0'.1; omega, fun z hz => ?_⟩).to ?_) rfl
    · have hd : q.den ≤ lq qs := Nat.le_of_dvd (lq_pos qs) (lq_dvd hq)
      refine (eg_mul (eg_ixT (ds := [.int q.num, .int (q.den : Int)]) (eg_var rfl) eg_int rfl) (eg_div (i := (lq qs : Int)) (j := (q.den : Int)) (eg_var rfl) (eg_ixT (ds := [.int q.num, .int (q.den : Int)]) (eg_var rfl) eg_int rfl)
        (wide_div (b := 1500) (by have := q.den_pos; omega) (nb (den_le h0' hq)) (by decide) (by decide))) (mw (a := 1500) (b := 1500) (num_le h0' hq) ?_)).to rfl
      have e3 : ((lq qs : Int) / (q.den : Int)) = ((lq qs / q.den : Nat) : Int) := rfl
      rw [e3, Int.natAbs_natCast]
      exact Nat.lt_of_le_of_lt (Nat.div_le_self _ _) (rb_lq h0')
    · unfold lI
      rw [topQ_eq, List.map_map]
      rfl
    · show rowD (over (topQ qs) (lq qs)) = rowD qs
      rw [over_top]
    · rw [topQ_eq] at hz
      obtain ⟨q, hq, rfl⟩ := List.mem_map.mp hz
      exact Nat.lt_of_lt_of_le (rb_tq h0' hq) (Nat.pow_le_pow_right (by decide) (by decide))

abbrev s_point_of : Stmt := top 14
abbrev n_point_of : List Str := ["numbers", "bottom", "number"]
theorem sc_point_of : FnScope n_point_of ["numbers"] (defScope s_point_of) := ⟨rfl, rfl, rfl, by decide +kernel, rfl, by decide +kernel, by decide +kernel⟩
def sp_point_of (K : PySem.W.Frag) : Sp := spR K (fun qs : List Rat => [.tuple (qs.map fq)]) (fun qs => rb 1500 qs ∧ lq qs < 2 ^ 64) fun qs => rowD qs
theorem ok_point_of {f : Addr} {fd : FuncData} (T : Bt K mg) (C : Cst K w mg) (D : Df K mg "point_of" s_point_of ["numbers"] f fd)
    {f_shared_bottom : Addr} {d_shared_bottom : FuncData} (h_shared_bottom : Cal P w K mg base "shared_bottom" s_shared_bottom ["bottoms"] 1 (sp_shared_bottom K) f_shared_bottom d_shared_bottom) : Cal P w K mg base "point_of" s_point_of ["numbers"] 2 (sp_point_of K) f fd := by
  refine ok_R D sc_point_of (fun _ => rfl) fun cdv A outer s H E hgd hr => ⟨_, (pss_cons (ps_set (i := 1) sc_point_of.nd rfl (Or.inr rfl) (pe_fn (E := E0) h_shared_bottom.G hgd (hr.mono (by decide)) (by rfl) h_shared_bottom.gm h_shared_bottom.kp h_shared_bottom.b (pa_cons (pe_lc (own := [("number", 2)]) (g := gName 2) (tt := tYes) rfl sc_point_of.nd (pi_tup (pv 0)) (blkOk_by (own := [("number", 2)]) (N := n_point_of) (sc := defScope s_point_of) (by decide +kernel)) (fun _ _ _ _ _ => (pg_name (i := 2) sc_point_of.nd rfl (Or.inl rfl))) (fun _ _ _ _ _ => pts_nil) (fun _ _ _ _ _ => (pe_ix (ix_tupK (K := K) rfl) (pv 2) pe_int (fun _ _ => rfl)))) pa_nil)))
        (pss_one (ps_ret (pe_callTy call_tuple_of (by rfl) T.tuple (by decide +kernel) (pa_cons (pe_op op_cat (pe_lc (own := [("number", 2)]) (g := gName 2) (tt := tYes) rfl sc_point_of.nd (pi_tup (pv 0)) (blkOk_by (own := [("number", 2)]) (N := n_point_of) (sc := defScope s_point_of) (by decide +kernel)) (fun _ _ _ _ _ => (pg_name (i := 2) sc_point_of.nd rfl (Or.inl rfl))) (fun _ _ _ _ _ => pts_nil) (fun _ _ _ _ _ => (pe_op op_mulW (pe_ix (ix_tupK (K := K) rfl) (pv 2) pe_int (fun _ _ => rfl)) (pe_op op_fdivW (pv 1) (pe_ix (ix_tupK (K := K) rfl) (pv 2) pe_int (fun _ _ => rfl)))))) (pe_lst (pa_cons (pv 1) pa_nil))) pa_nil))))), ?_⟩
  rintro qs ⟨h0, h1⟩
  show SG (pureL K) 0 _ [some (.tuple (qs.map fq)), none, none] _ _
  have hbs : EvD (pureL K) (tLc (iTup K (tVar 0)) (gName 2) tYes (tOp (rIxT K) (tVar 2) (tC (.int 1))) [2]) [some (.tuple (qs.map fq)), none, none] (.list (qs.map fun q => .int (q.den : Int))) :=
    eg_lcm (js := [2]) (wk_tup (eg_var rfl)) (by simp) (by have := h0.1; omega) fun q hq => ⟨(fun z => by cases z), _, tg_name, eg_ixT (ds := [.int q.num, .int (q.den : Int)]) (eg_var rfl) eg_int rfl⟩
  have e1 : (PyData.list (qs.map fun q => .int (q.den : Int))) = .list ((qs.map fun q => q.den).map fun (b : Nat) => PyData.int (b : Int)) := by rw [List.map_map]; rfl
  rw [e1] at hbs
  refine sq_asg (eg_callR (qs.map fun (q : Rat) => q.den) (ea_cons hbs ea_nil) ⟨fun b hb => ?_, h1⟩) ?_
  · obtain ⟨q, _, rfl⟩ := List.mem_map.mp hb
    exact q.den_pos
  have hl := lq_pos qs
  have e2 : rowD qs = .tuple (qs.map (iv (lq qs)) ++ [.int (lq qs : Int)]) := rowD_one qs
  rw [e2]
  refine sg_ret (eg_cb (ea_cons (eg_cat (eg_lcm (js := [2]) (wk_tup (eg_var rfl)) (by simp) (by have := h0.1; omega) fun q hq => ?_) (eg_lst (ea_cons (eg_var rfl) ea_nil)) (by have := h0.1; simp; omega)) ea_nil) cs_tuple) rfl
  have hd : q.den ≤ lq qs := Nat.le_of_dvd hl (lq_dvd hq)
  have hnum : q.num.natAbs < 2 ^ 1500 := by
    have h2 := rb_tq h0 hq
    have h3 := Int.natAbs_mul q.num ((lq qs / q.den : Nat) : Int)
    have h4 : 0 < lq qs / q.den := Nat.div_pos hd q.den_pos
    unfold tq at h2
    rw [h3, Int.natAbs_natCast] at h2
    exact Nat.lt_of_le_of_lt (Nat.le_mul_of_pos_right _ h4) h2
  have hdd : q.den < 2 ^ 64 := Nat.lt_of_le_of_lt hd h1
  refine ⟨(fun z => by cases z), _, tg_name, (eg_mul (eg_ixT (ds := [.int q.num, .int (q.den : Int)]) (eg_var rfl) eg_int rfl) (eg_div (i := (lq qs : Int)) (j := (q.den : Int)) (eg_var rfl) (eg_ixT (ds := [.int q.num, .int (q.den : Int)]) (eg_var rfl) eg_int rfl)
    (wide_div (b := 64) (by have := q.den_pos; omega) (nb hdd) (by decide) (by decide))) (mw (a := 1500) (b := 64) hnum ?_)).to rfl⟩
  have e3 : ((lq qs : Int) / (q.den : Int)) = ((lq qs / q.den : Nat) : Int) := rfl
  rw [e3, Int.natAbs_natCast]
  exact Nat.lt_of_le_of_lt (Nat.div_le_self _ _) h1

abbrev s_numbers_of : Stmt := top 15
abbrev n_numbers_of : List Str := ["point", "top"]
theorem sc_numbers_of : FnScope n_numbers_of ["point"] (defScope s_numbers_of) := ⟨rfl, rfl, rfl, by decide +kernel, rfl, by decide +kernel, by decide +kernel⟩
def sp_numbers_of (K : PySem.W.Frag) : Sp := spR K (fun qs : List Rat => [rowD qs]) (fun qs => rb 1500 qs) fun qs => .tuple (qs.map fq)
theorem ok_numbers_of {f : Addr} {fd : FuncData} (T : Bt K mg) (C : Cst K w mg) (D : Df K mg "numbers_of" s_numbers_of ["point"] f fd)
    {f_lowest : Addr} {d_lowest : FuncData} (h_lowest : Cal P w K mg base "lowest" s_lowest ["top", "bottom"] 1 (sp_lowest K) f_lowest d_lowest) : Cal P w K mg base "numbers_of" s_numbers_of ["point"] 2 (sp_numbers_of K) f fd := by
  refine ok_R D sc_numbers_of (fun _ => rfl) fun cdv A outer s H E hgd hr => ⟨_, (pss_one (ps_ret (pe_callTy call_tuple_of (by rfl) T.tuple (by decide +kernel) (pa_cons (pe_lc (own := [("top", 1)]) (g := gName 1) (tt := tYes) rfl sc_numbers_of.nd (pi_tup (pe_slice sl_tup (pv 0) po_none (po_some (pe_un un_neg pe_int)))) (blkOk_by (own := [("top", 1)]) (N := n_numbers_of) (sc := defScope s_numbers_of) (by decide +kernel)) (fun _ _ _ _ _ => (pg_name (i := 1) sc_numbers_of.nd rfl (Or.inl rfl))) (fun _ _ _ _ _ => pts_nil) (fun _ _ _ _ _ => (pe_fn (E := E0) h_lowest.G hgd (hr.mono (by decide)) (by rfl) h_lowest.gm h_lowest.kp h_lowest.b (pa_cons (pv 1) (pa_cons (pe_ix (ix_tupK (K := K) rfl) (pv 0) (pe_un un_neg pe_int) (fun _ _ => rfl)) pa_nil))))) pa_nil)))), ?_⟩
  rintro qs h0
  have h0' : rb 1500 qs := h0
  show SG (pureL K) 0 _ [some (rowD qs), none] _ _
  rw [rowD_one]
  have hl := lq_pos qs
  refine sg_ret (eg_cb (ea_cons (eg_lcm (xs := qs) (enc := iv (lq qs)) (res := fq) (js := [1]) (wk_tup (eg_init1 (eg_var rfl))) (by simp) (by have := h0'.1; omega) fun q hq => ?_) ea_nil) cs_tuple) rfl
  have hr := eg_callR (L := (pureL K)) (Γ := [some (.tuple (qs.map (iv (lq qs)) ++ [.int (lq qs : Int)])), some (iv (lq qs) q)]) (E := E0) (args := fun p : Int × Nat => [.int p.1, .int (p.2 : Int)]) (ok := fun p => 0 < p.2 ∧ p.2 < 2 ^ 8000) (val := fun p => fq (rat p.1 p.2)) (tq (lq qs) q, lq qs)
    (ea_cons (eg_var (i := 1) rfl) (ea_cons (eg_ixT (L := pureL K) (eg_var (i := 0) rfl) (eg_neg (eg_int (i := 1))) (atI_last _ _)) ea_nil)) ⟨hl, Nat.lt_of_lt_of_le (rb_lq h0') (Nat.pow_le_pow_right (by decide) (by decide))⟩
  exact ⟨(fun z => by cases z), _, tg_name, hr.to (by show fq (rat (tq (lq qs) q) (lq qs)) = fq q; rw [tq_rat hl (lq_dvd hq)])⟩

end V1
set_option Elab.async false
set_option linter.all false
set_option maxRecDepth 100000
set_option maxHeartbeats 4000000
namespace V1
open PySem PySem.Spec PyProof.Rows L2
variable {P : Program} {w : World} {K : PySem.W.Frag} {mg : Str → Option Value} {base : Heap}

def intD : PyData → Int
  | .int i => i
  | _ => 0
def oddIx (ds : List PyData) : Option Nat := ds.findIdx? fun d => !isIntD d
def lastI (ds : List PyData) : Int := intD (ds.getLastD .none)
def gcdD (ds : List PyData) : Nat := gcdl (ds.map intD)
def optI : Option Int → PyData
  | some i => .int i
  | none => .none
def oddD (c : Int) (d : PyData) : Option Int := match d with
  | .tuple ds => if (ds.length : Int) = c then (oddIx ds).map fun (i : Nat) => (i : Int) else some (-1)
  | _ => some (-1)
def faultD (c : Int) (d : PyData) : Option Int := match d with
  | .tuple ds => if (ds.length : Int) = c then (match oddIx ds with
    | some i => some (i : Int)
    | none => if lastI ds < 1 then some (c - 1) else if 1 < gcdD ds then some (-2) else none) else some (-1)
  | _ => some (-1)
def noTup (c : Int) : PyData → Bool
  | .tuple ds => !decide ((ds.length : Int) = c)
  | _ => true
theorem optI_ne (o : Option Int) : optI o ≠ mark := by
  cases o with
  | none => intro z; cases z
  | some p => intro z; cases z
theorem ints_of : ∀ {ds : List PyData}, (∀ d ∈ ds, isIntD d = true) → ds = (ds.map intD).map .int
  | [], _ => rfl
  | d :: ds, h => by
    rw [List.map_cons, List.map_cons, ← ints_of (ds := ds) fun x hx => h x (List.mem_cons_of_mem _ hx)]
    congr 1
    have h1 := h d List.mem_cons_self
    cases d with
    | int i => rfl
    | _ => cases h1
theorem oddIx_some {ds : List PyData} {i : Nat} {d : PyData} (hd : ds[i]? = some d) (h : isIntD d = false) (hb : ∀ (j : Nat) x, j < i → ds[j]? = some x → isIntD x = true) : oddIx ds = some i := by
  unfold oddIx
  rw [List.findIdx?_eq_some_iff_getElem]
  obtain ⟨hl, e⟩ := List.getElem?_eq_some_iff.mp hd
  refine ⟨hl, by rw [e, h]; rfl, fun j hj => ?_⟩
  rw [hb j _ hj (List.getElem?_eq_getElem (by omega))]
  decide
theorem oddIx_none {ds : List PyData} (h : ∀ d ∈ ds, isIntD d = true) : oddIx ds = none := by
  unfold oddIx
  rw [List.findIdx?_eq_none_iff]
  intro x hx
  rw [h x hx]
  rfl
theorem oddIx_ints {ds : List PyData} (h : oddIx ds = none) : ∀ d ∈ ds, isIntD d = true := by
  unfold oddIx at h
  rw [List.findIdx?_eq_none_iff] at h
  intro x hx
  simpa using h x hx
theorem intD_int (ns : List Int) : (ns.map PyData.int).map intD = ns := by
  rw [List.map_map]
  exact (List.map_congr_left fun n _ => rfl).trans (List.map_id ns)
theorem lastI_app (ms : List Int) (w : Int) : lastI ((ms ++ [w]).map PyData.int) = w := by
  unfold lastI
  rw [List.map_append, List.map_cons, List.map_nil, List.getLastD_concat]
  rfl
section
variable {L : Rl} {Γ : List (Option PyData)} {t : TA} {te ta tb : TE} {tt tu : TT}
theorem eg_notOI {o : Option Int} (h : EvD L te Γ (optI o)) : EvD L (tOp (fun x y H Q => y = V.non ∧ Q (.bl (!decide (x = .non))) H) te (tC .non)) Γ (.bool o.isSome) := fun A σ H hi he hg Q q => h A σ H hi he hg _ fun x d H1 r1 hx e => by
  subst e
  refine ⟨rfl, ?_⟩
  cases o with
  | none =>
    have h2 := hx.ne (optI_ne none)
    cases h2
    exact q _ _ H1 r1 (.inr (.bl _)) rfl
  | some p =>
    obtain rfl := hx.int
    exact q _ _ H1 r1 (.inr (.bl _)) rfl
/-- not isinstance(x, tuple) or len(x) != n -/
theorem et_noTup {d : PyData} {c : Int} (ha : EvD L ta Γ d) (hb : EvD L tb Γ (.int c)) (hd : d.hasDict = false) : EtD L (tOr (tNot (tB (tCB (rIsi L.K) (tCons ta (tCons (tC (.ty "tuple")) tNil))))) (tTest (tOp rNe (tCB (fun xs H Q => ∃ p ys, xs = [.ref p] ∧ (SqL L.K H p ys ∨ SqT L.K H p ys) ∧ Q (.int ys.length) H) (tCons ta tNil)) tb))) Γ (noTup c d) := by
  have h1 := et_not (et_B (eg_isT ha hd))
  cases d with
  | tuple ds => exact et_or0 h1 (et_test (eg_neI (eg_cb (ea_cons ha ea_nil) cs_lenT) hb))
  | _ => exact et_or1 h1
end

abbrev s_fault_in_integers : Stmt := top 12
abbrev n_fault_in_integers : List Str := ["count", "value", "place", "integer"]
theorem sc_fault_in_integers : FnScope n_fault_in_integers ["count", "value"] (defScope s_fault_in_integers) := ⟨rfl, rfl, rfl, by decide +kernel, rfl, by decide +kernel, by decide +kernel⟩
def sp_fault_in_integers (K : PySem.W.Frag) : Sp := spR K (fun a : Int × PyData => [.int a.1, a.2]) (fun a => 1 ≤ a.1 ∧ a.2.hasDict = false) fun a => optI (faultD a.1 a.2)
theorem ok_fault_in_integers {f : Addr} {fd : FuncData} (T : Bt K mg) (C : Cst K w mg) (D : Df K mg "fault_in_integers" s_fault_in_integers ["count", "value"] f fd)
    {f_is_int : Addr} {d_is_int : FuncData} (h_is_int : Cal P w K mg base "is_int" s_is_int ["value"] 1 (sp_is_int K) f_is_int d_is_int)
    {f_shared_divisor : Addr} {d_shared_divisor : FuncData} (h_shared_divisor : Cal P w K mg base "shared_divisor" s_shared_divisor ["integers"] 1 (sp_shared_divisor K) f_shared_divisor d_shared_divisor) : Cal P w K mg base "fault_in_integers" s_fault_in_integers ["count", "value"] 2 (sp_fault_in_integers K) f fd := by
  refine ok_R D sc_fault_in_integers (fun _ => rfl) fun cdv A outer s H E hgd hr => ⟨_, (pss_cons (ps_if (PW.pt (pw_or (pt_not (pt_val (pe_callB (id := "isinstance") (x := "isinstance") call_isi (by rfl) T.isinstance (by decide +kernel) (pa_cons (pv 1) (pa_cons (pe_bltn (x := "tuple") (v := .ty "tuple") (by rfl) T.tuple (by decide +kernel) rfl) pa_nil))))) (pw_or1 (pt_cmpR op_ne (pe_callB call_len_seq (by rfl) T.len PySem.boot_len (pa_cons (pv 1) pa_nil)) (pv 0) (nomark _))))) (pss_one (ps_ret (pe_un un_neg pe_int))) pss_nil)
        (pss_cons (ps_for PassesOwn.never rfl (pi_enumP false (by rfl) T.enumerate (pa_cons (pv 1) pa_nil)) (pg_tup rfl (pgs_cons (pg_name (i := 2) sc_fault_in_integers.nd rfl (Or.inl rfl)) (pgs_cons (pg_name (i := 3) sc_fault_in_integers.nd rfl (Or.inl rfl)) pgs_nil)))
        (pss_one (ps_if (pt_not (pt_val (pe_fn (E := E0) h_is_int.G hgd (hr.mono (by decide)) (by rfl) h_is_int.gm h_is_int.kp h_is_int.b (pa_cons (pv 3) pa_nil)))) (pss_one (ps_ret (pv 2))) pss_nil)))
        (pss_cons (ps_if (pt_cmpR op_lt (pe_ix (ix_tupK (K := K) rfl) (pv 1) (pe_un un_neg pe_int) (fun _ _ => rfl)) pe_int (nomark _)) (pss_one (ps_ret (pe_op op_sub (pv 0) pe_int))) pss_nil)
        (pss_cons (ps_if (pt_cmpR op_gt (pe_fn (E := E0) h_shared_divisor.G hgd (hr.mono (by decide)) (by rfl) h_shared_divisor.gm h_shared_divisor.kp h_shared_divisor.b (pa_cons (pv 1) pa_nil)) pe_int (nomark _)) (pss_one (ps_ret (pe_un un_neg pe_int))) pss_nil)
        (pss_one (ps_ret pe_non)))))), ?_⟩
  rintro ⟨c, d⟩ ⟨h0, hd⟩
  have h0 : 1 ≤ c := h0
  have hd : d.hasDict = false := hd
  show SG (pureL K) 0 _ [some (.int c), some d, none, none] _ (fun x => x = optI (faultD c d))
  refine sq_if (et_noTup (L := pureL K) (eg_var rfl) (eg_var rfl) hd) (fun hk => ?_) fun hk => ?_
  · refine sg_retq (eg_neg eg_int) ?_
    have e : faultD c d = some (-1) := by
      cases d with
      | tuple ds =>
        have h : ¬ ((ds.length : Int) = c) := by simpa [noTup] using hk
        unfold faultD
        exact if_neg h
      | _ => rfl
    rw [e]
    rfl
  cases d with
  | tuple ds =>
    have hl : (ds.length : Int) = c := by simpa [noTup] using hk
    have ef : faultD c (.tuple ds) = (match oddIx ds with
      | some i => some (i : Int)
      | none => if lastI ds < 1 then some (c - 1) else if 1 < gcdD ds then some (-2) else none) := by
      unfold faultD
      exact if_pos hl
    have hds : ∀ d ∈ ds, d.hasDict = false := hd_mem hd
    refine sq_next (sg_seq (N1 := fun G => (∃ x y, G = [some (.int c), some (.tuple ds), x, y]) ∧ ∀ d ∈ ds, isIntD d = true) (sg_for (js := [2, 3]) (fun i G => (∃ x y, G = [some (.int c), some (.tuple ds), x, y]) ∧ ∀ (j : Nat) x, j < i → ds[j]? = some x → isIntD x = true) (wk_enum (k := false) (ea_cons (eg_var rfl) ea_nil)) ⟨⟨none, none, rfl⟩, fun j x hj => by omega⟩ ?_ ?_) ?_)
    · rintro i d G hdi ⟨⟨x, y, rfl⟩, hb⟩
      rw [List.getElem?_mapIdx] at hdi
      cases hn : ds[i]? with
      | none => rw [hn] at hdi; cases hdi
      | some e =>
        rw [hn] at hdi
        have hd' : PyData.tuple [.int (i : Nat), e] = d := Option.some.inj hdi
        subst hd'
        refine ⟨_, tg_two, sg_if (et_not (et_B (eg_callR e (ea_cons (eg_var rfl) ea_nil) (hds e (List.mem_of_getElem? hn)) (hd_nomk (hds e (List.mem_of_getElem? hn)))))) (fun hk2 => ?_) fun hk2 => ?_⟩
        · have hz : isIntD e = false := by simpa using hk2
          refine sg_ret (eg_var rfl) ?_
          rw [ef, oddIx_some hn hz hb]
          rfl
        · have hz : isIntD e = true := by simpa using hk2
          refine sg_next ⟨⟨_, _, rfl⟩, fun j x hj hx => ?_⟩
          by_cases hji : j = i
          · subst hji
            rw [hn] at hx
            rw [← Option.some.inj hx]
            exact hz
          · exact hb j x (by omega) hx
    · rintro G ⟨hG, hb⟩
      refine ⟨hG, fun d hd => ?_⟩
      obtain ⟨j, hj⟩ := List.getElem?_of_mem hd
      exact hb j d (by rw [List.length_mapIdx]; exact (List.getElem?_eq_some_iff.mp hj).1) hj
    · rintro G ⟨⟨x, y, rfl⟩, hints⟩
      rw [ef, oddIx_none hints]
      have e1 := ints_of hints
      generalize ds.map intD = ns at e1
      subst e1
      have hg : gcdD (ns.map .int) = gcdl ns := by unfold gcdD; rw [intD_int]
      rw [hg]
      obtain ⟨ms, w, rfl, _⟩ := split_last (xs := ns) (n := ns.length - 1) (by rw [List.length_map] at hl; omega)
      have hlast : atI ((ms ++ [w]).map PyData.int) (-1) = some (.int w) := by
        rw [List.map_append]
        exact atI_last (ms.map PyData.int) (.int w)
      rw [lastI_app]
      show SG (pureL K) 0 _ _ _ (fun x => x = optI (if w < 1 then some (c - 1) else if 1 < gcdl (ms ++ [w]) then some (-2) else none))
      refine sq_if (et_test (eg_lt (eg_ixT (eg_var rfl) (eg_neg eg_int) hlast) eg_int)) (fun hk2 => ?_) fun hk2 => ?_
      · rw [if_pos (of_decide_eq_true hk2)]
        exact sg_ret (eg_sub (eg_var rfl) eg_int) rfl
      · rw [if_neg (of_decide_eq_false hk2)]
        refine sq_next (sq_if (et_test (eg_gt (eg_callR (false, ms ++ [w]) (ea_cons (eg_var rfl) ea_nil) trivial) eg_int)) (fun hk3 => ?_) fun hk3 => ?_)
        · have h3 : 1 < gcdl (ms ++ [w]) := Int.ofNat_lt.mp (of_decide_eq_true hk3)
          rw [if_pos h3]
          exact sg_ret (eg_neg eg_int) rfl
        · have h3 : ¬ (1 < gcdl (ms ++ [w])) := fun z => of_decide_eq_false hk3 (Int.ofNat_lt.mpr z)
          rw [if_neg h3]
          exact sq_next (sg_ret eg_non rfl)
  | _ => cases hk

abbrev s_law_odd_place : Stmt := top 29
abbrev n_law_odd_place : List Str := ["thing", "many", "bad", "k", "number"]
theorem sc_law_odd_place : FnScope n_law_odd_place ["thing", "many"] (defScope s_law_odd_place) := ⟨rfl, rfl, rfl, by decide +kernel, rfl, by decide +kernel, by decide +kernel⟩
theorem head_fil (ds : List PyData) : (((List.range ds.length).filter fun i => !isIntD (ds.getD i .none)).map fun (i : Nat) => (i : Int)).head? = (oddIx ds).map fun (i : Nat) => (i : Int) := by
  rw [List.head?_map, List.head?_filter]
  congr 1
  cases h : oddIx ds with
  | none =>
    rw [List.find?_eq_none]
    intro i hi
    have hl := List.mem_range.mp hi
    have := oddIx_ints h ds[i] (List.getElem_mem hl)
    rw [List.getD_eq_getElem?_getD, List.getElem?_eq_getElem hl]
    show ¬ (!isIntD ds[i]) = true
    rw [this]
    decide
  | some i =>
    unfold oddIx at h
    rw [List.findIdx?_eq_some_iff_getElem] at h
    obtain ⟨hl, h1, h2⟩ := h
    rw [List.find?_range_eq_some]
    refine ⟨?_, List.mem_range.mpr hl, fun j hj => ?_⟩
    · rw [List.getD_eq_getElem?_getD, List.getElem?_eq_getElem hl]
      exact h1
    · rw [List.getD_eq_getElem?_getD, List.getElem?_eq_getElem (by omega)]
      have := h2 j hj
      simpa using this
def sp_law_odd_place (K : PySem.W.Frag) : Sp := spR K (fun a : PyData × Int => [a.1, .int a.2]) (fun a => a.1.hasDict = false ∧ a.1.bulk ≤ 100000) fun a => optI (oddD a.2 a.1)
theorem ok_law_odd_place {f : Addr} {fd : FuncData} (T : Bt K mg) (C : Cst K w mg) (D : Df K mg "_law_odd_place" s_law_odd_place ["thing", "many"] f fd) : Cal P w K mg base "_law_odd_place" s_law_odd_place ["thing", "many"] 1 (sp_law_odd_place K) f fd := by
  refine ok_R D sc_law_odd_place (fun _ => rfl) fun cdv A outer s H E hgd hr => ⟨_, (pss_cons (ps_if (PW.pt (pw_or (pt_not (pt_val (pe_callB (id := "isinstance") (x := "isinstance") call_isi (by rfl) T.isinstance (by decide +kernel) (pa_cons (pv 0) (pa_cons (pe_bltn (x := "tuple") (v := .ty "tuple") (by rfl) T.tuple (by decide +kernel) rfl) pa_nil))))) (pw_or1 (pt_cmpR op_ne (pe_callB call_len_seq (by rfl) T.len PySem.boot_len (pa_cons (pv 0) pa_nil)) (pv 1) (nomark _))))) (pss_one (ps_ret (pe_un un_neg pe_int))) pss_nil)
        (pss_cons (ps_setLc (i := 2) (own := [("k", 3), ("number", 4)]) (g := gTup K 2 (gCons (gName 3) (gCons (gName 4) gNil))) rfl sc_law_odd_place.nd rfl rfl (sw_true rfl rfl rfl (by decide +kernel)) (pi_enumP false (by rfl) T.enumerate (pa_cons (pv 0) pa_nil)) (blkOk_by (own := [("k", 3), ("number", 4)]) (N := n_law_odd_place) (sc := defScope s_law_odd_place) (by decide +kernel)) (fun _ _ _ _ _ => (pg_tup rfl (pgs_cons (pg_name (i := 3) sc_law_odd_place.nd rfl (Or.inl rfl)) (pgs_cons (pg_name (i := 4) sc_law_odd_place.nd rfl (Or.inl rfl)) pgs_nil)))) (fun _ _ _ _ _ => (pts_one (PW.pt (pw_or (pt_not (pt_val (pe_callB (id := "isinstance") (x := "isinstance") (call_isiK (K := K) rfl) (by rfl) T.isinstance (by decide +kernel) (pa_cons (pv 4) (pa_cons (pe_bltn (x := "int") (v := .ty "int") (by rfl) T.int (by decide +kernel) rfl) pa_nil))))) (pw_or1 (pt_val (pe_callB (id := "isinstance") (x := "isinstance") (call_isiK (K := K) rfl) (by rfl) T.isinstance (by decide +kernel) (pa_cons (pv 4) (pa_cons (pe_bltn (x := "bool") (v := .ty "bool") (by rfl) T.bool (by decide +kernel) rfl) pa_nil))))))))) (fun _ _ _ _ _ => (pv 3)))
        (pss_one (ps_ret (pe_ifExp (pt_cmpR (op_neD hr.units) (pv 2) (pe_lst pa_nil) (nomark _)) (pe_ix (ix_listK (K := K) rfl) (pv 2) pe_int (fun _ _ => rfl)) pe_non))))), ?_⟩
  rintro ⟨d, c⟩ ⟨hd, hbk⟩
  have hd : d.hasDict = false := hd
  have hbk : d.bulk ≤ 100000 := hbk
  show SG (pureL K) 0 _ [some d, some (.int c), none, none, none] _ (fun x => x = optI (oddD c d))
  refine sq_if (et_noTup (L := pureL K) (eg_var rfl) (eg_var rfl) hd) (fun hk => ?_) fun hk => ?_
  · refine sg_retq (eg_neg eg_int) ?_
    have e : oddD c d = some (-1) := by
      cases d with
      | tuple ds =>
        have h : ¬ ((ds.length : Int) = c) := by simpa [noTup] using hk
        unfold oddD
        exact if_neg h
      | _ => rfl
    rw [e]
    rfl
  cases d with
  | tuple ds =>
    have hl : (ds.length : Int) = c := by simpa [noTup] using hk
    have ef : oddD c (.tuple ds) = (oddIx ds).map fun (i : Nat) => (i : Int) := by
      unfold oddD
      exact if_pos hl
    have hds : ∀ d ∈ ds, d.hasDict = false := hd_mem hd
    have hlen : ds.length ≤ 100000 := Nat.le_trans (len_bulk ds) hbk
    refine sq_next (sq_asg ((eg_lcTD (L := pureL K) (js := [3, 4]) (vs := [3, 4]) (keep := fun i => !isIntD (ds.getD i .none)) (res := fun i => .int (i : Int)) (wk_enum (k := false) (ea_cons (eg_var rfl) ea_nil)) (by simp) (by rw [List.length_mapIdx]; exact hlen) fun i e he => ?_).to (d' := lI (((List.range ds.length).filter fun i => !isIntD (ds.getD i .none)).map fun (i : Nat) => (i : Int))) (by unfold fil lI; rw [List.length_mapIdx, List.map_map]; rfl)) ?_)
    · rw [List.getElem?_mapIdx] at he
      cases hn : ds[i]? with
      | none => rw [hn] at he; cases he
      | some x =>
        rw [hn] at he
        have hd' : PyData.tuple [.int (i : Nat), x] = e := Option.some.inj he
        subst hd'
        have hx := hds x (List.mem_of_getElem? hn)
        refine ⟨_, tg_two, ?_, fun _ => ⟨eg_var rfl, fun z => by cases z⟩⟩
        have ek : (!isIntD (ds.getD i .none)) = !isIntD x := by rw [List.getD_eq_getElem?_getD, hn]; rfl
        rw [ek]
        have e4 : (wipeD [some (PyData.tuple ds), some (.int c), none, none, none] [3, 4]).length = 5 := rfl
        cases x with
        | int z => exact et_is (et_or0 (et_is (et_not (et_B (eg_isi (n := "int") (L := pureL K) (eg_var rfl) (hd_ne hx) (by rfl)))) rfl) (et_B (eg_isi (n := "bool") (b := false) (L := pureL K) (eg_var rfl) (hd_ne hx) (by rfl)))) rfl
        | bool z => exact et_is (et_or0 (et_is (et_not (et_B (eg_isi (n := "int") (b := true) (L := pureL K) (eg_var rfl) (hd_ne hx) (by rfl)))) rfl) (et_B (eg_isi (n := "bool") (b := true) (L := pureL K) (eg_var rfl) (hd_ne hx) (by rfl)))) rfl
        | dict z => simp [PyData.hasDict] at hx
        | none => exact et_is (et_or1 (et_is (et_not (et_B (eg_isi (n := "int") (b := false) (L := pureL K) (eg_var rfl) (hd_ne hx) (by rfl)))) rfl)) rfl
        | str z => exact et_is (et_or1 (et_is (et_not (et_B (eg_isi (n := "int") (b := false) (L := pureL K) (eg_var rfl) (hd_ne hx) (by rfl)))) rfl)) rfl
        | list z => exact et_is (et_or1 (et_is (et_not (et_B (eg_isi (n := "int") (b := false) (L := pureL K) (eg_var rfl) (hd_ne hx) (by rfl)))) rfl)) rfl
        | tuple z => exact et_is (et_or1 (et_is (et_not (et_B (eg_isi (n := "int") (b := false) (L := pureL K) (eg_var rfl) (hd_ne hx) (by rfl)))) rfl)) rfl
    rw [ef, ← head_fil]
    generalize (((List.range ds.length).filter fun i => !isIntD (ds.getD i .none)).map fun (i : Nat) => (i : Int)) = zs
    cases zs with
    | nil => exact sg_ret (eg_if (d := .none) (et_test (eg_neNil (zs := []) (eg_var rfl))) (fun z => by cases z) fun _ => eg_non) rfl
    | cons g gs => exact sg_ret (eg_if (d := .int g) (et_test (eg_neNil (zs := g :: gs) (eg_var rfl))) (fun _ => eg_ixL (eg_var rfl) eg_int (atI_zero _ _)) fun z => by cases z) rfl
  | _ => cases hk

abbrev s_law_bottomed : Stmt := top 30
abbrev n_law_bottomed : List Str := ["thing", "many", "spot"]
theorem sc_law_bottomed : FnScope n_law_bottomed ["thing", "many"] (defScope s_law_bottomed) := ⟨rfl, rfl, rfl, by decide +kernel, rfl, by decide +kernel, by decide +kernel⟩
def sp_law_bottomed (K : PySem.W.Frag) : Sp := spR K (fun a : PyData × Int => [a.1, .int a.2]) (fun a => 1 ≤ a.2 ∧ a.1.hasDict = false ∧ a.1.bulk ≤ 100000) fun a => optI (faultD a.2 a.1)
theorem ok_law_bottomed {f : Addr} {fd : FuncData} (T : Bt K mg) (C : Cst K w mg) (D : Df K mg "_law_bottomed" s_law_bottomed ["thing", "many"] f fd)
    {f_law_odd_place : Addr} {d_law_odd_place : FuncData} (h_law_odd_place : Cal P w K mg base "_law_odd_place" s_law_odd_place ["thing", "many"] 1 (sp_law_odd_place K) f_law_odd_place d_law_odd_place)
    {f_law_common : Addr} {d_law_common : FuncData} (h_law_common : Cal P w K mg base "_law_common" s_law_common ["numbers_so"] 1 (sp_law_common K) f_law_common d_law_common) : Cal P w K mg base "_law_bottomed" s_law_bottomed ["thing", "many"] 2 (sp_law_bottomed K) f fd := by
  refine ok_R D sc_law_bottomed (fun _ => rfl) fun cdv A outer s H E hgd hr => ⟨_, (pss_cons (ps_set (i := 2) sc_law_bottomed.nd rfl (Or.inl rfl) (pe_fn (E := E0) h_law_odd_place.G hgd (hr.mono (by decide)) (by rfl) h_law_odd_place.gm h_law_odd_place.kp h_law_odd_place.b (pa_cons (pv 0) (pa_cons (pv 1) pa_nil))))
        (pss_cons (ps_if (pt_cmpR op_notN (pv 2) pe_non (nomark _)) (pss_one (ps_ret (pv 2))) pss_nil)
        (pss_cons (ps_if (pt_cmpR op_lt (pe_ix (ix_tupK (K := K) rfl) (pv 0) (pe_un un_neg pe_int) (fun _ _ => rfl)) pe_int (nomark _)) (pss_one (ps_ret (pe_op op_sub (pv 1) pe_int))) pss_nil)
        (pss_one (ps_ret (pe_ifExp (pt_cmpR op_gt (pe_fn (E := E0) h_law_common.G hgd (hr.mono (by decide)) (by rfl) h_law_common.gm h_law_common.kp h_law_common.b (pa_cons (pv 0) pa_nil)) pe_int (nomark _)) (pe_un un_neg pe_int) pe_non)))))), ?_⟩
  rintro ⟨d, c⟩ ⟨h0, hd, hbk⟩
  have h0 : 1 ≤ c := h0
  have hd : d.hasDict = false := hd
  show SG (pureL K) 0 _ [some d, some (.int c), none] _ (fun x => x = optI (faultD c d))
  refine sq_asg (eg_callR (d, c) (ea_cons (eg_var rfl) (ea_cons (eg_var rfl) ea_nil)) ⟨hd, hbk⟩ (hd_nomk2 hd rfl)) ?_
  refine sq_if (et_test (eg_notOI (eg_var rfl))) (fun hk => ?_) fun hk => ?_
  · refine sg_ret (eg_var rfl) ?_
    congr 1
    obtain ⟨i, hi⟩ := Option.isSome_iff_exists.mp hk
    have hi : oddD c d = some i := hi
    rw [hi]
    cases d with
    | tuple ds =>
      unfold oddD at hi
      unfold faultD
      by_cases hl : (ds.length : Int) = c
      · have hi2 : (if (ds.length : Int) = c then (oddIx ds).map fun (i : Nat) => (i : Int) else some (-1)) = some i := hi
        rw [if_pos hl] at hi2
        show some i = if (ds.length : Int) = c then _ else _
        rw [if_pos hl]
        cases ho : oddIx ds with
        | none => rw [ho] at hi2; cases hi2
        | some k =>
          rw [ho] at hi2
          exact hi2.symm
      · have hi2 : (if (ds.length : Int) = c then (oddIx ds).map fun (i : Nat) => (i : Int) else some (-1)) = some i := hi
        rw [if_neg hl] at hi2
        show some i = if (ds.length : Int) = c then _ else _
        rw [if_neg hl]
        exact hi2.symm
    | _ => exact hi.symm
  · have hn : oddD c d = none := by simpa using hk
    rw [hn]
    cases d with
    | tuple ds =>
      have hi2 : (if (ds.length : Int) = c then (oddIx ds).map fun (i : Nat) => (i : Int) else some (-1)) = none := hn
      by_cases hl : (ds.length : Int) = c
      · rw [if_pos hl] at hi2
        have ho : oddIx ds = none := by simpa using hi2
        have ef : faultD c (.tuple ds) = (if lastI ds < 1 then some (c - 1) else if 1 < gcdD ds then some (-2) else none) := by
          unfold faultD
          show (if (ds.length : Int) = c then _ else _) = _
          rw [if_pos hl, ho]
        rw [ef]
        have e1 := ints_of (oddIx_ints ho)
        generalize ds.map intD = ns at e1
        subst e1
        have hg : gcdD (ns.map .int) = gcdl ns := by unfold gcdD; rw [intD_int]
        rw [hg]
        obtain ⟨ms, w, rfl, _⟩ := split_last (xs := ns) (n := ns.length - 1) (by rw [List.length_map] at hl; omega)
        have hlast : atI ((ms ++ [w]).map PyData.int) (-1) = some (.int w) := by
          rw [List.map_append]
          exact atI_last (ms.map PyData.int) (.int w)
        rw [lastI_app]
        refine sq_next (sq_if (et_test (eg_lt (eg_ixT (eg_var rfl) (eg_neg eg_int) hlast) eg_int)) (fun hk2 => ?_) fun hk2 => ?_)
        · rw [if_pos (of_decide_eq_true hk2)]
          exact sg_ret (eg_sub (eg_var rfl) eg_int) rfl
        · rw [if_neg (of_decide_eq_false hk2)]
          refine sq_next (sg_ret (eg_if (et_test (eg_gt (eg_callR (false, ms ++ [w]) (ea_cons (eg_var rfl) ea_nil) trivial) eg_int)) (fun hk3 => ?_) fun hk3 => ?_) rfl)
          · have h3 : 1 < gcdl (ms ++ [w]) := Int.ofNat_lt.mp (of_decide_eq_true hk3)
            rw [if_pos h3]
            exact eg_neg eg_int
          · have h3 : ¬ (1 < gcdl (ms ++ [w])) := fun z => of_decide_eq_false hk3 (Int.ofNat_lt.mpr z)
            rw [if_neg h3]
            exact eg_non
      · rw [if_neg hl] at hi2
        cases hi2
    | _ => cases hn

end V1
set_option Elab.async false
set_option linter.all false
set_option maxRecDepth 100000
set_option maxHeartbeats 4000000
/-! Defs that raise, with the guards told; an own error with a field. -/
namespace V1
open PySem PySem.Spec PyProof.Rows L2
/-- as FnG, for a def that may raise -/
structure FnX (P : Program) (w : World) (K : PySem.W.Frag) (mg : Str → Option Value) (base : Heap) (k : Nat) (f : Addr) (fd : FuncData) (ps : List Str) (sp : Sp) : Prop where
  len : ∀ vs H Q E, sp vs H Q E → vs.length = ps.length
  run : ∀ (A : Around) (outer : List Env) (s : Shared) (H : Hp) (args : Args) (us : List Value) (vs : List V) (Q : VK) (E : XK), A.guards = some [] → Room k A →
    Env0 P w K mg base A outer s H → BindsTo s fd args (ps.zip us) → Vals vs us → sp vs H Q E → codeAny (model P w) A (.call (.ref f) args) (CR (L2.CX P w) outer P w H s Q E) s
section
variable {P : Program} {w : World} {K : PySem.W.Frag} {mg : Str → Option Value} {base : Heap}
theorem okX {x qual : Str} {st : Stmt} {f : Addr} {fd : FuncData} {N ps : List Str} {k : Nat} {sp : Sp} (F : Fun K x qual st f fd) (S : FnScope N ps (defScope st)) (hlen : ∀ vs H Q E, sp vs H Q E → vs.length = ps.length)
    (bd : ∀ (cdv : Value) (A : Around) (outer : List Env) (s : Shared) (H : Hp) (vs : List V) (Q : VK) (E : XK), A.guards = some [] → Room k (A.deeper (envOfC qual (defScope st) s.heap.objs.size f cdv)) → sp vs H Q E →
      ∃ t, PSs (cxOf (L2.CX P w) P w K mg base N qual (defScope st) f cdv A outer s H E) (defBody st) t ∧ t { nx := fun _ H' => Q .non H', rt := Q } (start N vs) H) : FnX P w K mg base (k + 1) f fd ps sp := by
  obtain ⟨oc, od, kV, doc, pm, an, cdv, ct, osl, rfl, lk, hcd⟩ := F.ex
  refine ⟨hlen, fun A outer s H args us vs Q E hgd hr e0 hb r hs0 => ?_⟩
  have ll := hlen _ _ _ _ hs0
  have kin : K.In s.heap := e0.mod.kin.keeps (fun b o z => (e0.bs b o z).1)
  have nl : s.heap.NoLimit := e0.mod.nolimit.keeps (fun b o z => (e0.bs b o z).1)
  refine codeAny_call_function hr.depth (kin _ _ lk) rfl S.co S.gen rfl (PySem.W.codeRec_of kin hcd) (hb _ _ _ _ ?_)
  refine wpAny_newFunctionEnv_cells S.kind (fun ⟨n, v⟩ hy => ?_) (fun env he s1 x => ?_)
  · rcases S.par n (List.of_mem_zip hy).1 with q | q
    · exact Or.inl q
    · exact Or.inr ⟨q, PySem.W.cellsFrom_some _ _ _ (Or.inl q)⟩
  subst he
  refine ⟨nl.keeps x.toInCall.keep, codeAny_func ?_⟩
  obtain ⟨t, ht, hq⟩ := bd cdv A outer s H vs Q E hgd (hr.deeper _) hs0
  have I := inv_start (CX := L2.CX P w) (E := E) S hr.hd e0 ll r x
  refine wpAny_mono (ht.run [] s1 (start N vs) H _ I hq) (fun fl s2 z => ?_) (fun e s2 z => z)
  cases fl with
  | ret u =>
    obtain ⟨v, σ2, H2, J, rv, q⟩ := z
    exact ⟨v, H2, J.os, J.bare, J.base, J.hok, rv, q⟩
  | next =>
    obtain ⟨σ2, H2, J, q⟩ := z
    exact ⟨V.non, H2, J.os, J.bare, J.base, J.hok, rfl, q⟩
  | brk =>
    obtain ⟨_, _, _, q⟩ := z
    exact q.elim
  | cont =>
    obtain ⟨_, _, _, q⟩ := z
    exact q.elim
end
section
variable {X : Cx} {k : Nat} {f : Addr} {fd : FuncData} {ps ks : List Str} {sp : Sp} {x : Str} {p pos : Pos} {e : Expr} {es : List Expr} {kws : List Keyword} {t tk : TA} {g : List Value → List Value → List Value} {gV : List V → List V → List V}
theorem runX {E : L2.St → XK} {pins : List (Addr × Obj)} {σ : L2.St} {H : Hp} {s : Shared} {Q : VK} {us : List Value} {vs : List V} (F : FnX X.prog X.w X.K X.mg X.base k f fd ps sp) (hgd : X.A.guards = some []) (hr : Room k X.A) (hb : Binds X.K fd ps []) (hx : PassesAt (L2.CX X.prog X.w) X σ (E σ))
    (I : L2.Inv X pins σ H s) (r : Vals vs us) (h : sp vs H Q (E σ)) : wpAny (model X.prog X.w) X.A (call (.ref f) us) (EP X pins σ Q) X.xe s := by
  have hl : us.length = ps.length := by rw [← r.length]; exact F.len _ _ _ _ h
  have b := hb s us I.kIn (by rw [List.append_nil]; exact hl)
  rw [List.append_nil] at b
  refine wpAny_call (codeAny_mono (F.run X.A X.stack s H ⟨us, []⟩ us vs Q (E σ) hgd hr I.env0 b r h) fun r s' hq => ?_)
  cases r with
  | error e => exact hx pins H s e s' I hq
  | ok fl =>
    cases fl with
    | ret u => exact I.after hq
    | next => exact False.elim hq
    | brk => exact False.elim hq
    | cont => exact False.elim hq
theorem pe_callX {E : L2.St → XK} (F : FnX X.prog X.w X.K X.mg X.base k f fd ps sp) (hgd : X.A.guards = some []) (hr : Room k X.A) (hg : Gl X x) (hm : X.mg x = some (.ref f)) (hk : PySem.W.keepIn X.K (.ref f) = true) (hb : Binds X.K fd ps []) (hx : ∀ σ, PassesAt (L2.CX X.prog X.w) X σ (E σ))
    (ha : PA X (e :: es) t) (hdb : (x == ("__debug__" : Str)) = false := by decide) (he : starEach (e :: es) X.env = (false, eval e X.env) :: starEach es X.env := by rfl) (hpl : (backTo pos (starEach es X.env)).any (·.1) = false := by rfl) :
    PE X (.Call (.Name x p) (e :: es) [] pos) (tCallS sp E t) := by
  refine ⟨fun pins s σ H Q I h => ?_⟩
  refine wpAny_Call_Name_kw (ld_glob I hg hm ?_ hdb)
  refine PySem.W.callWith_K (h₀ := X.base) I.ok.mod.kin hk (thn (ha.run pos pins s σ H _ I h) fun us s1 ⟨vs, H1, I1, r, q⟩ => ⟨I1.kIn, ?_⟩) he hpl
  exact runX F hgd hr hb (hx σ) I1 r q
/-- f(k = v, ..), keywords alone, of a def that does not raise there -/
theorem pe_callXk (F : FnX X.prog X.w X.K X.mg X.base k f fd ps sp) (hgd : X.A.guards = some []) (hr : Room k X.A) (hg : Gl X x) (hm : X.mg x = some (.ref f)) (hk : PySem.W.keepIn X.K (.ref f) = true) (hb : KBinds X.K fd ps ks g gV)
    (hkw : PK X kws tk) (hall : (backToKw pos (keywordEach kws X.env)).all (·.1.isSome) = true := by rfl) (hks : (backToKw pos (keywordEach kws X.env)).filterMap (·.1) = ks := by rfl)
    (hdb : (x == ("__debug__" : Str)) = false := by decide)
    (hpl : ((backTo pos (starEach [] X.env)).any (·.1) || (backToKw pos (keywordEach kws X.env)).any (·.1.isNone)) = false := by rfl) :
    PE X (.Call (.Name x p) [] kws pos) (tCallK sp gV E0 tNil tk) := by
  refine ⟨fun pins s σ H Q I h => ?_⟩
  refine wpAny_Call_Name_kw (ld_glob I hg hm ?_ hdb)
  refine PySem.W.callWith_KW0 (h₀ := X.base) I.ok.mod.kin hk hall ?_ hpl
  refine thn (hkw.run pos pins s σ H _ I h) fun ws s2 ⟨zs, H2, I2, rz, q2⟩ => ⟨I2.kIn, ?_⟩
  rw [hks]
  have q3 : sp (gV [] zs) H2 Q E0 := q2
  have r2 := hb.rel (us := []) (vs := []) .nil rz
  have hl : (g [] ws).length = ps.length := by rw [← r2.length]; exact F.len _ _ _ _ q3
  refine wpAny_call (codeAny_mono (F.run X.A X.stack s2 H2 ⟨[], ks.zip ws⟩ (g [] ws) (gV [] zs) Q E0 hgd hr I2.env0 (hb.to s2 [] ws I2.kIn hl) r2 q3) fun r3 s' hq => ?_)
  cases r3 with
  | error e =>
    obtain ⟨_, _, _, _, _, _, _, _, _, _, _, _, z⟩ := hq
    exact z.elim
  | ok fl =>
    cases fl with
    | ret u => exact I2.after hq
    | next => exact False.elim hq
    | brk => exact False.elim hq
    | cont => exact False.elim hq
end
/-! ### the error classes -/
def initAt (i : Nat) : Stmt := match top i with
  | .ClassDef _ _ _ (st :: _) _ _ _ _ _ _ _ => st
  | _ => .Pass ⟨0, 0, 0, 0⟩
def sp_init (K : PySem.W.Frag) : Sp := fun vs H Q _ => ∃ (a C : Addr) (v : V), vs = [.ref a, v] ∧ OexC K C ∧ PySem.W.findIn K (.ref C) "place" = some none ∧ H a = some (exo a C none) ∧
  ∀ dx, H dx = none → dx ≠ a → Q .non (upd (upd H dx (exd dx [("place", v)])) a (exo a C (some dx)))
abbrev n_init : List Str := ["self", "place"]
theorem sc_init4 : FnScope n_init ["self", "place"] (defScope (initAt 4)) := ⟨rfl, rfl, rfl, by decide +kernel, rfl, by decide +kernel, by decide +kernel⟩
theorem ok_init4 {P : Program} {w : World} {K : PySem.W.Frag} {mg : Str → Option Value} {base : Heap} {fI : Addr} {fd : FuncData} (F : Fun K "__init__" "NotPoint.__init__" (initAt 4) fI fd) : FnOk P w K mg base CX0 1 fI fd ["self", "place"] (sp_init K) := by
  refine F.ok sc_init4 (fun vs H Q E h => ?_) fun cdv A outer s H vs Q E hr h => ⟨_, pss_one (ps_ost (pv 0) (pv 1)), ?_⟩
  · obtain ⟨a, C, v, rfl, _⟩ := h
    rfl
  · obtain ⟨a, C', v, rfl, h1, h2, h3, q⟩ := h
    exact ⟨v, rfl, .ref a, rfl, a, C', rfl, h1, h2, .inl ⟨h3, q⟩⟩
theorem sc_init5 : FnScope n_init ["self", "place"] (defScope (initAt 5)) := ⟨rfl, rfl, rfl, by decide +kernel, rfl, by decide +kernel, by decide +kernel⟩
theorem ok_init5 {P : Program} {w : World} {K : PySem.W.Frag} {mg : Str → Option Value} {base : Heap} {fI : Addr} {fd : FuncData} (F : Fun K "__init__" "NotRow.__init__" (initAt 5) fI fd) : FnOk P w K mg base CX0 1 fI fd ["self", "place"] (sp_init K) := by
  refine F.ok sc_init5 (fun vs H Q E h => ?_) fun cdv A outer s H vs Q E hr h => ⟨_, pss_one (ps_ost (pv 0) (pv 1)), ?_⟩
  · obtain ⟨a, C, v, rfl, _⟩ := h
    rfl
  · obtain ⟨a, C', v, rfl, h1, h2, h3, q⟩ := h
    exact ⟨v, rfl, .ref a, rfl, a, C', rfl, h1, h2, .inl ⟨h3, q⟩⟩
structure ExN (K : PySem.W.Frag) (mg : Str → Option Value) (cn : Str) (C fI : Addr) (fd : FuncData) : Prop where
  gC : mg cn = some (.ref C)
  T : OexC K C
  iC : PySem.W.findIn K (.ref C) "__init__" = some (some (.ref fI))
  tI : PySem.W.typeIn K (.ref fI) = some (.type "function")
  no : PySem.W.findIn K (.ref C) "place" = some none
  X : XfC K C
  te : PySem.W.exmOne K (.ref C) (.ref C) = some true
  I : ∀ (P : Program) (w : World) (base : Heap), FnOk P w K mg base CX0 1 fI fd ["self", "place"] (sp_init K)
  b : Binds K fd ["self", "place"] []
/-- raise the class: the error's own dict holds the value -/
def tRz (K : PySem.W.Frag) (C : Addr) (W : WX) (ta : TA) : TS := fun _ σ H => tMkO C (sp_init K) [] ta σ H fun cls d H' => W cls d σ H'
theorem ps_rz {X : Cx} {C fI : Addr} {fd : FuncData} {W : WX} {e : Expr} {ta : TA} {p pos pos2 : Pos} (hc : X.calm = true) {cn : Str} (T : ExN X.K X.mg cn C fI fd) (hr : Room 2 X.A) (tk : Takes X W) (ha : PA X [e] ta) (hg : Gl X cn := by rfl) (hdb : (cn == ("__debug__" : Str)) = false := by decide)
    (he : starEach (e :: []) X.env = (false, eval e X.env) :: starEach [] X.env := by rfl) (hpl : (backTo pos (starEach [] X.env)).any (·.1) = false := by rfl) :
    PS X (.Raise (some (.Call (.Name cn p) [e] [] pos)) none pos2) (tRz X.K C W ta) :=
  ps_raise hc tk (pmk_oex (CX := CX0) (k := 1) (dvs := []) (ds := []) T.T T.iC T.tI (T.I _ _ _) hr T.b .nil (fun _ _ _ _ _ _ _ h => h.elim) hg T.gC ha hdb he hpl)
theorem ev_rz {K : PySem.W.Frag} {C : Addr} {Γ : List (Option PyData)} {te : TE} {d : PyData} {A : Addr → Prop} {σ : L2.St} {H : Hp} {W : WX} (T : OexC K C) (no : PySem.W.findIn K (.ref C) "place" = some none) (h : EvD (pureL K) te Γ d) (hd : d ≠ mark) (hi : Inn A H) (he : EnvOk (pureL K) A σ H Γ)
    (q : ∀ v dd H', Same H H' → H' dd = some (.xd [("place", v)]) → Dv K A H' v d → W (.ref C) (some dd) σ H') : ∀ D : Ends, tRz K C W (tCons te tNil) D σ H := fun D => by
  show tMkO C (sp_init K) [] (tCons te tNil) σ H fun cls dd H' => W cls dd σ H'
  refine h A σ H hi he trivial _ fun v d1 H1 r1 hv e1 => ?_
  subst e1
  refine ⟨(show 1 ≤ 1000 by decide), fun a ha => ?_⟩
  have hv1 := hv.ne hd
  refine ⟨a, C, v, rfl, T, no, upd_same, fun dx hdx hne => ?_⟩
  have h1 : H1 dx = none := by rwa [upd_ne hne] at hdx
  refine ⟨rfl, dx, [("place", v)], upd_same, by rw [upd_ne hne, upd_same], h1, ?_⟩
  have sm : Same H1 (upd (del (upd (upd (upd H1 a (exo a C none)) dx (exd dx [("place", v)])) a (exo a C (some dx))) a) dx (.xd [("place", v)])) := fun b o e => by
    have n1 : b ≠ a := ne_of_none e ha
    have n2 : b ≠ dx := ne_of_none e h1
    rw [upd_ne n2, del_ne n1, upd_ne n1, upd_ne n2, upd_ne n1]
    exact e
  exact q v dx _ (r1.trans sm) upd_same (hv1.map fun b o na e k => ⟨na, sm b o e⟩)

structure CalX (P : Program) (w : World) (K : PySem.W.Frag) (mg : Str → Option Value) (base : Heap) (x : Str) (st : Stmt) (ps : List Str) (k : Nat) (sp : Sp) (f : Addr) (fd : FuncData) : Prop where
  gm : mg x = some (.ref f)
  F : Fun K x x st f fd
  b : Binds K fd ps []
  G : FnX P w K mg base k f fd ps sp
theorem CalX.kp {P : Program} {w : World} {K : PySem.W.Frag} {mg : Str → Option Value} {base : Heap} {x : Str} {st : Stmt} {ps : List Str} {k : Nat} {sp : Sp} {f : Addr} {fd : FuncData} (c : CalX P w K mg base x st ps k sp f fd) : PySem.W.keepIn K (.ref f) = true := c.F.kp
end V1
set_option Elab.async false
set_option linter.all false
set_option maxRecDepth 100000
set_option maxHeartbeats 4000000
namespace V1
open PySem PySem.Spec PyProof.Rows L2
variable {P : Program} {w : World} {K : PySem.W.Frag} {mg : Str → Option Value} {base : Heap}

abbrev s_check_point : Stmt := top 13
abbrev n_check_point : List Str := ["size", "value", "place"]
theorem sc_check_point : FnScope n_check_point ["size", "value"] (defScope s_check_point) := ⟨rfl, rfl, rfl, by decide +kernel, rfl, by decide +kernel, by decide +kernel⟩
def judX (k : Int) (a : Int × PyData) : Except PyData PyData := match faultD (a.1 + k) a.2 with
  | none => .ok a.2
  | some i => .error (.int i)
def okJ (a : Int × PyData) : Prop := 0 ≤ a.1 ∧ a.2.hasDict = false
def sp_check_point (K : PySem.W.Frag) (Ce : Addr) : Sp := spX K Ce "place" (fun a : Int × PyData => [.int a.1, a.2]) okJ (judX 1)
theorem len_check_point (Ce : Addr) : ∀ vs H Q E, sp_check_point K Ce vs H Q E → vs.length = (["size", "value"] : List Str).length := fun vs H Q E ⟨a, A, _, _, hl, _⟩ => hl
theorem ok_check_point {f : Addr} {fd : FuncData} (T : Bt K mg) (C : Cst K w mg) {Ce fIe : Addr} {fde : FuncData} (TN : ExN K mg "NotPoint" Ce fIe fde) (D : Df K mg "check_point" s_check_point ["size", "value"] f fd)
    {f_fault_in_integers : Addr} {d_fault_in_integers : FuncData} (h_fault_in_integers : Cal P w K mg base "fault_in_integers" s_fault_in_integers ["count", "value"] 2 (sp_fault_in_integers K) f_fault_in_integers d_fault_in_integers) : CalX P w K mg base "check_point" s_check_point ["size", "value"] 3 (sp_check_point K Ce) f fd := by
  refine ⟨D.gm, D.F, D.b, okX D.F sc_check_point (len_check_point Ce) (fun cdv A outer s H vs Q E hgd hr h => ⟨_, (pss_cons (ps_set (i := 2) sc_check_point.nd rfl (Or.inl rfl) (pe_fn (E := E0) h_fault_in_integers.G hgd (hr.mono (by decide)) (by rfl) h_fault_in_integers.gm h_fault_in_integers.kp h_fault_in_integers.b (pa_cons (pe_op op_add (pv 0) pe_int) (pa_cons (pv 1) pa_nil))))
        (pss_cons (ps_if (pt_cmpR op_notN (pv 2) pe_non (nomark _)) (pss_one (ps_rz rfl TN (hr.mono (by decide)) (takes_of rfl rfl rfl rfl) (pa_cons (pv 2) pa_nil))) pss_nil)
        (pss_one (ps_ret (pv 1))))), ?_⟩)⟩
  obtain ⟨⟨c, d⟩, A', ⟨ho, hnd⟩, hi, hl, hv, q1, q2⟩ := h
  have ho : 0 ≤ c := ho
  have hnd : d.hasDict = false := hnd
  have he0 : EnvOk (pureL K) A' (L2.start n_check_point vs) H [some (.int c), some d, none] := start_ok (L := pureL K) (Nm := n_check_point) (vs := vs) (ds := [.int c, d]) hl fun i d' e => let ⟨v, e1, e2⟩ := hv i d' e; ⟨v, e1, .inr e2⟩
  refine (eg_callR (L := pureL K) (args := fun a : Int × PyData => [.int a.1, a.2]) (ok := fun a => 1 ≤ a.1 ∧ a.2.hasDict = false) (val := fun a => optI (faultD a.1 a.2)) ((c + 1, d) : Int × PyData) (ea_cons (eg_add (eg_var (i := 0) rfl) eg_int) (ea_cons (eg_var (i := 1) rfl) ea_nil)) ⟨show (1 : Int) ≤ c + 1 by omega, hnd⟩ (hd_nomk2 (d := .int (c + 1)) rfl hnd) : EvD (pureL K) _ [some (.int c), some d, none] (optI (faultD (c + 1) d))) A' _ H hi he0 trivial _ fun v1 d1 H1 r1 hv1 e1 => ?_
  subst e1
  have s1 : Same H H1 := r1
  have he1 := (he0.r (L := pureL K) (n := 0) r1).set hv1 2
  have hi1 := hi.r (L := pureL K) (n := 0) r1
  refine (et_test (eg_notOI (o := faultD (c + 1) d) (eg_var (i := 2) rfl)) : EtD (pureL K) _ [some (.int c), some d, some (optI (faultD (c + 1) d))] _) A' _ H1 hi1 he1 trivial _ fun H2 r2 => ?_
  have s2 : Same H H2 := s1.trans r2
  have he2 : EnvOk (pureL K) A' _ H2 [some (.int c), some d, some (optI (faultD (c + 1) d))] := he1.r (L := pureL K) (n := 0) r2
  have hi2 := hi1.r (L := pureL K) (n := 0) r2
  cases hf : faultD (c + 1) d with
  | some q =>
    have hc : judX 1 (c, d) = .error (.int q) := by unfold judX; simp only [hf]
    refine ev_rz (W := fun cls d _ H => E cls d H) (Γ := [some (.int c), some d, some (.int q)]) (d := .int q) TN.T TN.no (eg_var (i := 2) rfl) (by intro z; cases z) hi2 (by rw [hf] at he2; exact he2) (fun v' dd H' sm hdd hv' => ?_) { nx := fun _ _ => True, rt := fun _ _ => True }
    exact q2 _ hc v' dd H' (s2.trans sm) hdd hv'
  | none =>
    have hc : judX 1 (c, d) = .ok d := by unfold judX; simp only [hf]
    obtain ⟨v, e3, hv3⟩ := he2.2 1 d rfl
    exact ⟨v, e3, q1 _ hc v H2 s2 (hv3.ne (hd_ne hnd))⟩

abbrev s_check_row : Stmt := top 17
abbrev n_check_row : List Str := ["size", "value", "place"]
theorem sc_check_row : FnScope n_check_row ["size", "value"] (defScope s_check_row) := ⟨rfl, rfl, rfl, by decide +kernel, rfl, by decide +kernel, by decide +kernel⟩
def sp_check_row (K : PySem.W.Frag) (Ce : Addr) : Sp := spX K Ce "place" (fun a : Int × PyData => [.int a.1, a.2]) okJ (judX 2)
theorem len_check_row (Ce : Addr) : ∀ vs H Q E, sp_check_row K Ce vs H Q E → vs.length = (["size", "value"] : List Str).length := fun vs H Q E ⟨a, A, _, _, hl, _⟩ => hl
theorem ok_check_row {f : Addr} {fd : FuncData} (T : Bt K mg) (C : Cst K w mg) {Ce fIe : Addr} {fde : FuncData} (TN : ExN K mg "NotRow" Ce fIe fde) (D : Df K mg "check_row" s_check_row ["size", "value"] f fd)
    {f_fault_in_integers : Addr} {d_fault_in_integers : FuncData} (h_fault_in_integers : Cal P w K mg base "fault_in_integers" s_fault_in_integers ["count", "value"] 2 (sp_fault_in_integers K) f_fault_in_integers d_fault_in_integers) : CalX P w K mg base "check_row" s_check_row ["size", "value"] 3 (sp_check_row K Ce) f fd := by
  refine ⟨D.gm, D.F, D.b, okX D.F sc_check_row (len_check_row Ce) (fun cdv A outer s H vs Q E hgd hr h => ⟨_, (pss_cons (ps_set (i := 2) sc_check_row.nd rfl (Or.inl rfl) (pe_fn (E := E0) h_fault_in_integers.G hgd (hr.mono (by decide)) (by rfl) h_fault_in_integers.gm h_fault_in_integers.kp h_fault_in_integers.b (pa_cons (pe_op op_add (pv 0) pe_int) (pa_cons (pv 1) pa_nil))))
        (pss_cons (ps_if (pt_cmpR op_notN (pv 2) pe_non (nomark _)) (pss_one (ps_rz rfl TN (hr.mono (by decide)) (takes_of rfl rfl rfl rfl) (pa_cons (pv 2) pa_nil))) pss_nil)
        (pss_one (ps_ret (pv 1))))), ?_⟩)⟩
  obtain ⟨⟨c, d⟩, A', ⟨ho, hnd⟩, hi, hl, hv, q1, q2⟩ := h
  have ho : 0 ≤ c := ho
  have hnd : d.hasDict = false := hnd
  have he0 : EnvOk (pureL K) A' (L2.start n_check_row vs) H [some (.int c), some d, none] := start_ok (L := pureL K) (Nm := n_check_row) (vs := vs) (ds := [.int c, d]) hl fun i d' e => let ⟨v, e1, e2⟩ := hv i d' e; ⟨v, e1, .inr e2⟩
  refine (eg_callR (L := pureL K) (args := fun a : Int × PyData => [.int a.1, a.2]) (ok := fun a => 1 ≤ a.1 ∧ a.2.hasDict = false) (val := fun a => optI (faultD a.1 a.2)) ((c + 2, d) : Int × PyData) (ea_cons (eg_add (eg_var (i := 0) rfl) eg_int) (ea_cons (eg_var (i := 1) rfl) ea_nil)) ⟨show (1 : Int) ≤ c + 2 by omega, hnd⟩ (hd_nomk2 (d := .int (c + 2)) rfl hnd) : EvD (pureL K) _ [some (.int c), some d, none] (optI (faultD (c + 2) d))) A' _ H hi he0 trivial _ fun v1 d1 H1 r1 hv1 e1 => ?_
  subst e1
  have s1 : Same H H1 := r1
  have he1 := (he0.r (L := pureL K) (n := 0) r1).set hv1 2
  have hi1 := hi.r (L := pureL K) (n := 0) r1
  refine (et_test (eg_notOI (o := faultD (c + 2) d) (eg_var (i := 2) rfl)) : EtD (pureL K) _ [some (.int c), some d, some (optI (faultD (c + 2) d))] _) A' _ H1 hi1 he1 trivial _ fun H2 r2 => ?_
  have s2 : Same H H2 := s1.trans r2
  have he2 : EnvOk (pureL K) A' _ H2 [some (.int c), some d, some (optI (faultD (c + 2) d))] := he1.r (L := pureL K) (n := 0) r2
  have hi2 := hi1.r (L := pureL K) (n := 0) r2
  cases hf : faultD (c + 2) d with
  | some q =>
    have hc : judX 2 (c, d) = .error (.int q) := by unfold judX; simp only [hf]
    refine ev_rz (W := fun cls d _ H => E cls d H) (Γ := [some (.int c), some d, some (.int q)]) (d := .int q) TN.T TN.no (eg_var (i := 2) rfl) (by intro z; cases z) hi2 (by rw [hf] at he2; exact he2) (fun v' dd H' sm hdd hv' => ?_) { nx := fun _ _ => True, rt := fun _ _ => True }
    exact q2 _ hc v' dd H' (s2.trans sm) hdd hv'
  | none =>
    have hc : judX 2 (c, d) = .ok d := by unfold judX; simp only [hf]
    obtain ⟨v, e3, hv3⟩ := he2.2 1 d rfl
    exact ⟨v, e3, q1 _ hc v H2 s2 (hv3.ne (hd_ne hnd))⟩

end V1
set_option Elab.async false
set_option linter.all false
set_option maxRecDepth 100000
set_option maxHeartbeats 4000000
/-! try with several clauses, each of which names what it caught. -/
namespace V1
open PySem PySem.Spec PyProof.Rows L2
/-- the ends behind a clause: the name is gone -/
def clrE (i : Nat) (D : Ends) : Ends := { nx := fun τ G => D.nx (τ.set i none) G, rt := D.rt, bk := fun τ G => D.bk (τ.set i none) G, ct := fun τ G => D.ct (τ.set i none) G }
abbrev ClA : Type := List (Value × (Addr → Value → Option Addr → TS))
def wAl (K : PySem.W.Frag) (i : Nat) (Wo : WX) (D : Ends) : ClA → WX
  | [] => Wo
  | c :: r => fun cls d τ G => ∃ b, PySem.W.exmOne K cls c.1 = some b ∧ (b = true → ∀ q, G q = none → c.2 q cls d (clrE i D) (τ.set i (some (.ref q))) G) ∧ (b = false → wAl K i Wo D r cls d τ G)
inductive HdA (X : Cx) (n : Str) : List ExceptHandler → ClA → Prop
  | nil : HdA X n [] []
  | cons {x : Str} {c : Value} {ts : Addr → Value → Option Addr → TS} {b0 : Stmt} {sb : List Stmt} {p1 p2 : Pos} {hds : List ExceptHandler} {l : ClA} (hc : Names X x c)
      (hsu : ∀ (q : Addr) (o : Obj) (cls : Value) (d : Option Addr) (pn : List (Addr × Obj)), Zc cls d o → (∃ vs, o.data = .fields vs) → PSs (X.suite q ((q, o) :: pn)) (b0 :: sb) (ts q cls d)) (r : HdA X n hds l) :
      HdA X n (.ExceptHandler (some (.Name x p1)) (some n) (b0 :: sb) p2 :: hds) ((c, ts) :: l)
theorem ps_try_al {X : Cx} {n : Str} {i : Nat} {body : List Stmt} {h0 : ExceptHandler} {hds : List ExceptHandler} {l : ClA} {pos : Pos} {tb : WX → TS} {Wo : WX} (hst : X.stack = X.env :: X.outer) (hfr0 : X.env.frame = some X.env.locals) (hN : X.N.Nodup) (hi : X.N[i]? = some n) (hln : X.env.kindOf n = some .local)
    (tk : Takes X Wo) (hb : ∀ (W : WX) (pn : List (Addr × Obj)) (xe : Value → Shared → Prop), Takes (X.tr pn xe) W → PassesOwn (model X.prog X.w) X.A X.env xe → PSs (X.tr pn xe) body (tb W)) (hh : HdA X n (h0 :: hds) l) :
    PS X (.Try body (h0 :: hds) [] [] pos) (fun D σ H => tb (wAl X.K i Wo D l) D σ H) := by
  constructor
  intro pins s σ H D I h
  have okI := I.ok
  have fr2 : X.A.frames = some (X.env :: X.outer) := hst ▸ okI.frames
  have loc : Loc X.env.scope n := Or.inl hln
  apply wpAny_Try_except
  have look : Takes (X.tr (X.pn ++ pins) (fun (e : Value) (t1 : Shared) => wpAny (model X.prog X.w) X.A (noteFrame e X.env) (fun _ t2 => wpAny (model X.prog X.w) X.A (setFlight e none) (fun _ t3 => wpAny (model X.prog X.w) X.A (handleBy e X.env (h0 :: hds)) (SP X pins D) X.xe t3) X.xe t2) X.xe t1)) (wAl X.K i Wo D l) := by
    intro u sz hx
    obtain ⟨q, B, sJ, pj, τ, G, cls, d, rfl, J0, nb, up, sky, na, eos, ebr, wal⟩ := hx
    have J : Inv X pins τ G sJ := J0.ofTry okI
    have sky2 : Sky B (X.env :: X.outer) q (Zc cls d) X.env.locals sz.heap := hst ▸ sky
    show wpAny (model X.prog X.w) X.A (noteFrame (.ref q) X.env) _ _ _
    refine Sky.land Zc.steady fr2 hfr0 sky2 fun hp fl upL => ?_
    have JL : Inv X pins τ G { sz with heap := hp } := J.landed nb fl.1 (up.trans upL) eos ebr
    obtain ⟨o3, v3, g3, z3, d3⟩ := fl.there
    have notIn : q ∉ frs (X.env :: X.outer) := fun hm => by
      obtain ⟨_, o', e', hnf⟩ := fl.2.2.1.mem hm
      rw [g3] at e'
      cases e'
      exact hnf _ d3
    have nLoc : q ≠ X.env.locals := fun z => notIn (List.mem_filterMap.mpr ⟨X.env, List.mem_cons_self, by rw [hfr0, z]⟩)
    have nFs : q ∉ X.fs := fun hm => let ⟨e, he, w⟩ := List.mem_filterMap.mp hm; notIn (List.mem_filterMap.mpr ⟨e, List.mem_cons_of_mem _ he, w⟩)
    have S3 := JL.suite g3 d3 na nLoc nFs
    have go : ∀ {hs2 : List ExceptHandler} {l2 : ClA}, HdA X n hs2 l2 → wAl X.K i Wo D l2 cls d τ G → wpAny (model X.prog X.w) X.A (handleBy (.ref q) X.env hs2) (SP X pins D) X.xe { sz with heap := hp } := by
      intro hs2 l2 hk
      induction hk with
      | nil =>
        intro w
        apply wpAny_handleBy_nil
        obtain ⟨_, _, _, oe, vs, Tb, oT, ts', he, hz, hd, h1, hr⟩ := id fl
        unfold PySem.passOn
        apply wpAny_bind
        refine wpAny_field he hd h1 ?_
        rw [if_neg (by simp : ¬ ((Value.ref Tb == Value.none) = true))]
        have fin : wpAny (model X.prog X.w) X.A (setFlight (.ref q) X.env.frame) (fun _ t4 => wpAny (model X.prog X.w) X.A (throw (.ref q) : Sem Flow) (SP X pins D) X.xe t4) X.xe { sz with heap := hp } := by
          rw [hfr0]
          exact HandSPX.setFlight_upZ fl fun h4 sk4 up4 => wpAny_throw (tk _ _ ⟨q, B, sJ, pins, τ, G, cls, d, rfl, J, nb, (up.trans upL).trans up4, .inr (.inr (hst ▸ sk4)), na, eos, ebr, w⟩)
        first
          | exact wpAny_bind (wpAny_pure (wpAny_bind fin))
          | exact wpAny_bind fin
      | @cons x c ts b0 sb p1 p2 hd2 l3 hc hsu r ih =>
        intro w
        obtain ⟨b, hb1, yes, no⟩ := w
        refine wpAny_handleBy_cons (codeAny_handlers_test ?_) (fun z => by cases z)
        have lk : PySem.W.Looks (model X.prog X.w) hp (typeOf (.ref q)) cls := fun A Q E t kq w2 => wpAny_typeOf_ref (kq _ _ g3) (z3.1 ▸ w2)
        have lm := PySem.W.exm_one (M := model X.prog X.w) JL.kIn lk hb1
        have named : ∀ {Q E : Value → Shared → Prop}, Q c { sz with heap := hp } → wpAny (model X.prog X.w) (X.A.mark (some (.ref q))) (eval (.Name x p1) X.env) Q E { sz with heap := hp } := by
          intro Q E w2
          obtain ⟨hg, hdb, hm⟩ := hc
          rcases hm with hm | ⟨hm, hv, hnn⟩
          · exact ld_glob (X := X.suite q ((q, o3) :: (X.pn ++ pins))) S3 hg hm w2 hdb
          · exact ld_blt (X := X.suite q ((q, o3) :: (X.pn ++ pins))) S3 hg hm hv w2 hnn hdb
        refine named (lm.here ?_)
        cases b with
        | false => exact ih (no rfl)
        | true =>
          apply codeAny_handlers_suite_as
          refine HandSPX.lands_againZ fl fun h4 fl4 up4 => ?_
          have J4 : Inv X pins τ G { sz with heap := h4 } := J.landed nb fl4.1 ((up.trans upL).trans up4) eos ebr
          obtain ⟨o4, v4, g4, z4, d4⟩ := fl4.there
          have S4 := J4.suite g4 d4 na nLoc nFs
          refine store_ok (X := X.suite q ((q, o4) :: (X.pn ++ pins))) (v := .ref q) S4 hN hi loc rfl (fun s5 S5 => ?_) (.inr hln)
          refine wpAny_mono ((hsu q o4 cls d (X.pn ++ pins) z4 ⟨_, d4⟩).run [] s5 _ G _ S5 (yes rfl q na)) (fun fw s6 hsp => ?_) (fun _ _ z => z.elim)
          have gone : ∀ {τ6 : L2.St} {G6 : Hp} {Q : Shared → Prop}, Inv (X.suite q ((q, o4) :: (X.pn ++ pins))) [] τ6 G6 s6 → (∀ s7, Inv X pins (τ6.set i none) G6 s7 → Q s7) →
              wpAny (model X.prog X.w) X.A (do bindName X.env n .none; unbindBehindTheSuite X.env n p2) (fun _ s7 => Q s7) X.xe s6 := fun S6 hq => gone_ok (S6.unsuite okI) hN hi hln hq
          match fw, hsp with
          | .next, ⟨_, _, S6, w6⟩ => exact gone S6 fun s7 J7 => ⟨_, _, J7, w6⟩
          | .brk, ⟨_, _, S6, w6⟩ => exact gone S6 fun s7 J7 => ⟨_, _, J7, w6⟩
          | .cont, ⟨_, _, S6, w6⟩ => exact gone S6 fun s7 J7 => ⟨_, _, J7, w6⟩
          | .ret u, ⟨_, _, _, S6, r6, w6⟩ => exact gone S6 fun s7 J7 => ⟨_, _, _, J7, r6, w6⟩
    exact go hh wal
  refine wpAny_mono ((hb (wAl X.K i Wo D l) (X.pn ++ pins) _ look PassesOwn.looking).run [] s σ H D (I.toTry _) h) (fun fw t1 hsp => ?_) fun e t1 he => he
  match fw, hsp with
  | .next, ⟨τ, G, J, w⟩ => exact wpAny_execs_nil ⟨τ, G, J.ofTry okI, w⟩
  | .brk, ⟨τ, G, J, w⟩ => exact ⟨τ, G, J.ofTry okI, w⟩
  | .cont, ⟨τ, G, J, w⟩ => exact ⟨τ, G, J.ofTry okI, w⟩
  | .ret u, ⟨v, τ, G, J, r, w⟩ => exact ⟨v, τ, G, J.ofTry okI, r, w⟩
end V1
set_option Elab.async false
set_option linter.all false
set_option maxRecDepth 100000
set_option maxHeartbeats 4000000
/-! try: return [call()] / except C1 as caught: return (w1, caught.field) / except C2 as caught: return (w2, caught.field) -/
namespace V1
open PySem PySem.Spec PySem.Calls PyProof.Rows L2 LamX
def TT2 (C1 C2 : Addr) (w1 w2 fld : Str) : HT := fun tl H Q => ∀ (E : XK) (Q' : VK),
  (∀ (dd : Addr) (fs : List (Str × V)) (v : V) (G : Hp), G dd = some (.xd fs) → fs.lookup fld = some v → (∀ p, G p = none → Q (.ref p) (upd G p (.tup [.str w1, v]))) → E (.ref C1) (some dd) G) →
  (∀ (dd : Addr) (fs : List (Str × V)) (v : V) (G : Hp), G dd = some (.xd fs) → fs.lookup fld = some v → (∀ p, G p = none → Q (.ref p) (upd G p (.tup [.str w2, v]))) → E (.ref C2) (some dd) G) →
  (∀ (v : V) (G : Hp), (∀ p, G p = none → Q (.ref p) (upd G p (.lst [v]))) → Q' v G) → tl E H Q'
theorem hears2 {X : Cx} {x a q e1 e2 cn w1 w2 fld : Str} {sg : Scope} {g C1 C2 : Addr} {cdg : Value} {j j2 n9 n10 : Nat} {p1 p2 p3 p4 p5 p6 p7 p8 p9 p10 p11 p12 r5 r6 r7 r8 r9 r10 r11 : Pos} (g1 : sg.names.lookup e1 = some .globalImplicit) (m1 : X.mg e1 = some (.ref C1)) (d1 : (e1 == ("__debug__" : Str)) = false)
    (g2 : sg.names.lookup e2 = some .globalImplicit) (m2 : X.mg e2 = some (.ref C2)) (d2 : (e2 == ("__debug__" : Str)) = false) (t11 : PySem.W.exmOne X.K (.ref C1) (.ref C1) = some true) (t21 : PySem.W.exmOne X.K (.ref C2) (.ref C1) = some false) (t22 : PySem.W.exmOne X.K (.ref C2) (.ref C2) = some true)
    (X1 : XfC X.K C1) (n1 : PySem.W.findIn X.K (.ref C1) fld = some none) (X2 : XfC X.K C2) (n2 : PySem.W.findIn X.K (.ref C2) fld = some none) (hac : (a == cn) = false) (hlc : sg.names.lookup cn = some .local) (hcn1 : (cn == ("__debug__" : Str)) = false) (hcn2 : (cn == ("__classdict__" : Str)) = false)
    (hat : ∀ env : Env, attributeBase (.Name cn p7) fld env (eval (.Name cn p7) env) = eval (.Name cn p7) env) (hat2 : ∀ env : Env, attributeBase (.Name cn r7) fld env (eval (.Name cn r7) env) = eval (.Name cn r7) env) :
    Hears X [a, cn] x sg g cdg [.Try [.Return (some (.List [.Call (.Name a p1) [] [] p2] p3)) p4] [.ExceptHandler (some (.Name e1 p5)) (some cn) [.Return (some (.Tuple [.Constant (.str w1) j p6, .Attribute (.Name cn p7) fld p8] n9 p9)) p10] p11,
      .ExceptHandler (some (.Name e2 r5)) (some cn) [.Return (some (.Tuple [.Constant (.str w2) j2 r6, .Attribute (.Name cn r7) fld r8] n10 r9)) r10] r11] [] [] p12] a q (TT2 C1 C2 w1 w2 fld) := by
  intro f c' s H Q tl act hc h
  have hnd : ([a, cn] : List Str).Nodup := by
    simp only [List.nodup_cons, List.mem_singleton, List.not_mem_nil, not_false_eq_true, List.nodup_nil, and_true]
    intro z
    subst z
    simp at hac
  have gl1 : Gl (cxOf CX0 X.prog X.w X.K X.mg X.base [a, cn] x sg g cdg X.A X.stack s H E0).nox e1 := g1
  have gl2 : Gl (cxOf CX0 X.prog X.w X.K X.mg X.base [a, cn] x sg g cdg X.A X.stack s H E0).nox e2 := g2
  let tb : WX → TS := fun W D σ G => σ[0]? = some (some (.ref f)) ∧ G c' = some (CodeO c' q) ∧ tl (WE W σ) G fun v G1 => (1 ≤ sizeLine ∧ ∀ p, G1 p = none → D.rt (.ref p) (upd G1 p (.lst [v])))
  let ts : Addr → Str → Addr → Value → Option Addr → TS := fun C wd a' cls d => tRet (tTup (tCons (tC (.str wd)) (tCons (tXf a' cls d C fld (tVar 1)) tNil)))
  refine ⟨_, pss_one (ps_try_al (X := (cxOf CX0 X.prog X.w X.K X.mg X.base [a, cn] x sg g cdg X.A X.stack s H E0).nox) (i := 1) (Wo := fun _ _ _ _ => False) (tb := tb) (l := [(.ref C1, ts C1 w1), (.ref C2, ts C2 w2)])
      rfl rfl hnd rfl hlc L2.takes0 (fun W pn xe tk _ => ?_)
      (.cons ⟨gl1, d1, .inl m1⟩ (fun a' oe cls d pn hz hf => pss_one (ps_ret (pe_tup (pa_cons pe_str (pa_cons (pe_xf (X := (cxOf CX0 X.prog X.w X.K X.mg X.base [a, cn] x sg g cdg X.A X.stack s H E0).nox) X1 n1 hz hf (pe_var (i := 1) rfl (Or.inl hlc) hcn1 hcn2) (hat _)) pa_nil)))))
      (.cons ⟨gl2, d2, .inl m2⟩ (fun a' oe cls d pn hz hf => pss_one (ps_ret (pe_tup (pa_cons pe_str (pa_cons (pe_xf (X := (cxOf CX0 X.prog X.w X.K X.mg X.base [a, cn] x sg g cdg X.A X.stack s H E0).nox) X2 n2 hz hf (pe_var (i := 1) rfl (Or.inl hlc) hcn1 hcn2) (hat2 _)) pa_nil))))) .nil))), ?_⟩
  · refine ⟨fun pins s' σ H' D I ⟨h1, h2, h3⟩ => ?_⟩
    have hq := pss_one (ps_ret (pos := p4) (pe_lst (pos := p3) (pa_cons (act W pn xe p1 p2 tk) pa_nil)))
    exact hq.run pins s' σ H' D I ⟨h1, h2, h3⟩
  · refine ⟨rfl, hc, h _ _ (fun dd fs v G e1 e2 e3 => ?_) (fun dd fs v G e1 e2 e3 => ?_) fun v G hq => ⟨(show 1 ≤ sizeLine by decide), hq⟩⟩
    · exact ⟨true, t11, fun _ a' ha => ⟨.ref a', rfl, rfl, rfl, dd, fs, v, rfl, e1, e2, (show 2 ≤ sizeLine by decide), e3⟩, fun z => by cases z⟩
    · exact ⟨false, t21, (fun z => by cases z), fun _ => ⟨true, t22, fun _ a' ha => ⟨.ref a', rfl, rfl, rfl, dd, fs, v, rfl, e1, e2, (show 2 ≤ sizeLine by decide), e3⟩, fun z => by cases z⟩⟩
section
variable {L : Rl} {Γ : List (Option PyData)} {T : List (Addr × Str)} {C1 C2 : Addr} {w1 w2 fld : Str} {t : XK → TE} {d dq : PyData}
theorem eg_h2V (LL : LamL L T) (hd : d ≠ mark) (h : ∀ E : XK, EvD L (t E) Γ d) : EvD L (tHd T (TT2 C1 C2 w1 w2 fld) t) Γ (.list [d]) := fun A σ H hi he hg Q q => by
  refine ⟨LL.tb hg, fun H1 e nn tb E Q' hE hE2 hQ => ?_⟩
  have r1 : L.R 0 H H1 := LL.of hg e tb nn
  refine h E A σ H1 (hi.r r1) (he.r r1) (Rl.gR (b := 0) hg r1) Q' fun v d' H2 r2 hv ed => hQ v H2 fun p hp => ?_
  subst ed
  have r12 := L.tr (a := 0) (b := 0) r1 r2
  have sm := laid_same (o := .lst [v]) hp
  have hi2 := hi.r r12
  exact q _ _ _ (L.tr (a := 0) (b := 0) r12 (L.same (Rl.gR (b := 0) hg r12) sm)) (.inr (.lst (hi2.no hp) upd_same (.cons ((hv.ne hd).map fun b o na e k => ⟨na, sm b o e⟩) .nil))) rfl
theorem h2_tup {A : Addr → Prop} {σ : L2.St} {H H1 : Hp} {Q : VK} {wd : Str} (hi : Inn A H) (hg : L.G 0 H) (r1 : L.R 0 H H1) (q : ∀ v d H', L.R 0 H H' → Dq L A H' v d → d = .tuple [.str wd, dq] → Q v H')
    (v : V) (dd : Addr) (H2 : Hp) (r2 : L.R 0 H1 H2) (hv : Dv L.K A H2 v dq) (p : Addr) (hp : H2 p = none) : Q (.ref p) (upd H2 p (.tup [.str wd, v])) := by
  have r12 := L.tr (a := 0) (b := 0) r1 r2
  have sm := laid_same (o := .tup [.str wd, v]) hp
  have hi2 := hi.r r12
  exact q _ _ _ (L.tr (a := 0) (b := 0) r12 (L.same (Rl.gR (b := 0) hg r12) sm)) (.inr (.tup (hi2.no hp) upd_same (.cons (.str wd) (.cons (hv.map fun b o na e k => ⟨na, sm b o e⟩) .nil)))) rfl
theorem eg_h2A (LL : LamL L T) (h : RzD L C1 fld t Γ dq) : EvD L (tHd T (TT2 C1 C2 w1 w2 fld) t) Γ (.tuple [.str w1, dq]) := fun A σ H hi he hg Q q => by
  refine ⟨LL.tb hg, fun H1 e nn tb E Q' hE _ hQ => ?_⟩
  have r1 : L.R 0 H H1 := LL.of hg e tb nn
  exact h E A σ H1 (hi.r r1) (he.r r1) (Rl.gR (b := 0) hg r1) (fun v dd H2 r2 hx hv => hE dd _ v H2 hx (by simp [List.lookup]) fun p hp => h2_tup (σ := σ) hi hg r1 q v dd H2 r2 hv p hp) Q'
theorem eg_h2B (LL : LamL L T) (h : RzD L C2 fld t Γ dq) : EvD L (tHd T (TT2 C1 C2 w1 w2 fld) t) Γ (.tuple [.str w2, dq]) := fun A σ H hi he hg Q q => by
  refine ⟨LL.tb hg, fun H1 e nn tb E Q' _ hE hQ => ?_⟩
  have r1 : L.R 0 H H1 := LL.of hg e tb nn
  exact h E A σ H1 (hi.r r1) (he.r r1) (Rl.gR (b := 0) hg r1) (fun v dd H2 r2 hx hv => hE dd _ v H2 hx (by simp [List.lookup]) fun p hp => h2_tup (σ := σ) hi hg r1 q v dd H2 r2 hv p hp) Q'
end
end V1
set_option Elab.async false
set_option linter.all false
set_option maxRecDepth 100000
set_option maxHeartbeats 4000000
/-! k01: rules for what is drawn and bent. -/
namespace V1
open PySem PySem.Spec PyProof.Rows L2
/-- int * int, int * bool -/
def rMulB : R2 := fun x y H Q => (∃ i j, x = .int i ∧ y = .int j ∧ CMulW i j ∧ Q (.int (i * j)) H) ∨ ∃ i k, x = .int i ∧ y = .bl k ∧ Q (.int (i * if k = true then 1 else 0)) H
theorem op_mulB {X : Cx} : OpR X (binaryOp .Mult) rMulB := by
  intro pins s σ H x y v u Q I rx ry h
  rcases h with ⟨i, j, e1, e2, hc, q⟩ | ⟨i, k, rfl, rfl, q⟩
  · exact op_mulW pins s σ H x y v u Q I rx ry ⟨i, j, e1, e2, hc, q⟩
  · obtain ⟨t, rfl⟩ := rx
    obtain rfl : u = Value.bool k := ry
    exact PySem.IntBool.mul_int_bool ⟨.int _, H, I.tok _, ⟨_, rfl⟩, q⟩
section
variable {L : Rl} {Γ : List (Option PyData)} {t : TA} {te ta tb : TE} {tt tu : TT} {a b : Nat}
theorem eg_mulBI {i j : Int} (ha : EvD L ta Γ (.int i)) (hb : EvD L tb Γ (.int j)) (hc : CMulW i j) : EvD L (tOp rMulB ta tb) Γ (.int (i * j)) := eg_op ha hb fun A H x y hi hg hx hy Q q => by
  obtain rfl := hx.int
  obtain rfl := hy.int
  exact .inl ⟨i, j, rfl, rfl, hc, q _ _ H (Rl.refl hg) (.inr (.int _)) rfl⟩
theorem eg_mulBB {i : Int} {k : Bool} (ha : EvD L ta Γ (.int i)) (hb : EvD L tb Γ (.bool k)) : EvD L (tOp rMulB ta tb) Γ (.int (i * if k = true then 1 else 0)) := eg_op ha hb fun A H x y hi hg hx hy Q q => by
  obtain rfl := hx.int
  obtain rfl := hy.bool
  exact .inr ⟨i, k, rfl, rfl, q _ _ H (Rl.refl hg) (.inr (.int _)) rfl⟩
/-- list(t) -/
theorem cs_listT {ds : List PyData} : CaS L (fun xs H Q => ∃ p ys, xs = [.ref p] ∧ (SqL L.K H p ys ∨ SqT L.K H p ys) ∧ ∀ l, H l = none → Q (.ref l) (upd H l (.lst ys))) [.tuple ds] (.list ds) := fun A H vs hi hg hl h Q q => by
  obtain ⟨v, rfl, hv⟩ := one_of hl h
  obtain ⟨p, xs, rfl, e, r⟩ := hv.tuple
  refine ⟨p, xs, rfl, .inr e.sq, fun l hl2 => ?_⟩
  have rr := Rl.newR (o := .lst xs) hg hl2
  exact q _ _ rr (.inr (.lst (hi.no hl2) upd_same (r.r rr)))
theorem eg_drawV {E : XK} (hS : SM L) {b : Nat} (hb : 0 < b ∧ b < 2 ^ 30) (h0 : Γ[0]? = some (some mark)) (h1 : EvD L te Γ (.int (b : Int))) : EvG L 1 (tCall (sp_law_draw L.K) [] E (tCons (tVar 0) (tCons te tNil))) Γ (fun d => ∃ z : Int, (0 ≤ z ∧ z < (b : Int)) ∧ d = .int z) :=
  EvG.mono (eg_callM hS b (ea_cons (eg_var h0) (ea_cons h1 ea_nil)) hb) (Nat.le_refl _) fun d ⟨r, h1, e⟩ => ⟨(r : Int), ⟨by omega, by omega⟩, e⟩
theorem os_catA {ds es : List PyData} (hl : ds.length + es.length ≤ 100000) : OpS L (rCatA L.K) (.tuple ds) (.tuple es) (fun x => x = .tuple (ds ++ es)) := fun A H x y hi hg hx hy Q q => by
  obtain ⟨p, xs, rfl, e, r⟩ := hx.tuple
  obtain ⟨p2, ys, rfl, e2, r2⟩ := hy.tuple
  refine ⟨p, p2, xs, ys, rfl, rfl, e.sq, e2.sq, Nat.le_trans (by rw [r.length, r2.length]; exact hl) (by decide), fun z => ?_, fun _ z => ?_, fun _ _ l hl2 => ?_⟩
  · have e3 : ds = [] := List.length_eq_zero_iff.mp (by rw [← r.length, z]; rfl)
    subst e3
    exact q _ _ H (Rl.refl hg) (dv_tup0 e2 r2) (by rw [List.nil_append])
  · have e3 : es = [] := List.length_eq_zero_iff.mp (by rw [← r2.length, z]; rfl)
    subst e3
    exact q _ _ H (Rl.refl hg) (dv_tup0 e r) (by rw [List.append_nil])
  · have rr := Rl.newR (o := .tup (xs ++ ys)) hg hl2
    exact q _ _ _ rr (.inr (.tup (hi.no hl2) upd_same ((r.app r2).r rr))) rfl
theorem sq_as {ts u z : TS} {N : List (Option PyData) → Prop} {Rt : PyData → Prop} (h : SG L a (tSeq ts (tSeq u z)) Γ N Rt) : SG L a (tSeq (tSeq ts u) z) Γ N Rt := h
end
theorem cut_mem {ds : List PyData} {lo hi : Option Int} {x : PyData} (h : x ∈ cutD ds lo hi) : x ∈ ds := List.mem_of_mem_drop (List.mem_of_mem_take h)
theorem cut_len (ds : List PyData) (lo hi : Option Int) : (cutD ds lo hi).length ≤ ds.length := by
  unfold cutD
  rw [List.length_take, List.length_drop]
  omega
/-! ### what may stand in a bent tuple -/
def odd9 : List PyData := [.none, .bool true, .bool false, .str "1", .tuple [.int 1], .list [.int 1], .int 0, .int (-1), .int 7]
def Elt (b : Nat) (d : PyData) : Prop := (∃ i : Int, d = .int i ∧ i.natAbs < 2 ^ b) ∨ d ∈ odd9
theorem Elt.mono {b c : Nat} {d : PyData} (h : Elt b d) (hbc : b ≤ c) : Elt c d := h.imp (fun ⟨i, e, hi⟩ => ⟨i, e, Nat.lt_of_lt_of_le hi (Nat.pow_le_pow_right (by decide) hbc)⟩) id
theorem odd9_ok : (odd9.all fun d => d.showable && (!d.hasDict && (decide (d.depth ≤ 2) && (d.leavesShort 1921 && (decide (d.bulk ≤ 4) && d.canLay0))))) = true := by decide +kernel
theorem Elt.ok {b : Nat} {d : PyData} (h : Elt b d) (hb : b ≤ 1900) : Shn 4 2 d ∧ d.canLay0 = true := by
  rcases h with ⟨i, rfl, hi⟩ | h
  · exact ⟨(shn_int (b := 4) (k := 2) (p1900 hi hb)), rfl⟩
  · have h1 := List.all_eq_true.mp odd9_ok d h
    simp only [Bool.and_eq_true, decide_eq_true_eq, Bool.not_eq_true'] at h1
    obtain ⟨a1, a2, a3, a4, a5, a6⟩ := h1
    exact ⟨⟨a1, a2, a3, a4, a5⟩, a6⟩
/-- what is judged -/
def Jd (n b : Nat) (d : PyData) : Prop := d = .none ∨ ∃ ds, (d = .tuple ds ∨ d = .list ds) ∧ ds.length ≤ n ∧ ∀ x ∈ ds, Elt b x
theorem Jd.shn {n b : Nat} {d : PyData} (h : Jd n b d) (hb : b ≤ 1900) (hn : n ≤ 9) : Shn 45 3 d := by
  rcases h with rfl | ⟨ds, rfl | rfl, hl, he⟩
  · exact ⟨rfl, rfl, by decide, by decide +kernel, by decide⟩
  · exact shn_tup (b := 4) (k := 2) (m := 9) (fun x hx => ((he x hx).ok hb).1) (Nat.le_trans hl hn)
  · exact shn_lst (b := 4) (k := 2) (m := 9) (fun x hx => ((he x hx).ok hb).1) (Nat.le_trans hl hn)
theorem canLay_all : ∀ {ds : List PyData}, (∀ d ∈ ds, d.canLay0 = true) → PyData.canLayAll0 ds = true
  | [], _ => by simp only [PyData.canLayAll0]
  | d :: ds, h => by
    simp only [PyData.canLayAll0]
    rw [h d List.mem_cons_self, canLay_all fun x hx => h x (List.mem_cons_of_mem _ hx)]
    rfl
theorem elts_shaped {b : Nat} {ds : List PyData} (he : ∀ x ∈ ds, Elt b x) (hl : ds.length ≤ 9) (hb : b ≤ 1900) : SeqAt.shaped (.tuple ds) = true := by
  have h1 := Jd.shn (n := 9) (b := b) (.inr ⟨ds, .inl rfl, hl, he⟩) hb (by decide)
  unfold SeqAt.shaped
  rw [Bool.and_eq_true]
  refine ⟨?_, decide_eq_true (Nat.le_trans h1.dp (by decide))⟩
  simp only [PyData.canLay0]
  exact canLay_all fun d hd => ((he d hd).ok hb).2
theorem cut_at {ds : List PyData} {i : Nat} (h : i < ds.length) : cutD ds none (some (i : Int)) = ds.take i ∧ cutD ds (some ((i : Int) + 1)) none = ds.drop (i + 1) := by
  have e : ∀ (n d : Nat) (j : Nat), j ≤ n → HT.sIx n d (some (j : Int)) = j := fun n d j hj => by
    show (if ((j : Nat) : Int) < 0 then (((j : Nat) : Int) + (n : Int)).toNat else min ((j : Nat) : Int).toNat n) = j
    rw [if_neg (by omega)]
    omega
  have e1 : ((i : Nat) : Int) + 1 = ((i + 1 : Nat) : Int) := by omega
  have n0 : ∀ n : Nat, HT.sIx n 0 none = 0 := fun _ => rfl
  have nn : ∀ n : Nat, HT.sIx n n none = n := fun _ => rfl
  constructor
  · unfold cutD
    rw [n0, e _ _ i (by omega)]
    simp
  · unfold cutD
    rw [e1, e _ _ (i + 1) (by omega), nn]
    exact List.take_of_length_le (by rw [List.length_drop]; omega)
theorem cut_init {ds : List PyData} {x : PyData} : cutD (ds ++ [x]) none (some (-1)) = ds := by
  have h := cut_neg (ds := ds ++ [x]) (k := 1) (by decide) (by simp)
  rw [show (-1 : Int) = -((1 : Nat) : Int) from rfl, h]
  simp
theorem prim_lt {ms : List Int} {n : Nat} (h : ∀ z ∈ ms, z.natAbs < 2 ^ n) : ∀ z ∈ prim ms, z.natAbs < 2 ^ n := fun z hz => by
  unfold prim at hz
  obtain ⟨y, hy, rfl⟩ := List.mem_map.mp hz
  refine Nat.lt_of_le_of_lt ?_ (h y hy)
  exact Int.natAbs_ediv_le_natAbs _ _
end V1
set_option Elab.async false
set_option linter.all false
set_option maxRecDepth 100000
set_option maxHeartbeats 4000000
/-! Calls by keywords alone. -/
namespace V1
open PySem PySem.Spec PyProof.Rows L2
def g2 {α : Type} : List α → List α → List α
  | [], [a, b] => [a, b]
  | _, _ => []
def g2r {α : Type} : List α → List α → List α
  | [], [a, b] => [b, a]
  | _, _ => []
def g1 {α : Type} : List α → List α → List α
  | [], [a] => [a]
  | _, _ => []
theorem vals_nil {us : List Value} (h : Vals [] us) : us = [] := by cases h; rfl
theorem rel_g2 {vs : List V} {us : List Value} {zs : List V} {ws : List Value} (h1 : Vals vs us) (h2 : Vals zs ws) : Vals (g2 vs zs) (g2 us ws) := by
  cases h1 with
  | nil =>
    cases h2 with
    | nil => exact .nil
    | cons a h2 =>
      cases h2 with
      | nil => exact .nil
      | cons b h2 =>
        cases h2 with
        | nil => exact .cons a (.cons b .nil)
        | cons c h2 => exact .nil
  | cons a h1 => exact .nil
theorem rel_g2r {vs : List V} {us : List Value} {zs : List V} {ws : List Value} (h1 : Vals vs us) (h2 : Vals zs ws) : Vals (g2r vs zs) (g2r us ws) := by
  cases h1 with
  | nil =>
    cases h2 with
    | nil => exact .nil
    | cons a h2 =>
      cases h2 with
      | nil => exact .nil
      | cons b h2 =>
        cases h2 with
        | nil => exact .cons b (.cons a .nil)
        | cons c h2 => exact .nil
  | cons a h1 => exact .nil
theorem rel_g1 {vs : List V} {us : List Value} {zs : List V} {ws : List Value} (h1 : Vals vs us) (h2 : Vals zs ws) : Vals (g1 vs zs) (g1 us ws) := by
  cases h1 with
  | nil =>
    cases h2 with
    | nil => exact .nil
    | cons a h2 =>
      cases h2 with
      | nil => exact .cons a .nil
      | cons b h2 => exact .nil
  | cons a h1 => exact .nil
theorem g2_some {α : Type} : ∀ {us ws : List α}, (g2 us ws).length = 2 → us = [] ∧ ∃ a b, ws = [a, b]
  | [], [], h => by cases h
  | [], [_], h => by cases h
  | [], [a, b], _ => ⟨rfl, a, b, rfl⟩
  | [], _ :: _ :: _ :: _, h => by cases h
  | _ :: _, _, h => by cases h
theorem g2r_some {α : Type} : ∀ {us ws : List α}, (g2r us ws).length = 2 → us = [] ∧ ∃ a b, ws = [a, b]
  | [], [], h => by cases h
  | [], [_], h => by cases h
  | [], [a, b], _ => ⟨rfl, a, b, rfl⟩
  | [], _ :: _ :: _ :: _, h => by cases h
  | _ :: _, _, h => by cases h
theorem g1_some {α : Type} : ∀ {us ws : List α}, (g1 us ws).length = 1 → us = [] ∧ ∃ a, ws = [a]
  | [], [], h => by cases h
  | [], [a], _ => ⟨rfl, a, rfl⟩
  | [], _ :: _ :: _, h => by cases h
  | _ :: _, _, h => by cases h
theorem kbin2 {K : PySem.W.Frag} {fd : FuncData} {ps ks : List Str} (hp : ps.length = 2) (h : ∀ u v : Value, bindArgs fd ⟨[], ks.zip [u, v]⟩ = pure (ps.zip [u, v])) : KBinds K fd ps ks g2 g2 := ⟨fun s us ws _ hl => by
  obtain ⟨rfl, u, v, rfl⟩ := g2_some (hl.trans hp)
  exact .of_eq (h u v), rel_g2⟩
theorem kbin2r {K : PySem.W.Frag} {fd : FuncData} {ps ks : List Str} (hp : ps.length = 2) (h : ∀ u v : Value, bindArgs fd ⟨[], ks.zip [u, v]⟩ = pure (ps.zip [v, u])) : KBinds K fd ps ks g2r g2r := ⟨fun s us ws _ hl => by
  obtain ⟨rfl, u, v, rfl⟩ := g2r_some (hl.trans hp)
  exact .of_eq (h u v), rel_g2r⟩
theorem kbin1 {K : PySem.W.Frag} {fd : FuncData} {ps ks : List Str} (hp : ps.length = 1) (h : ∀ u : Value, bindArgs fd ⟨[], ks.zip [u]⟩ = pure (ps.zip [u])) : KBinds K fd ps ks g1 g1 := ⟨fun s us ws _ hl => by
  obtain ⟨rfl, u, rfl⟩ := g1_some (hl.trans hp)
  exact .of_eq (h u), rel_g1⟩
theorem gk2 {d1 d2 : PyData} (zs : List V) (h : zs.length = [d1, d2].length) : (g2 [] zs).length = [d1, d2].length ∧ ∀ (i : Nat) d, [d1, d2][i]? = some d → ∃ j : Nat, [d1, d2][j]? = some d ∧ (g2 [] zs)[i]? = zs[j]? := by
  match zs, h with
  | [a, b], _ => exact ⟨rfl, fun i d e => ⟨i, e, rfl⟩⟩
theorem gk2r {d1 d2 : PyData} (zs : List V) (h : zs.length = [d2, d1].length) : (g2r [] zs).length = [d1, d2].length ∧ ∀ (i : Nat) d, [d1, d2][i]? = some d → ∃ j : Nat, [d2, d1][j]? = some d ∧ (g2r [] zs)[i]? = zs[j]? := by
  match zs, h with
  | [a, b], _ =>
    refine ⟨rfl, fun i d e => ?_⟩
    match i, e with
    | 0, e => exact ⟨1, e, rfl⟩
    | 1, e => exact ⟨0, e, rfl⟩
    | i + 2, e => cases e
theorem gk1 {d1 : PyData} (zs : List V) (h : zs.length = [d1].length) : (g1 [] zs).length = [d1].length ∧ ∀ (i : Nat) d, [d1][i]? = some d → ∃ j : Nat, [d1][j]? = some d ∧ (g1 [] zs)[i]? = zs[j]? := by
  match zs, h with
  | [a], _ => exact ⟨rfl, fun i d e => ⟨i, e, rfl⟩⟩

end V1
set_option Elab.async false
set_option linter.all false
set_option maxRecDepth 100000
set_option maxHeartbeats 4000000
/-! k01: what is doubled; small fractions. -/
namespace V1
open PySem PySem.Spec PyProof.Rows L2
variable {P : Program} {w : World} {K : PySem.W.Frag} {mg : Str → Option Value} {base : Heap}
def dbl : PyData → PyData
  | .int i => .int (2 * i)
  | .bool k => .int (2 * if k = true then 1 else 0)
  | d => d
theorem dbl_elt {b : Nat} {x : PyData} (h : Elt b x) (hb : 2 ≤ b) : Elt (b + 2) (dbl x) := by
  have sm : ∀ i : Int, i.natAbs < 2 ^ 2 → Elt (b + 2) (.int i) := fun i hi => .inl ⟨i, rfl, Nat.lt_of_lt_of_le hi (Nat.pow_le_pow_right (by decide) (by omega))⟩
  rcases h with ⟨i, rfl, hi⟩ | h9
  · refine .inl ⟨2 * i, rfl, ?_⟩
    have e : (2 : Nat) ^ (b + 2) = 2 ^ b * 4 := by rw [Nat.pow_add]
    omega
  · simp only [odd9, List.mem_cons, List.not_mem_nil, or_false] at h9
    rcases h9 with rfl | rfl | rfl | rfl | rfl | rfl | rfl | rfl | rfl
    · exact .inr (by simp [odd9, dbl])
    · exact sm _ (by decide)
    · exact sm _ (by decide)
    · exact .inr (by simp [odd9, dbl])
    · exact .inr (by simp [odd9, dbl])
    · exact .inr (by simp [odd9, dbl])
    · exact sm _ (by decide)
    · exact sm _ (by decide)
    · exact .inl ⟨14, rfl, Nat.lt_of_lt_of_le (show (14 : Int).natAbs < 2 ^ 4 by decide) (Nat.pow_le_pow_right (by decide) (by omega))⟩
theorem dbl_ne {b : Nat} {x : PyData} (h : Elt b x) : dbl x ≠ mark := by
  intro z
  have e : x = mark := by
    cases x with
    | dict k => exact z
    | _ => cases z
  subst e
  rcases h with ⟨i, e, _⟩ | h9
  · cases e
  · simp [odd9] at h9
theorem rat_le {a : Int} {b : Nat} (hb : 0 < b) : (rat a b).num.natAbs ≤ a.natAbs ∧ (rat a b).den ≤ b := by
  have h := fq_of (a := a) hb
  unfold fq at h
  injection h with h
  injection h with h1 h
  injection h with h2 _
  injection h1 with h1
  injection h2 with h2
  constructor
  · rw [← h1]
    exact Int.natAbs_ediv_le_natAbs _ _
  · have : (b : Int) / ((Nat.gcd a.natAbs b : Nat) : Int) = ((b / Nat.gcd a.natAbs b : Nat) : Int) := rfl
    rw [this] at h2
    have h3 := Nat.div_le_self b (Nat.gcd a.natAbs b)
    omega
theorem lcml_le : ∀ {bs : List Nat}, (∀ b ∈ bs, 0 < b ∧ b ≤ 16) → lcml bs ≤ 16 ^ bs.length
  | [], _ => by decide
  | b :: r, h => by
    rw [lcml_cons, List.length_cons, Nat.pow_succ]
    have ih := lcml_le (bs := r) fun x hx => h x (List.mem_cons_of_mem _ hx)
    obtain ⟨h1, h2⟩ := h b List.mem_cons_self
    have h3 : 0 < lcml r := lcml_pos fun x hx => (h x (List.mem_cons_of_mem _ hx)).1
    have h4 : Nat.lcm b (lcml r) ≤ b * lcml r := Nat.le_of_dvd (Nat.mul_pos h1 h3) (Nat.lcm_dvd (Nat.dvd_mul_right _ _) (Nat.dvd_mul_left _ _))
    refine Nat.le_trans h4 ?_
    rw [Nat.mul_comm]
    exact Nat.mul_le_mul ih h2
theorem small_lq {qs : List Rat} (hl : qs.length ≤ 5) (hq : ∀ q ∈ qs, q.num.natAbs < 2 ^ 4 ∧ q.den < 2 ^ 4) : lq qs ≤ 2 ^ 20 := by
  unfold lq
  refine Nat.le_trans (lcml_le fun b hb => ?_) ?_
  · obtain ⟨q, h, rfl⟩ := List.mem_map.mp hb
    exact ⟨q.den_pos, by have := (hq q h).2; omega⟩
  · rw [List.length_map]
    exact Nat.le_trans (Nat.pow_le_pow_right (by decide) hl) (by decide)
theorem small_row {qs : List Rat} (hl : qs.length ≤ 5) (hq : ∀ q ∈ qs, q.num.natAbs < 2 ^ 4 ∧ q.den < 2 ^ 4) : Bn 25 (rowQ qs) := fun z hz => by
  have h1 := small_lq hl hq
  unfold rowQ at hz
  rcases List.mem_append.mp hz with h | h
  · unfold topQ at h
    obtain ⟨q, hm, rfl⟩ := List.mem_map.mp h
    rw [Int.natAbs_mul, Int.natAbs_natCast]
    have h2 := (hq q hm).1
    have h3 : lq qs / q.den ≤ 2 ^ 20 := Nat.le_trans (Nat.div_le_self _ _) h1
    exact Nat.lt_of_le_of_lt (Nat.mul_le_mul (Nat.le_of_lt_succ (show q.num.natAbs < 16 from h2)) h3) (by decide)
  · rw [List.mem_singleton.mp h, Int.natAbs_natCast]
    exact Nat.lt_of_le_of_lt h1 (by decide)
theorem small_rb {qs : List Rat} (hl : qs.length ≤ 5) (hq : ∀ q ∈ qs, q.num.natAbs < 2 ^ 4 ∧ q.den < 2 ^ 4) : rb 1500 qs ∧ lq qs < 2 ^ 64 :=
  ⟨⟨by omega, fun z hz => Nat.lt_of_lt_of_le (small_row hl hq z hz) (Nat.pow_le_pow_right (by decide) (by decide))⟩, Nat.lt_of_le_of_lt (small_lq hl hq) (by decide)⟩
theorem small_sh {qs : List Rat} (hl : qs.length ≤ 5) (hq : ∀ q ∈ qs, q.num.natAbs < 2 ^ 4 ∧ q.den < 2 ^ 4) : Sh (.list [rowD qs, .tuple (qs.map fq), rowD qs, .tuple (qs.map fq)]) := by
  have i : ∀ {b k n : Nat} {z : Int}, z.natAbs < 2 ^ n → n ≤ 1900 → Shn b k (.int z) := fun h hn => shn_int (p1900 h hn)
  have h1 : Shn 6 1 (rowD qs) := by
    refine shn_tup (b := 0) (k := 0) (m := 6) (fun d hd => ?_) ?_
    · obtain ⟨z, hz, rfl⟩ := List.mem_map.mp hd
      exact i (small_row hl hq z hz) (by decide)
    · unfold rowQ topQ
      simp
      omega
  have h2 : Shn 15 2 (.tuple (qs.map fq)) := by
    refine shn_tup (b := 2) (k := 1) (m := 5) (fun d hd => ?_) (by rw [List.length_map]; exact hl)
    obtain ⟨q, hm, rfl⟩ := List.mem_map.mp hd
    obtain ⟨a1, a2⟩ := hq q hm
    refine shn_tup (b := 0) (k := 0) (m := 2) (fun d hd => ?_) (show 2 ≤ 2 by decide)
    rcases List.mem_cons.mp hd with rfl | hd
    · exact i a1 (by decide)
    · rw [List.mem_singleton.mp hd]
      exact i (n := 4) (by rw [Int.natAbs_natCast]; exact a2) (by decide)
  have h3 : Shn 15 2 (rowD qs) := h1.mono
  refine sh_lst (b := 4 * (15 + 1)) (k := 3) (shn_lst (b := 15) (k := 2) (m := 4) (fun d hd => ?_) (show 4 ≤ 4 by decide))
  simp only [List.mem_cons, List.not_mem_nil, or_false] at hd
  rcases hd with rfl | rfl | rfl | rfl
  · exact h3
  · exact h2
  · exact h3
  · exact h2
theorem KB_point_of_numbers {f : Addr} {fd : FuncData} (F : Fun K "point_of" "point_of" s_point_of f fd) : KBinds K fd ["numbers"] ["numbers"] g1 g1 := by
  obtain ⟨oc, od, kV, doc, pm, an, cdv, ct, osl, rfl, lk, hcd⟩ := F.ex
  exact kbin1 rfl fun u => rfl
theorem KB_numbers_of_point {f : Addr} {fd : FuncData} (F : Fun K "numbers_of" "numbers_of" s_numbers_of f fd) : KBinds K fd ["point"] ["point"] g1 g1 := by
  obtain ⟨oc, od, kV, doc, pm, an, cdv, ct, osl, rfl, lk, hcd⟩ := F.ex
  exact kbin1 rfl fun u => rfl
end V1
set_option Elab.async false
set_option linter.all false
set_option maxRecDepth 100000
set_option maxHeartbeats 4000000
namespace V1
open PySem PySem.Spec PyProof.Rows L2
variable {P : Program} {w : World} {K : PySem.W.Frag} {mg : Str → Option Value} {base : Heap}

abbrev s_law_thing : Stmt := top 32
abbrev n_law_thing : List Str := ["m", "count", "many", "found", "way", "k", "number"]
theorem sc_law_thing : FnScope n_law_thing ["m", "count"] (defScope s_law_thing) := ⟨rfl, rfl, rfl, by decide +kernel, rfl, by decide +kernel, by decide +kernel⟩
def sp_law_thing (K : PySem.W.Frag) : Sp := spM K 10 (fun n : Nat => [mark, .int (n : Int)]) (fun n => 1 ≤ n ∧ n ≤ 5) fun _ d => ∃ ns : List Int, d = tI ns ∧ ns.length ≤ 7 ∧ ∀ z ∈ ns, z.natAbs < 2 ^ 110
theorem ok_law_thing {f : Addr} {fd : FuncData} (T : Bt K mg) (C : Cst K w mg) (D : Df K mg "_law_thing" s_law_thing ["m", "count"] f fd)
    {f_law_draw : Addr} {d_law_draw : FuncData} (h_law_draw : Cal P w K mg base "_law_draw" s_law_draw ["m", "bound"] 1 (sp_law_draw K) f_law_draw d_law_draw)
    {f_law_lowered : Addr} {d_law_lowered : FuncData} (h_law_lowered : Cal P w K mg base "_law_lowered" s_law_lowered ["numbers_so"] 2 (sp_law_lowered K) f_law_lowered d_law_lowered) : Cal P w K mg base "_law_thing" s_law_thing ["m", "count"] 3 (sp_law_thing K) f fd := by
  refine ok_A D sc_law_thing (fun _ => rfl) fun cdv A outer s H E hgd hr => ⟨_, (pss_cons (ps_set (i := 2) sc_law_thing.nd rfl (Or.inl rfl) (pe_op op_add (pe_op op_add (pv 1) pe_int) (pe_op op_fdivW (pe_fn (E := E0) h_law_draw.G hgd (hr.mono (by decide)) (by rfl) h_law_draw.gm h_law_draw.kp h_law_draw.b (pa_cons (pv 0) (pa_cons pe_int pa_nil))) pe_int)))
        (pss_cons (ps_par (i := 3) (j := 4) rfl sc_law_thing.nd rfl rfl (by decide) rfl rfl (pa_cons (pe_lc (own := [("k", 5)]) (g := gName 5) (tt := tYes) rfl sc_law_thing.nd (pi_range1 (by rfl) T.range (pa_cons (pv 2) pa_nil)) (blkOk_by (own := [("k", 5)]) (N := n_law_thing) (sc := defScope s_law_thing) (by decide +kernel)) (fun _ _ _ _ _ => (pg_name (i := 5) sc_law_thing.nd rfl (Or.inl rfl))) (fun _ _ _ _ _ => pts_nil) (fun _ _ _ _ _ => (pe_op op_sub (pe_fn (E := E0) h_law_draw.G hgd (hr.mono (by decide)) (by rfl) h_law_draw.gm h_law_draw.kp h_law_draw.b (pa_cons (pv 0) (pa_cons pe_int pa_nil))) pe_int))) (pa_cons (pe_fn (E := E0) h_law_draw.G hgd (hr.mono (by decide)) (by rfl) h_law_draw.gm h_law_draw.kp h_law_draw.b (pa_cons (pv 0) (pa_cons pe_int pa_nil))) pa_nil)) (by rfl))
        (pss_cons (ps_if (pt_cmpR op_lt (pv 4) pe_int (nomark _)) (pss_one (ps_set (i := 3) sc_law_thing.nd rfl (Or.inl rfl) (pe_callTy call_list_of (by rfl) T.list (by decide +kernel) (pa_cons (pe_fn (E := E0) h_law_lowered.G hgd (hr.mono (by decide)) (by rfl) h_law_lowered.gm h_law_lowered.kp h_law_lowered.b (pa_cons (pe_op op_cat (pe_slice sl_list (pv 3) po_none (po_some (pe_un un_neg pe_int))) (pe_lst (pa_cons (pe_op op_add pe_int (pe_callB call_abs (by rfl) T.abs (by decide +kernel) (pa_cons (pe_ix (ix_listK (K := K) rfl) (pv 3) (pe_un un_neg pe_int) (fun _ _ => rfl)) pa_nil))) pa_nil))) pa_nil)) pa_nil)))) pss_nil)
        (pss_cons (ps_if (pt_cmpR op_eq (pv 4) pe_int (nomark _)) (pss_one (ps_set (i := 3) sc_law_thing.nd rfl (Or.inl rfl) (pe_op op_cat (pe_lc (own := [("number", 6)]) (g := gName 6) (tt := tYes) rfl sc_law_thing.nd (pi_list (pe_slice sl_list (pv 3) po_none (po_some (pe_un un_neg pe_int)))) (blkOk_by (own := [("number", 6)]) (N := n_law_thing) (sc := defScope s_law_thing) (by decide +kernel)) (fun _ _ _ _ _ => (pg_name (i := 6) sc_law_thing.nd rfl (Or.inl rfl))) (fun _ _ _ _ _ => pts_nil) (fun _ _ _ _ _ => (pe_op op_mulW (pe_op op_pow pe_int pe_int) (pv 6)))) (pe_slice sl_list (pv 3) (po_some (pe_un un_neg pe_int)) po_none)))) pss_nil)
        (pss_one (ps_ret (pe_callTy call_tuple_of (by rfl) T.tuple (by decide +kernel) (pa_cons (pv 3) pa_nil)))))))), ?_⟩
  rintro L rfl hS n ⟨hn1, hn2⟩
  show SG L 10 _ [some mark, some (.int (n : Int)), none, none, none, none, none] _ _
  refine sq_asgG (a := 1) (b := 9) (EvG.mono (eg_opG (P := fun d => ∃ z : Int, ((n : Int) + 1 ≤ z ∧ z ≤ (n : Int) + 2) ∧ d = .int z) (EvG.mono (eg_add (eg_var (i := 1) rfl) eg_int) (Nat.le_refl _) fun d e => e) (eg_opG (P := fun d => ∃ z : Int, (0 ≤ z ∧ z ≤ 1) ∧ d = .int z) (eg_draw (b := 3) hS (by decide) rfl) eg_int fun d1 d2 h1 h2 => ?_) fun d1 d2 h1 h2 => ?_) (Nat.le_refl _) fun d h => h) fun d ⟨many, hm, e⟩ => ?_
  · obtain ⟨i, hi, rfl⟩ := h1
    subst h2
    intro A H x y _ hg hx hy Q q
    obtain rfl := hx.int
    obtain rfl := hy.int
    exact ⟨_, _, rfl, rfl, wide_div (b := 3) (by decide) (by decide) (by decide) (by decide), q _ (.int (i / 2)) H (Rl.refl hg) (.inr (.int _)) ⟨i / 2, by omega, rfl⟩⟩
  · subst h1
    obtain ⟨i, hi, rfl⟩ := h2
    intro A H x y _ hg hx hy Q q
    obtain rfl := hx.int
    obtain rfl := hy.int
    exact ⟨_, _, rfl, rfl, q _ (.int ((n : Int) + 1 + i)) H (Rl.refl hg) (.inr (.int _)) ⟨_, by omega, rfl⟩⟩
  subst e
  refine SG.mono (a := (0 + 7 * (1 + 0)) + (1 + 0) + 0) (sq_parG (PP := fun es => ∃ d1 d2, es = [d1, d2] ∧ (∃ ns : List Int, d1 = .list (ns.map .int) ∧ ns.length = (rngD 0 many.toNat).length ∧ ∀ z ∈ ns, ∃ x y : Int, (0 ≤ x ∧ x < 9) ∧ y = 4 ∧ z = x - y) ∧ ∃ z : Int, (0 ≤ z ∧ z < 5) ∧ d2 = .int z)
    (ea2G (EvG.mono (eg_lcX (b := 7) (c := 1 + 0) (js := [5]) (α := Int) (enc := PyData.int) (P := fun z => ∃ x y : Int, (0 ≤ x ∧ x < 9) ∧ y = 4 ∧ z = x - y) (fun x z => by cases z)
    (wk_rng1 (j := many) (ea_cons (eg_var rfl) ea_nil) (by omega)) (by simp) (by rw [rng_len]; omega) (by decide) fun i d hd => ⟨_, tg_name, EvG.mono (eg_subG (eg_draw (b := 9) hS (by decide) rfl) eg_intG) (Nat.le_refl _) fun d h => h⟩) (Nat.le_refl _) fun d h => h) (eg_draw (b := 5) hS (by decide) rfl)) ?_) (by omega) (fun _ h => h) fun _ h => h
  rintro es ⟨d1, d2, rfl, ⟨ns, rfl, hl, hz⟩, way, hw, rfl⟩
  refine ⟨_, _, rfl, ?_⟩
  rw [rng_len] at hl
  have hl2 : 2 ≤ ns.length ∧ ns.length ≤ 7 := by omega
  have hz2 : ∀ z ∈ ns, z.natAbs < 2 ^ 3 := fun z h => by
    obtain ⟨x, y, h1, h2, h3⟩ := hz z h
    omega
  have hz3 : ∀ z ∈ ns, z.natAbs ≤ 4 := fun z h => by
    obtain ⟨x, y, h1, h2, h3⟩ := hz z h
    omega
  clear hz hl
  show SG L 0 _ [some mark, some (.int (n : Int)), some (.int many), some (lI ns), some (.int way), none, none] _ _
  refine sg_seq (N1 := fun G => ∃ ns : List Int, ∃ x5 x6, G = [some mark, some (.int (n : Int)), some (.int many), some (lI ns), some (.int way), x5, x6] ∧ (2 ≤ ns.length ∧ ns.length ≤ 7) ∧ ∀ z ∈ ns, z.natAbs < 2 ^ 3) (sg_if (et_test (eg_lt (eg_var rfl) eg_int)) (fun _ => ?_) fun _ => sg_next ⟨ns, _, _, rfl, hl2, hz2⟩) ?_
  · obtain ⟨ms, w, rfl, hml⟩ := split_last (xs := ns) (n := ns.length - 1) (by omega)
    have hw4 : w.natAbs ≤ 4 := hz3 w (by simp)
    have e1 : rowD (over ms (1 + w.natAbs)) = tI (prim (ms ++ [((1 + w.natAbs : Nat) : Int)])) := by
      unfold rowD
      rw [prim_over ms (by omega)]
    have hwI : (1 : Int) + (w.natAbs : Int) = ((1 + w.natAbs : Nat) : Int) := by omega
    refine sg_asg (i := 3) (d := lI (prim (ms ++ [((1 + w.natAbs : Nat) : Int)]))) ((eg_cb (ea_cons ((eg_callR (L := L) (args := fun p : List Int × Nat => [lI (p.1 ++ [(p.2 : Int)])]) (ok := fun p => 0 < p.2 ∧ p.2 < 2 ^ 8000 ∧ p.1.length ≤ 100) (val := fun p => rowD (over p.1 p.2)) ((ms, 1 + w.natAbs) : List Int × Nat)
      (ea_cons ((eg_cat (ds := ms.map .int) (es := [.int (1 + (w.natAbs : Int))]) ((eg_slL (ds := (ms ++ [w]).map .int) (lo0 := none) (hi0 := some (-1)) (eg_var (i := 3) rfl) eo_none (eo_some (eg_neg eg_int))).to ?_) (eg_lst (ea_cons (eg_add eg_int (eg_cb (ea_cons (eg_ixL (eg_var (i := 3) rfl) (eg_neg eg_int) ?_) ea_nil) cs_abs)) ea_nil)) ?_).to ?_) ea_nil) ⟨show 0 < 1 + w.natAbs by omega, show 1 + w.natAbs < 2 ^ 8000 from Nat.lt_of_lt_of_le (show 1 + w.natAbs < 2 ^ 4 by omega) (Nat.pow_le_pow_right (by decide) (by decide)), show ms.length ≤ 100 by omega⟩).to (d' := tI (prim (ms ++ [((1 + w.natAbs : Nat) : Int)]))) ?_) ea_nil) cs_listT).to rfl) ⟨_, _, _, rfl, ?_, ?_⟩
    · rw [List.map_append, List.map_cons, List.map_nil, cut_init]
    · rw [List.map_append]
      exact atI_last (ms.map PyData.int) (.int w)
    · rw [List.length_map]
      show _ + 1 ≤ _
      omega
    · unfold lI
      rw [List.map_append, hwI]
      rfl
    · exact e1
    · have e : (prim (ms ++ [((1 + w.natAbs : Nat) : Int)])).length = ms.length + 1 := by unfold prim; simp
      rw [List.length_append] at hl2
      rw [e]
      exact hl2
    · have h5 := prim_lt (ms := ms ++ [((1 + w.natAbs : Nat) : Int)]) (n := 3)
      intro z hzm
      by_cases hw7 : w.natAbs < 7
      · refine h5 (fun y hy => ?_) z hzm
        rcases List.mem_append.mp hy with h | h
        · exact hz2 y (List.mem_append_left _ h)
        · rw [List.mem_singleton.mp h]
          omega
      · exact absurd hw4 (by omega)
  rintro G ⟨ns, x5, x6, rfl, hl2, hz2⟩
  refine sg_seq (N1 := fun G => ∃ ns : List Int, ∃ x5 x6, G = [some mark, some (.int (n : Int)), some (.int many), some (lI ns), some (.int way), x5, x6] ∧ ns.length ≤ 7 ∧ ∀ z ∈ ns, z.natAbs < 2 ^ 110) (sg_if (et_test (eg_eqI (eg_var rfl) eg_int)) (fun _ => ?_) fun _ => sg_next ⟨ns, _, _, rfl, hl2.2, fun z h => Nat.lt_of_lt_of_le (hz2 z h) (Nat.pow_le_pow_right (by decide) (by decide))⟩) ?_
  · obtain ⟨ms, w, rfl, hml⟩ := split_last (xs := ns) (n := ns.length - 1) (by omega)
    have hbig : ((10 : Int) ^ (30 : Int).toNat).natAbs < 2 ^ 100 := by decide
    have hlm : ms.length ≤ 7 := by rw [List.length_append] at hl2; omega
    refine sg_asg (i := 3) (d := lI ((ms.map fun z => 10 ^ (30 : Int).toNat * z) ++ [w])) ((eg_cat (ds := (ms.map fun z => 10 ^ (30 : Int).toNat * z).map .int) (es := [.int w]) ((eg_lcm (js := [6]) (xs := ms) (enc := PyData.int) (res := fun z => .int (10 ^ (30 : Int).toNat * z)) (wk_list ((eg_slL (ds := (ms ++ [w]).map .int) (lo0 := none) (hi0 := some (-1)) (eg_var (i := 3) rfl) eo_none (eo_some (eg_neg eg_int))).to ?_)) (by simp) (by omega) fun z hzm => ⟨(fun y => by cases y), _, tg_name, eg_mul (eg_pow eg_int eg_int (by unfold CPow; decide)) (eg_var rfl) (mw (a := 100) (b := 3) hbig (hz2 z (by simp [hzm])))⟩).to ?_) ((eg_slL (ds := (ms ++ [w]).map .int) (lo0 := some (-1)) (hi0 := none) (eg_var (i := 3) rfl) (eo_some (eg_neg eg_int)) eo_none).to ?_) ?_).to ?_) ⟨_, _, _, rfl, ?_, fun z hzm => ?_⟩
    · rw [List.map_append, List.map_cons, List.map_nil, cut_init]
    · rw [List.map_map]
      rfl
    · rw [cut_last (by simp), List.length_map, List.length_append, ← List.map_drop]
      congr 1
      rw [show ms.length + [w].length - 1 = ms.length from rfl, List.drop_left]
      rfl
    · rw [List.length_map, List.length_map]
      show _ + 1 ≤ _
      omega
    · unfold lI
      rw [List.map_append]
      rfl
    · rw [List.length_append, List.length_map]
      rw [List.length_append] at hl2
      exact hl2.2
    · rcases List.mem_append.mp hzm with h | h
      · obtain ⟨y, hy, rfl⟩ := List.mem_map.mp h
        exact Nat.lt_of_lt_of_le (wide_lt hbig (hz2 y (by simp [hy]))) (Nat.pow_le_pow_right (by decide) (by decide))
      · exact Nat.lt_of_lt_of_le (hz2 z (by rw [List.mem_singleton.mp h]; simp)) (Nat.pow_le_pow_right (by decide) (by decide))
  rintro G ⟨ns, x5, x6, rfl, hl, hz⟩
  exact sg_ret (eg_cb (ea_cons (eg_var (i := 3) rfl) ea_nil) cs_tuple) ⟨ns, rfl, hl, hz⟩

abbrev s_law_bent : Stmt := top 33
abbrev n_law_bent : List Str := ["m", "thing", "way", "at", "number"]
theorem sc_law_bent : FnScope n_law_bent ["m", "thing"] (defScope s_law_bent) := ⟨rfl, rfl, rfl, by decide +kernel, rfl, by decide +kernel, by decide +kernel⟩
structure BE where
  n : Nat
  b : Nat
  ds : List PyData
def sp_law_bent (K : PySem.W.Frag) : Sp := spM K 3 (fun a : BE => [mark, .tuple a.ds]) (fun a => ((2 ≤ a.b ∧ a.b ≤ 1000) ∧ a.n ≤ 8) ∧ a.ds.length ≤ a.n ∧ ∀ x ∈ a.ds, Elt a.b x) fun a d => Jd (a.n + 1) (a.b + 2) d
theorem ok_law_bent {f : Addr} {fd : FuncData} (T : Bt K mg) (C : Cst K w mg) (D : Df K mg "_law_bent" s_law_bent ["m", "thing"] f fd)
    {f_law_draw : Addr} {d_law_draw : FuncData} (h_law_draw : Cal P w K mg base "_law_draw" s_law_draw ["m", "bound"] 1 (sp_law_draw K) f_law_draw d_law_draw)
    {f_law_of : Addr} {d_law_of : FuncData} (h_law_of : Cal P w K mg base "_law_of" s_law_of ["m", "some"] 2 (sp_law_of K) f_law_of d_law_of) : Cal P w K mg base "_law_bent" s_law_bent ["m", "thing"] 3 (sp_law_bent K) f fd := by
  refine ok_A D sc_law_bent (fun _ => rfl) fun cdv A outer s H E hgd hr => ⟨_, (pss_cons (ps_set (i := 2) sc_law_bent.nd rfl (Or.inl rfl) (pe_fn (E := E0) h_law_draw.G hgd (hr.mono (by decide)) (by rfl) h_law_draw.gm h_law_draw.kp h_law_draw.b (pa_cons (pv 0) (pa_cons pe_int pa_nil))))
        (pss_cons (ps_if (pt_cmpR op_eq (pv 2) pe_int (nomark _)) (pss_one (ps_ret (pe_callTy call_list_of (by rfl) T.list (by decide +kernel) (pa_cons (pv 1) pa_nil)))) pss_nil)
        (pss_cons (ps_if (pt_cmpR op_eq (pv 2) pe_int (nomark _)) (pss_one (ps_ret (pe_op op_catA (pv 1) (pe_tup (pa_cons (pe_fn (E := E0) h_law_draw.G hgd (hr.mono (by decide)) (by rfl) h_law_draw.gm h_law_draw.kp h_law_draw.b (pa_cons (pv 0) (pa_cons pe_int pa_nil))) pa_nil))))) pss_nil)
        (pss_cons (ps_if (pt_cmpR op_eq (pv 2) pe_int (nomark _)) (pss_one (ps_ret (pe_slice sl_tupA (pv 1) (po_some pe_int) po_none))) pss_nil)
        (pss_cons (ps_if (pt_cmpR op_eq (pv 2) pe_int (nomark _)) (pss_one (ps_ret (pe_callTy call_tuple_of (by rfl) T.tuple (by decide +kernel) (pa_cons (pe_lc (own := [("number", 4)]) (g := gName 4) (tt := tYes) rfl sc_law_bent.nd (pi_tup (pv 1)) (blkOk_by (own := [("number", 4)]) (N := n_law_bent) (sc := defScope s_law_bent) (by decide +kernel)) (fun _ _ _ _ _ => (pg_name (i := 4) sc_law_bent.nd rfl (Or.inl rfl))) (fun _ _ _ _ _ => pts_nil) (fun _ _ _ _ _ => (pe_ifExp (pt_val (pe_callB (id := "isinstance") (x := "isinstance") (call_isiK (K := K) rfl) (by rfl) T.isinstance (by decide +kernel) (pa_cons (pv 4) (pa_cons (pe_bltn (x := "int") (v := .ty "int") (by rfl) T.int (by decide +kernel) rfl) pa_nil)))) (pe_op op_mulB pe_int (pv 4)) (pv 4)))) pa_nil)))) pss_nil)
        (pss_cons (ps_if (pt_cmpR (op_eqD hr.units) (pv 1) (pe_tup pa_nil) (nomark _)) (pss_one (ps_ret pe_non)) pss_nil)
        (pss_cons (ps_set (i := 3) sc_law_bent.nd rfl (Or.inl rfl) (pe_fn (E := E0) h_law_draw.G hgd (hr.mono (by decide)) (by rfl) h_law_draw.gm h_law_draw.kp h_law_draw.b (pa_cons (pv 0) (pa_cons (pe_callB call_len_seq (by rfl) T.len PySem.boot_len (pa_cons (pv 1) pa_nil)) pa_nil))))
        (pss_one (ps_ret (pe_op op_catA (pe_op op_catA (pe_slice sl_tupA (pv 1) po_none (po_some (pv 3))) (pe_tup (pa_cons (pe_fn (E := E0) h_law_of.G hgd (hr.mono (by decide)) (by rfl) h_law_of.gm h_law_of.kp h_law_of.b (pa_cons (pv 0) (pa_cons (pe_lst (pa_cons pe_non (pa_cons pe_bl (pa_cons pe_bl (pa_cons pe_str (pa_cons (pe_tup (pa_cons pe_int pa_nil)) (pa_cons (pe_lst (pa_cons pe_int pa_nil)) (pa_cons pe_int (pa_cons (pe_un un_neg pe_int) (pa_cons pe_int pa_nil)))))))))) pa_nil))) pa_nil))) (pe_slice sl_tupA (pv 1) (po_some (pe_op op_add (pv 3) pe_int)) po_none))))))))))), ?_⟩
  rintro L rfl hS ⟨n, b, ds⟩ ⟨hb, hl, he⟩
  have hb2 : 2 ≤ b := hb.1.1
  have hn : n ≤ 8 := hb.2
  have hb : b ≤ 1000 := hb.1.2
  have hln : ds.length ≤ n := hl
  have hl : ds.length ≤ 8 := Nat.le_trans hln hn
  have he : ∀ x ∈ ds, Elt b x := he
  show SG L 3 _ [some mark, some (.tuple ds), none, none, none] _ (fun d => Jd (n + 1) (b + 2) d)
  have hsh := elts_shaped he (by omega) (by omega)
  have he2 : ∀ x ∈ ds, Elt (b + 2) x := fun x hx => (he x hx).mono (by omega)
  refine sq_asgG (a := 1) (b := 2) (eg_draw (b := 7) hS (by decide) rfl) fun d ⟨way, hw, e⟩ => ?_
  subst e
  refine sq_if (et_test (eg_eqI (eg_var rfl) eg_int)) (fun _ => ?_) fun _ => ?_
  · exact SG.mono (a := 0) (sg_retq (eg_cb (ea_cons (eg_var (i := 1) rfl) ea_nil) cs_listT) (.inr ⟨ds, .inr rfl, by omega, he2⟩)) (by omega) (fun _ h => h) fun _ h => h
  refine sq_next (sq_if (et_test (eg_eqI (eg_var rfl) eg_int)) (fun _ => ?_) fun _ => ?_)
  · refine SG.mono (a := 0 + (1 + 0)) (sg_retqG (P := fun d => Jd (n + 1) (b + 2) d) (eg_opG (EvG.mono (eg_var (i := 1) (d := .tuple ds) rfl) (Nat.le_refl _) fun d e => e) (eg_tupG (EaG.mono (ea1G (eg_draw (b := 3) hS (by decide) rfl)) (Nat.le_refl _) fun es h => h) fun es ⟨y, e, z, hz, h2⟩ => ?_) fun d1 d2 h1 h2 => ?_) fun d h => h) (by omega) (fun _ h => h) fun _ h => h
    · rw [e, h2]
      exact ⟨rfl, by show 1 ≤ 1000; decide⟩
    · subst h1
      obtain ⟨es, ⟨y, rfl, z, hz, rfl⟩, rfl⟩ := h2
      intro A H x y' hi hg hx hy Q q
      refine os_catA (ds := ds) (es := [.int z]) (by show _ + 1 ≤ _; omega) A H x y' hi hg hx hy Q fun v d' H' r hv e => q v d' H' r hv ?_
      rw [e]
      refine .inr ⟨_, .inl rfl, by rw [List.length_append]; show _ + 1 ≤ _; omega, fun x hx => ?_⟩
      rcases List.mem_append.mp hx with h | h
      · exact he2 x h
      · rw [List.mem_singleton.mp h]
        exact .inl ⟨z, rfl, Nat.lt_of_lt_of_le (show z.natAbs < 2 ^ 2 by omega) (Nat.pow_le_pow_right (by decide) (by omega))⟩
  refine sq_next (sq_if (et_test (eg_eqI (eg_var rfl) eg_int)) (fun _ => ?_) fun _ => ?_)
  · exact SG.mono (a := 0) (sg_retq (eg_slA (L := L) (eg_var (i := 1) rfl) (eo_some eg_int) eo_none) (.inr ⟨_, .inl rfl, Nat.le_trans (cut_len _ _ _) (by omega), fun x hx => he2 x (cut_mem hx)⟩)) (by omega) (fun _ h => h) fun _ h => h
  refine sq_next (sq_if (et_test (eg_eqI (eg_var rfl) eg_int)) (fun _ => ?_) fun _ => ?_)
  · refine SG.mono (a := 0) (sg_retq (d := .tuple (ds.map dbl)) (eg_cb (ea_cons ((eg_lcm (js := [4]) (xs := ds) (enc := id) (res := dbl) (wk_tup ((eg_var (i := 1) rfl).to (by rw [List.map_id]))) (by simp) (by omega) fun x hx => ⟨dbl_ne (he x hx), _, tg_name, ?_⟩).to rfl) ea_nil) cs_tuple) (.inr ⟨_, .inl rfl, by rw [List.length_map]; omega, fun x hx => ?_⟩)) (by omega) (fun _ h => h) fun _ h => h
    · have hnd := ((he x hx).ok (by omega)).1.nd
      have hne := hd_ne hnd
      show EvD L _ [some mark, some (.tuple ds), some (.int way), none, some x] (dbl x)
      rcases he x hx with ⟨i, rfl, hi⟩ | h9
      · exact eg_if (et_B (eg_isi (n := "int") (b := true) (L := L) (eg_var (i := 4) rfl) hne (by rfl))) (fun _ => eg_mulBI eg_int (eg_var (i := 4) rfl) (mw (a := 2) (b := 1000) (by decide) (Nat.lt_of_lt_of_le hi (Nat.pow_le_pow_right (by decide) hb)))) fun z => by cases z
      · have no : ∀ {k : String} {y : PyData}, x = y → kitB (kindN y) "int" = some false → dbl y = y → EvD L (tIf (tB (tCB (rIsi L.K) (tCons (tVar 4) (tCons (tC (.ty "int")) tNil)))) (tOp rMulB (tC (.int 2)) (tVar 4)) (tVar 4)) [some mark, some (.tuple ds), some (.int way), none, some x] (dbl x) := fun {k y} e1 e2 e3 => by
          subst e1
          rw [e3]
          exact eg_if (et_B (eg_isi (n := "int") (b := false) (L := L) (eg_var (i := 4) rfl) hne e2)) (fun z => by cases z) fun _ => eg_var (i := 4) rfl
        have bo : ∀ {k : Bool}, x = .bool k → EvD L (tIf (tB (tCB (rIsi L.K) (tCons (tVar 4) (tCons (tC (.ty "int")) tNil)))) (tOp rMulB (tC (.int 2)) (tVar 4)) (tVar 4)) [some mark, some (.tuple ds), some (.int way), none, some x] (dbl x) := fun {k} e1 => by
          subst e1
          exact eg_if (et_B (eg_isi (n := "int") (b := true) (L := L) (eg_var (i := 4) rfl) hne (by rfl))) (fun _ => eg_mulBB eg_int (eg_var (i := 4) rfl)) fun z => by cases z
        have iN : ∀ {i : Int}, x = .int i → i.natAbs < 2 ^ 1000 → EvD L (tIf (tB (tCB (rIsi L.K) (tCons (tVar 4) (tCons (tC (.ty "int")) tNil)))) (tOp rMulB (tC (.int 2)) (tVar 4)) (tVar 4)) [some mark, some (.tuple ds), some (.int way), none, some x] (dbl x) := fun {i} e1 hi => by
          subst e1
          exact eg_if (et_B (eg_isi (n := "int") (b := true) (L := L) (eg_var (i := 4) rfl) hne (by rfl))) (fun _ => eg_mulBI eg_int (eg_var (i := 4) rfl) (mw (a := 2) (b := 1000) (by decide) hi)) fun z => by cases z
        have big : ∀ i : Int, i.natAbs < 2 ^ 3 → i.natAbs < 2 ^ 1000 := fun i hi => Nat.lt_of_lt_of_le hi (Nat.pow_le_pow_right (by decide) (by decide))
        simp only [odd9, List.mem_cons, List.not_mem_nil, or_false] at h9
        rcases h9 with h | h | h | h | h | h | h | h | h
        · exact no (k := "") h (by rfl) rfl
        · exact bo h
        · exact bo h
        · exact no (k := "") h (by rfl) rfl
        · exact no (k := "") h (by rfl) rfl
        · exact no (k := "") h (by rfl) rfl
        · exact iN h (big _ (by decide))
        · exact iN h (big _ (by decide))
        · exact iN h (big _ (by decide))
    · obtain ⟨y, hy, rfl⟩ := List.mem_map.mp hx
      exact dbl_elt (he y hy) hb2
  refine sq_next (sq_if (et_test (eg_eqD (eg_var (i := 1) rfl) (eg_tup ea_nil) (by intro z; cases z) (by intro z; cases z) hsh (by rfl))) (fun _ => ?_) fun hz => ?_)
  · exact SG.mono (a := 0) (sg_retq eg_non (.inl rfl)) (by omega) (fun _ h => h) fun _ h => h
  rw [eqv_tup0] at hz
  have hl0 : 0 < ds.length := by
    cases ds with
    | nil => cases hz
    | cons a r => simp
  refine sq_next (sq_asgG (a := 1) (b := 1) (eg_drawV (b := ds.length) hS ⟨hl0, by omega⟩ rfl (eg_cb (ea_cons (eg_var (i := 1) rfl) ea_nil) cs_lenT)) fun d ⟨z1, hz1, e⟩ => ?_)
  subst e
  obtain ⟨at_, rfl⟩ : ∃ a : Nat, z1 = (a : Int) := ⟨z1.toNat, by omega⟩
  have hat : at_ < ds.length := by omega
  obtain ⟨c1, c2⟩ := cut_at hat
  show SG L 1 _ [some mark, some (.tuple ds), some (.int way), some (.int (at_ : Int)), none] _ _
  have hof : EvG L (1 + 0) (tTup (tCons (tCall (sp_law_of L.K) [] E0 (tCons (tVar 0) (tCons (tLst (tCons (tC .non) (tCons (tC (.bl true)) (tCons (tC (.bl false)) (tCons (tC (.str "1")) (tCons (tTup (tCons (tC (.int 1)) tNil)) (tCons (tLst (tCons (tC (.int 1)) tNil)) (tCons (tC (.int 0)) (tCons (tUn (rU fun i => .int (-i)) (tC (.int 1))) (tCons (tC (.int 7)) tNil)))))))))) tNil))) tNil)) [some mark, some (.tuple ds), some (.int way), some (.int (at_ : Int)), none] (fun t => ∃ es, (∃ y, es = [y] ∧ y ∈ odd9) ∧ t = .tuple es) :=
    eg_tupG (EaG.mono (ea1G (eg_callM hS odd9 (ea_cons (eg_var rfl) (ea_cons (eg_lst (ds := odd9) (ea_cons eg_non (ea_cons eg_bl (ea_cons eg_bl (ea_cons eg_str (ea_cons (eg_tup (ea_cons eg_int ea_nil)) (ea_cons (eg_lst (ea_cons eg_int ea_nil)) (ea_cons eg_int (ea_cons (eg_neg eg_int) (ea_cons eg_int ea_nil))))))))) rfl (by decide)) ea_nil)) ⟨by decide, by decide⟩)) (Nat.le_refl _) fun es h => h) fun es ⟨y, e, h1⟩ => by
      rw [e]
      exact ⟨hd_nomk (((show Elt 0 y from .inr h1).ok (by decide)).1.nd), by show 1 ≤ 1000; decide⟩
  refine sg_retG (EvG.mono (a := (0 + (1 + 0)) + 0) (eg_opG (P := fun x => ∃ y, x = .tuple (ds.take at_ ++ [y] ++ ds.drop (at_ + 1)) ∧ y ∈ odd9) (eg_opG (P := fun x => ∃ y, x = .tuple (ds.take at_ ++ [y]) ∧ y ∈ odd9) ((eg_slA (L := L) (eg_var (i := 1) rfl) eo_none (eo_some (eg_var (i := 3) rfl))).to (by rw [c1])) hof fun e1 e2 h1 h2 => ?_) ((eg_slA (L := L) (eg_var (i := 1) rfl) (eo_some (eg_add (eg_var (i := 3) rfl) eg_int)) eo_none).to (by rw [c2])) fun e1 e2 h1 h2 => ?_) (by omega) fun d h => h) ?_
  · subst h1
    obtain ⟨es, ⟨y, rfl, q1⟩, rfl⟩ := h2
    intro A H x y' hi hg hx hy Q q
    exact os_catA (ds := ds.take at_) (es := [y]) (by rw [List.length_take]; show _ + 1 ≤ _; omega) A H x y' hi hg hx hy Q fun v d' H' r hv e => q v d' H' r hv ⟨y, e, q1⟩
  · obtain ⟨y, rfl, q1⟩ := h1
    subst h2
    intro A H x y' hi hg hx hy Q q
    exact os_catA (ds := ds.take at_ ++ [y]) (es := ds.drop (at_ + 1)) (by rw [List.length_append, List.length_take, List.length_drop]; show _ + 1 + _ ≤ _; omega) A H x y' hi hg hx hy Q fun v d' H' r hv e => q v d' H' r hv ⟨y, e, q1⟩
  · rintro x ⟨y, rfl, q1⟩
    refine .inr ⟨_, .inl rfl, ?_, fun x hx => ?_⟩
    · rw [List.length_append, List.length_append, List.length_take, List.length_drop]
      show _ + 1 + _ ≤ _
      omega
    · rcases List.mem_append.mp hx with h | h
      · rcases List.mem_append.mp h with h | h
        · exact he2 x (List.mem_of_mem_take h)
        · rw [List.mem_singleton.mp h]
          exact .inr q1
      · exact he2 x (List.mem_of_mem_drop h)

abbrev s_law_points_right : Stmt := top 34
abbrev n_law_points_right : List Str := ["m", "count", "some", "due", "k"]
theorem sc_law_points_right : FnScope n_law_points_right ["m", "count"] (defScope s_law_points_right) := ⟨rfl, rfl, rfl, by decide +kernel, rfl, by decide +kernel, by decide +kernel⟩
def sp_law_points_right (K : PySem.W.Frag) : Sp := spM K 10 (fun n : Nat => [mark, .int (n : Int)]) (fun n => 1 ≤ n ∧ n ≤ 5) fun _ d => d = .bool true
theorem ok_law_points_right {f : Addr} {fd : FuncData} (T : Bt K mg) (C : Cst K w mg) (D : Df K mg "_law_points_right" s_law_points_right ["m", "count"] f fd)
    {f_law_fraction : Addr} {d_law_fraction : FuncData} (h_law_fraction : Cal P w K mg base "_law_fraction" s_law_fraction ["top", "bottom"] 3 (sp_law_fraction K) f_law_fraction d_law_fraction)
    {f_law_draw : Addr} {d_law_draw : FuncData} (h_law_draw : Cal P w K mg base "_law_draw" s_law_draw ["m", "bound"] 1 (sp_law_draw K) f_law_draw d_law_draw)
    {f_law_joint : Addr} {d_law_joint : FuncData} (h_law_joint : Cal P w K mg base "_law_joint" s_law_joint ["fractions"] 4 (sp_law_joint K) f_law_joint d_law_joint)
    {f_law_like : Addr} {d_law_like : FuncData} (h_law_like : Cal P w K mg base "_law_like" s_law_like ["told", "due"] 1 (sp_law_like K) f_law_like d_law_like)
    {f_numbers_of : Addr} {d_numbers_of : FuncData} (h_numbers_of : Cal P w K mg base "numbers_of" s_numbers_of ["point"] 2 (sp_numbers_of K) f_numbers_of d_numbers_of)
    {f_point_of : Addr} {d_point_of : FuncData} (h_point_of : Cal P w K mg base "point_of" s_point_of ["numbers"] 2 (sp_point_of K) f_point_of d_point_of) : Cal P w K mg base "_law_points_right" s_law_points_right ["m", "count"] 5 (sp_law_points_right K) f fd := by
  have kb_numbers_of_point := KB_numbers_of_point h_numbers_of.F
  have kb_point_of_numbers := KB_point_of_numbers h_point_of.F
  refine ok_A D sc_law_points_right (fun _ => rfl) fun cdv A outer s H E hgd hr => ⟨_, (pss_cons (ps_set (i := 2) sc_law_points_right.nd rfl (Or.inl rfl) (pe_callTy call_tuple_of (by rfl) T.tuple (by decide +kernel) (pa_cons (pe_lc (own := [("k", 4)]) (g := gName 4) (tt := tYes) rfl sc_law_points_right.nd (pi_range1 (by rfl) T.range (pa_cons (pv 1) pa_nil)) (blkOk_by (own := [("k", 4)]) (N := n_law_points_right) (sc := defScope s_law_points_right) (by decide +kernel)) (fun _ _ _ _ _ => (pg_name (i := 4) sc_law_points_right.nd rfl (Or.inl rfl))) (fun _ _ _ _ _ => pts_nil) (fun _ _ _ _ _ => (pe_fn (E := E0) h_law_fraction.G hgd (hr.mono (by decide)) (by rfl) h_law_fraction.gm h_law_fraction.kp h_law_fraction.b (pa_cons (pe_op op_sub (pe_fn (E := E0) h_law_draw.G hgd (hr.mono (by decide)) (by rfl) h_law_draw.gm h_law_draw.kp h_law_draw.b (pa_cons (pv 0) (pa_cons pe_int pa_nil))) pe_int) (pa_cons (pe_op op_add pe_int (pe_fn (E := E0) h_law_draw.G hgd (hr.mono (by decide)) (by rfl) h_law_draw.gm h_law_draw.kp h_law_draw.b (pa_cons (pv 0) (pa_cons pe_int pa_nil)))) pa_nil))))) pa_nil)))
        (pss_cons (ps_set (i := 3) sc_law_points_right.nd rfl (Or.inl rfl) (pe_fn (E := E0) h_law_joint.G hgd (hr.mono (by decide)) (by rfl) h_law_joint.gm h_law_joint.kp h_law_joint.b (pa_cons (pv 2) pa_nil)))
        (pss_one (ps_ret (pe_fn (E := E0) h_law_like.G hgd (hr.mono (by decide)) (by rfl) h_law_like.gm h_law_like.kp h_law_like.b (pa_cons (pe_lst (pa_cons (pe_fn (E := E0) h_point_of.G hgd (hr.mono (by decide)) (by rfl) h_point_of.gm h_point_of.kp h_point_of.b (pa_cons (pv 2) pa_nil)) (pa_cons (pe_fn (E := E0) h_numbers_of.G hgd (hr.mono (by decide)) (by rfl) h_numbers_of.gm h_numbers_of.kp h_numbers_of.b (pa_cons (pv 3) pa_nil)) (pa_cons (pe_fnk (E := E0) h_point_of.G hgd (hr.mono (by decide)) (by rfl) h_point_of.gm h_point_of.kp kb_point_of_numbers (pk_cons (pv 2) pk_nil)) (pa_cons (pe_fnk (E := E0) h_numbers_of.G hgd (hr.mono (by decide)) (by rfl) h_numbers_of.gm h_numbers_of.kp kb_numbers_of_point (pk_cons (pv 3) pk_nil)) pa_nil))))) (pa_cons (pe_lst (pa_cons (pv 3) (pa_cons (pv 2) (pa_cons (pv 3) (pa_cons (pv 2) pa_nil))))) pa_nil))))))), ?_⟩
  rintro L rfl hS n ⟨hn1, hn2⟩
  show SG L 10 _ [some mark, some (.int (n : Int)), none, none, none] _ _
  refine sq_asgG (a := 10) (b := 0) (EvG.mono (eg_tupleG (a := 0 + 5 * ((1 + 0) + (0 + 1))) (P := fun es => ∃ qs : List Rat, es = qs.map fq ∧ qs.length = n ∧ ∀ q ∈ qs, q.num.natAbs < 2 ^ 4 ∧ q.den < 2 ^ 4) (EvG.mono (eg_lcX (b := 5) (c := (1 + 0) + (0 + 1)) (js := [4]) (α := Rat) (enc := fq) (P := fun q => q.num.natAbs < 2 ^ 4 ∧ q.den < 2 ^ 4) (fun x z => by cases z)
    (wk_rng1 (j := (n : Int)) (ea_cons (eg_var (i := 1) rfl) ea_nil) (by omega)) (by simp) (by rw [rng_len]; omega) (by decide) fun i d hd => ⟨_, tg_name, ?_⟩) (Nat.le_refl _) ?_)) (by omega) fun d h => h) fun d ⟨es, e, qs, e2, hl, hq⟩ => ?_
  · refine EvG.mono (eg_callRG (args := fun p : Int × Nat => [.int p.1, .int (p.2 : Int)]) (ok := fun p => 0 < p.2 ∧ p.2 < 2 ^ 8000) (val := fun p => fq (rat p.1 p.2)) (PA := fun ds => ∃ d1 d2, ds = [d1, d2] ∧ (∃ i : Int, (∃ x y : Int, (0 ≤ x ∧ x < 25) ∧ y = 12 ∧ i = x - y) ∧ d1 = .int i) ∧ ∃ i : Int, (∃ x y : Int, x = 1 ∧ (0 ≤ y ∧ y < 12) ∧ i = x + y) ∧ d2 = .int i) (ea2G (eg_subG (eg_draw (b := 25) hS (by decide) rfl) eg_intG) (eg_addG eg_intG (eg_draw (b := 12) hS (by decide) rfl))) ?_) (by omega) ?_
    · rintro ds ⟨d1, d2, rfl, ⟨i, ⟨x, y, hx, hy, hi⟩, rfl⟩, k, ⟨x2, y2, hx2, hy2, hk⟩, rfl⟩
      refine ⟨rfl, (i, k.toNat), ⟨show 0 < k.toNat by omega, show k.toNat < 2 ^ 8000 from Nat.lt_of_lt_of_le (show k.toNat < 2 ^ 4 by omega) (Nat.pow_le_pow_right (by decide) (by decide))⟩, ?_⟩
      show [PyData.int i, .int k] = [.int i, .int ((k.toNat : Nat) : Int)]
      rw [Int.toNat_of_nonneg (by omega)]
    · rintro d ⟨⟨i, k⟩, ⟨d1, d2, e1, ⟨i2, ⟨x, y, hx, hy, hi⟩, e3⟩, k2, ⟨x2, y2, hx2, hy2, hk⟩, e4⟩, _, rfl⟩
      refine ⟨rat i k, ?_, rfl⟩
      injection e1 with a1 a2
      injection a2 with a3 _
      have h1 : PyData.int i = .int i2 := a1.trans e3
      have h2 : PyData.int (k : Int) = .int k2 := a3.trans e4
      injection h1 with h1
      injection h2 with h2
      have hk0 : 0 < k := by omega
      obtain ⟨b1, b2⟩ := rat_le (a := i) hk0
      exact ⟨Nat.lt_of_le_of_lt b1 (by omega), Nat.lt_of_le_of_lt b2 (by omega)⟩
  · rintro d ⟨qs, rfl, hl, hq⟩
    rw [rng_len] at hl
    exact ⟨_, rfl, qs, rfl, by omega, hq⟩
  subst e e2
  have hrb := small_rb (qs := qs) (by omega) hq
  show SG L 0 _ [some mark, some (.int (n : Int)), some (.tuple (qs.map fq)), none, none] _ _
  refine sq_asg (eg_callR (L := L) (args := fun qs : List Rat => [.tuple (qs.map fq)]) (ok := fun qs => rb 1500 qs) (val := fun qs => rowD qs) qs (ea_cons (eg_var (i := 2) rfl) ea_nil) hrb.1) ?_
  have p1 : EvD L _ [some mark, some (.int (n : Int)), some (.tuple (qs.map fq)), some (rowD qs), none] (rowD qs) := eg_callR (E := E0) (L := L) (args := fun qs : List Rat => [.tuple (qs.map fq)]) (ok := fun qs => rb 1500 qs ∧ lq qs < 2 ^ 64) (val := fun qs => rowD qs) qs (ea_cons (eg_var (i := 2) rfl) ea_nil) hrb
  have p2 : EvD L _ [some mark, some (.int (n : Int)), some (.tuple (qs.map fq)), some (rowD qs), none] (.tuple (qs.map fq)) := eg_callR (E := E0) (L := L) (args := fun qs : List Rat => [rowD qs]) (ok := fun qs => rb 1500 qs) (val := fun qs => .tuple (qs.map fq)) qs (ea_cons (eg_var (i := 3) rfl) ea_nil) hrb.1
  have p3 : EvD L _ [some mark, some (.int (n : Int)), some (.tuple (qs.map fq)), some (rowD qs), none] (rowD qs) := eg_callRK (E := E0) (L := L) (args := fun qs : List Rat => [.tuple (qs.map fq)]) (ok := fun qs => rb 1500 qs ∧ lq qs < 2 ^ 64) (val := fun qs => rowD qs) qs (gV := g1) (ea_cons (eg_var (i := 2) rfl) ea_nil) gk1 hrb
  have p4 : EvD L _ [some mark, some (.int (n : Int)), some (.tuple (qs.map fq)), some (rowD qs), none] (.tuple (qs.map fq)) := eg_callRK (E := E0) (L := L) (args := fun qs : List Rat => [rowD qs]) (ok := fun qs => rb 1500 qs) (val := fun qs => .tuple (qs.map fq)) qs (gV := g1) (ea_cons (eg_var (i := 3) rfl) ea_nil) gk1 hrb.1
  exact sg_ret (eg_callR (L := L) (args := fun d : PyData => [d, d]) (ok := Sh) (val := fun _ => .bool true) (.list [rowD qs, .tuple (qs.map fq), rowD qs, .tuple (qs.map fq)]) (ea_cons (eg_lst (ea_cons p1 (ea_cons p2 (ea_cons p3 (ea_cons p4 ea_nil))))) (ea_cons (eg_lst (ea_cons (eg_var (i := 3) rfl) (ea_cons (eg_var (i := 2) rfl) (ea_cons (eg_var (i := 3) rfl) (ea_cons (eg_var (i := 2) rfl) ea_nil))))) ea_nil)) (small_sh (qs := qs) (by omega) hq)) rfl

end V1
set_option Elab.async false
set_option linter.all false
set_option maxRecDepth 100000
set_option maxHeartbeats 4000000
/-! A list made here to which things are appended: in a loop, once. -/
namespace V1
open PySem PySem.Spec PyProof.Rows L2
section
variable {L : Rl} {Γ : List (Option PyData)} {t : TA} {te te2 : TE} {u : TS} {j : Nat} {N : List (Option PyData) → Prop} {Rt : PyData → Prop}
theorem held_env {A : Addr → Prop} {σ : L2.St} {H H1 : Hp} {p : Addr} (he : EnvOk L A σ H Γ) (r1 : L.R 0 H H1) (hp0 : H p = none) (hj : j < Γ.length) : EnvOk L (fun b => A b ∨ b = p) (σ.set j (some (V.ref p))) H1 (Γ.set j none) := by
  refine ⟨by rw [List.length_set, List.length_set]; exact he.1, fun i d e => ?_⟩
  by_cases hij : j = i
  · subst hij
    rw [List.getElem?_set_self hj] at e
    cases e
  · rw [List.getElem?_set_ne hij] at e
    obtain ⟨v, e1, e2⟩ := he.2 i d e
    exact ⟨v, by rw [List.getElem?_set_ne hij]; exact e1, e2.imp (fun z => z) fun z => z.map fun b o na eb k => ⟨fun w => w.elim na (ne_of_none eb hp0), L.keep r1 eb k⟩⟩
theorem held_back {A : Addr → Prop} {σ : L2.St} {H : Hp} {p : Addr} {xs : List V} {acc : List PyData} (e4 : EnvOk L A σ H Γ) (nAp : ¬ A p) (eP : H p = some (.lst xs)) (dA : DvAll L.K A H xs acc) (s3 : σ[j]? = some (some (V.ref p))) : EnvOk L A σ H (Γ.set j (some (.list acc))) := by
  have hlj : j < σ.length := (List.getElem?_eq_some_iff.mp s3).1
  have h5 := e4.set (d := .list acc) (v := V.ref p) (.inr (.lst nAp eP dA)) j
  have hs : σ.set j (some (V.ref p)) = σ := by
    refine List.ext_getElem? fun i => ?_
    by_cases hij : j = i
    · subst hij
      rw [List.getElem?_set_self hlj, s3]
    · rw [List.getElem?_set_ne hij]
  rwa [hs] at h5
/-- xs = [..]; for ..: xs.append(e) -/
theorem sg_growP {wi : TI} {g : TG} {js : List Nat} {items ds0 : List PyData} {acc : Nat → List PyData} (I : Nat → List (Option PyData) → Prop) (hj : j < Γ.length) (hjs : j ∉ js) (h1 : EvL L te Γ ds0) (ha0 : acc 0 = ds0) (hlen : ∀ i, (acc i).length ≤ 100000)
    (hw : WkD L wi (Γ.set j none) items) (h0 : I 0 (Γ.set j none))
    (hb : ∀ (i : Nat) d Γi, items[i]? = some d → I i Γi → ∃ Γ', TgG L g js d Γi Γ' ∧ ∃ e, EvD L te2 Γ' e ∧ e ≠ mark ∧ acc (i + 1) = acc i ++ [e] ∧ I (i + 1) Γ')
    (hN : ∀ Γe, I items.length Γe → SG L 0 u (Γe.set j (some (.list (acc items.length)))) N Rt) :
    SG L 0 (tSeq (tAsg te (gName j)) (tSeq (tFor wi g (tDrop (tBM L.K "list" rAppend (tVar j) (tCons te2 tNil)))) u)) Γ N Rt := fun A σ H hi he hg D q1 q2 => h1 A σ H hi he hg _ fun p xs0 H1 r1 hp0 eP dv0 => by
  have nAp : ¬ A p := fun z => hi p z hp0
  have g1 : L.G 0 H1 := Rl.gR (b := 0) hg r1
  have hi1 : Inn (fun b => A b ∨ b = p) H1 := fun b z y => z.elim (fun z => (hi.r r1) b z y) fun z => by rw [z, eP] at y; cases y
  have sj : (σ.set j (some (V.ref p)))[j]? = some (some (V.ref p)) := List.getElem?_set_self (by rw [he.1]; exact hj)
  have he1 := held_env (p := p) (j := j) he r1 hp0 hj
  refine hw (fun b => A b ∨ b = p) _ H1 hi1 he1 g1 _ fun J H2 its r2 hits jk => ?_
  subst hits
  have eP2 : H2 p = some (.lst xs0) := L.keep r2 eP fxLst
  refine ⟨fun i m σ3 H3 => m = its.length - i ∧ i ≤ its.length ∧ L.R 0 H H3 ∧ Kp (fun b => A b ∨ b = p) H2 H3 ∧ σ3[j]? = some (some (V.ref p)) ∧ (∃ xs, H3 p = some (.lst xs) ∧ DvAll L.K (fun b => A b ∨ b = p) H3 xs (acc i)) ∧ ∃ Γi, EnvOk L (fun b => A b ∨ b = p) σ3 H3 Γi ∧ I i Γi, ⟨its.length, ?_⟩, ?_⟩
  · exact ⟨by omega, Nat.zero_le _, L.tr (a := 0) (b := 0) r1 r2, fun b o _ e _ => e, sj, ⟨xs0, eP2, by rw [ha0]; exact dv0.r r2⟩, _, he1.r r2, h0⟩
  · rintro i m σ3 H3 ⟨rfl, hle, r3, k3, s3, ⟨xs, eP3, dv3⟩, Γi, e3, p3⟩
    have g3 : L.G 0 H3 := Rl.gR (b := 0) hg r3
    have hi3 : Inn (fun b => A b ∨ b = p) H3 := fun b z y => z.elim (fun z => (hi.r r3) b z y) fun z => by rw [z, eP3] at y; cases y
    by_cases hlt : i < its.length
    · refine .inr ⟨jk.go i H3 k3 hlt, fun σ4 H4 => i + 1 ≤ its.length ∧ L.R 0 H H4 ∧ Kp (fun b => A b ∨ b = p) H2 H4 ∧ σ4[j]? = some (some (V.ref p)) ∧ (∃ xs, H4 p = some (.lst xs) ∧ DvAll L.K (fun b => A b ∨ b = p) H4 xs (acc (i + 1))) ∧ ∃ Γi, EnvOk L (fun b => A b ∨ b = p) σ4 H4 Γi ∧ I (i + 1) Γi, fun σ4 H4 h4 => ⟨its.length - (i + 1), by omega, rfl, h4⟩, fun x H4 y => ?_⟩
      obtain ⟨d, hd, sm, hdv⟩ := jk.yld i H3 x H4 k3 hi3 y hlt
      obtain ⟨Γ', htg, ee, he2, hne, hacc, hI⟩ := hb i d Γi hd p3
      have r34 : L.R 0 H3 H4 := L.same g3 sm
      have dx : Dv L.K (fun b => A b ∨ b = p) H4 x d := hdv _ hi3 fun b o na e _ => na
      refine htg _ x σ3 H4 dx (e3.r r34) _ fun σ5 e5 w5 => ?_
      have s5 : σ5[j]? = some (some (V.ref p)) := by
        have hw5 := w5 js fun k hk => hk
        rw [← wipe_get hjs, hw5, wipe_get hjs]
        exact s3
      have g4 : L.G 0 H4 := Rl.gR (b := 0) g3 r34
      have eP4 : H4 p = some (.lst xs) := L.keep r34 eP3 fxLst
      refine ⟨V.ref p, s5, .inl ⟨rfl, xs, SqL.of eP4⟩, ?_⟩
      refine he2 _ σ5 H4 (hi3.r r34) e5 g4 _ fun v d7 H7 r7 hv7 ed => ?_
      subst ed
      have hv8 := hv7.ne hne
      have r37 : L.R 0 H3 H7 := L.tr (a := 0) (b := 0) r34 r7
      have eP7 : H7 p = some (.lst xs) := L.keep r37 eP3 fxLst
      have dv7 := dv3.r r37
      refine ⟨p, xs, v, rfl, rfl, eP7, ?_, ?_⟩
      · rw [dv7.length]
        exact Nat.lt_of_le_of_lt (hlen i) (by decide)
      · refine ⟨hlt, L.fresh (L.tr (a := 0) (b := 0) r3 r37) hp0 (.inr ⟨_, eP7⟩), fun b o na e k => ?_, s5, ⟨xs ++ [v], upd_same, ?_⟩, Γ', (e5.r r7).off, hI⟩
        · rw [upd_ne (fun z => na (.inr z))]
          exact L.keep r37 (k3 b o na e k) k
        · rw [hacc]
          exact (dv7.app (.cons hv8 .nil)).off
    · have e : i = its.length := by omega
      subst e
      refine .inl ⟨jk.stop H3 k3, ?_⟩
      have dA : DvAll L.K A H3 xs (acc its.length) := dv3.map fun b o na e k => ⟨fun z => na (.inl z), e⟩
      exact hN Γi p3 A σ3 H3 (hi.r r3) (held_back (e3.less fun b z => .inl z) nAp eP3 dA s3) g3 D (fun σ6 H6 G6 r6 e6 p6 => q1 σ6 H6 G6 (L.tr (a := 0) (b := 0) r3 r6) e6 p6) fun v d H6 r6 e6 p6 => q2 v d H6 (L.tr (a := 0) (b := 0) r3 r6) e6 p6
/-- xs = [..]; xs.append(e) -/
theorem sg_app1 {ds0 : List PyData} {e : PyData} (hj : j < Γ.length) (h1 : EvL L te Γ ds0) (hlen : ds0.length ≤ 100000) (h2 : EvD L te2 (Γ.set j none) e) (hne : e ≠ mark) (h3 : SG L 0 u (Γ.set j (some (.list (ds0 ++ [e])))) N Rt) :
    SG L 0 (tSeq (tAsg te (gName j)) (tSeq (tDrop (tBM L.K "list" rAppend (tVar j) (tCons te2 tNil))) u)) Γ N Rt := fun A σ H hi he hg D q1 q2 => h1 A σ H hi he hg _ fun p xs0 H1 r1 hp0 eP dv0 => by
  have nAp : ¬ A p := fun z => hi p z hp0
  have g1 : L.G 0 H1 := Rl.gR (b := 0) hg r1
  have hi1 : Inn (fun b => A b ∨ b = p) H1 := fun b z y => z.elim (fun z => (hi.r r1) b z y) fun z => by rw [z, eP] at y; cases y
  have sj : (σ.set j (some (V.ref p)))[j]? = some (some (V.ref p)) := List.getElem?_set_self (by rw [he.1]; exact hj)
  have he1 := held_env (p := p) (j := j) he r1 hp0 hj
  refine ⟨V.ref p, sj, .inl ⟨rfl, xs0, SqL.of eP⟩, ?_⟩
  refine h2 _ _ H1 hi1 he1 g1 _ fun v d7 H7 r7 hv7 ed => ?_
  subst ed
  have hv8 := hv7.ne hne
  have r17 : L.R 0 H H7 := L.tr (a := 0) (b := 0) r1 r7
  have eP7 : H7 p = some (.lst xs0) := L.keep r7 eP fxLst
  have dv7 := dv0.r r7
  refine ⟨p, xs0, v, rfl, rfl, eP7, ?_, ?_⟩
  · rw [dv7.length]
    exact Nat.lt_of_le_of_lt hlen (by decide)
  · have r8 := L.fresh r17 hp0 (.inr ⟨_, eP7⟩) (o := .lst (xs0 ++ [v]))
    have e8 : EnvOk L (fun b => A b ∨ b = p) (σ.set j (some (V.ref p))) (upd H7 p (.lst (xs0 ++ [v]))) (Γ.set j none) := (he1.r r7).off
    have dA : DvAll L.K A (upd H7 p (.lst (xs0 ++ [v]))) (xs0 ++ [v]) (ds0 ++ [d7]) := (dv7.app (.cons hv8 .nil)).off.map fun b o na e k => ⟨fun z => na (.inl z), e⟩
    have hb := held_back (e8.less fun b z => .inl z) nAp upd_same dA sj
    have hs : (Γ.set j none).set j (some (.list (ds0 ++ [d7]))) = Γ.set j (some (.list (ds0 ++ [d7]))) := by rw [List.set_set]
    rw [hs] at hb
    exact h3 A _ _ (hi.r r8) hb (Rl.gR (b := 0) hg r8) D (fun σ6 H6 G6 r6 e6 p6 => q1 σ6 H6 G6 (L.tr (a := 0) (b := 0) r8 r6) e6 p6) fun v d H6 r6 e6 p6 => q2 v d H6 (L.tr (a := 0) (b := 0) r8 r6) e6 p6
end
end V1
set_option Elab.async false
set_option linter.all false
set_option maxRecDepth 100000
set_option maxHeartbeats 4000000
/-! k01: what is heard; calls by keywords that may raise. -/
namespace V1
open PySem PySem.Spec PyProof.Rows L2
abbrev s_law_heard : Stmt := top 28
abbrev n_law_heard : List Str := ["call", "caught"]
theorem sc_law_heard : FnScope n_law_heard ["call"] (defScope s_law_heard) := ⟨rfl, rfl, rfl, by decide +kernel, rfl, by decide +kernel, by decide +kernel⟩
theorem heard_ok {X : Cx} {Cp Ip Cr Ir : Addr} {fp fr : FuncData} (TP : ExN X.K X.mg "NotPoint" Cp Ip fp) (TR : ExN X.K X.mg "NotRow" Cr Ir fr) (ne : PySem.W.exmOne X.K (.ref Cr) (.ref Cp) = some false) (g : Addr) (cdv : Value) (q : Str) :
    Hears X n_law_heard "_law_heard" (defScope s_law_heard) g cdv (defBody s_law_heard) "call" q (TT2 Cp Cr "point" "row" "place") :=
  hears2 rfl TP.gC (by decide) rfl TR.gC (by decide) TP.te ne TR.te TP.X TP.no TR.X TR.no (by decide) rfl (by decide) (by decide) (fun _ => rfl) (fun _ => rfl)
/-- f(k = v, ..), keywords alone, of a def that may raise -/
def tCallKE (sp : Sp) (gV : List V → List V → List V) (E : L2.St → XK) (tk : TA) : TE := fun σ H Q => tk σ H fun zs G => sp (gV [] zs) G Q (E σ)
theorem pe_callXkE {X : Cx} {k : Nat} {f : Addr} {fd : FuncData} {ps ks : List Str} {sp : Sp} {x : Str} {p pos : Pos} {kws : List Keyword} {tk : TA} {g : List Value → List Value → List Value} {gV : List V → List V → List V} {E : L2.St → XK}
    (F : FnX X.prog X.w X.K X.mg X.base k f fd ps sp) (hgd : X.A.guards = some []) (hr : Room k X.A) (hg : Gl X x) (hm : X.mg x = some (.ref f)) (hk : PySem.W.keepIn X.K (.ref f) = true) (hb : KBinds X.K fd ps ks g gV) (hx : ∀ σ, PassesAt (L2.CX X.prog X.w) X σ (E σ))
    (hkw : PK X kws tk) (hall : (backToKw pos (keywordEach kws X.env)).all (·.1.isSome) = true := by rfl) (hks : (backToKw pos (keywordEach kws X.env)).filterMap (·.1) = ks := by rfl)
    (hdb : (x == ("__debug__" : Str)) = false := by decide)
    (hpl : ((backTo pos (starEach [] X.env)).any (·.1) || (backToKw pos (keywordEach kws X.env)).any (·.1.isNone)) = false := by rfl) :
    PE X (.Call (.Name x p) [] kws pos) (tCallKE sp gV E tk) := by
  constructor
  intro pins s σ H Q I h
  refine wpAny_Call_Name_kw (ld_glob I hg hm ?_ hdb)
  refine PySem.W.callWith_KW0 (h₀ := X.base) I.ok.mod.kin hk hall (thn (hkw.run pos pins s σ H _ I h) fun ws s2 ⟨zs, G, J, rz, q2⟩ => ⟨J.kIn, ?_⟩) hpl
  rw [hks]
  have q3 : sp (gV [] zs) G Q (E σ) := q2
  have r2 := hb.rel (us := []) (vs := []) .nil rz
  have hl : (g [] ws).length = ps.length := r2.length.symm.trans (F.len _ _ _ _ q3)
  refine wpAny_call (codeAny_mono (F.run X.A X.stack s2 G ⟨[], ks.zip ws⟩ (g [] ws) (gV [] zs) Q (E σ) hgd hr J.env0 (hb.to s2 [] ws J.kIn hl) r2 q3) fun r3 s' hq => ?_)
  match r3, hq with
  | .error e, hq => exact hx σ pins G s2 e s' J hq
  | .ok (.ret u), hq => exact J.after hq
  | .ok .next, hq => exact hq.elim
  | .ok .brk, hq => exact hq.elim
  | .ok .cont, hq => exact hq.elim
section
variable {L : Rl} {Γ : List (Option PyData)} {C : Addr} {fld : Str} {α : Type} {args : α → List PyData} {ok : α → Prop} {res : α → Except PyData PyData} {ta tk : TA} {te : TE} {d dq : PyData}
theorem rz_callXK (a : α) {ds : List PyData} {gV : List V → List V → List V} (ha : EaD L tk Γ ds) (hg2 : ∀ zs : List V, zs.length = ds.length → (gV [] zs).length = (args a).length ∧ ∀ (i : Nat) d, (args a)[i]? = some d → ∃ j : Nat, ds[j]? = some d ∧ (gV [] zs)[i]? = zs[j]?) (ho : ok a) (hr : res a = .error dq) (hn : nomk (args a) = true := by rfl) :
    RzD L C fld (fun E => tCallKE (spX L.K C fld args ok res) gV (fun _ => E) tk) Γ dq := fun E A σ H hi he hg hE Q => ha A σ H hi he hg _ fun vs ds' H1 r1 l hv p => by
  subst p
  obtain ⟨l1, l2⟩ := hg2 vs l
  refine ⟨a, A, ho, hi.r r1, l1, fun i d e => ?_, fun d2 e => (by rw [hr] at e; cases e), fun q2 e v dd H' sm hx hv2 => ?_⟩
  · obtain ⟨j, e1, e2⟩ := l2 i d e
    obtain ⟨v, e3, e4⟩ := hv j d e1
    exact ⟨v, by rw [e2]; exact e3, e4.ne (nomk_ne hn i d e)⟩
  · rw [hr] at e
    cases e
    exact hE v dd H' (L.tr (a := 0) (b := 0) r1 (L.same (Rl.gR (b := 0) hg r1) sm)) hx hv2
theorem eg_callXvK (a : α) {E : XK} {ds : List PyData} {gV : List V → List V → List V} (ha : EaD L tk Γ ds) (hg2 : ∀ zs : List V, zs.length = ds.length → (gV [] zs).length = (args a).length ∧ ∀ (i : Nat) d, (args a)[i]? = some d → ∃ j : Nat, ds[j]? = some d ∧ (gV [] zs)[i]? = zs[j]?) (ho : ok a) (hr : res a = .ok d) (hn : nomk (args a) = true := by rfl) :
    EvD L (tCallK (spX L.K C fld args ok res) gV E tNil tk) Γ d := fun A σ H hi he hg Q q => ha A σ H hi he hg _ fun vs ds' H1 r1 l hv p => by
  subst p
  obtain ⟨l1, l2⟩ := hg2 vs l
  refine ⟨a, A, ho, hi.r r1, l1, fun i d e => ?_, fun d2 e v H' sm hd => ?_, fun q2 e => (by rw [hr] at e; cases e)⟩
  · obtain ⟨j, e1, e2⟩ := l2 i d e
    obtain ⟨v, e3, e4⟩ := hv j d e1
    exact ⟨v, by rw [e2]; exact e3, e4.ne (nomk_ne hn i d e)⟩
  · rw [hr] at e
    cases e
    exact q v _ H' (L.tr (a := 0) (b := 0) r1 (L.same (Rl.gR (b := 0) hg r1) sm)) (.inr hd) rfl
theorem eg_isOI {o : Option Int} (h : EvD L te Γ (optI o)) : EvD L (tOp (fun x y H Q => y = V.non ∧ Q (.bl (decide (x = .non))) H) te (tC .non)) Γ (.bool o.isNone) := fun A σ H hi he hg Q q => h A σ H hi he hg _ fun x d H1 r1 hx e => by
  subst e
  refine ⟨rfl, ?_⟩
  cases o with
  | none =>
    have h2 := hx.ne (optI_ne none)
    cases h2
    exact q _ _ H1 r1 (.inr (.bl _)) rfl
  | some p =>
    obtain rfl := hx.int
    exact q _ _ H1 r1 (.inr (.bl _)) rfl
end
/-! ### what is due -/
def jd (w : Str) (o : Option Int) (d : PyData) : PyData := match o with
  | none => .list [d]
  | some i => .tuple [.str w, .int i]
theorem jd_ne (w : Str) (o : Option Int) (d : PyData) : jd w o d ≠ mark := by
  cases o with
  | none => intro z; cases z
  | some i => intro z; cases z
def dueD (a : Int × PyData) : List PyData := [jd "point" (faultD (a.1 + 1) a.2) a.2, jd "row" (faultD (a.1 + 2) a.2) a.2]
structure OkJ (a : Int × PyData) : Prop where
  lo : 0 ≤ a.1
  hi : a.1 ≤ 100
  sh : Shn 45 3 a.2
theorem fault_lt {c : Int} {d : PyData} {i : Int} (h : faultD c d = some i) (h0 : 0 ≤ c) (hc : c ≤ 200) : i.natAbs < 2 ^ 10 := by
  cases d with
  | tuple ds =>
    unfold faultD at h
    have h2 : (if (ds.length : Int) = c then (match oddIx ds with
      | some i => some (i : Int)
      | none => if lastI ds < 1 then some (c - 1) else if 1 < gcdD ds then some (-2) else none) else some (-1)) = some i := h
    by_cases hl : (ds.length : Int) = c
    · rw [if_pos hl] at h2
      cases ho : oddIx ds with
      | some k =>
        rw [ho] at h2
        have e : (k : Int) = i := Option.some.inj h2
        unfold oddIx at ho
        rw [List.findIdx?_eq_some_iff_getElem] at ho
        obtain ⟨hk, _⟩ := ho
        omega
      | none =>
        rw [ho] at h2
        have h3 : (if lastI ds < 1 then some (c - 1) else if 1 < gcdD ds then some (-2) else none) = some i := h2
        by_cases z : lastI ds < 1
        · rw [if_pos z] at h3
          have e : c - 1 = i := Option.some.inj h3
          omega
        · rw [if_neg z] at h3
          by_cases z2 : 1 < gcdD ds
          · rw [if_pos z2] at h3
            have e : (-2 : Int) = i := Option.some.inj h3
            omega
          · rw [if_neg z2] at h3
            cases h3
    · rw [if_neg hl] at h2
      have e : (-1 : Int) = i := Option.some.inj h2
      omega
  | _ =>
    have e : (-1 : Int) = i := Option.some.inj h
    omega
theorem shn_w {b k : Nat} (w : Str) (hw : (PyData.str w).showable = true ∧ (PyData.str w).leavesShort 1921 = true) (hb : (PyData.str w).bulk ≤ b) : Shn b k (.str w) := ⟨hw.1, rfl, by simp only [PyData.depth]; omega, hw.2, hb⟩
theorem jd_shn {w : Str} {o : Option Int} {d : PyData} (hd : Shn 45 3 d) (hw : (PyData.str w).showable = true ∧ (PyData.str w).leavesShort 1921 = true) (hwb : (PyData.str w).bulk ≤ 45) (ho : ∀ i, o = some i → i.natAbs < 2 ^ 10) : Shn 92 4 (jd w o d) := by
  cases o with
  | none => exact (shn_lst (b := 45) (k := 3) (m := 2) (fun x hx => by rw [List.mem_singleton.mp hx]; exact hd) (show 1 ≤ 2 by decide))
  | some i =>
    refine (shn_tup (b := 45) (k := 3) (m := 2) (fun x hx => ?_) (show 2 ≤ 2 by decide))
    rcases List.mem_cons.mp hx with rfl | hx
    · exact shn_w _ hw hwb
    · rw [List.mem_singleton.mp hx]
      exact shn_int (p1900 (ho i rfl))
theorem due_sh {a : Int × PyData} (h : OkJ a) : Sh (.list (dueD a)) := by
  refine sh_lst (b := 2 * (92 + 1)) (k := 5) (shn_lst (b := 92) (k := 4) (m := 2) (fun d hd => ?_) (show 2 ≤ 2 by decide))
  unfold dueD at hd
  have h0 := h.lo
  have h1 := h.hi
  rcases List.mem_cons.mp hd with rfl | hd
  · exact jd_shn h.sh (by decide +kernel) (by decide +kernel) fun i e => fault_lt e (by omega) (by omega)
  · rw [List.mem_singleton.mp hd]
    exact jd_shn h.sh (by decide +kernel) (by decide +kernel) fun i e => fault_lt e (by omega) (by omega)
theorem jd2 (w w2 : Str) (o o2 : Option Int) (d : PyData) : nomk [jd w o d, jd w2 o2 d] = true := by
  cases o <;> cases o2 <;> rfl
end V1
set_option Elab.async false
set_option linter.all false
set_option maxRecDepth 100000
set_option maxHeartbeats 4000000
namespace V1
open PySem PySem.Spec PyProof.Rows L2
variable {P : Program} {w : World} {K : PySem.W.Frag} {mg : Str → Option Value} {base : Heap}

abbrev s_law_judged_right : Stmt := top 31
abbrev n_law_judged_right : List Str := ["count", "thing", "due", "word", "spot", "turn", "told"]
theorem sc_law_judged_right : FnScope n_law_judged_right ["count", "thing"] (defScope s_law_judged_right) := ⟨rfl, rfl, rfl, by decide +kernel, rfl, by decide +kernel, by decide +kernel⟩
def sp_law_judged_right (K : PySem.W.Frag) (TT : List (Addr × Str)) : Sp := spT K TT (fun a : Int × PyData => [.int a.1, a.2]) OkJ fun _ => .bool true
theorem ok_law_judged_right {f : Addr} {fd : FuncData} (T : Bt K mg) (C : Cst K w mg) (D : Df K mg "_law_judged_right" s_law_judged_right ["count", "thing"] f fd) {TT : List (Addr × Str)} {Cp Ip Cr Ir : Addr} {fp fr : FuncData} (TP : ExN K mg "NotPoint" Cp Ip fp) (TR : ExN K mg "NotRow" Cr Ir fr) (ne : PySem.W.exmOne K (.ref Cr) (.ref Cp) = some false) {f_law_heard : Addr} {d_law_heard : FuncData} (DH : Df K mg "_law_heard" s_law_heard ["call"] f_law_heard d_law_heard)
    (LT : ∃ c Pt, LamX.TabB base mg c Pt ∧ fd.code = .ref c ∧ (Pt, (("_law_judged_right" : Str) ++ ".<locals>." ++ "<lambda>")) ∈ TT ∧ ∀ p ∈ TT, p.1 = Pt → p.2 = (("_law_judged_right" : Str) ++ ".<locals>." ++ "<lambda>"))
    {f_law_bottomed : Addr} {d_law_bottomed : FuncData} (h_law_bottomed : Cal P w K mg base "_law_bottomed" s_law_bottomed ["thing", "many"] 2 (sp_law_bottomed K) f_law_bottomed d_law_bottomed)
    {f_check_row : Addr} {d_check_row : FuncData} (h_check_row : CalX P w K mg base "check_row" s_check_row ["size", "value"] 3 (sp_check_row K Cr) f_check_row d_check_row)
    {f_check_point : Addr} {d_check_point : FuncData} (h_check_point : CalX P w K mg base "check_point" s_check_point ["size", "value"] 3 (sp_check_point K Cp) f_check_point d_check_point)
    {f_law_like : Addr} {d_law_like : FuncData} (h_law_like : Cal P w K mg base "_law_like" s_law_like ["told", "due"] 1 (sp_law_like K) f_law_like d_law_like) : Cal P w K mg base "_law_judged_right" s_law_judged_right ["count", "thing"] 8 (sp_law_judged_right K TT) f fd := by
  refine ok_T D sc_law_judged_right (fun _ => rfl) fun cdv A outer s H E ec hgd hr => ?_
  have LP : LamP (cxOf CX0 P w K mg base n_law_judged_right "_law_judged_right" (defScope s_law_judged_right) f cdv A outer s H E).nox TT := by
    obtain ⟨c, Pt, l1, l2, l3, l4⟩ := LT
    exact ⟨⟨c, Pt, l1, ec.symm.trans l2, l3, l4⟩⟩
  refine ⟨_, (pss_cons (ps_set (i := 2) sc_law_judged_right.nd rfl (Or.inl rfl) (pe_lst pa_nil))
        (pss_cons (ps_for PassesOwn.never rfl (pi_tup (pe_tup (pa_cons (pe_tup (pa_cons pe_str (pa_cons (pe_fn (E := E0) h_law_bottomed.G hgd (hr.mono (by decide)) (by rfl) h_law_bottomed.gm h_law_bottomed.kp h_law_bottomed.b (pa_cons (pv 1) (pa_cons (pe_op op_add (pv 0) pe_int) pa_nil))) pa_nil))) (pa_cons (pe_tup (pa_cons pe_str (pa_cons (pe_fn (E := E0) h_law_bottomed.G hgd (hr.mono (by decide)) (by rfl) h_law_bottomed.gm h_law_bottomed.kp h_law_bottomed.b (pa_cons (pv 1) (pa_cons (pe_op op_add (pv 0) pe_int) pa_nil))) pa_nil))) pa_nil)))) (pg_tup rfl (pgs_cons (pg_name (i := 3) sc_law_judged_right.nd rfl (Or.inl rfl)) (pgs_cons (pg_name (i := 4) sc_law_judged_right.nd rfl (Or.inl rfl)) pgs_nil)))
        (pss_one (ps_expr (pe_bm PySem.F.plainAttrs_list PySem.F.slot_list_append PySem.F.type_list_append mt_append (pv 2) (pa_cons (pe_ifExp (pt_cmpR op_isN (pv 4) pe_non (nomark _)) (pe_lst (pa_cons (pv 1) pa_nil)) (pe_tup (pa_cons (pv 3) (pa_cons (pv 4) pa_nil)))) pa_nil)))))
        (pss_cons (ps_for PassesOwn.never rfl (pi_range1 (by rfl) T.range (pa_cons pe_int pa_nil)) (pg_name (i := 5) sc_law_judged_right.nd rfl (Or.inl rfl))
        (pss_cons (ps_set (i := 6) sc_law_judged_right.nd rfl (Or.inl rfl) (pe_lst (pa_cons (pe_heard (T := TT) (TT := TT2 Cp Cr "point" "row" "place") (k := 4) (t := fun E => tCallS (sp_check_point K Cp) (fun _ => E) _) (by rfl) DH.gm DH.F DH.b sc_law_heard rfl (Or.inl rfl) (mkl0 LP (lamN_by (N := n_law_judged_right) (sc := defScope s_law_judged_right) (by decide +kernel)) (by rfl) (fun _ _ _ _ _ => by rfl)) (lamN_by (N := n_law_judged_right) (sc := defScope s_law_judged_right) (by decide +kernel)) (hr.mono (by decide)) hgd (fun cdv => heard_ok TP TR ne _ _ _)
          (fun A outer s2 H2 E f c2 hgd hr => pe_callX (E := fun _ => E) h_check_point.G hgd (hr.mono (by decide)) (by rfl) h_check_point.gm h_check_point.kp h_check_point.b (fun σ => passAt (takes_of rfl rfl rfl rfl) σ) (pa_cons (pv 0) (pa_cons (pv 1) pa_nil)))) (pa_cons (pe_heard (T := TT) (TT := TT2 Cp Cr "point" "row" "place") (k := 4) (t := fun E => tCallS (sp_check_row K Cr) (fun _ => E) _) (by rfl) DH.gm DH.F DH.b sc_law_heard rfl (Or.inl rfl) (mkl1 (a := "a") LP (lamN_by (N := n_law_judged_right) (sc := defScope s_law_judged_right) (by decide +kernel)) rfl rfl (by rfl) (fun _ _ _ _ _ _ _ => ⟨_, by rfl, by rfl⟩)) (lamN_by (N := n_law_judged_right) (sc := defScope s_law_judged_right) (by decide +kernel)) (hr.mono (by decide)) hgd (fun cdv => heard_ok TP TR ne _ _ _)
          (fun A outer s2 H2 E f c2 hgd hr => pe_callX (E := fun _ => E) h_check_row.G hgd (hr.mono (by decide)) (by rfl) h_check_row.gm h_check_row.kp h_check_row.b (fun σ => passAt (takes_of rfl rfl rfl rfl) σ) (pa_cons (pv 0) (pa_cons (pv 1) pa_nil)))) pa_nil))))
        (pss_one (ps_if (pt_not (pt_val (pe_fn (E := E0) h_law_like.G hgd (hr.mono (by decide)) (by rfl) h_law_like.gm h_law_like.kp h_law_like.b (pa_cons (pv 6) (pa_cons (pv 2) pa_nil))))) (pss_one (ps_ret pe_bl)) pss_nil))))
        (pss_one (ps_ret pe_bl))))), ?_⟩
  rintro ⟨c, d⟩ ho
  have h0 : 0 ≤ c := ho.lo
  have h1 : c ≤ 100 := ho.hi
  have hd : d.hasDict = false := ho.sh.nd
  have hbk : d.bulk ≤ 100000 := Nat.le_trans ho.sh.bk (by decide)
  have LL : LamL (tabL K TT) TT := lamL_t
  show SG (tabL K TT) 0 _ [some (.int c), some d, none, none, none, none, none] _ (fun x => x = .bool true)
  have hbt : ∀ k : Int, 1 ≤ k → EvD (tabL K TT) (tCall (sp_law_bottomed K) [] E0 (tCons (tVar 1) (tCons (tOp (rI0 fun i j => .int (i + j)) (tVar 0) (tC (.int k))) tNil))) [some (.int c), some d, none, none, none, none, none] (optI (faultD (c + k) d)) := fun k hk => eg_callR (L := tabL K TT) (args := fun a : PyData × Int => [a.1, .int a.2]) (ok := fun a => 1 ≤ a.2 ∧ a.1.hasDict = false ∧ a.1.bulk ≤ 100000) (val := fun a => optI (faultD a.2 a.1)) ((d, c + k) : PyData × Int) (ea_cons (eg_var (i := 1) rfl) (ea_cons (eg_add (eg_var (i := 0) rfl) eg_int) ea_nil)) ⟨show (1 : Int) ≤ c + k by omega, hd, hbk⟩ (hd_nomk2 hd rfl)
  have o2 : ∀ (w : Str) (o : Option Int), nomk [.str w, optI o] = true := fun w o => by cases o <;> rfl
  refine sg_growP (L := tabL K TT) (j := 2) (js := [3, 4]) (items := [.tuple [.str "point", optI (faultD (c + 1) d)], .tuple [.str "row", optI (faultD (c + 2) d)]]) (ds0 := []) (acc := fun i => (dueD (c, d)).take i) (fun i G => ∃ x y, G = [some (.int c), some d, none, x, y, none, none]) (show 2 < 7 by decide) (by simp) (evl_lst ea_nil) rfl (fun i => by rw [List.length_take]; exact Nat.le_trans (Nat.min_le_right _ _) (show 2 ≤ 100000 by decide))
    (wk_tup (eg_tup (ea_cons (eg_tup (ea_cons eg_str (ea_cons (hbt 1 (by decide)) ea_nil)) (o2 _ _)) (ea_cons (eg_tup (ea_cons eg_str (ea_cons (hbt 2 (by decide)) ea_nil)) (o2 _ _)) ea_nil)))) ⟨none, none, rfl⟩ ?_ ?_
  · have el : ∀ (w : Str) (o : Option Int) (x y : Option PyData), EvD (tabL K TT) (tIf (tTest (tOp (fun x y H Q => y = V.non ∧ Q (.bl (decide (x = .non))) H) (tVar 4) (tC .non))) (tLst (tCons (tVar 1) tNil)) (tTup (tCons (tVar 3) (tCons (tVar 4) tNil)))) [some (.int c), some d, none, some (.str w), some (optI o), none, none] (jd w o d) := fun w o x y => by
      cases o with
      | none => exact eg_if (et_test (eg_isOI (o := none) (eg_var (i := 4) rfl))) (fun _ => eg_lst (ea_cons (eg_var (i := 1) rfl) ea_nil) (hd_nomk hd)) fun z => by cases z
      | some i => exact eg_if (et_test (eg_isOI (o := some i) (eg_var (i := 4) rfl))) (fun z => by cases z) fun _ => eg_tup (ea_cons (eg_var (i := 3) rfl) (ea_cons (eg_var (i := 4) rfl) ea_nil))
    rintro i dd G hdd ⟨x, y, rfl⟩
    match i, hdd with
    | 0, hdd =>
      have e : PyData.tuple [.str "point", optI (faultD (c + 1) d)] = dd := Option.some.inj hdd
      subst e
      exact ⟨_, tg_two, _, el _ _ x y, jd_ne _ _ _, rfl, _, _, rfl⟩
    | 1, hdd =>
      have e : PyData.tuple [.str "row", optI (faultD (c + 2) d)] = dd := Option.some.inj hdd
      subst e
      exact ⟨_, tg_two, _, el _ _ x y, jd_ne _ _ _, rfl, _, _, rfl⟩
    | i + 2, hdd => cases hdd
  rintro G ⟨x3, x4, rfl⟩
  show SG (tabL K TT) 0 _ [some (.int c), some d, some (.list (dueD (c, d))), x3, x4, none, none] _ _
  refine sg_seq (N1 := fun G => ∃ x5 x6, G = [some (.int c), some d, some (.list (dueD (c, d))), x3, x4, x5, x6]) (sg_for (js := [5]) (fun i G => ∃ x5 x6, G = [some (.int c), some d, some (.list (dueD (c, d))), x3, x4, x5, x6]) (wk_rng1 (j := 2) (ea_cons eg_int ea_nil) (by decide)) ⟨none, none, rfl⟩ ?_ fun G hG => hG) ?_
  · rintro i dd G hdd ⟨x5, x6, rfl⟩
    have okj : ∀ k : Int, okJ (c, d) := fun _ => ⟨h0, hd⟩
    have H1 : ∀ x, EvD (tabL K TT) (tHd TT (TT2 Cp Cr "point" "row" "place") fun E => tCallS (sp_check_point K Cp) (fun _ => E) (tCons (tVar 0) (tCons (tVar 1) tNil))) [some (.int c), some d, some (.list (dueD (c, d))), x3, x4, some x, x6] (jd "point" (faultD (c + 1) d) d) := fun x => by
      have hv : ∀ E : XK, EaD (tabL K TT) (tCons (tVar 0) (tCons (tVar 1) tNil)) [some (.int c), some d, some (.list (dueD (c, d))), x3, x4, some x, x6] [.int c, d] := fun E => ea_cons (eg_var (i := 0) rfl) (ea_cons (eg_var (i := 1) rfl) ea_nil)
      cases hf : faultD (c + 1) d with
      | none => exact eg_h2V LL (hd_ne hd) fun E => eg_callXv (L := tabL K TT) (args := fun a : Int × PyData => [.int a.1, a.2]) (ok := okJ) (res := judX 1) (c, d) (hv E) (okj 1) (by unfold judX; simp only [hf]) (hd_nomk2 rfl hd)
      | some i => exact eg_h2A LL (rz_callX (L := tabL K TT) (args := fun a : Int × PyData => [.int a.1, a.2]) (ok := okJ) (res := judX 1) (c, d) (hv E0) (okj 1) (by unfold judX; simp only [hf]) (hd_nomk2 rfl hd))
    have H2 : ∀ x, EvD (tabL K TT) (tHd TT (TT2 Cp Cr "point" "row" "place") fun E => tCallS (sp_check_row K Cr) (fun _ => E) (tCons (tVar 0) (tCons (tVar 1) tNil))) [some (.int c), some d, some (.list (dueD (c, d))), x3, x4, some x, x6] (jd "row" (faultD (c + 2) d) d) := fun x => by
      have hv : ∀ E : XK, EaD (tabL K TT) (tCons (tVar 0) (tCons (tVar 1) tNil)) [some (.int c), some d, some (.list (dueD (c, d))), x3, x4, some x, x6] [.int c, d] := fun E => ea_cons (eg_var (i := 0) rfl) (ea_cons (eg_var (i := 1) rfl) ea_nil)
      cases hf : faultD (c + 2) d with
      | none => exact eg_h2V LL (hd_ne hd) fun E => eg_callXv (L := tabL K TT) (args := fun a : Int × PyData => [.int a.1, a.2]) (ok := okJ) (res := judX 2) (c, d) (hv E) (okj 1) (by unfold judX; simp only [hf]) (hd_nomk2 rfl hd)
      | some i => exact eg_h2B LL (rz_callX (L := tabL K TT) (args := fun a : Int × PyData => [.int a.1, a.2]) (ok := okJ) (res := judX 2) (c, d) (hv E0) (okj 1) (by unfold judX; simp only [hf]) (hd_nomk2 rfl hd))
    refine ⟨_, tg_name, sq_asg (d := .list (dueD (c, d))) (eg_lst (ds := dueD (c, d)) (ea_cons (H1 dd) (ea_cons (H2 dd) ea_nil)) (jd2 _ _ _ _ _) (show 2 ≤ 1000 by decide)) ?_⟩
    exact sg_if (et_is (et_not (et_B (eg_callR (L := tabL K TT) (args := fun d : PyData => [d, d]) (ok := Sh) (val := fun _ => .bool true) (.list (dueD (c, d))) (ea_cons (eg_var (i := 6) rfl) (ea_cons (eg_var (i := 2) rfl) ea_nil)) (due_sh ho)))) rfl) (fun z => by cases z) fun _ => sg_next ⟨_, _, rfl⟩
  · rintro G ⟨x5, x6, rfl⟩
    exact sg_ret eg_bl rfl

abbrev s_law_hand_right : Stmt := top 35
abbrev n_law_hand_right : List Str := ["rows", "count", "thing", "told"]
theorem sc_law_hand_right : FnScope n_law_hand_right [] (defScope s_law_hand_right) := ⟨rfl, rfl, rfl, by decide +kernel, rfl, by decide +kernel, by decide +kernel⟩
def jP (p : Int × PyData) : PyData := .tuple [.int p.1, p.2]
def rowsA : List (Int × PyData) := [(1, tI [0, 1]), (2, tI [1, 0, 0]), (3, tI [0, 0, 0, 1]), (1, tI [0, 0]), (2, tI [0, 0]), (2, .none), (2, .str "ab")]
def rowsB : List (Int × PyData) := [(4, tI [2, 4, 6, 8, 2]), (2, tI [0, -1, 3]), (2, tI [0, 0, 5, 1]), (0, tI [1]), (0, tI [2]), (0, tI [0])]
def rowsC : List (Int × PyData) := [(0, tI [3, 2]), (0, tI [2, 2]), (0, tI [1, 0]), (0, tI [])]
theorem rows_chk : ((rowsA ++ rowsB ++ rowsC).all fun p => decide (0 ≤ p.1) && (decide (p.1 ≤ 100) && (p.2.showable && (!p.2.hasDict && (decide (p.2.depth ≤ 3) && (p.2.leavesShort 1921 && decide (p.2.bulk ≤ 45))))))) = true := by decide +kernel
theorem rows_ok : ∀ p ∈ rowsA ++ rowsB ++ rowsC, OkJ p := fun p hp => by
  have h := List.all_eq_true.mp rows_chk p hp
  simp only [Bool.and_eq_true, decide_eq_true_eq, Bool.not_eq_true'] at h
  obtain ⟨a1, a2, a3, a4, a5, a6, a7⟩ := h
  exact ⟨a1, a2, ⟨a3, a4, a5, a6, a7⟩⟩
def toldH : List PyData := [.tuple [.str "point", .int 2], .tuple [.str "row", .int (-2)], .tuple [.str "row", .int 2], tI [3, 2]]
theorem told_chk : (PyData.list toldH).showable = true ∧ (PyData.list toldH).hasDict = false ∧ (PyData.list toldH).depth ≤ 60 ∧ (PyData.list toldH).shown.length ≤ 1000 := by decide +kernel
theorem told_sh : Sh (.list toldH) := ⟨.inl ⟨_, rfl⟩, told_chk.1, told_chk.2.1, told_chk.2.2.1, Nat.le_trans told_chk.2.2.2 (by decide)⟩
def sp_law_hand_right (K : PySem.W.Frag) (TT : List (Addr × Str)) : Sp := spT K TT (fun _ : Unit => []) (fun _ => True) fun _ => .bool true
theorem KB_check_row_size_value {f : Addr} {fd : FuncData} (F : Fun K "check_row" "check_row" s_check_row f fd) : KBinds K fd ["size", "value"] ["size", "value"] g2 g2 := by
  obtain ⟨oc, od, kV, doc, pm, an, cdv, ct, osl, rfl, _⟩ := F.ex
  exact kbin2 rfl fun u v => rfl
theorem KB_check_point_size_value {f : Addr} {fd : FuncData} (F : Fun K "check_point" "check_point" s_check_point f fd) : KBinds K fd ["size", "value"] ["size", "value"] g2 g2 := by
  obtain ⟨oc, od, kV, doc, pm, an, cdv, ct, osl, rfl, _⟩ := F.ex
  exact kbin2 rfl fun u v => rfl
theorem ok_law_hand_right {f : Addr} {fd : FuncData} (T : Bt K mg) (C : Cst K w mg) (D : Df K mg "_law_hand_right" s_law_hand_right [] f fd) {TT : List (Addr × Str)} {Cp Ip Cr Ir : Addr} {fp fr : FuncData} (TP : ExN K mg "NotPoint" Cp Ip fp) (TR : ExN K mg "NotRow" Cr Ir fr) (ne : PySem.W.exmOne K (.ref Cr) (.ref Cp) = some false) {f_law_heard : Addr} {d_law_heard : FuncData} (DH : Df K mg "_law_heard" s_law_heard ["call"] f_law_heard d_law_heard)
    (LT : ∃ c Pt, LamX.TabB base mg c Pt ∧ fd.code = .ref c ∧ (Pt, (("_law_hand_right" : Str) ++ ".<locals>." ++ "<lambda>")) ∈ TT ∧ ∀ p ∈ TT, p.1 = Pt → p.2 = (("_law_hand_right" : Str) ++ ".<locals>." ++ "<lambda>"))
    {f_law_judged_right : Addr} {d_law_judged_right : FuncData} (h_law_judged_right : Cal P w K mg base "_law_judged_right" s_law_judged_right ["count", "thing"] 8 (sp_law_judged_right K TT) f_law_judged_right d_law_judged_right)
    {f_check_row : Addr} {d_check_row : FuncData} (h_check_row : CalX P w K mg base "check_row" s_check_row ["size", "value"] 3 (sp_check_row K Cr) f_check_row d_check_row)
    {f_check_point : Addr} {d_check_point : FuncData} (h_check_point : CalX P w K mg base "check_point" s_check_point ["size", "value"] 3 (sp_check_point K Cp) f_check_point d_check_point)
    {f_law_like : Addr} {d_law_like : FuncData} (h_law_like : Cal P w K mg base "_law_like" s_law_like ["told", "due"] 1 (sp_law_like K) f_law_like d_law_like) : Cal P w K mg base "_law_hand_right" s_law_hand_right [] 9 (sp_law_hand_right K TT) f fd := by
  have kb_check_point_size_value := KB_check_point_size_value h_check_point.F
  have kb_check_row_size_value := KB_check_row_size_value h_check_row.F
  refine ok_T D sc_law_hand_right (fun _ => rfl) fun cdv A outer s H E ec hgd hr => ?_
  have LP : LamP (cxOf CX0 P w K mg base n_law_hand_right "_law_hand_right" (defScope s_law_hand_right) f cdv A outer s H E).nox TT := by
    obtain ⟨c, Pt, l1, l2, l3, l4⟩ := LT
    exact ⟨⟨c, Pt, l1, ec.symm.trans l2, l3, l4⟩⟩
  refine ⟨_, (pss_cons (ps_set (i := 0) sc_law_hand_right.nd rfl (Or.inl rfl) (pe_lst (pa_cons (pe_tup (pa_cons pe_int (pa_cons (pe_tup (pa_cons pe_int (pa_cons pe_int pa_nil))) pa_nil))) (pa_cons (pe_tup (pa_cons pe_int (pa_cons (pe_tup (pa_cons pe_int (pa_cons pe_int (pa_cons pe_int pa_nil)))) pa_nil))) (pa_cons (pe_tup (pa_cons pe_int (pa_cons (pe_tup (pa_cons pe_int (pa_cons pe_int (pa_cons pe_int (pa_cons pe_int pa_nil))))) pa_nil))) (pa_cons (pe_tup (pa_cons pe_int (pa_cons (pe_tup (pa_cons pe_int (pa_cons pe_int pa_nil))) pa_nil))) (pa_cons (pe_tup (pa_cons pe_int (pa_cons (pe_tup (pa_cons pe_int (pa_cons pe_int pa_nil))) pa_nil))) (pa_cons (pe_tup (pa_cons pe_int (pa_cons pe_non pa_nil))) (pa_cons (pe_tup (pa_cons pe_int (pa_cons pe_str pa_nil))) pa_nil)))))))))
        (pss_cons (ps_set (i := 0) sc_law_hand_right.nd rfl (Or.inl rfl) (pe_op op_cat (pv 0) (pe_lst (pa_cons (pe_tup (pa_cons pe_int (pa_cons (pe_tup (pa_cons pe_int (pa_cons pe_int (pa_cons pe_int (pa_cons pe_int (pa_cons pe_int pa_nil)))))) pa_nil))) (pa_cons (pe_tup (pa_cons pe_int (pa_cons (pe_tup (pa_cons pe_int (pa_cons (pe_un un_neg pe_int) (pa_cons pe_int pa_nil)))) pa_nil))) (pa_cons (pe_tup (pa_cons pe_int (pa_cons (pe_tup (pa_cons pe_int (pa_cons pe_int (pa_cons pe_int (pa_cons pe_int pa_nil))))) pa_nil))) (pa_cons (pe_tup (pa_cons pe_int (pa_cons (pe_tup (pa_cons pe_int pa_nil)) pa_nil))) (pa_cons (pe_tup (pa_cons pe_int (pa_cons (pe_tup (pa_cons pe_int pa_nil)) pa_nil))) (pa_cons (pe_tup (pa_cons pe_int (pa_cons (pe_tup (pa_cons pe_int pa_nil)) pa_nil))) pa_nil)))))))))
        (pss_cons (ps_for PassesOwn.never rfl (pi_list (pe_op op_cat (pv 0) (pe_lst (pa_cons (pe_tup (pa_cons pe_int (pa_cons (pe_tup (pa_cons pe_int (pa_cons pe_int pa_nil))) pa_nil))) (pa_cons (pe_tup (pa_cons pe_int (pa_cons (pe_tup (pa_cons pe_int (pa_cons pe_int pa_nil))) pa_nil))) (pa_cons (pe_tup (pa_cons pe_int (pa_cons (pe_tup (pa_cons pe_int (pa_cons pe_int pa_nil))) pa_nil))) (pa_cons (pe_tup (pa_cons pe_int (pa_cons (pe_tup pa_nil) pa_nil))) pa_nil))))))) (pg_tup rfl (pgs_cons (pg_name (i := 1) sc_law_hand_right.nd rfl (Or.inl rfl)) (pgs_cons (pg_name (i := 2) sc_law_hand_right.nd rfl (Or.inl rfl)) pgs_nil)))
        (pss_one (ps_if (pt_not (pt_val (pe_fn (E := E0) h_law_judged_right.G hgd (hr.mono (by decide)) (by rfl) h_law_judged_right.gm h_law_judged_right.kp h_law_judged_right.b (pa_cons (pv 1) (pa_cons (pv 2) pa_nil))))) (pss_one (ps_ret pe_bl)) pss_nil)))
        (pss_cons (ps_set (i := 3) sc_law_hand_right.nd rfl (Or.inl rfl) (pe_lst (pa_cons (pe_heard (T := TT) (TT := TT2 Cp Cr "point" "row" "place") (k := 4) (t := fun E => tCallS (sp_check_point K Cp) (fun _ => E) _) (by rfl) DH.gm DH.F DH.b sc_law_heard rfl (Or.inl rfl) (mkl0 LP (lamN_by (N := n_law_hand_right) (sc := defScope s_law_hand_right) (by decide +kernel)) (by rfl) (fun _ _ _ _ _ => by rfl)) (lamN_by (N := n_law_hand_right) (sc := defScope s_law_hand_right) (by decide +kernel)) (hr.mono (by decide)) hgd (fun cdv => heard_ok TP TR ne _ _ _)
          (fun A outer s2 H2 E f c2 hgd hr => pe_callX (E := fun _ => E) h_check_point.G hgd (hr.mono (by decide)) (by rfl) h_check_point.gm h_check_point.kp h_check_point.b (fun σ => passAt (takes_of rfl rfl rfl rfl) σ) (pa_cons pe_int (pa_cons (pe_tup (pa_cons pe_int (pa_cons pe_int (pa_cons pe_int pa_nil)))) pa_nil)))) (pa_cons (pe_heard (T := TT) (TT := TT2 Cp Cr "point" "row" "place") (k := 4) (t := fun E => tCallS (sp_check_row K Cr) (fun _ => E) _) (by rfl) DH.gm DH.F DH.b sc_law_heard rfl (Or.inl rfl) (mkl1 (a := "a") LP (lamN_by (N := n_law_hand_right) (sc := defScope s_law_hand_right) (by decide +kernel)) rfl rfl (by rfl) (fun _ _ _ _ _ _ _ => ⟨_, by rfl, by rfl⟩)) (lamN_by (N := n_law_hand_right) (sc := defScope s_law_hand_right) (by decide +kernel)) (hr.mono (by decide)) hgd (fun cdv => heard_ok TP TR ne _ _ _)
          (fun A outer s2 H2 E f c2 hgd hr => pe_callX (E := fun _ => E) h_check_row.G hgd (hr.mono (by decide)) (by rfl) h_check_row.gm h_check_row.kp h_check_row.b (fun σ => passAt (takes_of rfl rfl rfl rfl) σ) (pa_cons pe_int (pa_cons (pe_tup (pa_cons pe_int (pa_cons pe_int (pa_cons pe_int pa_nil)))) pa_nil)))) pa_nil))))
        (pss_cons (ps_expr (pe_bm PySem.F.plainAttrs_list PySem.F.slot_list_append PySem.F.type_list_append mt_append (pv 3) (pa_cons (pe_heard (T := TT) (TT := TT2 Cp Cr "point" "row" "place") (k := 4) (t := fun E => tCallKE (sp_check_row K Cr) g2 (fun _ => E) _) (by rfl) DH.gm DH.F DH.b sc_law_heard rfl (Or.inl rfl) (mkl0 LP (lamN_by (N := n_law_hand_right) (sc := defScope s_law_hand_right) (by decide +kernel)) (by rfl) (fun _ _ _ _ _ => by rfl)) (lamN_by (N := n_law_hand_right) (sc := defScope s_law_hand_right) (by decide +kernel)) (hr.mono (by decide)) hgd (fun cdv => heard_ok TP TR ne _ _ _)
          (fun A outer s2 H2 E f c2 hgd hr => pe_callXkE (E := fun _ => E) h_check_row.G hgd (hr.mono (by decide)) (by rfl) h_check_row.gm h_check_row.kp kb_check_row_size_value (fun σ => passAt (takes_of rfl rfl rfl rfl) σ) (pk_cons pe_int (pk_cons (pe_tup (pa_cons pe_int (pa_cons pe_int (pa_cons (pe_un un_neg pe_int) pa_nil)))) pk_nil)))) pa_nil)))
        (pss_one (ps_ret (pe_fn (E := E0) h_law_like.G hgd (hr.mono (by decide)) (by rfl) h_law_like.gm h_law_like.kp h_law_like.b (pa_cons (pe_op op_cat (pv 3) (pe_lst (pa_cons (pe_callXk h_check_point.G hgd (hr.mono (by decide)) (by rfl) h_check_point.gm h_check_point.kp kb_check_point_size_value (pk_cons pe_int (pk_cons (pe_tup (pa_cons pe_int (pa_cons pe_int pa_nil))) pk_nil))) pa_nil))) (pa_cons (pe_lst (pa_cons (pe_tup (pa_cons pe_str (pa_cons pe_int pa_nil))) (pa_cons (pe_tup (pa_cons pe_str (pa_cons (pe_un un_neg pe_int) pa_nil))) (pa_cons (pe_tup (pa_cons pe_str (pa_cons pe_int pa_nil))) (pa_cons (pe_tup (pa_cons pe_int (pa_cons pe_int pa_nil))) pa_nil))))) pa_nil)))))))))), ?_⟩
  rintro _ _
  have LL : LamL (tabL K TT) TT := lamL_t
  show SG (tabL K TT) 0 _ [none, none, none, none] _ (fun x => x = .bool true)
  have tup2 : ∀ {Γ : List (Option PyData)} {a b : Int}, EvD (tabL K TT) (tTup (tCons (tC (.int a)) (tCons (tC (.int b)) tNil))) Γ (tI [a, b]) := eg_tup (ea_cons eg_int (ea_cons eg_int ea_nil))
  have tup3 : ∀ {Γ : List (Option PyData)} {a b c : Int}, EvD (tabL K TT) (tTup (tCons (tC (.int a)) (tCons (tC (.int b)) (tCons (tC (.int c)) tNil)))) Γ (tI [a, b, c]) := eg_tup (ea_cons eg_int (ea_cons eg_int (ea_cons eg_int ea_nil)))
  have pr : ∀ {Γ : List (Option PyData)} {a : Int} {t : TE} {x : PyData}, x.hasDict = false → EvD (tabL K TT) t Γ x → EvD (tabL K TT) (tTup (tCons (tC (.int a)) (tCons t tNil))) Γ (jP (a, x)) := fun hx h => eg_tup (ea_cons eg_int (ea_cons h ea_nil)) (hd_nomk2 rfl hx)
  refine sq_asg (d := .list (rowsA.map jP)) (eg_lst (ds := rowsA.map jP) (ea_cons (pr rfl tup2) (ea_cons (pr rfl tup3) (ea_cons (pr rfl (eg_tup (ea_cons eg_int (ea_cons eg_int (ea_cons eg_int (ea_cons eg_int ea_nil)))))) (ea_cons (pr rfl tup2) (ea_cons (pr rfl tup2) (ea_cons (pr rfl eg_non) (ea_cons (pr rfl eg_str) ea_nil))))))) rfl (show 7 ≤ 1000 by decide)) ?_
  refine sq_asg (d := .list ((rowsA ++ rowsB).map jP)) ((eg_cat (ds := rowsA.map jP) (es := rowsB.map jP) (eg_var (i := 0) rfl) (eg_lst (ds := rowsB.map jP) (ea_cons (pr rfl (eg_tup (ea_cons eg_int (ea_cons eg_int (ea_cons eg_int (ea_cons eg_int (ea_cons eg_int ea_nil))))))) (ea_cons (pr rfl (eg_tup (ea_cons eg_int (ea_cons (eg_neg eg_int) (ea_cons eg_int ea_nil))))) (ea_cons (pr rfl (eg_tup (ea_cons eg_int (ea_cons eg_int (ea_cons eg_int (ea_cons eg_int ea_nil)))))) (ea_cons (pr rfl (eg_tup (ea_cons eg_int ea_nil))) (ea_cons (pr rfl (eg_tup (ea_cons eg_int ea_nil))) (ea_cons (pr rfl (eg_tup (ea_cons eg_int ea_nil))) ea_nil)))))) rfl (show 6 ≤ 1000 by decide)) (show 7 + 6 ≤ 100000 by decide)).to (by rw [List.map_append])) ?_
  show SG (tabL K TT) 0 _ [some (.list ((rowsA ++ rowsB).map jP)), none, none, none] _ _
  refine sg_seq (N1 := fun G => ∃ x y, G = [some (.list ((rowsA ++ rowsB).map jP)), x, y, none]) (sg_for (js := [1, 2]) (items := (rowsA ++ rowsB ++ rowsC).map jP) (fun i G => ∃ x y, G = [some (.list ((rowsA ++ rowsB).map jP)), x, y, none]) (wk_list ((eg_cat (ds := (rowsA ++ rowsB).map jP) (es := rowsC.map jP) (eg_var (i := 0) rfl) (eg_lst (ds := rowsC.map jP) (ea_cons (pr rfl tup2) (ea_cons (pr rfl tup2) (ea_cons (pr rfl tup2) (ea_cons (pr rfl (eg_tup ea_nil)) ea_nil)))) rfl (show 4 ≤ 1000 by decide)) (show 13 + 4 ≤ 100000 by decide)).to (by rw [← List.map_append]))) ⟨none, none, rfl⟩ ?_ fun G hG => hG) ?_
  · rintro i d G hd ⟨x, y, rfl⟩
    obtain ⟨p, _, hp, rfl⟩ := map_at hd
    have hop := rows_ok p hp
    obtain ⟨pc, pd⟩ := p
    exact ⟨_, tg_two, sg_if (et_is (et_not (et_B (eg_callT LL (args := fun a : Int × PyData => [.int a.1, a.2]) (ok := OkJ) (val := fun _ => .bool true) ((pc, pd) : Int × PyData) (ea_cons (eg_var (i := 1) rfl) (ea_cons (eg_var (i := 2) rfl) ea_nil)) hop (hd_nomk2 rfl hop.sh.nd)))) rfl) (fun z => by cases z) fun _ => sg_next ⟨_, _, rfl⟩⟩
  rintro G ⟨x1, x2, rfl⟩
  refine sg_app1 (L := tabL K TT) (j := 3) (ds0 := [.tuple [.str "point", .int 2], .tuple [.str "row", .int (-2)]]) (e := .tuple [.str "row", .int 2]) (show 3 < 4 by decide) (evl_lst (ea_cons (eg_h2A LL (rz_callX (L := tabL K TT) (args := fun a : Int × PyData => [.int a.1, a.2]) (ok := okJ) (res := judX 1) ((2, tI [1, 2, 0]) : Int × PyData) (ea_cons eg_int (ea_cons tup3 ea_nil)) ⟨by decide, rfl⟩ (by rfl))) (ea_cons (eg_h2B LL (rz_callX (L := tabL K TT) (args := fun a : Int × PyData => [.int a.1, a.2]) (ok := okJ) (res := judX 2) ((1, tI [2, 4, 6]) : Int × PyData) (ea_cons eg_int (ea_cons tup3 ea_nil)) ⟨by decide, rfl⟩ (by rfl))) ea_nil))) (by decide)
    (eg_h2B LL (rz_callXK (L := tabL K TT) (args := fun a : Int × PyData => [.int a.1, a.2]) (ok := okJ) (res := judX 2) ((1, tI [1, 0, -1]) : Int × PyData) (ds := [.int 1, tI [1, 0, -1]]) (ea_cons eg_int (ea_cons (eg_tup (ea_cons eg_int (ea_cons eg_int (ea_cons (eg_neg eg_int) ea_nil)))) ea_nil)) gk2 ⟨by decide, rfl⟩ (by rfl))) (by intro z; cases z) ?_
  show SG (tabL K TT) 0 _ [some (.list ((rowsA ++ rowsB).map jP)), x1, x2, some (.list [.tuple [.str "point", .int 2], .tuple [.str "row", .int (-2)], .tuple [.str "row", .int 2]])] _ _
  refine sg_ret (eg_callR (L := tabL K TT) (args := fun d : PyData => [d, d]) (ok := Sh) (val := fun _ => .bool true) (.list toldH) (ea_cons ((eg_cat (ds := [.tuple [.str "point", .int 2], .tuple [.str "row", .int (-2)], .tuple [.str "row", .int 2]]) (es := [tI [3, 2]]) (eg_var (i := 3) rfl) (eg_lst (ds := [tI [3, 2]]) (ea_cons (eg_callXvK (L := tabL K TT) (args := fun a : Int × PyData => [.int a.1, a.2]) (ok := okJ) (res := judX 1) ((1, tI [3, 2]) : Int × PyData) (ds := [.int 1, tI [3, 2]]) (ea_cons eg_int (ea_cons tup2 ea_nil)) gk2 ⟨by decide, rfl⟩ (by rfl)) ea_nil)) (show 3 + 1 ≤ 100000 by decide)).to rfl) (ea_cons (eg_lst (ds := toldH) (ea_cons (eg_tup (ea_cons eg_str (ea_cons eg_int ea_nil))) (ea_cons (eg_tup (ea_cons eg_str (ea_cons (eg_neg eg_int) ea_nil))) (ea_cons (eg_tup (ea_cons eg_str (ea_cons eg_int ea_nil))) (ea_cons tup2 ea_nil)))) rfl (show 4 ≤ 1000 by decide)) ea_nil)) told_sh) rfl

end V1
set_option Elab.async false
set_option linter.all false
set_option maxRecDepth 100000
set_option maxHeartbeats 4000000
/-! A turn's draws begun, where tables of code objects may grow. -/
namespace V1
open PySem PySem.Spec PyProof.Rows L2
theorem sg_begunT {K : PySem.W.Frag} {TT : List (Addr × Str)} {a : Addr} {sc : List Int} {k n j : Nat} {u : TS} {Rt : PyData → Prop} (hk : k ≤ 4) (hl : sc.length ≤ 63) (hn : n ≤ 100000000)
    (hu : ∀ p c ns, ns ≠ [] → SK (mL K TT p c ns) 0 (V.ref a) n u (none :: none :: some mark :: List.replicate j none) (fun G => G.length = j + 3)) :
    SG (scL K TT a sc) 0 (tSeq (tAsg (tCall (sp_law_begun K) [] E0 (tCons (tVar 0) (tCons (tVar 1) tNil))) (gName 2)) u) (some mark :: some (.int (k : Int)) :: none :: List.replicate j none) (fun G => G = some mark :: none :: none :: List.replicate j none) Rt := fun A σ H hi he hg D q1 q2 => by
  have free : ∀ {i : Nat} {d : PyData}, (List.replicate j (none : Option PyData))[i]? = some (some d) → False := fun {i d} e => by
    rw [List.getElem?_replicate] at e
    split at e <;> cases e
  obtain ⟨v0, hs0, dv0⟩ := he.2 0 mark rfl
  have ev := dq_mark dv0
  subst ev
  obtain ⟨v1, hs1, dv1⟩ := he.2 1 (.int (k : Int)) rfl
  obtain rfl := dv1.int
  refine ⟨_, hs0, _, hs1, ?_⟩
  refine (?key : sp_law_begun K [V.ref a, V.int (k : Int)] H (fun x H1 => u D (σ.set 2 (some x)) H1) E0)
  refine ⟨TT, a, sc, k, rfl, hg.1, hg.2, hk, hl, fun p c l sd ns H1 r1 hp hns hP hC => ?_⟩
  have hlen : σ.length = j + 3 := by
    rw [he.1]
    simp
  have hA : Inn A H1 := fun b z y => r1.2.1 b (hi b z) y
  have he1 : EnvOk (mL K TT p c ns) A (σ.set 2 (some (V.ref p))) H1 (none :: none :: some mark :: List.replicate j none) := ⟨by rw [List.length_set, hlen]; simp, fun i d e => by
    match i, e with
    | 0, e => cases e
    | 1, e => cases e
    | 2, e =>
      have e1 : mark = d := Option.some.inj (Option.some.inj e)
      subst e1
      exact ⟨V.ref p, List.getElem?_set_self (by omega), .inl ⟨rfl, rfl⟩⟩
    | i + 3, e => exact (free (i := i) e).elim⟩
  have hG : (mL K TT p c ns).G n H1 := ⟨⟨l, sd, 0, hP, hC, Int.le_refl 0, by omega⟩, r1.2.2⟩
  have hs0' : (σ.set 2 (some (V.ref p)))[0]? = some (some (V.ref a)) := by rw [List.getElem?_set_ne (by decide)]; exact hs0
  refine hu p c ns hns A _ H1 hA he1 hG hs0' D fun σ2 H2 G2 r2 e2 s2 p2 => ?_
  have r2' : mR TT p c n H1 H2 := r2
  have r02 : (tabL K TT).R 0 H H2 := ⟨fun b o z kk => r2'.st b o (r1.1 b o z kk) (.inl (fun y => by rw [y, hp] at z; cases z)) kk, fun b z => r2'.nn b (r1.2.1 b z), r2'.tb⟩
  have hl2 : σ2.length = j + 3 := e2.1.trans p2
  refine q1 σ2 H2 _ r02 ⟨by rw [hl2]; simp, fun i d e => ?_⟩ rfl
  match i, e with
  | 0, e =>
    have e1 : mark = d := Option.some.inj (Option.some.inj e)
    subst e1
    exact ⟨_, s2, .inl ⟨rfl, rfl⟩⟩
  | 1, e => cases e
  | 2, e => cases e
  | i + 3, e => exact (free (i := i) e).elim
section
variable {L : Rl} {Γ : List (Option PyData)} {tt tu : TT} {ts u : TS} {a b j n m : Nat} {v0 : V} {N : List (Option PyData) → Prop} {t : TA} {E : XK} {P : Bool → Prop}
theorem sk_ifq (h : EtG L a tt Γ (fun k => k = false)) (k : SK L j v0 b u Γ N) : SK L j v0 (a + b) (tSeq (tIfS tt ts tNext) u) Γ N := fun A σ H hi he hg hs D q => h A σ H hi he (L.gle (Nat.le_add_right _ _) hg) _ fun b' H1 r1 e => by
  subst e
  exact k A σ H1 (hi.r r1) (he.r r1) (Rl.gR hg r1) hs D fun σ2 H2 Γ2 r2 e2 s2 p2 => q σ2 H2 Γ2 (L.tr r1 r2) e2 s2 p2
theorem SK.mono (h : SK L j v0 a ts Γ N) (hn : a ≤ b) : SK L j v0 b ts Γ N := fun A σ H hi he hg hs D q => h A σ H hi he (L.gle hn hg) hs D fun σ2 H2 Γ2 r2 e2 s2 p2 => q σ2 H2 Γ2 (L.rle hn r2) e2 s2 p2
theorem et_andG {k : Bool} (h : EtD L tt Γ k) (h1 : k = true → EtG L a tu Γ P) (h2 : k = false → P false) : EtG L a (tAnd tt tu) Γ P := fun A σ H hi he hg Q q => h A σ H hi he (L.g0 hg) _ fun H1 r1 => by
  cases k with
  | false => exact q false H1 (L.rle (Nat.zero_le _) r1) (h2 rfl)
  | true => exact h1 rfl A σ H1 (hi.r r1) (he.r r1) (Rl.gR (a := 0) (by rw [Nat.zero_add]; exact hg) r1) Q fun k H2 r2 p => q k H2 (L.rle (Nat.le_of_eq (Nat.zero_add _)) (L.tr r1 r2)) p
theorem eg_drawS {i : Nat} (hS : SM L) {b : Nat} (hb : 0 < b ∧ b < 2 ^ 30) (h0 : Γ[i]? = some (some mark)) : EvG L 1 (tCall (sp_law_draw L.K) [] E (tCons (tVar i) (tCons (tC (.int (b : Int))) tNil))) Γ (fun d => ∃ z : Int, (0 ≤ z ∧ z < (b : Int)) ∧ d = .int z) :=
  EvG.mono (eg_callM hS b (ea_cons (eg_var h0) (ea_cons eg_int ea_nil)) hb) (Nat.le_refl _) fun d ⟨r, h1, e⟩ => ⟨(r : Int), ⟨by omega, by omega⟩, e⟩
theorem eg_callTG {T : List (Addr × Str)} {α : Type} {args : α → List PyData} {ok : α → Prop} {val : α → PyData} {PA : List PyData → Prop} (LL : LamL L T) (ha : EaG L m t Γ PA) (hp : ∀ ds, PA ds → nomk ds = true ∧ ∃ x, ok x ∧ ds = args x) : EvG L m (tCall (spT L.K T args ok val) [] E t) Γ (fun d => ∃ x, PA (args x) ∧ ok x ∧ d = val x) := fun A σ H hi he hg Q q => ha A σ H hi he hg _ fun vs ds H1 r1 l hv p => by
  obtain ⟨hn, x, ho, rfl⟩ := hp ds p
  show spT L.K T args ok val (vs ++ []) H1 Q E
  rw [List.append_nil]
  have g1 := Rl.gR (b := 0) hg r1
  refine ⟨x, ho, A, args x, hi.r r1, l, fun i d e => ?_, rfl, LL.tb g1, fun v d H2 r2 hd hpo => q v d H2 (L.rle (Nat.le_of_eq (Nat.add_zero _)) (L.tr (b := 0) r1 (LL.of g1 r2.1 r2.2.2 r2.2.1))) (.inr (tab_dq hd)) ⟨x, p, ho, hpo⟩⟩
  obtain ⟨v, e1, e2⟩ := hv i d e
  exact ⟨v, e1, .inr (e2.ne (nomk_ne hn i d e))⟩
end
theorem jd_okj {n b : Nat} {c : Int} {d : PyData} (h : Jd n b d) (hb : b ≤ 1900) (hn : n ≤ 9) (h0 : 0 ≤ c) (h1 : c ≤ 100) : OkJ (c, d) := ⟨h0, h1, h.shn hb hn⟩
end V1
set_option Elab.async false
set_option linter.all false
set_option maxRecDepth 100000
set_option maxHeartbeats 4000000
namespace V1
open PySem PySem.Spec PyProof.Rows L2
variable {P : Program} {w : World} {K : PySem.W.Frag} {mg : Str → Option Value} {base : Heap}

abbrev s_law : Stmt := top 36
abbrev n_law : List Str := ["script", "k", "m", "turn", "count", "thing", "bent"]
theorem sc_law : FnScope n_law ["script"] (defScope s_law) := ⟨rfl, rfl, rfl, by decide +kernel, rfl, by decide +kernel, by decide +kernel⟩
def sp_law (K : PySem.W.Frag) (TT : List (Addr × Str)) : Sp := fun vs H Q _ => ∃ (a : Addr) (sc : List Int), vs = [.ref a] ∧ sc.length ≤ 63 ∧ SqL K H a (sc.map V.int) ∧ LamX.Tabs TT H ∧ ∀ H', Q (.bl true) H'
theorem len_law (TT : List (Addr × Str)) : ∀ vs H Q E, sp_law K TT vs H Q E → vs.length = (["script"] : List Str).length := fun vs H Q E ⟨a, sc, e, _⟩ => by rw [e]; rfl
theorem ok_law {f : Addr} {fd : FuncData} (T : Bt K mg) (C : Cst K w mg) {TT : List (Addr × Str)} (D : Df K mg "law" s_law ["script"] f fd)
    {f_law_hand_right : Addr} {d_law_hand_right : FuncData} (h_law_hand_right : Cal P w K mg base "_law_hand_right" s_law_hand_right [] 9 (sp_law_hand_right K TT) f_law_hand_right d_law_hand_right)
    {f_law_begun : Addr} {d_law_begun : FuncData} (h_law_begun : Cal P w K mg base "_law_begun" s_law_begun ["script", "k"] 1 (sp_law_begun K) f_law_begun d_law_begun)
    {f_law_draw : Addr} {d_law_draw : FuncData} (h_law_draw : Cal P w K mg base "_law_draw" s_law_draw ["m", "bound"] 1 (sp_law_draw K) f_law_draw d_law_draw)
    {f_law_thing : Addr} {d_law_thing : FuncData} (h_law_thing : Cal P w K mg base "_law_thing" s_law_thing ["m", "count"] 3 (sp_law_thing K) f_law_thing d_law_thing)
    {f_law_bent : Addr} {d_law_bent : FuncData} (h_law_bent : Cal P w K mg base "_law_bent" s_law_bent ["m", "thing"] 3 (sp_law_bent K) f_law_bent d_law_bent)
    {f_law_points_right : Addr} {d_law_points_right : FuncData} (h_law_points_right : Cal P w K mg base "_law_points_right" s_law_points_right ["m", "count"] 5 (sp_law_points_right K) f_law_points_right d_law_points_right)
    {f_law_judged_right : Addr} {d_law_judged_right : FuncData} (h_law_judged_right : Cal P w K mg base "_law_judged_right" s_law_judged_right ["count", "thing"] 8 (sp_law_judged_right K TT) f_law_judged_right d_law_judged_right) : Cal P w K mg base "law" s_law ["script"] 12 (sp_law K TT) f fd := by
  refine ⟨D.gm, D.F, D.b, okG D.F sc_law (len_law TT) (fun cdv A outer s H vs Q E hgd hr h => ⟨_, (pss_cons (ps_if (pt_not (pt_val (pe_fn0 (E := E0) h_law_hand_right.G hgd (hr.mono (by decide)) (by rfl) h_law_hand_right.gm h_law_hand_right.kp h_law_hand_right.b))) (pss_one (ps_ret pe_bl)) pss_nil)
        (pss_cons (ps_for PassesOwn.never rfl (pi_range1 (by rfl) T.range (pa_cons (pe_callB (call_max2 rfl) (by rfl) T.max (by decide +kernel) (pa_cons pe_int (pa_cons (pe_callB (call_min2 rfl) (by rfl) T.min (by decide +kernel) (pa_cons (pe_callB call_len_seq (by rfl) T.len PySem.boot_len (pa_cons (pv 0) pa_nil)) (pa_cons pe_int pa_nil))) pa_nil))) pa_nil)) (pg_name (i := 1) sc_law.nd rfl (Or.inl rfl))
        (pss_cons (ps_set (i := 2) sc_law.nd rfl (Or.inl rfl) (pe_fn (E := E0) h_law_begun.G hgd (hr.mono (by decide)) (by rfl) h_law_begun.gm h_law_begun.kp h_law_begun.b (pa_cons (pv 0) (pa_cons (pv 1) pa_nil))))
        (pss_one (ps_for PassesOwn.never rfl (pi_range1 (by rfl) T.range (pa_cons pe_int pa_nil)) (pg_name (i := 3) sc_law.nd rfl (Or.inl rfl))
        (pss_cons (ps_set (i := 4) sc_law.nd rfl (Or.inl rfl) (pe_op op_add pe_int (pe_fn (E := E0) h_law_draw.G hgd (hr.mono (by decide)) (by rfl) h_law_draw.gm h_law_draw.kp h_law_draw.b (pa_cons (pv 2) (pa_cons pe_int pa_nil)))))
        (pss_cons (ps_set (i := 5) sc_law.nd rfl (Or.inl rfl) (pe_fn (E := E0) h_law_thing.G hgd (hr.mono (by decide)) (by rfl) h_law_thing.gm h_law_thing.kp h_law_thing.b (pa_cons (pv 2) (pa_cons (pv 4) pa_nil))))
        (pss_cons (ps_set (i := 6) sc_law.nd rfl (Or.inl rfl) (pe_fn (E := E0) h_law_bent.G hgd (hr.mono (by decide)) (by rfl) h_law_bent.gm h_law_bent.kp h_law_bent.b (pa_cons (pv 2) (pa_cons (pv 5) pa_nil))))
        (pss_cons (ps_if (PW.pt (pw_or (pt_not (pt_val (pe_fn (E := E0) h_law_judged_right.G hgd (hr.mono (by decide)) (by rfl) h_law_judged_right.gm h_law_judged_right.kp h_law_judged_right.b (pa_cons (pv 4) (pa_cons (pv 5) pa_nil))))) (pw_or (pt_not (pt_val (pe_fn (E := E0) h_law_judged_right.G hgd (hr.mono (by decide)) (by rfl) h_law_judged_right.gm h_law_judged_right.kp h_law_judged_right.b (pa_cons (pv 4) (pa_cons (pv 6) pa_nil))))) (pw_or1 (pt_not (pt_val (pe_fn (E := E0) h_law_points_right.G hgd (hr.mono (by decide)) (by rfl) h_law_points_right.gm h_law_points_right.kp h_law_points_right.b (pa_cons (pv 2) (pa_cons (pv 4) pa_nil))))))))) (pss_one (ps_ret pe_bl)) pss_nil)
        (pss_one (ps_if (PW.pt (pw_and (pt_val (pe_callB (id := "isinstance") (x := "isinstance") call_isi (by rfl) T.isinstance (by decide +kernel) (pa_cons (pv 6) (pa_cons (pe_bltn (x := "tuple") (v := .ty "tuple") (by rfl) T.tuple (by decide +kernel) rfl) pa_nil)))) (pw_and1 (pt_not (pt_val (pe_fn (E := E0) h_law_judged_right.G hgd (hr.mono (by decide)) (by rfl) h_law_judged_right.gm h_law_judged_right.kp h_law_judged_right.b (pa_cons (pv 4) (pa_cons (pe_fn (E := E0) h_law_bent.G hgd (hr.mono (by decide)) (by rfl) h_law_bent.gm h_law_bent.kp h_law_bent.b (pa_cons (pv 2) (pa_cons (pv 6) pa_nil))) pa_nil)))))))) (pss_one (ps_ret pe_bl)) pss_nil))))))))))
        (pss_one (ps_ret pe_bl)))), ?_⟩)⟩
  obtain ⟨a, sc, rfl, hl, hsc, hT, q⟩ := h
  have he : EnvOk (scL K TT a sc) (fun _ => False) (L2.start n_law [V.ref a]) H [some mark, none, none, none, none, none, none] := ⟨rfl, fun i d e => by
    match i, e with
    | 0, e =>
      have e1 : mark = d := Option.some.inj (Option.some.inj e)
      subst e1
      exact ⟨_, rfl, .inl ⟨rfl, rfl⟩⟩
    | 1, e => cases e
    | 2, e => cases e
    | 3, e => cases e
    | 4, e => cases e
    | 5, e => cases e
    | 6, e => cases e
    | i + 7, e => cases e⟩
  have hi : Inn (fun _ => False) H := fun b z => z.elim
  have LS : LamL (scL K TT a sc) TT := lamL_s
  refine (?run : SG (scL K TT a sc) 0 _ [some mark, none, none, none, none, none, none] (fun _ => False) (fun d => d = .bool true)) (fun _ => False) _ H hi he ⟨hsc, hT⟩ _ (fun σ' H' G r e z => z.elim) fun v d H' r hd e => ?_
  case run =>
    refine sq_if_no (et_is (et_not (et_B (eg_callT LS (args := fun _ : Unit => []) (ok := fun _ => True) (val := fun _ => .bool true) () ea_nil trivial))) rfl) ?_
    refine sg_seq (N1 := fun _ => True) (sg_for (js := [1]) (fun i G => ∃ x1, G = [some mark, x1, none, none, none, none, none]) (wk_rng1 (j := max 2 (min (sc.length : Int) 4)) (ea_cons (eg_cb (ea_cons eg_int (ea_cons (eg_cb (ea_cons (cs_lenS (i := 0) rfl) (ea_cons eg_int ea_nil)) cs_min) ea_nil)) cs_max) ea_nil) (by omega)) ⟨none, rfl⟩ ?_ fun G _ => trivial) fun G _ => sg_ret eg_bl rfl
    rintro i d G hd ⟨x1, rfl⟩
    unfold rngD at hd
    have hi4 : i < 4 := by
      have h1 := (List.getElem?_eq_some_iff.mp hd).1
      rw [List.length_map, List.length_range] at h1
      omega
    rw [List.getElem?_map] at hd
    have hdi : d = .int (i : Int) := by
      cases hr : (List.range (max 2 (min (sc.length : Int) 4)).toNat)[i]? with
      | none => rw [hr] at hd; cases hd
      | some y =>
        rw [hr] at hd
        have e1 : y = i := by
          obtain ⟨h1, h2⟩ := List.getElem?_eq_some_iff.mp hr
          rw [List.getElem_range] at h2
          exact h2.symm
        have hd' : PyData.int (0 + (y : Int)) = d := Option.some.inj hd
        rw [← hd', e1, Int.zero_add]
    subst hdi
    refine ⟨_, tg_name, SG.mono (sg_begunT (K := K) (TT := TT) (k := i) (j := 4) (n := 4 * 27) (by omega) hl (by decide) fun p c ns hns => ?_) (Nat.le_refl _) (fun G e => ⟨none, e⟩) fun d h => h⟩
    have hS : SM (mL K TT p c ns) := ⟨K, TT, p, c, ns, hns, rfl⟩
    have LL : LamL (mL K TT p c ns) TT := lamL_m
    refine sk_for (b := 4) (c := 27) (js := [3]) (fun i G => ∃ x3 x4 x5 x6, G = [none, none, some mark, x3, x4, x5, x6]) (by decide) (wk_rng1 (j := 4) (ea_cons eg_int ea_nil) (by decide)) (by rw [rng_len]; decide) ⟨none, none, none, none, rfl⟩ ?_ ?_
    · rintro i e G he ⟨x3, x4, x5, x6, rfl⟩
      refine ⟨_, tg_name, ?_⟩
      refine sk_asgG (a := 0 + 1) (b := 26) (by decide) (eg_addG eg_intG (eg_drawS (i := 2) (b := 5) hS (by decide) rfl)) ?_
      rintro d ⟨cI, ⟨x, y, rfl, hy, hc⟩, rfl⟩
      obtain ⟨cn, rfl⟩ : ∃ cn : Nat, cI = (cn : Int) := ⟨cI.toNat, by omega⟩
      have hc1 : 1 ≤ cn ∧ cn ≤ 5 := by omega
      refine sk_asgG (a := 10) (b := 16) (by decide) (eg_callM (L := mL K TT p c ns) (args := fun n : Nat => [mark, .int (n : Int)]) (ok := fun n => 1 ≤ n ∧ n ≤ 5) (post := fun _ d => ∃ ns : List Int, d = tI ns ∧ ns.length ≤ 7 ∧ ∀ z ∈ ns, z.natAbs < 2 ^ 110) hS cn (ea_cons (eg_var (i := 2) rfl) (ea_cons (eg_var (i := 4) rfl) ea_nil)) hc1) ?_
      rintro th ⟨zs, rfl, hzl, hz⟩
      have hje : ∀ x ∈ zs.map PyData.int, Elt 110 x := fun x hx => by
        obtain ⟨z, hzm, rfl⟩ := List.mem_map.mp hx
        exact .inl ⟨z, rfl, hz z hzm⟩
      have hj1 : Jd 7 110 (tI zs) := .inr ⟨_, .inl rfl, by rw [List.length_map]; exact hzl, hje⟩
      refine sk_asgG (a := 3) (b := 13) (by decide) (eg_callM (L := mL K TT p c ns) (args := fun a : BE => [mark, .tuple a.ds]) (ok := fun a => ((2 ≤ a.b ∧ a.b ≤ 1000) ∧ a.n ≤ 8) ∧ a.ds.length ≤ a.n ∧ ∀ x ∈ a.ds, Elt a.b x) (post := fun a d => Jd (a.n + 1) (a.b + 2) d) hS ⟨7, 110, zs.map .int⟩ (ea_cons (eg_var (i := 2) rfl) (ea_cons (eg_var (i := 5) rfl) ea_nil)) ⟨⟨⟨show 2 ≤ 110 by decide, show 110 ≤ 1000 by decide⟩, show 7 ≤ 8 by decide⟩, by rw [List.length_map]; exact hzl, hje⟩) ?_
      intro bt hj2
      have hj2 : Jd 8 112 bt := hj2
      have o1 : OkJ ((cn : Int), tI zs) := jd_okj hj1 (by decide) (by decide) (by omega) (by omega)
      have o2 : OkJ ((cn : Int), bt) := jd_okj hj2 (by decide) (by decide) (by omega) (by omega)
      have n1 := o1.sh.nd
      have n2 := o2.sh.nd
      show SK (mL K TT p c ns) 0 (V.ref a) 13 _ [none, none, some mark, some e, some (.int (cn : Int)), some (tI zs), some bt] _
      refine SK.mono (a := (0 + (0 + 10)) + 3) (sk_ifq (et_orG (a := 0) (b := 0 + 10) (et_notG (eg_callT (L := mL K TT p c ns) LL (args := fun a : Int × PyData => [.int a.1, a.2]) (ok := OkJ) (val := fun _ => .bool true) ((cn : Int), tI zs) (ea_cons (eg_var (i := 4) rfl) (ea_cons (eg_var (i := 5) rfl) ea_nil)) o1 (hd_nomk2 rfl n1)))
        (et_orG (a := 0) (b := 10) (et_notG (eg_callT (L := mL K TT p c ns) LL (args := fun a : Int × PyData => [.int a.1, a.2]) (ok := OkJ) (val := fun _ => .bool true) ((cn : Int), bt) (ea_cons (eg_var (i := 4) rfl) (ea_cons (eg_var (i := 6) rfl) ea_nil)) o2 (hd_nomk2 rfl n2)))
          (et_notG (eg_callM (L := mL K TT p c ns) (args := fun n : Nat => [mark, .int (n : Int)]) (ok := fun n => 1 ≤ n ∧ n ≤ 5) (post := fun _ d => d = .bool true) hS cn (ea_cons (eg_var (i := 2) rfl) (ea_cons (eg_var (i := 4) rfl) ea_nil)) hc1)))) ?_) (by decide)
      refine sk_ifn (et_andG (et_B (eg_isT (eg_var (i := 6) rfl) n2)) (fun hk => ?_) fun _ => rfl) ⟨_, _, _, _, rfl⟩
      obtain ⟨bs, rfl⟩ : ∃ bs, bt = .tuple bs := by
        cases bt with
        | tuple bs => exact ⟨bs, rfl⟩
        | _ => cases hk
      have hb8 : bs.length ≤ 8 ∧ ∀ x ∈ bs, Elt 112 x := by
        rcases hj2 with z | ⟨es, z | z, h1, h2⟩
        · cases z
        · injection z with z
          subst z
          exact ⟨h1, h2⟩
        · cases z
      refine et_notG (EvG.mono (a := 0 + (3 + 0)) (b := 3) (eg_callTG (L := mL K TT p c ns) LL (args := fun a : Int × PyData => [.int a.1, a.2]) (ok := OkJ) (val := fun _ => .bool true) (PA := fun ds => ∃ x, ds = [.int (cn : Int), x] ∧ Jd 9 114 x) (EaG.mono (ea2G (eg_var (i := 4) rfl) (eg_callM (L := mL K TT p c ns) (args := fun a : BE => [mark, .tuple a.ds]) (ok := fun a => ((2 ≤ a.b ∧ a.b ≤ 1000) ∧ a.n ≤ 8) ∧ a.ds.length ≤ a.n ∧ ∀ x ∈ a.ds, Elt a.b x) (post := fun a d => Jd (a.n + 1) (a.b + 2) d) hS ⟨8, 112, bs⟩ (ea_cons (eg_var (i := 2) rfl) (ea_cons (eg_var (i := 6) rfl) ea_nil)) ⟨⟨⟨show 2 ≤ 112 by decide, show 112 ≤ 1000 by decide⟩, show 8 ≤ 8 by decide⟩, hb8.1, hb8.2⟩)) (Nat.le_refl _) ?_) ?_) (by decide) ?_)
      · rintro ds ⟨d1, d2, rfl, rfl, h2⟩
        exact ⟨d2, rfl, h2⟩
      · rintro ds ⟨x, rfl, hx⟩
        have ox : OkJ ((cn : Int), x) := jd_okj hx (by decide) (by decide) (by omega) (by omega)
        exact ⟨hd_nomk2 rfl ox.sh.nd, ((cn : Int), x), ox, rfl⟩
      · rintro d ⟨y, _, _, e⟩
        exact e
    · rintro G ⟨x3, x4, x5, x6, rfl⟩
      rfl
  · subst e
    obtain rfl := hd.bool
    exact q H'

end V1
set_option Elab.async false
set_option linter.all false
set_option maxRecDepth 100000
set_option maxHeartbeats 0
namespace V1
open PySem PySem.Spec PyProof.Rows L2
def topS (i : Nat) : Stmt := PySem.Challenge.pw_everyfont_k01_points_and_rows_judged.main.body.getD i (.Pass ⟨0, 0, 0, 0⟩)
def nmS (st : Stmt) : Str := match st with | .FunctionDef n _ _ _ _ _ _ _ _ _ => n | _ => ""
def defAt (i : Nat) : He.DefD := ⟨(nmS (topS i), none), nmS (topS i), nmS (topS i), defArgs (topS i), defBody (topS i), defScope (topS i), [], []⟩
def initH (i : Nat) : Stmt := match topS i with
  | .ClassDef _ _ _ (st :: _) _ _ _ _ _ _ _ => st
  | _ => .Pass ⟨0, 0, 0, 0⟩
def initP : He.DefD := ⟨("NotPoint", some "__init__"), "__init__", "NotPoint.__init__", defArgs (initH 4), defBody (initH 4), defScope (initH 4), [], []⟩
def initR : He.DefD := ⟨("NotRow", some "__init__"), "__init__", "NotRow.__init__", defArgs (initH 5), defBody (initH 5), defScope (initH 5), [], []⟩
def fnH0 : List He.DefD := [7, 8, 10, 11, 12, 13, 14, 15, 17, 19, 20, 21, 22, 23, 24, 25, 26, 27, 28, 29, 30, 31, 32, 33, 34, 35, 36].map defAt
def fnH : List He.DefD := fnH0 ++ [initP, initR]
def faH : List He.Fa := fnH0.map (fun d => He.Fa.glo d.name) ++ [.free "len", .free "abs", .free "sum", .free "min", .free "max", .free "repr", .free "int", .free "bool", .free "tuple", .free "zip", .free "enumerate", .free "range", .free "isinstance", .free "str", .free "list", .free "all", .free "set", .free "sorted", .glo "NotPoint", .glo "NotRow", .exm "NotPoint" "NotPoint" true, .exm "NotRow" "NotRow" true, .exm "NotRow" "NotPoint" false, .keep "NotPoint", .keep "NotRow"]
abbrev RH : PySem.W.OpenRow := PySem.W.OpenLaw.row PySem.Challenge.rw_everyfont_k01_points_and_rows_judged
/-- an own error class that stands beneath ValueError -/
def oexB (K : PySem.W.Frag) (C : Addr) : Bool := match K.lookup C with
  | some ⟨.type "type", _, .cls cd, sl⟩ => (match cd.mro, sl.toList with
    | .ref C' :: bm, [_, _, _, _, some (.builtin n), _] => C' == C && n == "ValueError.__new__" && !cd.hasDel && cd.hasDict && PySem.HandSPX.refsVE bm
    | _, _ => false)
  | _ => false
def obsE (K : PySem.W.Frag) (C fI : Addr) : Bool := oexB K C && (He.eqO (PySem.W.findIn K (.ref C) "__setattr__") (some (some (.builtin "object.__setattr__"))) && (decide (PySem.W.subIn K (.ref C) (.type "BaseException") = some true) && (decide (PySem.W.typeIn K (.ref C) = some (.type "type")) && (He.eqO (PySem.W.findIn K (.ref C) "__init__") (some (some (.ref fI))) && (decide (PySem.W.typeIn K (.ref fI) = some (.type "function")) && (He.eqO (PySem.W.findIn K (.ref C) "place") (some none) && xfB K C))))))
def tfH : List He.Defn := [("_law_judged_right", none), ("_law_hand_right", none)]
abbrev cJ (K : PySem.W.Frag) : Addr × Addr := He.cT K ("_law_judged_right", none)
abbrev cH (K : PySem.W.Frag) : Addr × Addr := He.cT K ("_law_hand_right", none)
def obsB (K : PySem.W.Frag) : Bool := obsE K (He.ga K "NotPoint") (He.ma K (He.ga K "NotPoint") "__init__") && (obsE K (He.ga K "NotRow") (He.ma K (He.ga K "NotRow") "__init__") && (decide (PySem.W.nsIn K mainGlobals "gcd" = some (some (.builtin "math.gcd"))) && (decide (PySem.W.nsIn K mainGlobals "lcm" = some (some (.builtin "math.lcm"))) && decide ((cJ K).2 ≠ (cH K).2))))
def hkM : PySem.W.Hook := He.hookX 5 faH fnH [] tfH obsB
def obM (s : PySem.W.SharedT) : He.AlX := He.obsX 5 faH fnH [] tfH obsB (HandSHeadRun.getT s)
theorem obM_eq (s : PySem.W.SharedT) : obM s = hkM.obs s.abs := He.obsX_eq fun a => HandSHeadRun.getT_eq s a
def looseM : List Str := (["__name__", "FontError", "NotNumber", "NotPoint", "NotRow"] : List Str) ++ (fnH0.map He.DefD.name).filter fun x => x != ("law" : Str)
theorem oexB_ok {K : PySem.W.Frag} {C : Addr} (q : oexB K C = true) : ∃ nm qn N bs bm sn sub ab col dd k0 k1 k2 k3 k5, K.lookup C = some (excClassObj nm qn C N bs bm true sn sub ab col dd k0 k1 k2 k3 k5 "ValueError.__new__") ∧ PySem.HandSPX.refsVE bm = true := by
  unfold oexB at q
  split at q
  · rename_i dd cd sl ho
    split at q
    · rename_i C' bm k0 k1 k2 k3 n k5 hm hs
      simp only [Bool.and_eq_true, beq_iff_eq, Bool.not_eq_true'] at q
      obtain ⟨⟨⟨⟨rfl, rfl⟩, hdel⟩, hdt⟩, ht⟩ := q
      obtain ⟨nm, bs, mro, ns, qn, hd, sn, sub, ab, col, del⟩ := cd
      dsimp only at hm hdel hdt
      subst hm hdel hdt
      have hsl : sl = #[k0, k1, k2, k3, some (.builtin "ValueError.__new__"), k5] := by
        obtain ⟨l⟩ := sl
        simp only at hs
        rw [hs]
      subst hsl
      exact ⟨nm, qn, ns, bs, bm, sn, sub, ab, col, dd, k0, k1, k2, k3, k5, ho, ht⟩
    · cases q
  · cases q
end V1
set_option Elab.async false
set_option linter.all false
set_option maxRecDepth 100000
set_option maxHeartbeats 0
namespace V1
open PySem PySem.W PySem.Spec PyProof.Rows L2
abbrev qM : Program := view RH.prog [0, 36]
theorem runM (w : World) : HandSHeadRun.RunEqI RH qM hkM obM 4000 looseM w := by
  delta HandSHeadRun.RunEqI
  kernel_rfl
end V1
set_option Elab.async false
set_option linter.all false
set_option maxRecDepth 100000
set_option maxHeartbeats 4000000
/-! All defs together. -/
namespace V1
open PySem PySem.Spec PyProof.Rows L2

theorem fun_of {K : PySem.W.Frag} {x qual : Str} {st : Stmt} {f : Addr} {fd : FuncData} (F : FunD K x qual (defArgs st) (defBody st) (defScope st) [] [] f fd) : Fun K x qual st f fd := by
  obtain ⟨oc, od, dV, kV, doc, pm, an, cdv, ct, osl, rfl, lk, hcd, hD, hK⟩ := F.ex
  rcases hD with ⟨_, rfl⟩ | ⟨e, _⟩
  · exact ⟨⟨oc, od, kV, doc, pm, an, cdv, ct, osl, rfl, lk, hcd⟩, F.kp⟩
  · exact absurd rfl e
theorem ns_of {K : PySem.W.Frag} {mg : Str → Option Value} {h : Heap} {x : Str} {v : Value} (X : K.In h) (G : h.Ns mainGlobals mg) (e : PySem.W.nsIn K mainGlobals x = some (some v)) : mg x = some v := PySem.W.mg_of X G e
theorem trip0 : PySem.TriplesOk (#[] : Array Value).toList := trivial
theorem code_of {K : PySem.W.Frag} {x qual : Str} {pa : Arguments} {bd : List Stmt} {sc : Scope} {fd : FuncData} {p : Str × Option Str} (F : FunD K x qual pa bd sc [] [] (He.fAd K p) fd) : fd.code = .ref (He.cT K p).1 := by
  obtain ⟨oc, od, dV, kV, doc, pm, an, cdv, ct, osl, rfl, lk, hcd, _⟩ := F.ex
  obtain ⟨c, e⟩ := He.codeIn_ref hcd
  have h : He.codeOf K p = c := He.codeOf_eq lk e
  show cdv = .ref (He.codeOf K p)
  rw [h]
  exact e
theorem df_of {K : PySem.W.Frag} {mg : Str → Option Value} {h : Heap} {x : Str} {st : Stmt} {ps : List Str} (X : K.In h) (G : h.Ns mainGlobals mg) (c : He.SaysD faH fnH K) (i : Nat) (hd : fnH[i]? = some ⟨(x, none), x, x, defArgs st, defBody st, defScope st, [], []⟩) (hf : faH[i]? = some (.glo x))
    (hb : ∀ (kV doc pm : Value) (an : Option Addr) (cdv ct : Value) (us : List Value), us.length = ps.length → bindArgs (PySem.W.fnOf x x (defArgs st) (defBody st) (defScope st) .none kV doc pm an cdv ct) ⟨us, []⟩ = pure (ps.zip us)) :
    ∃ fd, Df K mg x st ps (He.ga K x) fd ∧ fd.code = .ref (He.cT K (x, none)).1 ∧ ∀ (s : Shared) (us : List Value), us.length = ps.length → BindsTo s fd ⟨us, []⟩ (ps.zip us) := by
  obtain ⟨fd, F⟩ := c.def_ i hd
  exact ⟨fd, ⟨He.glo_ok X G (c.fact i hf), fun_of F, FunD.bindsN F hb⟩, code_of F, FunD.bindsA F hb⟩
theorem bt_of {K : PySem.W.Frag} {mg : Str → Option Value} {h : Heap} (X : K.In h) (G : h.Ns mainGlobals mg) (c2 : He.SaysD faH fnH K) : Bt K mg :=
  ⟨He.free_ok X G (c2.fact 27 (f := .free "len") rfl), He.free_ok X G (c2.fact 28 (f := .free "abs") rfl), He.free_ok X G (c2.fact 29 (f := .free "sum") rfl), He.free_ok X G (c2.fact 30 (f := .free "min") rfl), He.free_ok X G (c2.fact 31 (f := .free "max") rfl), He.free_ok X G (c2.fact 32 (f := .free "repr") rfl), He.free_ok X G (c2.fact 33 (f := .free "int") rfl), He.free_ok X G (c2.fact 34 (f := .free "bool") rfl), He.free_ok X G (c2.fact 35 (f := .free "tuple") rfl), He.free_ok X G (c2.fact 36 (f := .free "zip") rfl), He.free_ok X G (c2.fact 37 (f := .free "enumerate") rfl), He.free_ok X G (c2.fact 38 (f := .free "range") rfl), He.free_ok X G (c2.fact 39 (f := .free "isinstance") rfl), He.free_ok X G (c2.fact 40 (f := .free "str") rfl), He.free_ok X G (c2.fact 41 (f := .free "list") rfl), He.free_ok X G (c2.fact 42 (f := .free "all") rfl), He.free_ok X G (c2.fact 43 (f := .free "set") rfl), He.free_ok X G (c2.fact 44 (f := .free "sorted") rfl)⟩
theorem exn_NotPoint {K : PySem.W.Frag} {mg : Str → Option Value} {h : Heap} (X : K.In h) (G : h.Ns mainGlobals mg) (c2 : He.SaysD faH fnH K) (ce : obsE K (He.ga K "NotPoint") (He.ma K (He.ga K "NotPoint") "__init__") = true) : ∃ fd, ExN K mg "NotPoint" (He.ga K "NotPoint") (He.ma K (He.ga K "NotPoint") "__init__") fd := by
  obtain ⟨e1, ce⟩ := He.ba ce
  obtain ⟨e2, ce⟩ := He.ba ce
  obtain ⟨e3, ce⟩ := He.ba ce
  obtain ⟨e4, ce⟩ := He.ba ce
  obtain ⟨e5, ce⟩ := He.ba ce
  obtain ⟨e6, ce⟩ := He.ba ce
  obtain ⟨e7, e8⟩ := He.ba ce
  obtain ⟨fd, F⟩ := c2.def_ 27 (d := initP) rfl
  have F2 : Fun K "__init__" "NotPoint.__init__" (initAt 4) (He.ma K (He.ga K "NotPoint") "__init__") fd := fun_of (st := initAt 4) F
  refine ⟨fd, ⟨He.glo_ok X G (c2.fact 45 (f := .glo "NotPoint") rfl), ⟨?_, He.eqO_ok e2, of_decide_eq_true e3, of_decide_eq_true e4, He.keep_ok (c2.fact 50 (f := .keep "NotPoint") rfl)⟩, He.eqO_ok e5, of_decide_eq_true e6, He.eqO_ok e7, xfB_ok e8, He.exm_ok (c2.fact 47 (f := .exm "NotPoint" "NotPoint" true) rfl), fun P w base => ok_init4 F2, ?_⟩⟩
  · obtain ⟨nm, qn, N, bs, bm, sn, sub, ab, col, dd, k0, k1, k2, k3, k5, l1, l2⟩ := oexB_ok e1
    exact ⟨nm, qn, N, bs, bm, sn, sub, ab, col, dd, k0, k1, k2, k3, k5, l1, l2⟩
  · exact FunD.bindsN (ps := ["self", "place"]) F fun _ _ _ _ _ _ us hl => match us, hl with | [_, _], _ => rfl
theorem exn_NotRow {K : PySem.W.Frag} {mg : Str → Option Value} {h : Heap} (X : K.In h) (G : h.Ns mainGlobals mg) (c2 : He.SaysD faH fnH K) (ce : obsE K (He.ga K "NotRow") (He.ma K (He.ga K "NotRow") "__init__") = true) : ∃ fd, ExN K mg "NotRow" (He.ga K "NotRow") (He.ma K (He.ga K "NotRow") "__init__") fd := by
  obtain ⟨e1, ce⟩ := He.ba ce
  obtain ⟨e2, ce⟩ := He.ba ce
  obtain ⟨e3, ce⟩ := He.ba ce
  obtain ⟨e4, ce⟩ := He.ba ce
  obtain ⟨e5, ce⟩ := He.ba ce
  obtain ⟨e6, ce⟩ := He.ba ce
  obtain ⟨e7, e8⟩ := He.ba ce
  obtain ⟨fd, F⟩ := c2.def_ 28 (d := initR) rfl
  have F2 : Fun K "__init__" "NotRow.__init__" (initAt 5) (He.ma K (He.ga K "NotRow") "__init__") fd := fun_of (st := initAt 5) F
  refine ⟨fd, ⟨He.glo_ok X G (c2.fact 46 (f := .glo "NotRow") rfl), ⟨?_, He.eqO_ok e2, of_decide_eq_true e3, of_decide_eq_true e4, He.keep_ok (c2.fact 51 (f := .keep "NotRow") rfl)⟩, He.eqO_ok e5, of_decide_eq_true e6, He.eqO_ok e7, xfB_ok e8, He.exm_ok (c2.fact 48 (f := .exm "NotRow" "NotRow" true) rfl), fun P w base => ok_init5 F2, ?_⟩⟩
  · obtain ⟨nm, qn, N, bs, bm, sn, sub, ab, col, dd, k0, k1, k2, k3, k5, l1, l2⟩ := oexB_ok e1
    exact ⟨nm, qn, N, bs, bm, sn, sub, ab, col, dd, k0, k1, k2, k3, k5, l1, l2⟩
  · exact FunD.bindsN (ps := ["self", "place"]) F fun _ _ _ _ _ _ us hl => match us, hl with | [_, _], _ => rfl
def lamQ (x : Str) : Str := x ++ ".<locals>." ++ "<lambda>"
def TTof (K : PySem.W.Frag) : List (Addr × Str) := [((cJ K).2, lamQ "_law_judged_right"), ((cH K).2, lamQ "_law_hand_right")]
theorem all_ok {P : Program} {w : World} {K : PySem.W.Frag} {mg : Str → Option Value} {h : Heap} {f : Addr} (X : K.In h) (G : h.Ns mainGlobals mg) (hfa : mg ("law" : Str) = some (.ref f)) (c : He.SaysX faH fnH [] tfH obsB w h K) :
    ∃ fd : FuncData, (∀ (s : Shared) (u : Value), BindsTo s fd ⟨[u], []⟩ [("script", u)]) ∧ ∀ base : Heap, (∀ p ∈ [cJ K, cH K], LamX.TabB base mg p.1 p.2) → FnG P w K mg base 12 f fd ["script"] (sp_law K (TTof K)) := by
  have c2 : He.SaysD faH fnH K := c.t.d
  have T := bt_of X G c2
  have cb : obsB K = true := c.more
  obtain ⟨cp, cb⟩ := He.ba cb
  obtain ⟨cr, cb⟩ := He.ba cb
  obtain ⟨cg, cb⟩ := He.ba cb
  obtain ⟨cl, cd⟩ := He.ba cb
  have hne : (cJ K).2 ≠ (cH K).2 := of_decide_eq_true cd
  have C : Cst K w mg := ⟨ns_of X G (of_decide_eq_true cg), ns_of X G (of_decide_eq_true cl)⟩
  obtain ⟨fp, TP⟩ := exn_NotPoint X G c2 cp
  obtain ⟨fr, TR⟩ := exn_NotRow X G c2 cr
  have ne : PySem.W.exmOne K (.ref (He.ga K "NotRow")) (.ref (He.ga K "NotPoint")) = some false := He.exm_ok (c2.fact 49 (f := .exm "NotRow" "NotPoint" false) rfl)
  obtain ⟨d_is_int, D_is_int, cd_is_int, b_is_int⟩ := df_of (x := "is_int") (st := s_is_int) (ps := ["value"]) X G c2 0 rfl rfl fun _ _ _ _ _ _ us hl => match us, hl with | [_], _ => rfl
  obtain ⟨d_lowest, D_lowest, cd_lowest, b_lowest⟩ := df_of (x := "lowest") (st := s_lowest) (ps := ["top", "bottom"]) X G c2 1 rfl rfl fun _ _ _ _ _ _ us hl => match us, hl with | [_, _], _ => rfl
  obtain ⟨d_shared_divisor, D_shared_divisor, cd_shared_divisor, b_shared_divisor⟩ := df_of (x := "shared_divisor") (st := s_shared_divisor) (ps := ["integers"]) X G c2 2 rfl rfl fun _ _ _ _ _ _ us hl => match us, hl with | [_], _ => rfl
  obtain ⟨d_shared_bottom, D_shared_bottom, cd_shared_bottom, b_shared_bottom⟩ := df_of (x := "shared_bottom") (st := s_shared_bottom) (ps := ["bottoms"]) X G c2 3 rfl rfl fun _ _ _ _ _ _ us hl => match us, hl with | [_], _ => rfl
  obtain ⟨d_fault_in_integers, D_fault_in_integers, cd_fault_in_integers, b_fault_in_integers⟩ := df_of (x := "fault_in_integers") (st := s_fault_in_integers) (ps := ["count", "value"]) X G c2 4 rfl rfl fun _ _ _ _ _ _ us hl => match us, hl with | [_, _], _ => rfl
  obtain ⟨d_check_point, D_check_point, cd_check_point, b_check_point⟩ := df_of (x := "check_point") (st := s_check_point) (ps := ["size", "value"]) X G c2 5 rfl rfl fun _ _ _ _ _ _ us hl => match us, hl with | [_, _], _ => rfl
  obtain ⟨d_point_of, D_point_of, cd_point_of, b_point_of⟩ := df_of (x := "point_of") (st := s_point_of) (ps := ["numbers"]) X G c2 6 rfl rfl fun _ _ _ _ _ _ us hl => match us, hl with | [_], _ => rfl
  obtain ⟨d_numbers_of, D_numbers_of, cd_numbers_of, b_numbers_of⟩ := df_of (x := "numbers_of") (st := s_numbers_of) (ps := ["point"]) X G c2 7 rfl rfl fun _ _ _ _ _ _ us hl => match us, hl with | [_], _ => rfl
  obtain ⟨d_check_row, D_check_row, cd_check_row, b_check_row⟩ := df_of (x := "check_row") (st := s_check_row) (ps := ["size", "value"]) X G c2 8 rfl rfl fun _ _ _ _ _ _ us hl => match us, hl with | [_, _], _ => rfl
  obtain ⟨d_law_begun, D_law_begun, cd_law_begun, b_law_begun⟩ := df_of (x := "_law_begun") (st := s_law_begun) (ps := ["script", "k"]) X G c2 9 rfl rfl fun _ _ _ _ _ _ us hl => match us, hl with | [_, _], _ => rfl
  obtain ⟨d_law_draw, D_law_draw, cd_law_draw, b_law_draw⟩ := df_of (x := "_law_draw") (st := s_law_draw) (ps := ["m", "bound"]) X G c2 10 rfl rfl fun _ _ _ _ _ _ us hl => match us, hl with | [_, _], _ => rfl
  obtain ⟨d_law_of, D_law_of, cd_law_of, b_law_of⟩ := df_of (x := "_law_of") (st := s_law_of) (ps := ["m", "some"]) X G c2 11 rfl rfl fun _ _ _ _ _ _ us hl => match us, hl with | [_, _], _ => rfl
  obtain ⟨d_law_like, D_law_like, cd_law_like, b_law_like⟩ := df_of (x := "_law_like") (st := s_law_like) (ps := ["told", "due"]) X G c2 12 rfl rfl fun _ _ _ _ _ _ us hl => match us, hl with | [_, _], _ => rfl
  obtain ⟨d_law_common, D_law_common, cd_law_common, b_law_common⟩ := df_of (x := "_law_common") (st := s_law_common) (ps := ["numbers_so"]) X G c2 13 rfl rfl fun _ _ _ _ _ _ us hl => match us, hl with | [_], _ => rfl
  obtain ⟨d_law_lowered, D_law_lowered, cd_law_lowered, b_law_lowered⟩ := df_of (x := "_law_lowered") (st := s_law_lowered) (ps := ["numbers_so"]) X G c2 14 rfl rfl fun _ _ _ _ _ _ us hl => match us, hl with | [_], _ => rfl
  obtain ⟨d_law_fraction, D_law_fraction, cd_law_fraction, b_law_fraction⟩ := df_of (x := "_law_fraction") (st := s_law_fraction) (ps := ["top", "bottom"]) X G c2 15 rfl rfl fun _ _ _ _ _ _ us hl => match us, hl with | [_, _], _ => rfl
  obtain ⟨d_law_point, D_law_point, cd_law_point, b_law_point⟩ := df_of (x := "_law_point") (st := s_law_point) (ps := ["numbers_so", "bottom"]) X G c2 16 rfl rfl fun _ _ _ _ _ _ us hl => match us, hl with | [_, _], _ => rfl
  obtain ⟨d_law_joint, D_law_joint, cd_law_joint, b_law_joint⟩ := df_of (x := "_law_joint") (st := s_law_joint) (ps := ["fractions"]) X G c2 17 rfl rfl fun _ _ _ _ _ _ us hl => match us, hl with | [_], _ => rfl
  obtain ⟨d_law_heard, D_law_heard, cd_law_heard, b_law_heard⟩ := df_of (x := "_law_heard") (st := s_law_heard) (ps := ["call"]) X G c2 18 rfl rfl fun _ _ _ _ _ _ us hl => match us, hl with | [_], _ => rfl
  obtain ⟨d_law_odd_place, D_law_odd_place, cd_law_odd_place, b_law_odd_place⟩ := df_of (x := "_law_odd_place") (st := s_law_odd_place) (ps := ["thing", "many"]) X G c2 19 rfl rfl fun _ _ _ _ _ _ us hl => match us, hl with | [_, _], _ => rfl
  obtain ⟨d_law_bottomed, D_law_bottomed, cd_law_bottomed, b_law_bottomed⟩ := df_of (x := "_law_bottomed") (st := s_law_bottomed) (ps := ["thing", "many"]) X G c2 20 rfl rfl fun _ _ _ _ _ _ us hl => match us, hl with | [_, _], _ => rfl
  obtain ⟨d_law_judged_right, D_law_judged_right, cd_law_judged_right, b_law_judged_right⟩ := df_of (x := "_law_judged_right") (st := s_law_judged_right) (ps := ["count", "thing"]) X G c2 21 rfl rfl fun _ _ _ _ _ _ us hl => match us, hl with | [_, _], _ => rfl
  obtain ⟨d_law_thing, D_law_thing, cd_law_thing, b_law_thing⟩ := df_of (x := "_law_thing") (st := s_law_thing) (ps := ["m", "count"]) X G c2 22 rfl rfl fun _ _ _ _ _ _ us hl => match us, hl with | [_, _], _ => rfl
  obtain ⟨d_law_bent, D_law_bent, cd_law_bent, b_law_bent⟩ := df_of (x := "_law_bent") (st := s_law_bent) (ps := ["m", "thing"]) X G c2 23 rfl rfl fun _ _ _ _ _ _ us hl => match us, hl with | [_, _], _ => rfl
  obtain ⟨d_law_points_right, D_law_points_right, cd_law_points_right, b_law_points_right⟩ := df_of (x := "_law_points_right") (st := s_law_points_right) (ps := ["m", "count"]) X G c2 24 rfl rfl fun _ _ _ _ _ _ us hl => match us, hl with | [_, _], _ => rfl
  obtain ⟨d_law_hand_right, D_law_hand_right, cd_law_hand_right, b_law_hand_right⟩ := df_of (x := "_law_hand_right") (st := s_law_hand_right) (ps := []) X G c2 25 rfl rfl fun _ _ _ _ _ _ us hl => match us, hl with | [], _ => rfl
  obtain ⟨d_law, D_law, cd_law, b_law⟩ := df_of (x := "law") (st := s_law) (ps := ["script"]) X G c2 26 rfl rfl fun _ _ _ _ _ _ us hl => match us, hl with | [_], _ => rfl
  have e := hfa.symm.trans D_law.gm
  have e2 : f = He.ga K "law" := by injection e with e; injection e
  subst e2
  refine ⟨d_law, fun s u => b_law s [u] rfl, fun base TB => ?_⟩
  have LTj : ∃ c Pt, LamX.TabB base mg c Pt ∧ d_law_judged_right.code = .ref c ∧ (Pt, lamQ "_law_judged_right") ∈ TTof K ∧ ∀ p ∈ TTof K, p.1 = Pt → p.2 = lamQ "_law_judged_right" := ⟨_, _, TB (cJ K) (by simp), cd_law_judged_right, by simp [TTof], fun p hp e => by
    simp only [TTof, List.mem_cons, List.not_mem_nil, or_false] at hp
    rcases hp with rfl | rfl
    · rfl
    · exact absurd e.symm hne⟩
  have LTh : ∃ c Pt, LamX.TabB base mg c Pt ∧ d_law_hand_right.code = .ref c ∧ (Pt, lamQ "_law_hand_right") ∈ TTof K ∧ ∀ p ∈ TTof K, p.1 = Pt → p.2 = lamQ "_law_hand_right" := ⟨_, _, TB (cH K) (by simp), cd_law_hand_right, by simp [TTof], fun p hp e => by
    simp only [TTof, List.mem_cons, List.not_mem_nil, or_false] at hp
    rcases hp with rfl | rfl
    · exact absurd e hne
    · rfl⟩
  have h_is_int : Cal P w K mg base "is_int" s_is_int ["value"] 1 (sp_is_int K) _ d_is_int := ok_is_int T C D_is_int 
  have h_lowest : Cal P w K mg base "lowest" s_lowest ["top", "bottom"] 1 (sp_lowest K) _ d_lowest := ok_lowest T C D_lowest 
  have h_shared_divisor : Cal P w K mg base "shared_divisor" s_shared_divisor ["integers"] 1 (sp_shared_divisor K) _ d_shared_divisor := ok_shared_divisor T C D_shared_divisor 
  have h_shared_bottom : Cal P w K mg base "shared_bottom" s_shared_bottom ["bottoms"] 1 (sp_shared_bottom K) _ d_shared_bottom := ok_shared_bottom T C D_shared_bottom 
  have h_fault_in_integers : Cal P w K mg base "fault_in_integers" s_fault_in_integers ["count", "value"] 2 (sp_fault_in_integers K) _ d_fault_in_integers := ok_fault_in_integers T C D_fault_in_integers h_is_int h_shared_divisor
  have h_check_point : CalX P w K mg base "check_point" s_check_point ["size", "value"] 3 (sp_check_point K _) _ d_check_point := ok_check_point T C TP D_check_point h_fault_in_integers
  have h_check_row : CalX P w K mg base "check_row" s_check_row ["size", "value"] 3 (sp_check_row K _) _ d_check_row := ok_check_row T C TR D_check_row h_fault_in_integers
  have h_point_of : Cal P w K mg base "point_of" s_point_of ["numbers"] 2 (sp_point_of K) _ d_point_of := ok_point_of T C D_point_of h_shared_bottom
  have h_numbers_of : Cal P w K mg base "numbers_of" s_numbers_of ["point"] 2 (sp_numbers_of K) _ d_numbers_of := ok_numbers_of T C D_numbers_of h_lowest
  have h_law_begun : Cal P w K mg base "_law_begun" s_law_begun ["script", "k"] 1 (sp_law_begun K) _ d_law_begun := ok_law_begun T D_law_begun 
  have h_law_draw : Cal P w K mg base "_law_draw" s_law_draw ["m", "bound"] 1 (sp_law_draw K) _ d_law_draw := ok_law_draw T D_law_draw 
  have h_law_of : Cal P w K mg base "_law_of" s_law_of ["m", "some"] 2 (sp_law_of K) _ d_law_of := ok_law_of T D_law_of h_law_draw
  have h_law_like : Cal P w K mg base "_law_like" s_law_like ["told", "due"] 1 (sp_law_like K) _ d_law_like := ok_law_like T D_law_like 
  have h_law_common : Cal P w K mg base "_law_common" s_law_common ["numbers_so"] 1 (sp_law_common K) _ d_law_common := ok_law_common T C D_law_common 
  have h_law_lowered : Cal P w K mg base "_law_lowered" s_law_lowered ["numbers_so"] 2 (sp_law_lowered K) _ d_law_lowered := ok_law_lowered T C D_law_lowered h_law_common
  have h_law_fraction : Cal P w K mg base "_law_fraction" s_law_fraction ["top", "bottom"] 3 (sp_law_fraction K) _ d_law_fraction := ok_law_fraction T C D_law_fraction h_law_lowered
  have h_law_point : Cal P w K mg base "_law_point" s_law_point ["numbers_so", "bottom"] 3 (sp_law_point K) _ d_law_point := ok_law_point T C D_law_point h_law_lowered
  have h_law_joint : Cal P w K mg base "_law_joint" s_law_joint ["fractions"] 4 (sp_law_joint K) _ d_law_joint := ok_law_joint T C D_law_joint h_law_common h_law_point
  have h_law_odd_place : Cal P w K mg base "_law_odd_place" s_law_odd_place ["thing", "many"] 1 (sp_law_odd_place K) _ d_law_odd_place := ok_law_odd_place T C D_law_odd_place 
  have h_law_bottomed : Cal P w K mg base "_law_bottomed" s_law_bottomed ["thing", "many"] 2 (sp_law_bottomed K) _ d_law_bottomed := ok_law_bottomed T C D_law_bottomed h_law_odd_place h_law_common
  have h_law_judged_right : Cal P w K mg base "_law_judged_right" s_law_judged_right ["count", "thing"] 8 (sp_law_judged_right K (TTof K)) _ d_law_judged_right := ok_law_judged_right T C D_law_judged_right TP TR ne D_law_heard LTj h_law_bottomed h_check_row h_check_point h_law_like
  have h_law_thing : Cal P w K mg base "_law_thing" s_law_thing ["m", "count"] 3 (sp_law_thing K) _ d_law_thing := ok_law_thing T C D_law_thing h_law_draw h_law_lowered
  have h_law_bent : Cal P w K mg base "_law_bent" s_law_bent ["m", "thing"] 3 (sp_law_bent K) _ d_law_bent := ok_law_bent T C D_law_bent h_law_draw h_law_of
  have h_law_points_right : Cal P w K mg base "_law_points_right" s_law_points_right ["m", "count"] 5 (sp_law_points_right K) _ d_law_points_right := ok_law_points_right T C D_law_points_right h_law_fraction h_law_draw h_law_joint h_law_like h_numbers_of h_point_of
  have h_law_hand_right : Cal P w K mg base "_law_hand_right" s_law_hand_right [] 9 (sp_law_hand_right K (TTof K)) _ d_law_hand_right := ok_law_hand_right T C D_law_hand_right TP TR ne D_law_heard LTh h_law_judged_right h_check_row h_check_point h_law_like
  have h_law : Cal P w K mg base "law" s_law ["script"] 12 (sp_law K (TTof K)) _ d_law := ok_law T C D_law h_law_hand_right h_law_begun h_law_draw h_law_thing h_law_bent h_law_points_right h_law_judged_right
  exact h_law.G
end V1
set_option Elab.async false
set_option linter.all false
set_option maxRecDepth 100000
set_option maxHeartbeats 0
open PySem PySem.W PySem.Calls PyProof.Rows
theorem PySem.Challenge.cw_everyfont_k01_points_and_rows_judged_holds : PySem.Challenge.rw_everyfont_k01_points_and_rows_judged.Holds := by
  w_on; o_law
  refine HandSHeadRun.head_imp (r := OpenLaw.row PySem.Challenge.rw_everyfont_k01_points_and_rows_judged) (q := V1.qM) (H := V1.hkM) (ob := V1.obM) (M := 4000) (loose := V1.looseM) (d := HandSHeadRun.topDef (OpenLaw.row PySem.Challenge.rw_everyfont_k01_points_and_rows_judged).prog 36) (kwd := []) V1.obM_eq
    V1.runM (by kernel_rfl) (by kernel_rfl) (by kernel_rfl) (by rfl) (by first | assumption | decide +kernel) (by decide +kernel) ⟨rfl, rfl, rfl, rfl, rfl, by decide +kernel⟩ ?hw ?hc
  case hw => w_witness2
  case hc =>
    refine V1.walkGT (l := PySem.Challenge.rw_everyfont_k01_points_and_rows_judged) (n := 63) (k := 12) (x := "script") rfl (by decide) (by kernel_rfl) ⟨rfl, by decide, by decide⟩ ?F
    intro w mg fa h Y G hmg0
    obtain ⟨K, KX, c⟩ := Y
    have c : He.SaysX V1.faH V1.fnH [] V1.tfH V1.obsB w h K := c
    have hmg : mg ("law" : PySem.Str) = some (.ref fa) := by
      have e : (HandSHeadRun.topDef (OpenLaw.row PySem.Challenge.rw_everyfont_k01_points_and_rows_judged).prog 36).name = ("law" : PySem.Str) := by kernel_rfl
      rw [← e]
      exact hmg0
    obtain ⟨fd, hb, hF⟩ := V1.all_ok (P := (PySem.Challenge.rw_everyfont_k01_points_and_rows_judged).prog) (w := w) KX G hmg c
    have mt : ∀ p ∈ [V1.cJ K, V1.cH K], ∃ q ∈ V1.tfH, p = He.cT K q := fun p hp => by
      simp only [List.mem_cons, List.not_mem_nil, or_false] at hp
      rcases hp with rfl | rfl
      · exact ⟨_, by simp [V1.tfH], rfl⟩
      · exact ⟨_, by simp [V1.tfH], rfl⟩
    refine ⟨K, fd, V1.sp_law K (V1.TTof K), [V1.cJ K, V1.cH K], KX, ⟨fun p hp => ?_, fun p hp => ?_, fun p hp => ?_⟩, hb, fun H a ns hl ht hS => ⟨a, ns, rfl, hl, hS, fun p hp => ?_, fun _ => rfl⟩, fun base _ _ TB => hF base TB⟩
    · obtain ⟨q, hq, rfl⟩ := mt p hp
      exact c.empty q hq
    · obtain ⟨q, hq, rfl⟩ := mt p hp
      exact c.out q hq
    · obtain ⟨q, hq, rfl⟩ := mt p hp
      exact PySem.W.codeHd_of_K KX (c.hd q hq)
    · have e : H p.1 = some (.tbl #[]) := by
        simp only [V1.TTof, List.mem_cons, List.not_mem_nil, or_false] at hp
        rcases hp with rfl | rfl
        · exact ht (V1.cJ K) (by simp)
        · exact ht (V1.cH K) (by simp)
      exact ⟨#[], e, V1.trip0, fun pos cv hc => by simp [codeAmong] at hc⟩
