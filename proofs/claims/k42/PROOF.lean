import PyProof.Rows.All
import Wide.All
import OpenK.AllK
import Wide.FinOn
import KE.KMathGC
import KE.GoesEnum
import PyProof.ReprRoads
import HandS.ForMost
import HandS.Zip
import HandS.Wide
import HandS.Gcd
import HandS.TupAny
import HandS.HeadEnd
import HandS.HeadHook2
import HandS.IsInst
import KE.DataMinMax
import HandS.SortKw
import HandS.More
import HandS.NoneIn
import HandS.TupMul
import HandS.Conv
import KE.DataCmp
import HandS.Words
import HandS.Defaults
import HandS.Head0
import HandS.Head1
import HandS.Head2
import HandS.HeadHook1
import HandS.HeadHook3
import PySem.Challenge.RW_everyfont_k42_whole_plain_forms
set_option Elab.async false
set_option linter.all false
set_option maxRecDepth 100000
set_option maxHeartbeats 4000000
/-! The hand layer with the running guards told (repr asks them); zip and enumerate over lists and tuples alike; repr of data; lcm; a list's item read for an augmented store. -/
namespace V1
open PySem PySem.Spec PyProof.Rows L2

/-- a def's promise where no guarded built-in runs further out -/
structure FnG (P : Program) (w : World) (K : PySem.W.Frag) (mg : Str → Option Value) (base : Heap) (k : Nat) (f : Addr) (fd : FuncData) (ps : List Str) (sp : Sp) : Prop where
  len : ∀ vs H Q E, sp vs H Q E → vs.length = ps.length
  run : ∀ (A : Around) (outer : List Env) (s : Shared) (H : Hp) (args : Args) (us : List Value) (vs : List V) (Q : VK) (E : XK), A.guards = some [] → Room k A →
    Env0 P w K mg base A outer s H → BindsTo s fd args (ps.zip us) → Vals vs us → sp vs H Q E → codeAny (model P w) A (.call (.ref f) args) (CR CX0 outer P w H s Q E) s
section
variable {P : Program} {w : World} {K : PySem.W.Frag} {mg : Str → Option Value} {base : Heap}
theorem FnG.mono {j k : Nat} {f : Addr} {fd : FuncData} {ps : List Str} {sp : Sp} (F : FnG P w K mg base j f fd ps sp) (h : j ≤ k) : FnG P w K mg base k f fd ps sp :=
  ⟨F.len, fun A outer s H args us vs Q E hg hr => F.run A outer s H args us vs Q E hg (hr.mono h)⟩
theorem okG {x qual : Str} {st : Stmt} {f : Addr} {fd : FuncData} {N ps : List Str} {k : Nat} {sp : Sp} (F : Fun K x qual st f fd) (S : FnScope N ps (defScope st)) (hlen : ∀ vs H Q E, sp vs H Q E → vs.length = ps.length)
    (bd : ∀ (cdv : Value) (A : Around) (outer : List Env) (s : Shared) (H : Hp) (vs : List V) (Q : VK) (E : XK), A.guards = some [] → Room k (A.deeper (envOfC qual (defScope st) s.heap.objs.size f cdv)) → sp vs H Q E →
      ∃ t, PSs (cxOf CX0 P w K mg base N qual (defScope st) f cdv A outer s H E).nox (defBody st) t ∧ t { nx := fun _ H' => Q .non H', rt := Q } (start N vs) H) : FnG P w K mg base (k + 1) f fd ps sp := by
  obtain ⟨oc, od, kV, doc, pm, an, cdv, ct, osl, rfl, lk, hcd⟩ := F.ex
  refine ⟨hlen, fun A outer s H args us vs Q E hgd hr e0 hb r hs0 => ?_⟩
  have ll := hlen _ _ _ _ hs0
  have kin : K.In s.heap := e0.mod.kin.keeps (fun b o z => (e0.bs b o z).1)
  have nl : s.heap.NoLimit := e0.mod.nolimit.keeps (fun b o z => (e0.bs b o z).1)
  refine codeAny_call_function hr.depth (kin _ _ lk) rfl S.co S.gen rfl (PySem.W.codeRec_of kin hcd) (hb _ _ _ _ ?_)
  refine wpAny_newFunctionEnv_cells S.kind (fun ⟨n, v⟩ hy => ?_) (fun env he s1 x => ?_)
  · rcases S.par n (List.of_mem_zip hy).1 with q | q
    · exact Or.inl q
    · exact Or.inr ⟨q, PySem.W.cellsFrom_some _ _ _ (Or.inl q)⟩
  subst he
  refine ⟨nl.keeps x.toInCall.keep, codeAny_func ?_⟩
  obtain ⟨t, ht, hq⟩ := bd cdv A outer s H vs Q E hgd (hr.deeper _) hs0
  have I := inv_start (CX := CX0) (E := E) S hr.hd e0 ll r x
  refine wpAny_mono (ht.nox.run [] s1 (start N vs) H _ I hq) (fun fl s2 z => ?_) (fun e s2 z => z)
  cases fl with
  | ret u =>
    obtain ⟨v, σ2, H2, J, rv, q⟩ := z
    exact ⟨v, H2, J.os, J.bare, J.base, J.hok, rv, q⟩
  | next =>
    obtain ⟨σ2, H2, J, q⟩ := z
    exact ⟨V.non, H2, J.os, J.bare, J.base, J.hok, rfl, q⟩
  | brk =>
    obtain ⟨_, _, _, q⟩ := z
    exact q.elim
  | cont =>
    obtain ⟨_, _, _, q⟩ := z
    exact q.elim
end
/-- the guards reach a def's body -/
theorem gd_of {P : Program} {w : World} {K : PySem.W.Frag} {mg : Str → Option Value} {base : Heap} {N : List Str} {q : Str} {sc : Scope} {f : Addr} {cd : Value} {A : Around} {outer : List Env} {s : Shared} {H : Hp} {E : XK} (h : A.guards = some []) :
    (cxOf CX0 P w K mg base N q sc f cd A outer s H E).nox.A.guards = some [] := h
section
variable {X : Cx} {k : Nat} {f : Addr} {fd : FuncData} {ps ks : List Str} {sp : Sp} {E : XK} {x : Str} {p pos : Pos} {e : Expr} {es : List Expr} {kws : List Keyword} {t tk : TA} {g : List Value → List Value → List Value} {gV : List V → List V → List V}
theorem fall {pins : List (Addr × Obj)} {σ : L2.St} {H : Hp} {s : Shared} (I : L2.Inv X pins σ H s) {Q : VK} {r : Result} {s2 : Shared} (hq : CR CX0 X.stack X.prog X.w H s Q E r s2) : ∃ u, r = .ok (.ret u) ∧ EP X pins σ Q u s2 := by
  cases r with
  | error z => exact False.elim hq
  | ok fl =>
    cases fl with
    | ret u => exact ⟨u, rfl, I.after hq⟩
    | next => exact False.elim hq
    | brk => exact False.elim hq
    | cont => exact False.elim hq
theorem runG {pins : List (Addr × Obj)} {σ : L2.St} {H : Hp} {s : Shared} {Q : VK} {us : List Value} {vs : List V} (F : FnG X.prog X.w X.K X.mg X.base k f fd ps sp) (hgd : X.A.guards = some []) (hr : Room k X.A) (hb : Binds X.K fd ps [])
    (I : L2.Inv X pins σ H s) (r : Vals vs us) (h : sp vs H Q E) : wpAny (model X.prog X.w) X.A (call (.ref f) us) (EP X pins σ Q) X.xe s := by
  have hl : (us ++ []).length = ps.length := by rw [List.append_nil, ← r.length]; exact F.len _ _ _ _ h
  have hb2 := hb s us I.kIn hl
  rw [List.append_nil] at hb2
  refine wpAny_call (codeAny_mono (F.run X.A X.stack s H ⟨us, []⟩ us vs Q E hgd hr I.env0 hb2 r h) fun r2 s2 hq => ?_)
  obtain ⟨u, rfl, z⟩ := fall I hq
  exact z
theorem runGk {pins : List (Addr × Obj)} {σ : L2.St} {H : Hp} {s : Shared} {Q : VK} {us ws : List Value} {vs zs : List V} (F : FnG X.prog X.w X.K X.mg X.base k f fd ps sp) (hgd : X.A.guards = some []) (hr : Room k X.A) (hb : KBinds X.K fd ps ks g gV)
    (I : L2.Inv X pins σ H s) (r : Vals vs us) (rz : Vals zs ws) (h : sp (gV vs zs) H Q E) : wpAny (model X.prog X.w) X.A (call (.ref f) us (ks.zip ws)) (EP X pins σ Q) X.xe s := by
  have r2 := hb.rel r rz
  have hl : (g us ws).length = ps.length := by rw [← r2.length]; exact F.len _ _ _ _ h
  refine wpAny_call (codeAny_mono (F.run X.A X.stack s H ⟨us, ks.zip ws⟩ (g us ws) (gV vs zs) Q E hgd hr I.env0 (hb.to s us ws I.kIn hl) r2 h) fun r3 s2 hq => ?_)
  obtain ⟨u, rfl, z⟩ := fall I hq
  exact z
theorem pe_fn (F : FnG X.prog X.w X.K X.mg X.base k f fd ps sp) (hgd : X.A.guards = some []) (hr : Room k X.A) (hg : Gl X x) (hm : X.mg x = some (.ref f)) (hk : PySem.W.keepIn X.K (.ref f) = true) (hb : Binds X.K fd ps [])
    (ha : PA X (e :: es) t) (hdb : (x == ("__debug__" : Str)) = false := by decide) (he : starEach (e :: es) X.env = (false, eval e X.env) :: starEach es X.env := by rfl) (hpl : (backTo pos (starEach es X.env)).any (·.1) = false := by rfl) :
    PE X (.Call (.Name x p) (e :: es) [] pos) (tCall sp [] E t) := by
  refine ⟨fun pins s σ H Q I h => ?_⟩
  refine wpAny_Call_Name_kw (ld_glob I hg hm ?_ hdb)
  refine PySem.W.callWith_K (h₀ := X.base) I.ok.mod.kin hk (thn (ha.run pos pins s σ H _ I h) fun us s1 ⟨vs, H1, I1, r, q⟩ => ⟨I1.kIn, ?_⟩) he hpl
  have q2 : sp (vs ++ []) H1 Q E := q
  rw [List.append_nil] at q2
  exact runG F hgd hr hb I1 r q2
theorem pe_fn0 (F : FnG X.prog X.w X.K X.mg X.base k f fd ps sp) (hgd : X.A.guards = some []) (hr : Room k X.A) (hg : Gl X x) (hm : X.mg x = some (.ref f)) (hk : PySem.W.keepIn X.K (.ref f) = true) (hb : Binds X.K fd ps [])
    (hdb : (x == ("__debug__" : Str)) = false := by decide) : PE X (.Call (.Name x p) [] [] pos) (tCall sp [] E tNil) := by
  refine ⟨fun pins s σ H Q I h => ?_⟩
  refine wpAny_Call_Name_kw (ld_glob I hg hm ?_ hdb)
  exact PySem.W.callWith_K0 I.kIn hk (runG (us := []) F hgd hr hb I .nil h)
/-- f(k = v, ..), keywords alone -/
theorem pe_fnk (F : FnG X.prog X.w X.K X.mg X.base k f fd ps sp) (hgd : X.A.guards = some []) (hr : Room k X.A) (hg : Gl X x) (hm : X.mg x = some (.ref f)) (hk : PySem.W.keepIn X.K (.ref f) = true) (hb : KBinds X.K fd ps ks g gV)
    (hkw : PK X kws tk) (hall : (backToKw pos (keywordEach kws X.env)).all (·.1.isSome) = true := by rfl) (hks : (backToKw pos (keywordEach kws X.env)).filterMap (·.1) = ks := by rfl)
    (hdb : (x == ("__debug__" : Str)) = false := by decide)
    (hpl : ((backTo pos (starEach [] X.env)).any (·.1) || (backToKw pos (keywordEach kws X.env)).any (·.1.isNone)) = false := by rfl) :
    PE X (.Call (.Name x p) [] kws pos) (tCallK sp gV E tNil tk) := by
  refine ⟨fun pins s σ H Q I h => ?_⟩
  refine wpAny_Call_Name_kw (ld_glob I hg hm ?_ hdb)
  refine PySem.W.callWith_KW0 (h₀ := X.base) I.ok.mod.kin hk hall ?_ hpl
  refine thn (hkw.run pos pins s σ H _ I h) fun ws s2 ⟨zs, H2, I2, rz, q2⟩ => ⟨I2.kIn, ?_⟩
  rw [hks]
  exact runGk (us := []) F hgd hr hb I2 .nil rz q2
end

/-! ### repr of data, lcm, a list's item read -/
section
variable {X : Cx}
def rRepr (K : PySem.W.Frag) : List V → Hp → VK → Prop := fun vs H Q => ∃ (a : Addr) (d : PyData), vs = [.ref a] ∧ Dp K H (.ref a) d ∧ d.showable = true ∧ d.hasDict = false ∧ d.depth ≤ 60 ∧ d.shown.length ≤ sizeLine ∧ Q (.str d.shown) H
theorem call_repr (hgd : X.A.guards = some []) (hu : X.A.units + 64 < cLine) : CallR X (.builtin "repr") (rRepr X.K) := by
  intro pins s σ H vs us Q I r h
  obtain ⟨a, d, rfl, hd, h1, h2, h3, h4, q⟩ := h
  cases r with
  | cons r rr =>
    cases rr
    obtain rfl := r
    obtain ⟨as, rd⟩ := Dp.reads I d _ _ hd rfl
    refine repr_of_reads' (h₀ := s.heap) rd h1 (PyData.noDict_hsm h2) hgd (by omega) (fun _ _ z => z) (fun h' u tk hk => ?_) h4
    exact ⟨.str _, H, I.kept (t' := tk) hk, ⟨_, rfl⟩, q⟩
def rLcm : List V → Hp → VK → Prop := fun vs H Q => ∃ a b : Int, vs = [.int a, .int b] ∧ a.natAbs < 2 ^ 64 ∧ b.natAbs < 2 ^ 64 ∧ Q (.int ((Nat.lcm a.natAbs b.natAbs : Nat) : Int)) H
theorem call_lcm : CallR X (.builtin "math.lcm") rLcm := by
  intro pins s σ H vs us Q I r h
  obtain ⟨a, b, rfl, h1, h2, q⟩ := h
  obtain ⟨t, u, rfl⟩ := Vals.int2 r
  exact PySem.W.mc_lcm h1 h2 fun _ => ⟨.int _, H, I.tok _, ⟨_, rfl⟩, q⟩
theorem pget_list : PGet X (rIxL X.K) := by
  intro pins s σ H x y v u Q I rx ry h
  obtain ⟨p, xs, i, z, rfl, rfl, hq, he, q⟩ := h
  cases rx
  obtain ⟨t, rfl⟩ := ry
  obtain ⟨its, r, pl, hz⟩ := I.list hq
  obtain ⟨j, h1, h2, h3, h4, h5⟩ := atI_get he
  obtain ⟨w, ew, rw1⟩ := r.get h2
  have hl := r.length
  have hn := line63
  have last : EP X pins σ Q w s := ⟨z, H, I, rw1, q⟩
  by_cases h0 : 0 ≤ i
  · have hj : i.toNat = j := by
      rw [seqIndex_of h0 h5] at h1
      exact Option.some.inj h1
    exact wpAny_getItem_list pl.isList h0 (by omega) (by rw [hj]; simpa using ew) last
  · have hj : (i + (its.toArray.size : Int)).toNat = j := by
      rw [seqIndex_neg (by omega) h4] at h1
      rw [List.size_toArray, ← hl]
      exact Option.some.inj h1
    exact wpAny_getItem_list_neg pl.isList (by omega) (by rw [List.size_toArray] <;> omega) (by omega) (by rw [hj]; simpa using ew) last
end

/-! ### zip, enumerate: lists and tuples in any mix -/
/-- a list (true) or a tuple (false) -/
def Sq (K : PySem.W.Frag) : Bool → Hp → Addr → List V → Prop
  | true => SqL K
  | false => SqT K
def HSq (h : Heap) : Bool → Addr → Array Value → Prop
  | true => h.IsList
  | false => h.IsTuple
def HIt (h : Heap) : Bool → Addr → Addr → Nat → Prop
  | true => h.IsListIter
  | false => h.IsTupleIter
def itO : Bool → Addr → Obj
  | true, l => { cls := .type "list_iterator", data := .fields #[.ref l, .int 0 0] }
  | false, l => { cls := .type "tuple_iterator", data := .fields #[.ref l, .int 0 0] }
theorem hit_at {h h' : Heap} {k : Bool} {it a : Addr} {i : Nat} (x : HIt h k it a i) (e : ∀ o, h.get? it = some o → h'.get? it = some o) : HIt h' k it a i := by
  cases k with
  | true => exact Heap.IsListIter.at x e
  | false => exact Heap.IsTupleIter.at x e
theorem hit_obj {h : Heap} {k : Bool} {it a : Addr} {i : Nat} (x : HIt h k it a i) : ∃ o, h.get? it = some o ∧ ∀ v, o.data ≠ .cell v := by
  cases k with
  | true => obtain ⟨o, e, _, d⟩ := x; exact ⟨o, e, fun v z => by rw [d] at z; cases z⟩
  | false => obtain ⟨o, e, _, d⟩ := x; exact ⟨o, e, fun v z => by rw [d] at z; cases z⟩
theorem hit_0 {h : Heap} {k : Bool} {it a : Addr} (x : h.get? it = some (itO k a)) : HIt h k it a 0 := by
  cases k with
  | true => exact ⟨_, x, rfl, rfl⟩
  | false => exact ⟨_, x, rfl, rfl⟩
theorem bgn (k : Bool) (a : Addr) (items : Array Value) : Begins (.ref a) (itO k a) fun h => HSq h k a items := by
  cases k with
  | true => exact begins_list a items
  | false => exact begins_tuple a items
theorem drw {prog : Program} {w : World} {A : Around} (hh : A.handled = none) (k : Bool) (it a : Addr) (ne : a ≠ it) (items : Array Value) :
    Draws prog w A it [it, a] items.size (fun i v => items[i]? = some v) (fun i h => HIt h k it a i ∧ HSq h k a items) := by
  cases k with
  | true => exact Draws.list hh it a ne items
  | false => exact Draws.tuple hh it a ne items
section
variable {X : Cx} {pins : List (Addr × Obj)} {σ : L2.St} {H : Hp} {s : Shared} {k : Bool} {a : Addr} {xs ys : List V}
theorem inv_sq (I : L2.Inv X pins σ H s) (h : Sq X.K k H a xs) : ∃ its : List Value, Vals xs its ∧ HSq s.heap k a its.toArray ∧ a < s.heap.objs.size := by
  cases k with
  | true =>
    obtain ⟨its, r, p, _⟩ := I.list h
    exact ⟨its, r, p.isList, p.lt⟩
  | false =>
    obtain ⟨its, r, p, _⟩ := I.tuple h
    exact ⟨its, r, p, p.lt⟩
theorem sq_inj (I : L2.Inv X pins σ H s) (h : Sq X.K k H a xs) (h' : Sq X.K k H a ys) : xs = ys := by
  cases k with
  | true => exact I.list_inj h h'
  | false => exact I.tuple_inj h h'
end
/-- what zip walks -/
def ItP (K : PySem.W.Frag) (k1 : Bool) (a : Addr) (k2 : Bool) (b : Addr) : It :=
  ⟨fun i H => ∃ xs ys x y, Sq K k1 H a xs ∧ Sq K k2 H b ys ∧ xs[i]? = some x ∧ ys[i]? = some y,
   fun i H v H' => ∃ T x y, v = V.ref T ∧ H T = none ∧ H' = upd H T (.tup [x, y]) ∧ (∀ l, Sq K k1 H a l → l[i]? = some x) ∧ ∀ l, Sq K k2 H b l → l[i]? = some y,
   fun i H => ∃ xs ys, Sq K k1 H a xs ∧ Sq K k2 H b ys ∧ i ≤ xs.length ∧ i ≤ ys.length ∧ (i = xs.length ∨ i = ys.length)⟩
theorem turn_zipP {P : Program} {w : World} {K : PySem.W.Frag} {elts : List Expr} {kk : Nat} {tpos : Pos} {k1 k2 : Bool} {a b z TI TO i1 i2 : Addr} (S : ZipSep2 z TI TO i1 i2 [i1, a] [i2, b]) (n1 : a ≠ i1) (n2 : b ≠ i2) :
    Turn P w K (.Tuple elts kk tpos) (ItP K k1 a k2 b) [z, TI, TO, i1, i2] z (fun i h => IsZip h z TI TO .none ∧ IsTupOf2 h TI (.ref i1) (.ref i2) ∧ (∃ x y, IsTupOf2 h TO x y) ∧ HIt h k1 i1 a i ∧ HIt h k2 i2 b i) where
  mem := by simp
  obj := fun i h st c hc => by
    obtain ⟨hz, hTI, ⟨x, y, hTO⟩, h1, h2⟩ := st
    have e' : c = z ∨ c = TI ∨ c = TO ∨ c = i1 ∨ c = i2 := by simpa using hc
    rcases e' with rfl | rfl | rfl | rfl | rfl
    · exact ⟨_, hz, fun v q => nomatch q⟩
    · exact ⟨_, hTI, fun v q => nomatch q⟩
    · exact ⟨_, hTO, fun v q => nomatch q⟩
    · exact hit_obj h1
    · exact hit_obj h2
  keep := fun i h h' st q => by
    obtain ⟨hz, hTI, ⟨x, y, hTO⟩, h1, h2⟩ := st
    exact ⟨q z (by simp) _ hz, q TI (by simp) _ hTI, ⟨x, y, q TO (by simp) _ hTO⟩, hit_at h1 fun o u => q i1 (by simp) o u, hit_at h2 fun o u => q i2 (by simp) o u⟩
  item := by
    intro X hP hw hK hc i pins s σ H E I hf st hg
    subst hP hw hK
    obtain ⟨hz, hTI, ⟨x0, y0, hTO⟩, h1, h2⟩ := st
    obtain ⟨xs, ys, x, y, hqx, hqy, hx, hy⟩ := hg
    obtain ⟨its, rv, p, _⟩ := inv_sq I hqx
    obtain ⟨its2, rv2, p2, _⟩ := inv_sq I hqy
    obtain ⟨u, hu, ru⟩ := rv.get hx
    obtain ⟨u2, hu2, ru2⟩ := rv2.get hy
    have hh : X.A.in1.handled = none := I.ok.hd hc
    have hzl : z < s.heap.objs.size := Heap.lt_size hz
    have lt1 : i < its.toArray.size := by rw [List.size_toArray]; exact (List.getElem?_eq_some_iff.mp hu).1
    have lt2 : i < its2.toArray.size := by rw [List.size_toArray]; exact (List.getElem?_eq_some_iff.mp hu2).1
    refine wpAny_pyNext_zipD2_item S (drw hh k1 i1 a n1 its.toArray) (drw hh k2 i2 b n2 its2.toArray) hz hTI hTO ⟨h1, p⟩ ⟨h2, p2⟩ lt1 lt2 fun v1 v2 h' tk e1 e2 hz' hTO' st1 st2 hT hsz hk => ?_
    obtain rfl : v1 = u := by
      have z1 : its.toArray[i]? = some v1 := e1
      simp at z1
      rw [hu] at z1
      exact (Option.some.inj z1).symm
    obtain rfl : v2 = u2 := by
      have z2 : its2.toArray[i]? = some v2 := e2
      simp at z2
      rw [hu2] at z2
      exact (Option.some.inj z2).symm
    refine ⟨_, rfl, wpAny_letOwnedTupleGo_zip (s := { s with heap := h', toks := tk }) hz' fun h'' hz'' sb => ?_⟩
    have hT2 : h''.get? s.heap.objs.size = some { cls := .type "tuple", data := .seq #[v1, v2] } := (sb.2 _ (Nat.ne_of_gt hzl)).trans hT
    have new : ObjOk X.prog X.w (upd H s.heap.objs.size (.tup [x, y])) h'' s.heap.objs.size (.tup [x, y]) :=
      ⟨by show 2 ≤ sizeLine; decide, [v1, v2], .cons ru (.cons ru2 .nil), ⟨_, hT2, rfl, _, rfl⟩⟩
    have I1 : L2.Inv X pins σ (upd H s.heap.objs.size (.tup [x, y])) { s with heap := h'', toks := tk } :=
      I.turnedNew (t' := tk) (ch := [z, TI, TO, i1, i2]) (fun c o hb q => (sb.2 c (fun q1 => hb (by simp [q1]))).trans (hk c o (fun q1 => hb (by simp [q1])) (fun q1 => hb (by simp [q1])) (fun q1 => hb (by simp [q1])) (fun q1 => hb (by simp [q1])) q)) hf (Nat.le_refl _) new
    refine ⟨.ref s.heap.objs.size, _, I1, rfl, ⟨_, x, y, rfl, I.hok.fresh (Nat.le_refl _), rfl, fun l hl => by rw [sq_inj I hl hqx]; exact hx, fun l hl => by rw [sq_inj I hl hqy]; exact hy⟩, ⟨hz'', ?_, ⟨v1, v2, ?_⟩, ?_, ?_⟩, fun c hcm => ?_⟩
    · exact (sb.2 _ S.TIz).trans (hk _ _ S.TIz S.TITO S.TIi1 S.TIi2 hTI)
    · exact (sb.2 _ S.TOz).trans hTO'
    · exact hit_at st1.1 fun o q => (sb.2 _ S.zi1.symm).trans q
    · exact hit_at st2.1 fun o q => (sb.2 _ S.zi2.symm).trans q
    · have hlt : c < s.heap.objs.size := by
        have e' : c = z ∨ c = TI ∨ c = TO ∨ c = i1 ∨ c = i2 := by simpa using hcm
        rcases e' with rfl | rfl | rfl | rfl | rfl
        · exact hzl
        · exact Heap.lt_size hTI
        · exact Heap.lt_size hTO
        · obtain ⟨_, q, _⟩ := hit_obj h1; exact Heap.lt_size q
        · obtain ⟨_, q, _⟩ := hit_obj h2; exact Heap.lt_size q
      rw [upd_ne (Nat.ne_of_lt hlt)]
      exact (hf c hcm).1
  done := by
    intro X hP hw hK hc i pins s σ H E I hf st hg
    subst hP hw hK
    obtain ⟨hz, hTI, ⟨x0, y0, hTO⟩, h1, h2⟩ := st
    obtain ⟨xs, ys, hqx, hqy, l1, l2, hend⟩ := hg
    obtain ⟨its, rv, p, _⟩ := inv_sq I hqx
    obtain ⟨its2, rv2, p2, _⟩ := inv_sq I hqy
    have m1 := rv.length
    have m2 := rv2.length
    have hh : X.A.in1.handled = none := I.ok.hd hc
    refine wpAny_pyNext_zipD2_end S (drw hh k1 i1 a n1 its.toArray) (drw hh k2 i2 b n2 its2.toArray) hz hTI hTO ⟨h1, p⟩ ⟨h2, p2⟩ (by rw [List.size_toArray] <;> omega) (by rw [List.size_toArray] <;> omega) (by rw [List.size_toArray, List.size_toArray] <;> omega) fun h' tk hk => ?_
    exact ⟨rfl, I.turnedL (t' := tk) (ch := [z, TI, TO, i1, i2]) (fun c o hb q => hk c o (fun q1 => hb (by simp [q1])) (fun q1 => hb (by simp [q1])) (fun q1 => hb (by simp [q1])) (fun q1 => hb (by simp [q1])) q) hf⟩
  self := fun A i s Q E st h => wpAny_pyIter_zip st.1 h
def iZipP (K : PySem.W.Frag) (k1 k2 : Bool) (ta : TA) : TI := fun σ H R => ta σ H fun vs H1 => ∃ a b xs ys, vs = [.ref a, .ref b] ∧ Sq K k1 H1 a xs ∧ Sq K k2 H1 b ys ∧ R (ItP K k1 a k2 b) H1
theorem pi_zipP {X : Cx} {e e2 : Expr} {ta : TA} {p pos tpos : Pos} {elts : List Expr} {kk : Nat} (k1 k2 : Bool) (hg : Gl X "zip") (hm : X.mg "zip" = none) (ha : PA X [e, e2] ta)
    (hs : starEach [e, e2] X.env = (false, eval e X.env) :: starEach [e2] X.env := by rfl) (hpl : (backTo pos (starEach [e2] X.env)).any (·.1) = false := by rfl) :
    PI X (.Tuple elts kk tpos) (.Call (.Name "zip" p) [e, e2] [] pos) (iZipP X.K k1 k2 ta) := by
  refine ⟨fun pins s σ H R I h => ?_⟩
  refine Call_ (ld_blt I hg hm PyProof.Rows.boot_zip (PyProof.Rows.callWith_type1 (thn (ha.run pos pins s σ H _ I h) fun us s1 ⟨vs, H1, I1, r1, q1⟩ => ?_) hs hpl))
  obtain ⟨a, b, xs, ys, rfl, hqx, hqy, q⟩ := q1
  cases r1 with
  | cons r rr =>
    cases rr with
    | cons r' rr =>
      cases rr
      obtain rfl := r
      obtain rfl := r'
      obtain ⟨its, rv, p1, la⟩ := inv_sq I1 hqx
      obtain ⟨its2, rv2, p2, lb⟩ := inv_sq I1 hqy
      refine zip_begins2 (bgn k1 a its.toArray) (bgn k2 b its2.toArray) p1 p2 fun h' hz hTI hTO g1 g2 hsz hk => wpAny_pyIter_zip hz ?_
      have I2 : L2.Inv X pins σ H1 { s1 with heap := h' } := I1.kept (t' := s1.toks) hk
      refine ⟨s1.heap.objs.size + 4, [s1.heap.objs.size + 4, s1.heap.objs.size + 2, s1.heap.objs.size + 3, s1.heap.objs.size, s1.heap.objs.size + 1], _, _, H1, rfl, I2,
        turn_zipP (k1 := k1) (k2 := k2) (zip_sep2 (fp1 := [a]) (fp2 := [b]) (by simpa using la) (by simpa using lb)) (Nat.ne_of_lt la) (Nat.ne_of_lt (Nat.lt_succ_of_lt lb)), ⟨hz, hTI, ⟨_, _, hTO⟩, hit_0 g1, hit_0 g2⟩, fun c hcm => ?_, q⟩
      have hle : s1.heap.objs.size ≤ c := by
        have e' : c = s1.heap.objs.size + 4 ∨ c = s1.heap.objs.size + 2 ∨ c = s1.heap.objs.size + 3 ∨ c = s1.heap.objs.size ∨ c = s1.heap.objs.size + 1 := by simpa using hcm
        have n0 := Nat.le_refl s1.heap.objs.size
        rcases e' with rfl | rfl | rfl | rfl | rfl
        · exact Nat.le_add_right _ _
        · exact Nat.le_add_right _ _
        · exact Nat.le_add_right _ _
        · exact n0
        · exact Nat.le_add_right _ _
      exact I1.fpOk hle (I1.hok.fresh hle)

/-! enumerate -/
set_option maxHeartbeats 1000000 in
theorem meets_enum1 {v : Value} {o : Obj} {Hh : Heap → Prop} (B : Begins v o Hh) :
    Meets (Builtin.«enumerate.__new__» ⟨[.type "enumerate", v], []⟩) (fun _ R s => Hh s.heap ∧
      R (.ok (.ret (.ref (s.heap.push o).objs.size))) { s with heap := (s.heap.push o).push { cls := .type "enumerate", data := .fields #[.none, .bool false, .ref s.heap.objs.size, rawInt 0, .none, .none] } }) :=
  .of_wp fun prog w A R s h => by
    obtain ⟨hp, g, d, tk, os⟩ := s; obtain ⟨h1, h⟩ := h
    have hsub := sub_enumerate
    have it1 : ∀ {A' : Around} {E : Value → Shared → Prop} {Q : Value → Shared → Prop}, Q (.ref hp.objs.size) ⟨hp.push o, g, d, tk, os⟩ → wpAny (model prog w) A' (pyIter v) Q E ⟨hp, g, d, tk, os⟩ :=
      fun q => B.iter prog w _ _ ⟨hp, g, d, tk, os⟩ _ h1 q
    wp_walk using it1
    refine wpAny_stack_any fun st => wpAny_pure ?_
    split
    · rename_i c _ _ _ _ _
      cases (c == Value.type "enumerate")
      · wp_walk using it1
        exact ⟨_, rfl, h⟩
      · wp_walk using it1
        exact ⟨_, rfl, h⟩
    · wp_walk using it1
      exact ⟨_, rfl, h⟩
theorem enum_begins1 {prog : Program} {w : World} {A : Around} {E : Value → Shared → Prop} {s : Shared} {v : Value} {o : Obj} {Hh : Heap → Prop} {Q : Value → Shared → Prop} (B : Begins v o Hh) (h1 : Hh s.heap)
    (h : ∀ h', IsEnum h' (s.heap.objs.size + 1) s.heap.objs.size 0 .none → h'.get? s.heap.objs.size = some o → (∀ b o, s.heap.get? b = some o → h'.get? b = some o) → Q (.ref (s.heap.objs.size + 1)) { s with heap := h' }) :
    wpAny (model prog w) A (call (.type "enumerate") [v]) Q E s := by
  refine callType_new F.called_enumerate (by decide) (F.typeCall_enumerate_1 _) (F.newCall_enumerate_1 _) (fun obj => F.args_object_init_2 obj _) F.entry_enumerate_new (meets_enum1 B) ⟨h1, ?_⟩
  have hz : (s.heap.push o).objs.size = s.heap.objs.size + 1 := Heap.size_push ..
  show _ ∧ _
  rw [hz]
  have he : IsEnum ((s.heap.push o).push { cls := .type "enumerate", data := .fields #[.none, .bool false, .ref s.heap.objs.size, rawInt 0, .none, .none] }) (s.heap.objs.size + 1) s.heap.objs.size 0 .none := by
    have q := Heap.get?_push_size (s.heap.push o) (o := { cls := .type "enumerate", data := .fields #[.none, .bool false, .ref s.heap.objs.size, rawInt 0, .none, .none] }) rfl
    rw [hz] at q; exact q
  exact ⟨⟨_, he, rfl⟩, h _ he (Heap.get?_push_of_some _ (Heap.get?_push_size _ B.free)) fun b o x => Heap.get?_push_of_some _ (Heap.get?_push_of_some _ x)⟩
def ItE (K : PySem.W.Frag) (k : Bool) (a : Addr) : It :=
  ⟨fun i H => ∃ xs x, Sq K k H a xs ∧ xs[i]? = some x,
   fun i H v H' => ∃ T x, v = V.ref T ∧ H T = none ∧ H' = upd H T (.tup [.int (i : Nat), x]) ∧ ∀ l, Sq K k H a l → l[i]? = some x,
   fun i H => ∃ xs, Sq K k H a xs ∧ i = xs.length⟩
theorem turn_enumP {P : Program} {w : World} {K : PySem.W.Frag} {elts : List Expr} {kk : Nat} {tpos : Pos} {k : Bool} {a e it : Addr} (ne : e ≠ it) (na : a ≠ it) (nea : e ≠ a) :
    Turn P w K (.Tuple elts kk tpos) (ItE K k a) [e, it] e (fun i h => (∃ old, IsEnum h e it ((i : Nat) : Int) old) ∧ HIt h k it a i) where
  mem := by simp
  obj := fun i h st b hb => by
    obtain ⟨⟨old, he⟩, hi⟩ := st
    have e' : b = e ∨ b = it := by simpa using hb
    rcases e' with rfl | rfl
    · exact ⟨_, he, fun v q => nomatch q⟩
    · exact hit_obj hi
  keep := fun i h h' st q => by
    obtain ⟨⟨old, he⟩, hi⟩ := st
    exact ⟨⟨old, q e (by simp) _ he⟩, hit_at hi fun o u => q it (by simp) o u⟩
  item := by
    intro X hP hw hK hc i pins s σ H E I hf st hg
    subst hP hw hK
    obtain ⟨⟨old, he⟩, hit⟩ := st
    obtain ⟨xs, x, hq, hx⟩ := hg
    obtain ⟨its, rv, p, _⟩ := inv_sq I hq
    obtain ⟨u, hu, ru⟩ := rv.get hx
    have hh : X.A.in1.handled = none := I.ok.hd hc
    have hel : e < s.heap.objs.size := Heap.lt_size he
    have hil : it < s.heap.objs.size := by obtain ⟨_, q, _⟩ := hit_obj hit; exact Heap.lt_size q
    have lt1 : i < its.toArray.size := by rw [List.size_toArray]; exact (List.getElem?_eq_some_iff.mp hu).1
    refine wpAny_pyNext_enum_itemC (drw hh k it a na its.toArray) he ⟨hit, p⟩ lt1 ne (by simp [ne, nea]) fun v h' tk e1 ho st1 hT hsz hk => ?_
    obtain rfl : v = u := by
      have z1 : its.toArray[i]? = some v := e1
      simp at z1
      rw [hu] at z1
      exact (Option.some.inj z1).symm
    refine ⟨_, rfl, wpAny_letOwnedTupleGo_enum (s := { s with heap := h', toks := tk + 1 }) ho fun h'' he' sb => ?_⟩
    have hT2 : h''.get? s.heap.objs.size = some { cls := .type "tuple", data := .seq #[.int i tk, v] } := (sb.2 _ (Nat.ne_of_gt hel)).trans hT
    have new : ObjOk X.prog X.w (upd H s.heap.objs.size (.tup [.int (i : Nat), x])) h'' s.heap.objs.size (.tup [.int (i : Nat), x]) :=
      ⟨by show 2 ≤ sizeLine; decide, [.int i tk, v], .cons ⟨_, rfl⟩ (.cons ru .nil), ⟨_, hT2, rfl, _, rfl⟩⟩
    have I1 : L2.Inv X pins σ (upd H s.heap.objs.size (.tup [.int (i : Nat), x])) { s with heap := h'', toks := tk + 1 } :=
      I.turnedNew (ch := [e, it]) (fun b ob hb q => (sb.2 b (fun z => hb (by simp [z]))).trans (hk b ob (fun z => hb (by simp [z])) (fun z => hb (by simp [z])) q)) hf (Nat.le_refl _) new
    refine ⟨.ref s.heap.objs.size, _, I1, rfl, ⟨_, x, rfl, I.hok.fresh (Nat.le_refl _), rfl, fun l hl => by rw [sq_inj I hl hq]; exact hx⟩, ⟨⟨v, ?_⟩, hit_at st1.1 fun o q => (sb.2 it (Ne.symm ne)).trans q⟩, fun b hb => ?_⟩
    · have e1 : ((i + 1 : Nat) : Int) = (i : Int) + 1 := by omega
      rw [e1]; exact he'
    · have hb' : b < s.heap.objs.size := by
        have e' : b = e ∨ b = it := by simpa using hb
        rcases e' with rfl | rfl
        · exact hel
        · exact hil
      rw [upd_ne (Nat.ne_of_lt hb')]
      exact (hf b hb).1
  done := by
    intro X hP hw hK hc i pins s σ H E I hf st hg
    subst hP hw hK
    obtain ⟨⟨old, he⟩, hit⟩ := st
    obtain ⟨xs, hq, hx⟩ := hg
    obtain ⟨its, rv, p, _⟩ := inv_sq I hq
    have m1 := rv.length
    have hh : X.A.in1.handled = none := I.ok.hd hc
    have hi2 : i = its.toArray.size := by rw [List.size_toArray]; omega
    refine wpAny_pyNext_enum_endD (drw hh k it a na its.toArray) he (by rw [← hi2]; exact ⟨hit, p⟩) fun h' hk => ⟨rfl, I.turnedL (t' := s.toks) (ch := [e, it]) (fun c o hb q => hk c o (fun q1 => hb (by simp [q1])) q) hf⟩
  self := fun A i s Q E st h => let ⟨⟨_, he⟩, _⟩ := st; wpAny_pyIter_enum he h
def iEnumP (K : PySem.W.Frag) (k : Bool) (ta : TA) : TI := fun σ H R => ta σ H fun vs H1 => ∃ a xs, vs = [.ref a] ∧ Sq K k H1 a xs ∧ R (ItE K k a) H1
theorem pi_enumP {X : Cx} {e : Expr} {ta : TA} {p pos tpos : Pos} {elts : List Expr} {kk : Nat} (k : Bool) (hg : Gl X "enumerate") (hm : X.mg "enumerate" = none) (ha : PA X [e] ta) (hs : starEach [e] X.env = [(false, eval e X.env)] := by rfl) :
    PI X (.Tuple elts kk tpos) (.Call (.Name "enumerate" p) [e] [] pos) (iEnumP X.K k ta) := by
  refine ⟨fun pins s σ H R I h => ?_⟩
  refine Call_ (ld_blt I hg hm boot_enumerate (PyProof.Rows.callWith_type1 (thn (ha.run pos pins s σ H _ I h) fun us s1 ⟨vs, H1, I1, r1, q1⟩ => ?_) hs rfl))
  obtain ⟨a, xs, rfl, hq, q⟩ := q1
  cases r1 with
  | cons r rr =>
    cases rr
    obtain rfl := r
    obtain ⟨its, rv, p1, la⟩ := inv_sq I1 hq
    refine enum_begins1 (bgn k a its.toArray) p1 fun h' he g1 hk => wpAny_pyIter_enum he ?_
    have I2 : L2.Inv X pins σ H1 { s1 with heap := h' } := I1.kept (t' := s1.toks) hk
    refine ⟨s1.heap.objs.size + 1, [s1.heap.objs.size + 1, s1.heap.objs.size], _, _, H1, rfl, I2, turn_enumP (k := k) (Nat.succ_ne_self _) (Nat.ne_of_lt la) (Nat.ne_of_gt (Nat.lt_succ_of_lt la)), ⟨⟨.none, he⟩, hit_0 g1⟩, fun b hb => ?_, q⟩
    have e' : b = s1.heap.objs.size + 1 ∨ b = s1.heap.objs.size := by simpa using hb
    have hle : s1.heap.objs.size ≤ b := by
      rcases e' with rfl | rfl
      · exact Nat.le_add_right _ _
      · exact Nat.le_refl _
    exact I1.fpOk hle (I1.hok.fresh hle)
end V1
set_option Elab.async false
set_option linter.all false
set_option maxRecDepth 100000
set_option maxHeartbeats 4000000
/-! The end of a law row, by a promise that knows the guards. -/
namespace V1
open PySem PySem.Spec PyProof.Rows L2

theorem endG {P : Program} {w : World} {K : PySem.W.Frag} {mg mb : Str → Option Value} {k : Nat} {fa a : Addr} {fd : FuncData} {x : Str} {sp : Sp} {s1 : Shared} {vs : List Value} {ns : List Int}
    (KX : K.In s1.heap) (hns : s1.heap.Ns mainGlobals mg) (hb : s1.heap.Ns builtinsNs mb) (hbb : ∀ x : Str, x ≠ "__name__" → mb x = bootBuiltins x) (nl : s1.heap.NoLimit) (hg : s1.gens = #[])
    (ha : s1.heap.get? a = some { cls := .type "list", data := .seq vs.toArray }) (hi : IntsAre vs ns) (hl : ns.length ≤ sizeLine) (hr : Room k callerA)
    (F : ∀ base : Heap, K.In base → base.Ns mainGlobals mg → FnG P w K mg base k fa fd [x] sp) (bnd : ∀ (s : Shared) (u : Value), BindsTo s fd ⟨[u], []⟩ [(x, u)])
    (hsp : ∀ H : Hp, Only H → SqL K H a (ns.map V.int) → sp [.ref a] H (fun v _ => v = .bl true) fun _ _ _ => False) :
    codeAny (model P w) callerA (.call (.ref fa) ⟨[.ref a], []⟩) (fun r t => r = .ok (.ret (.bool true)) ∧ OldK s1.heap t.heap ∧ t.os = s1.os ∧ AllBare t.gens) s1 := by
  have rv := vals_ints hi
  have lenV := hi.length
  have core : ∀ H : Hp, Only H → SqL K H a (ns.map V.int) → HOk P w H s1.heap → (∀ b, H b ≠ none → b = a) → (H a ≠ none → K.lookup a = none) →
      codeAny (model P w) callerA (.call (.ref fa) ⟨[.ref a], []⟩) (fun r t => r = .ok (.ret (.bool true)) ∧ OldK s1.heap t.heap ∧ t.os = s1.os ∧ AllBare t.gens) s1 := by
    intro H hO hS ok only notK
    have free : ∀ {b : Addr} {o : Obj}, s1.heap.get? b = some o → (b = a → False) → H b = none := fun {b o} e d => by
      cases q : H b with
      | none => rfl
      | some u => exact (d (only b (by rw [q]; simp))).elim
    have nsK : ∀ {b : Addr} {m : Str → Option Value}, s1.heap.Ns b m → (hidT s1.heap H).Ns b m := fun {b m} ⟨o, es, ep, e, d, r⟩ =>
      ⟨o, es, ep, hidT_get e (free e fun z => by
        rw [z, ha] at e
        cases e
        have d1 : Data.seq vs.toArray _ = Data.dict es ep := d
        cases d1), d, r⟩
    have hKb : K.In (hidT s1.heap H) := fun b o e => hidT_get (KX b o e) (by
      cases q : H b with
      | none => rfl
      | some u =>
        have z := only b (by rw [q]; simp)
        rw [z] at e q
        rw [notK (by rw [q]; simp)] at e
        cases e)
    have hM : Mod K mg (hidT s1.heap H) := ⟨hKb, nsK hns, ⟨mb, nsK hb, hbb⟩, let ⟨mc, h1, h2⟩ := nl; ⟨mc, nsK h1, h2⟩⟩
    have e0 : Env0 P w K mg (hidT s1.heap H) callerA [] s1 H := ⟨rfl, hM, fun b o e => of_hidT e, Nat.le_of_eq (hidT_size _ _), trivial, (fun b hb => absurd (show b ∈ ([] : List Addr) from hb) (by simp)), ok, .of_eq hg⟩
    refine codeAny_mono ((F _ hKb (nsK hns)).run callerA [] s1 H ⟨[.ref a], []⟩ [.ref a] [.ref a] _ _ rfl hr e0 (bnd s1 (.ref a)) (.cons rfl .nil) (hsp H hO hS)) fun r t h => ?_
    cases r with
    | error e => exact False.elim h
    | ok fl =>
      cases fl with
      | next => exact False.elim h
      | brk => exact False.elim h
      | cont => exact False.elim h
      | ret u =>
        obtain ⟨v, H2, os, bare, un, ok2, r2, q⟩ := h
        obtain rfl : v = .bl true := q
        obtain rfl : u = Value.bool true := r2
        refine ⟨rfl, OldK.of_keep fun b o e => ?_, os, bare⟩
        cases q : H b with
        | none => exact un.keep b o e q (fun z => absurd (show b ∈ ([] : List Addr) from z) (by simp)) (by simp)
        | some u =>
          rcases hO b with z | ⟨ob, xs, z⟩
          · rw [q] at z
            cases z
          · obtain ⟨e1, _⟩ := ok b _ z
            obtain ⟨e2, _⟩ := ok2 b _ (un.frzs b ob _ z)
            rw [e] at e1
            cases e1
            exact e2
  cases hk : K.lookup a with
  | some o =>
    have e := KX a o hk
    rw [ha] at e
    cases e
    exact core (fun _ => none) (fun _ => Or.inl rfl) (Or.inr ⟨_, vs.toArray, _, hk, rfl, rfl, rfl, by rw [List.size_toArray, lenV]; exact hl, by simpa using rv⟩) (fun b u z => by
      have z1 : (none : Option HO) = some u := z
      cases z1) (fun b z => absurd rfl z) (fun z => absurd rfl z)
  | none =>
    have one : ∀ b, (if b = a then some (HO.frz { cls := .type "list", data := .seq vs.toArray } (.lst (ns.map V.int))) else none) ≠ none → b = a := fun b z => by
      by_cases e : b = a
      · exact e
      · exact absurd (if_neg e) z
    refine core (fun b => if b = a then some (.frz { cls := .type "list", data := .seq vs.toArray } (.lst (ns.map V.int))) else none) (fun b => ?_) (Or.inl (Or.inr ⟨{ cls := .type "list", data := .seq vs.toArray }, if_pos rfl⟩)) (fun b u z => ?_) one fun _ => hk
    · by_cases e : b = a
      · exact Or.inr ⟨_, _, if_pos e⟩
      · exact Or.inl (if_neg e)
    · have e : b = a := one b (fun y => by
        have z2 := y.symm.trans z
        cases z2)
      have z1 := (if_pos e).symm.trans z
      cases z1
      subst e
      exact ⟨ha, by rw [List.length_map]; exact hl, vs, _, rv, ha⟩
theorem walkG {l : PySem.W.OpenLaw} {n k : Nat} {q : Program} {loose : List Str} {XP : (Str → Option Value) → Heap → Prop} {YP : World → Heap → Prop} {d : DefRec} {x : Str}
    (hn : l.most = some n) (hn2 : n ≤ sizeLine) (hdf : d.params.defaults = []) (hr : Room k callerA)
    (F : ∀ (w : World) (mg : Str → Option Value) (fa : Addr) (h : Heap), YP w h → h.Ns mainGlobals mg → mg d.name = some (.ref fa) →
      ∃ (K : PySem.W.Frag) (fd : FuncData) (sp : Sp), K.In h ∧ (∀ (s : Shared) (u : Value), BindsTo s fd ⟨[u], []⟩ [(x, u)]) ∧
        (∀ (H : Hp) (a : Addr) (ns : List Int), ns.length ≤ n → Only H → SqL K H a (ns.map V.int) → sp [.ref a] H (fun v _ => v = .bl true) fun _ _ _ => False) ∧
        ∀ base : Heap, K.In base → base.Ns mainGlobals mg → FnG l.prog w K mg base k fa fd [x] sp) :
    PySem.W.WalkO q loose XP YP l.row.toRowW d [] (fun f vs => PySem.call f vs) := by
  refine Att.attach_call hn hdf fun w s0 s1 mg mb fa o pm cd doc a vs ns G Y ho hd hcd hmg hobj hints hlen hg => ?_
  obtain ⟨K, fd, sp, KX, hb, hsp, hF⟩ := F w mg fa _ Y G.T.g hmg
  exact endG KX G.T.g G.T.b G.T.builtins G.T.nolimit hg hobj hints (Nat.le_trans hlen hn2) hr hF hb fun H hO hS => hsp H a ns hlen hO hS
end V1
set_option Elab.async false
set_option linter.all false
set_option maxRecDepth 100000
set_option maxHeartbeats 4000000
/-! What an expression, a statement comes to, told by DATA: the slots hold data, an expression gives data, the heap grows. -/
namespace V1
open PySem PySem.Spec PyProof.Rows L2

/-! ### data that stand in tracked objects, away from the addresses of A, or as tuples of the written part -/
/-- a tuple of the written part -/
def KT (K : PySem.W.Frag) (a : Addr) (xs : List V) : Prop := ∃ (o : Obj) (its : Array Value) (n : Nat), K.lookup a = some o ∧ o.cls = .type "tuple" ∧ o.data = .seq its n ∧ its.size ≤ sizeLine ∧ Vals xs its.toList
theorem KT.sq {K : PySem.W.Frag} {a : Addr} {xs : List V} (h : KT K a xs) (H : Hp) : SqT K H a xs := .inr h
mutual
inductive Dv (K : PySem.W.Frag) (A : Addr → Prop) (H : Hp) : V → PyData → Prop
  | non : Dv K A H .non .none
  | bl (b : Bool) : Dv K A H (.bl b) (.bool b)
  | int (i : Int) : Dv K A H (.int i) (.int i)
  | str (x : Str) : Dv K A H (.str x) (.str x)
  | lst {a : Addr} {xs : List V} {ds : List PyData} : ¬ A a → H a = some (.lst xs) → DvAll K A H xs ds → Dv K A H (.ref a) (.list ds)
  | tup {a : Addr} {xs : List V} {ds : List PyData} : ¬ A a → H a = some (.tup xs) → DvAll K A H xs ds → Dv K A H (.ref a) (.tuple ds)
  | ktup {a : Addr} {xs : List V} {ds : List PyData} : KT K a xs → DvAll K A H xs ds → Dv K A H (.ref a) (.tuple ds)
inductive DvAll (K : PySem.W.Frag) (A : Addr → Prop) (H : Hp) : List V → List PyData → Prop
  | nil : DvAll K A H [] []
  | cons {v : V} {vs : List V} {d : PyData} {ds : List PyData} : Dv K A H v d → DvAll K A H vs ds → DvAll K A H (v :: vs) (d :: ds)
end
mutual
theorem Dv.map {K : PySem.W.Frag} {A A' : Addr → Prop} {H H' : Hp} (f : ∀ a o, ¬ A a → H a = some o → (∀ kvs, o ≠ .dK kvs) → ¬ A' a ∧ H' a = some o) : ∀ {d : PyData} {v : V}, Dv K A H v d → Dv K A' H' v d
  | .none, _, h => by cases h; exact .non
  | .bool b, _, h => by cases h; exact .bl b
  | .int i, _, h => by cases h; exact .int i
  | .str x, _, h => by cases h; exact .str x
  | .list ds, _, h => by
    cases h with
    | lst n e r =>
      obtain ⟨n2, e2⟩ := f _ _ n e (fun kvs z => by cases z)
      exact .lst n2 e2 (DvAll.map f r)
  | .tuple ds, _, h => by
    cases h with
    | tup n e r =>
      obtain ⟨n2, e2⟩ := f _ _ n e (fun kvs z => by cases z)
      exact .tup n2 e2 (DvAll.map f r)
    | ktup e r => exact .ktup e (DvAll.map f r)
  | .dict _, _, h => by cases h
theorem DvAll.map {K : PySem.W.Frag} {A A' : Addr → Prop} {H H' : Hp} (f : ∀ a o, ¬ A a → H a = some o → (∀ kvs, o ≠ .dK kvs) → ¬ A' a ∧ H' a = some o) : ∀ {ds : List PyData} {vs : List V}, DvAll K A H vs ds → DvAll K A' H' vs ds
  | [], _, h => by cases h; exact .nil
  | d :: ds, _, h => by
    cases h with
    | cons h1 h2 => exact .cons (Dv.map f h1) (DvAll.map f h2)
end
mutual
theorem Dv.dp {K : PySem.W.Frag} {A : Addr → Prop} {H : Hp} : ∀ {d : PyData} {v : V}, Dv K A H v d → Dp K H v d
  | .none, _, h => by cases h; exact .non
  | .bool b, _, h => by cases h; exact .bl b
  | .int i, _, h => by cases h; exact .int i
  | .str x, _, h => by cases h; exact .str x
  | .list ds, _, h => by
    cases h with
    | lst n e r => exact .lst (SqL.of e) (DvAll.dp r)
  | .tuple ds, _, h => by
    cases h with
    | tup n e r => exact .tup (SqT.of e) (DvAll.dp r)
    | ktup e r => exact .tup (e.sq H) (DvAll.dp r)
  | .dict _, _, h => by cases h
theorem DvAll.dp {K : PySem.W.Frag} {A : Addr → Prop} {H : Hp} : ∀ {ds : List PyData} {vs : List V}, DvAll K A H vs ds → DpAll K H vs ds
  | [], _, h => by cases h; exact .nil
  | d :: ds, _, h => by
    cases h with
    | cons h1 h2 => exact .cons (Dv.dp h1) (DvAll.dp h2)
end
section
variable {K : PySem.W.Frag} {A : Addr → Prop} {H : Hp} {xs ys : List V} {ds es : List PyData}
theorem DvAll.length (h : DvAll K A H xs ds) : xs.length = ds.length := by
  induction ds generalizing xs with
  | nil => cases h; rfl
  | cons d ds ih => cases h with | cons h1 h2 => rw [List.length_cons, List.length_cons, ih h2]
theorem DvAll.app (h : DvAll K A H xs ds) (h2 : DvAll K A H ys es) : DvAll K A H (xs ++ ys) (ds ++ es) := by
  induction ds generalizing xs with
  | nil => cases h; exact h2
  | cons d ds ih => cases h with | cons a b => exact .cons a (ih b)
theorem DvAll.get (h : DvAll K A H xs ds) {i : Nat} {d : PyData} (e : ds[i]? = some d) : ∃ x, xs[i]? = some x ∧ Dv K A H x d := by
  induction ds generalizing xs i with
  | nil => simp at e
  | cons d0 ds ih =>
    cases h with
    | cons a b =>
      cases i with
      | zero => simp at e; subst e; exact ⟨_, rfl, a⟩
      | succ i => simpa using ih b (by simpa using e)
theorem DvAll.getx (h : DvAll K A H xs ds) {i : Nat} {x : V} (e : xs[i]? = some x) : ∃ d, ds[i]? = some d ∧ Dv K A H x d := by
  induction ds generalizing xs i with
  | nil => cases h; simp at e
  | cons d0 ds ih =>
    cases h with
    | cons a b =>
      cases i with
      | zero => simp at e; subst e; exact ⟨_, rfl, a⟩
      | succ i => simpa using ih b (by simpa using e)
theorem DvAll.take (n : Nat) (h : DvAll K A H xs ds) : DvAll K A H (xs.take n) (ds.take n) := by
  induction ds generalizing xs n with
  | nil => cases h; simp; exact .nil
  | cons d0 ds ih =>
    cases h with
    | cons a b =>
      cases n with
      | zero => exact .nil
      | succ n => exact .cons a (ih n b)
theorem DvAll.drop (n : Nat) (h : DvAll K A H xs ds) : DvAll K A H (xs.drop n) (ds.drop n) := by
  induction ds generalizing xs n with
  | nil => cases h; simp; exact .nil
  | cons d0 ds ih =>
    cases h with
    | cons a b =>
      cases n with
      | zero => exact .cons a b
      | succ n => exact ih n b
theorem DvAll.set {i : Nat} {x : V} {d : PyData} (h : DvAll K A H xs ds) (hx : Dv K A H x d) : DvAll K A H (xs.set i x) (ds.set i d) := by
  induction ds generalizing xs i with
  | nil => cases h; exact .nil
  | cons d0 ds ih =>
    cases h with
    | cons a b =>
      cases i with
      | zero => exact .cons hx b
      | succ i => exact .cons a (ih b)
theorem DvAll.cut (h : DvAll K A H xs ds) (lo hi : Option Int) : DvAll K A H (cutV xs lo hi) ((ds.drop (HT.sIx ds.length 0 lo)).take (HT.sIx ds.length ds.length hi - HT.sIx ds.length 0 lo)) := by
  unfold cutV
  rw [h.length]
  exact (h.drop _).take _
theorem DvAll.ints {ns : List Int} (h : DvAll K A H xs (ns.map PyData.int)) : xs = ns.map V.int := by
  induction ns generalizing xs with
  | nil => cases h; rfl
  | cons n ns ih =>
    cases h with
    | cons a b =>
      cases a
      rw [ih b]
      rfl
theorem DvAll.rep (n : Nat) (h : DvAll K A H xs ds) : DvAll K A H (List.replicate n xs).flatten (List.replicate n ds).flatten := by
  induction n with
  | zero => exact .nil
  | succ n ih => rw [List.replicate_succ, List.replicate_succ, List.flatten_cons, List.flatten_cons]; exact h.app ih
end

/-! ### how a heap goes on -/
structure Rl where
  K : PySem.W.Frag
  G : Nat → Hp → Prop
  R : Nat → Hp → Hp → Prop
  M : V → Prop
  gle : ∀ {a b H}, a ≤ b → G b H → G a H
  rle : ∀ {a b H H'}, a ≤ b → R a H H' → R b H H'
  gr : ∀ {a b H H'}, G (a + b) H → R a H H' → G b H'
  tr : ∀ {a b H H1 H2}, R a H H1 → R b H1 H2 → R (a + b) H H2
  same : ∀ {H H'}, G 0 H → Same H H' → R 0 H H'
  fresh : ∀ {a H H' q o}, R a H H' → H q = none → R a H (upd H' q o)
  keep : ∀ {a H H' b o}, R a H H' → H b = some o → (∀ kvs, o ≠ .dK kvs) → H' b = some o
  free : ∀ {a H H' q}, R a H H' → H' q = none → H q = none
  mref : ∀ {v}, M v → ∃ a, v = .ref a
abbrev mark : PyData := .dict []
def pureL (K : PySem.W.Frag) : Rl where
  K := K
  G := fun _ _ => True
  R := fun _ H H' => Same H H'
  M := fun _ => False
  gle := fun _ _ => trivial
  rle := fun _ r => r
  gr := fun _ _ => trivial
  tr := fun a b => a.trans b
  same := fun _ s => s
  fresh := fun s h b o e => by rw [upd_ne (ne_of_none e h)]; exact s b o e
  keep := fun s e _ => s _ _ e
  free := fun s e => Same.free s e
  mref := fun h => h.elim

section
variable (L : Rl)
def Dq (A : Addr → Prop) (H : Hp) (v : V) (d : PyData) : Prop := (d = mark ∧ L.M v) ∨ Dv L.K A H v d
def EnvOk (A : Addr → Prop) (σ : L2.St) (H : Hp) (Γ : List (Option PyData)) : Prop := σ.length = Γ.length ∧ ∀ (i : Nat) (d : PyData), Γ[i]? = some (some d) → ∃ v, σ[i]? = some (some v) ∧ Dq L A H v d
def Inn (A : Addr → Prop) (H : Hp) : Prop := ∀ b, A b → H b ≠ none
def EvG (n : Nat) (te : TE) (Γ : List (Option PyData)) (P : PyData → Prop) : Prop := ∀ A σ H, Inn A H → EnvOk L A σ H Γ → L.G n H → ∀ Q : VK, (∀ v d H', L.R n H H' → Dq L A H' v d → P d → Q v H') → te σ H Q
def EvD (te : TE) (Γ : List (Option PyData)) (d : PyData) : Prop := EvG L 0 te Γ (fun x => x = d)
def EaG (n : Nat) (ta : TA) (Γ : List (Option PyData)) (P : List PyData → Prop) : Prop := ∀ A σ H, Inn A H → EnvOk L A σ H Γ → L.G n H → ∀ Q : List V → Hp → Prop, (∀ vs ds H', L.R n H H' → vs.length = ds.length → (∀ (i : Nat) d, ds[i]? = some d → ∃ v, vs[i]? = some v ∧ Dq L A H' v d) → P ds → Q vs H') → ta σ H Q
def EaD (ta : TA) (Γ : List (Option PyData)) (ds : List PyData) : Prop := EaG L 0 ta Γ (fun x => x = ds)
def EtD (tt : TT) (Γ : List (Option PyData)) (b : Bool) : Prop := ∀ A σ H, Inn A H → EnvOk L A σ H Γ → L.G 0 H → ∀ Q : Bool → Hp → Prop, (∀ H', L.R 0 H H' → Q b H') → tt σ H Q
def EtG (n : Nat) (tt : TT) (Γ : List (Option PyData)) (P : Bool → Prop) : Prop := ∀ A σ H, Inn A H → EnvOk L A σ H Γ → L.G n H → ∀ Q : Bool → Hp → Prop, (∀ b H', L.R n H H' → P b → Q b H') → tt σ H Q
def SG (n : Nat) (ts : TS) (Γ : List (Option PyData)) (N : List (Option PyData) → Prop) (Rt : PyData → Prop) : Prop := ∀ A σ H, Inn A H → EnvOk L A σ H Γ → L.G n H → ∀ D : Ends,
  (∀ σ' H' Γ', L.R n H H' → EnvOk L A σ' H' Γ' → N Γ' → D.nx σ' H') → (∀ v d H', L.R n H H' → Dq L A H' v d → Rt d → D.rt v H') → ts D σ H
end
section
variable {K : PySem.W.Frag} {L : Rl} {A : Addr → Prop} {H H' : Hp} {v : V} {d : PyData} {σ : L2.St} {Γ : List (Option PyData)} {n a b : Nat}
theorem Dv.r (h : Dv K A H v d) (r : L.R n H H') : Dv K A H' v d := h.map fun _ _ na e k => ⟨na, L.keep r e k⟩
theorem DvAll.r {vs : List V} {ds : List PyData} (h : DvAll K A H vs ds) (r : L.R n H H') : DvAll K A H' vs ds := h.map fun _ _ na e k => ⟨na, L.keep r e k⟩
theorem Dq.r (h : Dq L A H v d) (r : L.R n H H') : Dq L A H' v d := h.imp (fun x => x) fun x => x.r r
theorem EnvOk.r (h : EnvOk L A σ H Γ) (r : L.R n H H') : EnvOk L A σ H' Γ := ⟨h.1, fun i d e => let ⟨v, h1, h2⟩ := h.2 i d e; ⟨v, h1, h2.r r⟩⟩
theorem Inn.r (h : Inn A H) (r : L.R n H H') : Inn A H' := fun b hb z => h b hb (L.free r z)
theorem Inn.no (h : Inn A H) {q : Addr} (e : H q = none) : ¬ A q := fun z => h q z e
theorem EnvOk.set (h : EnvOk L A σ H Γ) (hv : Dq L A H v d) (i : Nat) : EnvOk L A (σ.set i (some v)) H (Γ.set i (some d)) := by
  refine ⟨by rw [List.length_set, List.length_set]; exact h.1, fun j d' e => ?_⟩
  by_cases hj : i = j
  · subst hj
    have hl : i < Γ.length := by
      have := (List.getElem?_eq_some_iff.mp e).1
      rwa [List.length_set] at this
    rw [List.getElem?_set_self hl] at e
    have e1 : d = d' := Option.some.inj (Option.some.inj e)
    subst e1
    exact ⟨v, List.getElem?_set_self (by rw [h.1]; exact hl), hv⟩
  · rw [List.getElem?_set_ne hj] at e
    obtain ⟨w, h1, h2⟩ := h.2 j d' e
    exact ⟨w, by rw [List.getElem?_set_ne hj]; exact h1, h2⟩
theorem Dq.ne (h : Dq L A H v d) (hd : d ≠ mark) : Dv L.K A H v d := h.elim (fun z => absurd z.1 hd) fun z => z
theorem Dq.int {i : Int} (h : Dq L A H v (.int i)) : v = .int i := by
  have h1 := h.ne (by intro z; cases z)
  cases h1
  rfl
theorem Dq.str {i : Str} (h : Dq L A H v (.str i)) : v = .str i := by
  have h1 := h.ne (by intro z; cases z)
  cases h1
  rfl
theorem Dq.bool {i : Bool} (h : Dq L A H v (.bool i)) : v = .bl i := by
  have h1 := h.ne (by intro z; cases z)
  cases h1
  rfl
/-- a tuple, tracked or written -/
def TpAt (K : PySem.W.Frag) (A : Addr → Prop) (H : Hp) (a : Addr) (xs : List V) : Prop := (¬ A a ∧ H a = some (.tup xs)) ∨ KT K a xs
theorem TpAt.sq {K : PySem.W.Frag} {a : Addr} {xs : List V} (h : TpAt K A H a xs) : SqT K H a xs := h.elim (fun z => SqT.of z.2) fun z => z.sq H
theorem TpAt.dv {K : PySem.W.Frag} {a : Addr} {xs : List V} {ds : List PyData} (h : TpAt K A H a xs) (r : DvAll K A H xs ds) : Dv K A H (.ref a) (.tuple ds) := h.elim (fun z => .tup z.1 z.2 r) fun z => .ktup z r
theorem Dq.tuple {ds : List PyData} (h : Dq L A H v (.tuple ds)) : ∃ a xs, v = .ref a ∧ TpAt L.K A H a xs ∧ DvAll L.K A H xs ds := by
  have h1 := h.ne (by intro z; cases z)
  cases h1 with
  | tup n e r => exact ⟨_, _, rfl, .inl ⟨n, e⟩, r⟩
  | ktup e r => exact ⟨_, _, rfl, .inr e, r⟩
theorem Dq.list {ds : List PyData} (h : Dq L A H v (.list ds)) : ∃ a xs, v = .ref a ∧ ¬ A a ∧ H a = some (.lst xs) ∧ DvAll L.K A H xs ds := by
  have h1 := h.ne (by intro z; cases z)
  cases h1 with
  | lst n e r => exact ⟨_, _, rfl, n, e, r⟩
/-- the budget is a nought's -/
theorem Rl.g0 (h : L.G n H) : L.G 0 H := L.gle (Nat.zero_le _) h
theorem Rl.newR (g : L.G n H) {q : Addr} {o : HO} (e : H q = none) : L.R 0 H (upd H q o) := L.same (L.g0 g) fun b u z => by rw [upd_ne (ne_of_none z e)]; exact z
theorem Rl.refl (g : L.G n H) : L.R 0 H H := L.same (L.g0 g) (Same.refl H)
theorem Rl.gR (g : L.G (a + b) H) (r : L.R a H H') : L.G b H' := L.gr g r

/-! ### expressions -/
variable {te ta tb : TE} {t : TA} {tt tu : TT} {P P1 : PyData → Prop}
theorem EvG.mono {P' : PyData → Prop} (h : EvG L a te Γ P) (hn : a ≤ b) (hp : ∀ d, P d → P' d) : EvG L b te Γ P' := fun A σ H hi he hg Q q => h A σ H hi he (L.gle hn hg) Q fun v d H' r hd p => q v d H' (L.rle hn r) hd (hp d p)
theorem EvD.to {d' : PyData} (h : EvD L te Γ d) (e : d = d') : EvD L te Γ d' := e ▸ h
theorem eg_var {i : Nat} (e : Γ[i]? = some (some d)) : EvD L (tVar i) Γ d := fun A σ H hi he hg Q q => by
  obtain ⟨v, h1, h2⟩ := he.2 i d e
  exact ⟨v, h1, q v d H (Rl.refl hg) h2 rfl⟩
theorem eg_int {i : Int} : EvD L (tC (.int i)) Γ (.int i) := fun A σ H hi he hg Q q => q _ _ H (Rl.refl hg) (.inr (.int i)) rfl
theorem eg_str {i : Str} : EvD L (tC (.str i)) Γ (.str i) := fun A σ H hi he hg Q q => q _ _ H (Rl.refl hg) (.inr (.str i)) rfl
theorem eg_bl {i : Bool} : EvD L (tC (.bl i)) Γ (.bool i) := fun A σ H hi he hg Q q => q _ _ H (Rl.refl hg) (.inr (.bl i)) rfl
theorem eg_non : EvD L (tC .non) Γ .none := fun A σ H hi he hg Q q => q _ _ H (Rl.refl hg) (.inr .non) rfl
/-- what a two-place operation gives, by data -/
def OpS (L : Rl) (r : R2) (d1 d2 : PyData) (P : PyData → Prop) : Prop := ∀ A H x y, Inn A H → L.G 0 H → Dq L A H x d1 → Dq L A H y d2 → ∀ Q : VK, (∀ v d H', L.R 0 H H' → Dq L A H' v d → P d → Q v H') → r x y H Q
theorem eg_opG {r : R2} {P1 P2 P : PyData → Prop} (ha : EvG L a ta Γ P1) (hb : EvG L b tb Γ P2) (hr : ∀ d1 d2, P1 d1 → P2 d2 → OpS L r d1 d2 P) : EvG L (a + b) (tOp r ta tb) Γ P := fun A σ H hi he hg Q q =>
  ha A σ H hi he (L.gle (Nat.le_add_right _ _) hg) _ fun x d1 H1 r1 hx p1 => hb A σ H1 (hi.r r1) (he.r r1) (Rl.gR hg r1) _ fun y d2 H2 r2 hy p2 =>
    hr d1 d2 p1 p2 A H2 x y ((hi.r r1).r r2) (Rl.gR (b := 0) (Rl.gR (a := a) (b := b) hg r1) r2) (hx.r r2) hy Q fun v d H3 r3 hv p => q v d H3 (L.tr (b := 0) (L.tr r1 r2) r3) hv p
theorem eg_op {r : R2} {d1 d2 d : PyData} (ha : EvD L ta Γ d1) (hb : EvD L tb Γ d2) (hr : OpS L r d1 d2 (fun x => x = d)) : EvD L (tOp r ta tb) Γ d :=
  eg_opG (a := 0) (b := 0) ha hb fun x y e1 e2 => by rw [e1, e2]; exact hr
theorem os_I0 {g : Int → Int → Int} {i j : Int} : OpS L (rI0 fun i j => .int (g i j)) (.int i) (.int j) (fun x => x = .int (g i j)) := fun A H x y hi hg hx hy Q q => by
  obtain rfl := hx.int
  obtain rfl := hy.int
  exact ⟨i, j, rfl, rfl, q _ _ H (Rl.refl hg) (.inr (.int _)) rfl⟩
theorem os_I {C : Int → Int → Prop} {g : Int → Int → Int} {i j : Int} (hc : C i j) : OpS L (rI C fun i j => .int (g i j)) (.int i) (.int j) (fun x => x = .int (g i j)) := fun A H x y hi hg hx hy Q q => by
  obtain rfl := hx.int
  obtain rfl := hy.int
  exact ⟨i, j, rfl, rfl, hc, q _ _ H (Rl.refl hg) (.inr (.int _)) rfl⟩
theorem os_B0 {g : Int → Int → Bool} {i j : Int} : OpS L (rI0 fun i j => .bl (g i j)) (.int i) (.int j) (fun x => x = .bool (g i j)) := fun A H x y hi hg hx hy Q q => by
  obtain rfl := hx.int
  obtain rfl := hy.int
  exact ⟨i, j, rfl, rfl, q _ _ H (Rl.refl hg) (.inr (.bl _)) rfl⟩
theorem eg_add {i j : Int} (ha : EvD L ta Γ (.int i)) (hb : EvD L tb Γ (.int j)) : EvD L (tOp (rI0 fun i j => .int (i + j)) ta tb) Γ (.int (i + j)) := eg_op ha hb os_I0
theorem eg_sub {i j : Int} (ha : EvD L ta Γ (.int i)) (hb : EvD L tb Γ (.int j)) : EvD L (tOp (rI0 fun i j => .int (i - j)) ta tb) Γ (.int (i - j)) := eg_op ha hb os_I0
theorem eg_mul {i j : Int} (ha : EvD L ta Γ (.int i)) (hb : EvD L tb Γ (.int j)) (hc : CMulW i j) : EvD L (tOp (rI CMulW fun i j => .int (i * j)) ta tb) Γ (.int (i * j)) := eg_op ha hb (os_I hc)
theorem eg_div {i j : Int} (ha : EvD L ta Γ (.int i)) (hb : EvD L tb Γ (.int j)) (hc : CDivW i j) : EvD L (tOp (rI CDivW fun i j => .int (i / j)) ta tb) Γ (.int (i / j)) := eg_op ha hb (os_I hc)
theorem eg_mod {i j : Int} (ha : EvD L ta Γ (.int i)) (hb : EvD L tb Γ (.int j)) (hc : j ≠ 0) : EvD L (tOp (rI (fun _ j => j ≠ 0) fun i j => .int (i.fmod j)) ta tb) Γ (.int (i.fmod j)) := eg_op ha hb (os_I hc)
theorem eg_pow {i j : Int} (ha : EvD L ta Γ (.int i)) (hb : EvD L tb Γ (.int j)) (hc : CPow i j) : EvD L (tOp (rI CPow fun i j => .int (i ^ j.toNat)) ta tb) Γ (.int (i ^ j.toNat)) := eg_op ha hb (os_I hc)
theorem eg_lt {i j : Int} (ha : EvD L ta Γ (.int i)) (hb : EvD L tb Γ (.int j)) : EvD L (tOp (rI0 fun i j => .bl (decide (i < j))) ta tb) Γ (.bool (decide (i < j))) := eg_op ha hb os_B0
theorem eg_gt {i j : Int} (ha : EvD L ta Γ (.int i)) (hb : EvD L tb Γ (.int j)) : EvD L (tOp (rI0 fun i j => .bl (decide (j < i))) ta tb) Γ (.bool (decide (j < i))) := eg_op ha hb os_B0
theorem eg_ge {i j : Int} (ha : EvD L ta Γ (.int i)) (hb : EvD L tb Γ (.int j)) : EvD L (tOp (rI0 fun i j => .bl (decide (j ≤ i))) ta tb) Γ (.bool (decide (j ≤ i))) := eg_op ha hb os_B0
theorem eg_eqI {i j : Int} (ha : EvD L ta Γ (.int i)) (hb : EvD L tb Γ (.int j)) : EvD L (tOp rEq ta tb) Γ (.bool (decide (i = j))) := eg_op ha hb fun A H x y hi hg hx hy Q q => by
  obtain rfl := hx.int
  obtain rfl := hy.int
  refine ⟨rfl, ?_⟩
  have e : decide (V.int i = V.int j) = decide (i = j) := by
    by_cases z : i = j
    · rw [z]; simp
    · rw [decide_eq_false z]; exact decide_eq_false fun y => z (by injection y)
  rw [e]
  exact q _ _ H (Rl.refl hg) (.inr (.bl _)) rfl
theorem eg_neI {i j : Int} (ha : EvD L ta Γ (.int i)) (hb : EvD L tb Γ (.int j)) : EvD L (tOp rNe ta tb) Γ (.bool (!decide (i = j))) := eg_op ha hb fun A H x y hi hg hx hy Q q => by
  obtain rfl := hx.int
  obtain rfl := hy.int
  refine ⟨rfl, ?_⟩
  have e : decide (V.int i = V.int j) = decide (i = j) := by
    by_cases z : i = j
    · rw [z]; simp
    · rw [decide_eq_false z]; exact decide_eq_false fun y => z (by injection y)
  rw [e]
  exact q _ _ H (Rl.refl hg) (.inr (.bl _)) rfl
theorem eg_eqS {i j : Str} (ha : EvD L ta Γ (.str i)) (hb : EvD L tb Γ (.str j)) : EvD L (tOp rEq ta tb) Γ (.bool (decide (i = j))) := eg_op ha hb fun A H x y hi hg hx hy Q q => by
  obtain rfl := hx.str
  obtain rfl := hy.str
  refine ⟨rfl, ?_⟩
  have e : decide (V.str i = V.str j) = decide (i = j) := by
    by_cases z : i = j
    · rw [z]; simp
    · rw [decide_eq_false z]; exact decide_eq_false fun y => z (by injection y)
  rw [e]
  exact q _ _ H (Rl.refl hg) (.inr (.bl _)) rfl
theorem eg_neg {i : Int} (ha : EvD L ta Γ (.int i)) : EvD L (tUn (rU fun i => .int (-i)) ta) Γ (.int (-i)) := fun A σ H hi he hg Q q => ha A σ H hi he hg _ fun x d1 H1 r1 hx p1 => by
  subst p1
  obtain rfl := hx.int
  exact ⟨i, rfl, q _ _ H1 r1 (.inr (.int _)) rfl⟩
theorem os_ixT {ds : List PyData} {i : Int} (h : atI ds i = some d) : OpS L (rIxT L.K) (.tuple ds) (.int i) (fun x => x = d) := fun A H x y hi hg hx hy Q q => by
  obtain ⟨p, xs, rfl, e, r⟩ := hx.tuple
  obtain rfl := hy.int
  unfold atI at h
  cases e2 : ixN ds.length i with
  | none => rw [e2] at h; cases h
  | some j =>
    rw [e2] at h
    obtain ⟨v, hv, dv⟩ := r.get (i := j) h
    refine ⟨p, xs, i, v, rfl, rfl, e.sq, ?_, q v d H (Rl.refl hg) (.inr dv) rfl⟩
    unfold atI
    rw [r.length, e2]
    exact hv
theorem os_ixL {ds : List PyData} {i : Int} (h : atI ds i = some d) : OpS L (rIxL L.K) (.list ds) (.int i) (fun x => x = d) := fun A H x y hi hg hx hy Q q => by
  obtain ⟨p, xs, rfl, na, e, r⟩ := hx.list
  obtain rfl := hy.int
  unfold atI at h
  cases e2 : ixN ds.length i with
  | none => rw [e2] at h; cases h
  | some j =>
    rw [e2] at h
    obtain ⟨v, hv, dv⟩ := r.get (i := j) h
    refine ⟨p, xs, i, v, rfl, rfl, SqL.of e, ?_, q v d H (Rl.refl hg) (.inr dv) rfl⟩
    unfold atI
    rw [r.length, e2]
    exact hv
theorem eg_ixT {ds : List PyData} {i : Int} (ha : EvD L ta Γ (.tuple ds)) (hb : EvD L tb Γ (.int i)) (h : atI ds i = some d) : EvD L (tOp (rIxT L.K) ta tb) Γ d := eg_op ha hb (os_ixT h)
theorem eg_ixL {ds : List PyData} {i : Int} (ha : EvD L ta Γ (.list ds)) (hb : EvD L tb Γ (.int i)) (h : atI ds i = some d) : EvD L (tOp (rIxL L.K) ta tb) Γ d := eg_op ha hb (os_ixL h)
theorem os_cat {ds es : List PyData} (hl : ds.length + es.length ≤ 100000) : OpS L rCat (.list ds) (.list es) (fun x => x = .list (ds ++ es)) := fun A H x y hi hg hx hy Q q => by
  obtain ⟨p, xs, rfl, na, e, r⟩ := hx.list
  obtain ⟨p2, ys, rfl, na2, e2, r2⟩ := hy.list
  refine ⟨p, p2, xs, ys, rfl, rfl, e, e2, Nat.le_trans (by rw [r.length, r2.length]; exact hl) (by decide), fun l hl2 => ?_⟩
  have rr := Rl.newR (o := .lst (xs ++ ys)) hg hl2
  exact q _ _ _ rr (.inr (.lst (hi.no hl2) upd_same ((r.app r2).r rr))) rfl
theorem eg_cat {ds es : List PyData} (ha : EvD L ta Γ (.list ds)) (hb : EvD L tb Γ (.list es)) (hl : ds.length + es.length ≤ 100000) : EvD L (tOp rCat ta tb) Γ (.list (ds ++ es)) := eg_op ha hb (os_cat hl)
theorem os_rep {ds : List PyData} {i : Int} (h0 : 0 ≤ i) (h1 : i ≤ 1000) (hl : ds.length ≤ 100) : OpS L rRep (.list ds) (.int i) (fun x => x = .list (List.replicate i.toNat ds).flatten) := fun A H x y hi hg hx hy Q q => by
  obtain ⟨p, xs, rfl, na, e, r⟩ := hx.list
  obtain rfl := hy.int
  refine ⟨p, i, xs, rfl, rfl, e, by omega, by omega, Nat.le_trans (Nat.mul_le_mul (by rw [r.length]; exact hl) (show i.toNat ≤ 1000 by omega)) (by decide), fun l hl2 => ?_⟩
  have rr := Rl.newR (o := .lst (List.replicate i.toNat xs).flatten) hg hl2
  exact q _ _ _ rr (.inr (.lst (hi.no hl2) upd_same ((r.rep _).r rr))) rfl
theorem eg_rep {ds : List PyData} {i : Int} (ha : EvD L ta Γ (.list ds)) (hb : EvD L tb Γ (.int i)) (h0 : 0 ≤ i) (h1 : i ≤ 1000) (hl : ds.length ≤ 100) : EvD L (tOp rRep ta tb) Γ (.list (List.replicate i.toNat ds).flatten) := eg_op ha hb (os_rep h0 h1 hl)
end
end V1
set_option Elab.async false
set_option linter.all false
set_option maxRecDepth 100000
set_option maxHeartbeats 4000000
/-! The rest of the readings by data: slices, displays, calls, comprehensions, statements, loops. -/
namespace V1
open PySem PySem.Spec PyProof.Rows L2

def cutD (ds : List PyData) (lo hi : Option Int) : List PyData := (ds.drop (HT.sIx ds.length 0 lo)).take (HT.sIx ds.length ds.length hi - HT.sIx ds.length 0 lo)
theorem cut_neg {ds : List PyData} {k : Nat} (hk : 0 < k) (h : k ≤ ds.length) : cutD ds none (some (-(k : Int))) = ds.take (ds.length - k) := by
  unfold cutD
  have e : HT.sIx ds.length ds.length (some (-(k : Int))) = ds.length - k := by
    show (if (-(k : Int)) < 0 then ((-(k : Int)) + (ds.length : Int)).toNat else min (-(k : Int)).toNat ds.length) = _
    rw [if_pos (by omega)]
    omega
  rw [e]
  show (ds.drop 0).take (ds.length - k - 0) = _
  simp
theorem cut_last {ds : List PyData} (h : 0 < ds.length) : cutD ds (some (-1)) none = ds.drop (ds.length - 1) := by
  unfold cutD
  have e : HT.sIx ds.length 0 (some (-1)) = ds.length - 1 := by
    show (if (-1 : Int) < 0 then ((-1 : Int) + (ds.length : Int)).toNat else min (-1 : Int).toNat ds.length) = _
    rw [if_pos (by omega)]
    omega
  rw [e]
  show (ds.drop (ds.length - 1)).take (ds.length - (ds.length - 1)) = _
  rw [List.take_of_length_le (by rw [List.length_drop]; omega)]
def nomk : List PyData → Bool
  | [] => true
  | .dict _ :: _ => false
  | _ :: r => nomk r
theorem nomk_ne {ds : List PyData} (h : nomk ds = true) : ∀ (i : Nat) d, ds[i]? = some d → d ≠ mark := by
  induction ds with
  | nil => intro i d e; simp at e
  | cons d0 r ih =>
    intro i d e z
    subst z
    cases i with
    | zero => simp at e; subst e; simp [nomk] at h
    | succ i =>
      refine ih ?_ i _ (by simpa using e) rfl
      cases d0 <;> simp_all [nomk]

section
variable {L : Rl} {A : Addr → Prop} {H H' : Hp} {v : V} {d : PyData} {σ : L2.St} {Γ : List (Option PyData)} {n a b c : Nat} {te ta tb : TE} {t : TA} {tt tu : TT} {P P1 P2 : PyData → Prop}

/-! ### slices -/
def EoD (L : Rl) (to : TO) (Γ : List (Option PyData)) (o : Option Int) : Prop := ∀ A σ H, Inn A H → EnvOk L A σ H Γ → L.G 0 H → ∀ Q : Option Int → Hp → Prop, (∀ H', L.R 0 H H' → Q o H') → to σ H Q
theorem eo_none : EoD L tNoPart Γ none := fun A σ H hi he hg Q q => q H (Rl.refl hg)
theorem eo_some {i : Int} (h : EvD L te Γ (.int i)) : EoD L (tPart te) Γ (some i) := fun A σ H hi he hg Q q => h A σ H hi he hg _ fun v d H1 r1 hv p => by
  subst p
  obtain rfl := hv.int
  exact ⟨i, rfl, q H1 r1⟩
theorem eg_slT {ds : List PyData} {tl th : TO} {lo0 hi0 : Option Int} (h : EvD L te Γ (.tuple ds)) (h1 : EoD L tl Γ lo0) (h2 : EoD L th Γ hi0) (hw : ¬ (HT.sIx ds.length 0 lo0 = 0 ∧ HT.sIx ds.length ds.length hi0 = ds.length)) :
    EvD L (tSl (rSlT L.K) te tl th) Γ (.tuple (cutD ds lo0 hi0)) := fun A σ H hi he hg Q q => h A σ H hi he hg _ fun x d1 H1 r1 hx p => by
  subst p
  refine h1 A σ H1 (hi.r r1) (he.r r1) (Rl.gR (b := 0) hg r1) _ fun H2 r2 => h2 A σ H2 ((hi.r r1).r r2) ((he.r r1).r r2) (Rl.gR (b := 0) (Rl.gR (b := 0) hg r1) r2) _ fun H3 r3 => ?_
  have g3 : L.G 0 H3 := Rl.gR (b := 0) (Rl.gR (b := 0) (Rl.gR (b := 0) hg r1) r2) r3
  obtain ⟨p, xs, rfl, e, r⟩ := ((hx.r r2).r r3).tuple
  refine ⟨p, xs, rfl, e.sq, by rw [r.length]; exact hw, fun q1 hq => ?_⟩
  have rr := Rl.newR (o := .tup (cutV xs lo0 hi0)) g3 hq
  exact q _ _ _ (L.tr (a := 0) (b := 0) (L.tr (a := 0) (b := 0) (L.tr (a := 0) (b := 0) r1 r2) r3) rr) (.inr (.tup ((((hi.r r1).r r2).r r3).no hq) upd_same ((r.cut lo0 hi0).r rr))) rfl
theorem eg_slL {ds : List PyData} {tl th : TO} {lo0 hi0 : Option Int} (h : EvD L te Γ (.list ds)) (h1 : EoD L tl Γ lo0) (h2 : EoD L th Γ hi0) : EvD L (tSl (rSlL L.K) te tl th) Γ (.list (cutD ds lo0 hi0)) := fun A σ H hi he hg Q q => h A σ H hi he hg _ fun x d1 H1 r1 hx p => by
  subst p
  refine h1 A σ H1 (hi.r r1) (he.r r1) (Rl.gR (b := 0) hg r1) _ fun H2 r2 => h2 A σ H2 ((hi.r r1).r r2) ((he.r r1).r r2) (Rl.gR (b := 0) (Rl.gR (b := 0) hg r1) r2) _ fun H3 r3 => ?_
  have g3 : L.G 0 H3 := Rl.gR (b := 0) (Rl.gR (b := 0) (Rl.gR (b := 0) hg r1) r2) r3
  obtain ⟨p, xs, rfl, na, e, r⟩ := ((hx.r r2).r r3).list
  refine ⟨p, xs, rfl, SqL.of e, fun q1 hq => ?_⟩
  have rr := Rl.newR (o := .lst (cutV xs lo0 hi0)) g3 hq
  exact q _ _ _ (L.tr (a := 0) (b := 0) (L.tr (a := 0) (b := 0) (L.tr (a := 0) (b := 0) r1 r2) r3) rr) (.inr (.lst ((((hi.r r1).r r2).r r3).no hq) upd_same ((r.cut lo0 hi0).r rr))) rfl

/-! ### arguments, displays -/
theorem ea_nil : EaD L tNil Γ [] := fun A σ H hi he hg Q q => q [] [] H (Rl.refl hg) rfl (fun i d e => by simp at e) rfl
theorem ea_consG {P1 : PyData → Prop} {P2 : List PyData → Prop} (h : EvG L a te Γ P1) (hr : EaG L b t Γ P2) : EaG L (a + b) (tCons te t) Γ (fun ds => ∃ d r, ds = d :: r ∧ P1 d ∧ P2 r) := fun A σ H hi he hg Q q =>
  h A σ H hi he (L.gle (Nat.le_add_right _ _) hg) _ fun x d H1 r1 hx p1 => hr A σ H1 (hi.r r1) (he.r r1) (Rl.gR hg r1) _ fun xs ds H2 r2 hl hxs p2 =>
    q (x :: xs) (d :: ds) H2 (L.tr r1 r2) (by rw [List.length_cons, List.length_cons, hl]) (fun i d' e => by
      cases i with
      | zero => simp at e; subst e; exact ⟨x, rfl, hx.r r2⟩
      | succ i => simpa using hxs i d' (by simpa using e)) ⟨d, ds, rfl, p1, p2⟩
theorem EaG.mono {P P' : List PyData → Prop} (h : EaG L a t Γ P) (hn : a ≤ b) (hp : ∀ d, P d → P' d) : EaG L b t Γ P' := fun A σ H hi he hg Q q => h A σ H hi he (L.gle hn hg) Q fun v d H' r hl hd p => q v d H' (L.rle hn r) hl hd (hp d p)
theorem ea_cons {ds : List PyData} (h : EvD L te Γ d) (hr : EaD L t Γ ds) : EaD L (tCons te t) Γ (d :: ds) := (ea_consG (a := 0) (b := 0) h hr).mono (Nat.le_refl _) fun x ⟨d1, r, e, e1, e2⟩ => by rw [e, e1, e2]
theorem all_of {A : Addr → Prop} {H : Hp} {vs : List V} {ds : List PyData} (hl : vs.length = ds.length) (h : ∀ (i : Nat) d, ds[i]? = some d → ∃ v, vs[i]? = some v ∧ Dq L A H v d) (hn : nomk ds = true) : DvAll L.K A H vs ds := by
  have hne := nomk_ne hn
  clear hn
  induction ds generalizing vs with
  | nil =>
    have e : vs = [] := List.length_eq_zero_iff.mp hl
    subst e
    exact .nil
  | cons d r ih =>
    cases vs with
    | nil => simp at hl
    | cons v vs =>
      obtain ⟨v', e, hv⟩ := h 0 d rfl
      simp at e
      subst e
      refine .cons (hv.ne (hne 0 d rfl)) (ih (by simpa using hl) (fun i d e => by simpa using h (i + 1) d (by simpa using e)) (fun i d e => hne (i + 1) d (by simpa using e)))
theorem eg_tup {ds : List PyData} (h : EaD L t Γ ds) (hn : nomk ds = true := by rfl) (hl : ds.length ≤ 1000 := by simp) : EvD L (tTup t) Γ (.tuple ds) := fun A σ H hi he hg Q q => h A σ H hi he hg _ fun vs ds' H1 r1 l hv p => by
  subst p
  refine ⟨Nat.le_trans (by rw [l]; exact hl) (by decide), fun p hp => ?_⟩
  have rr := Rl.newR (o := .tup vs) (Rl.gR (b := 0) hg r1) hp
  exact q _ _ _ (L.tr (a := 0) (b := 0) r1 rr) (.inr (.tup ((hi.r r1).no hp) upd_same ((all_of l hv hn).r rr))) rfl
theorem eg_lst {ds : List PyData} (h : EaD L t Γ ds) (hn : nomk ds = true := by rfl) (hl : ds.length ≤ 1000 := by simp) : EvD L (tLst t) Γ (.list ds) := fun A σ H hi he hg Q q => h A σ H hi he hg _ fun vs ds' H1 r1 l hv p => by
  subst p
  refine ⟨Nat.le_trans (by rw [l]; exact hl) (by decide), fun p hp => ?_⟩
  have rr := Rl.newR (o := .lst vs) (Rl.gR (b := 0) hg r1) hp
  exact q _ _ _ (L.tr (a := 0) (b := 0) r1 rr) (.inr (.lst ((hi.r r1).no hp) upd_same ((all_of l hv hn).r rr))) rfl

/-! ### built-ins -/
def CaS (L : Rl) (r : List V → Hp → VK → Prop) (ds : List PyData) (d : PyData) : Prop := ∀ A H vs, Inn A H → L.G 0 H → vs.length = ds.length → (∀ (i : Nat) d, ds[i]? = some d → ∃ v, vs[i]? = some v ∧ Dq L A H v d) → ∀ Q : VK, (∀ v H', L.R 0 H H' → Dq L A H' v d → Q v H') → r vs H Q
theorem eg_cb {r : List V → Hp → VK → Prop} {ds : List PyData} (h : EaD L t Γ ds) (hr : CaS L r ds d) : EvD L (tCB r t) Γ d := fun A σ H hi he hg Q q => h A σ H hi he hg _ fun vs ds' H1 r1 l hv p => by
  subst p
  exact hr A H1 vs (hi.r r1) (Rl.gR (b := 0) hg r1) l hv Q fun v H2 r2 hd => q v _ H2 (L.tr (a := 0) (b := 0) r1 r2) hd rfl
theorem one_of {vs : List V} (hl : vs.length = 1) (h : ∀ (i : Nat) d', [d][i]? = some d' → ∃ v, vs[i]? = some v ∧ Dq L A H v d') : ∃ v, vs = [v] ∧ Dq L A H v d := by
  obtain ⟨v, e, hv⟩ := h 0 d rfl
  cases vs with
  | nil => simp at hl
  | cons x r =>
    cases r with
    | nil => simp at e; subst e; exact ⟨x, rfl, hv⟩
    | cons y z => simp at hl
theorem two_of {d2 : PyData} {vs : List V} (hl : vs.length = 2) (h : ∀ (i : Nat) d', [d, d2][i]? = some d' → ∃ v, vs[i]? = some v ∧ Dq L A H v d') : ∃ v w, vs = [v, w] ∧ Dq L A H v d ∧ Dq L A H w d2 := by
  obtain ⟨v, e, hv⟩ := h 0 d rfl
  obtain ⟨w, e2, hw⟩ := h 1 d2 rfl
  cases vs with
  | nil => simp at hl
  | cons x r =>
    cases r with
    | nil => simp at hl
    | cons y z =>
      cases z with
      | nil => simp at e e2; subst e e2; exact ⟨x, y, rfl, hv, hw⟩
      | cons u z => simp at hl
theorem cs_lenL {ds : List PyData} : CaS L (fun xs H Q => ∃ p ys, xs = [.ref p] ∧ (SqL L.K H p ys ∨ SqT L.K H p ys) ∧ Q (.int ys.length) H) [.list ds] (.int ds.length) := fun A H vs hi hg hl h Q q => by
  obtain ⟨v, rfl, hv⟩ := one_of hl h
  obtain ⟨p, xs, rfl, na, e, r⟩ := hv.list
  refine ⟨p, xs, rfl, .inl (SqL.of e), ?_⟩
  rw [r.length]
  exact q _ H (Rl.refl hg) (.inr (.int _))
theorem cs_lenT {ds : List PyData} : CaS L (fun xs H Q => ∃ p ys, xs = [.ref p] ∧ (SqL L.K H p ys ∨ SqT L.K H p ys) ∧ Q (.int ys.length) H) [.tuple ds] (.int ds.length) := fun A H vs hi hg hl h Q q => by
  obtain ⟨v, rfl, hv⟩ := one_of hl h
  obtain ⟨p, xs, rfl, e, r⟩ := hv.tuple
  refine ⟨p, xs, rfl, .inr (e.sq), ?_⟩
  rw [r.length]
  exact q _ H (Rl.refl hg) (.inr (.int _))
theorem cs_gcd {i j : Int} : CaS L rGcd [.int i, .int j] (.int ((Nat.gcd i.natAbs j.natAbs : Nat) : Int)) := fun A H vs hi hg hl h Q q => by
  obtain ⟨v, w, rfl, hv, hw⟩ := two_of hl h
  obtain rfl := hv.int
  obtain rfl := hw.int
  exact ⟨i, j, rfl, q _ H (Rl.refl hg) (.inr (.int _))⟩
theorem cs_lcm {i j : Int} (h1 : i.natAbs < 2 ^ 64) (h2 : j.natAbs < 2 ^ 64) : CaS L rLcm [.int i, .int j] (.int ((Nat.lcm i.natAbs j.natAbs : Nat) : Int)) := fun A H vs hi hg hl h Q q => by
  obtain ⟨v, w, rfl, hv, hw⟩ := two_of hl h
  obtain rfl := hv.int
  obtain rfl := hw.int
  exact ⟨i, j, rfl, h1, h2, q _ H (Rl.refl hg) (.inr (.int _))⟩
theorem cs_int {i : Int} : CaS L (fun xs H Q => (∃ i, xs = [.int i] ∧ Q (.int i) H) ∨ ∃ k, xs = [.bl k] ∧ Q (.int (if k then 1 else 0)) H) [.int i] (.int i) := fun A H vs hi hg hl h Q q => by
  obtain ⟨v, rfl, hv⟩ := one_of hl h
  obtain rfl := hv.int
  exact .inl ⟨i, rfl, q _ H (Rl.refl hg) (.inr (.int _))⟩
theorem cs_intB {k : Bool} : CaS L (fun xs H Q => (∃ i, xs = [.int i] ∧ Q (.int i) H) ∨ ∃ k, xs = [.bl k] ∧ Q (.int (if k then 1 else 0)) H) [.bool k] (.int (if k then 1 else 0)) := fun A H vs hi hg hl h Q q => by
  obtain ⟨v, rfl, hv⟩ := one_of hl h
  obtain rfl := hv.bool
  exact .inr ⟨k, rfl, q _ H (Rl.refl hg) (.inr (.int _))⟩
theorem cs_abs {i : Int} : CaS L (fun xs H Q => ∃ i, xs = [.int i] ∧ Q (.int (if i < 0 then -i else i)) H) [.int i] (.int (i.natAbs : Int)) := fun A H vs hi hg hl h Q q => by
  obtain ⟨v, rfl, hv⟩ := one_of hl h
  obtain rfl := hv.int
  refine ⟨i, rfl, ?_⟩
  have e : (if i < 0 then -i else i) = (i.natAbs : Int) := by split <;> omega
  rw [e]
  exact q _ H (Rl.refl hg) (.inr (.int _))
theorem cs_min {i j : Int} : CaS L (fun xs H Q => ∃ i j, xs = [.int i, .int j] ∧ Q (.int (if j < i then j else i)) H) [.int i, .int j] (.int (min i j)) := fun A H vs hi hg hl h Q q => by
  obtain ⟨v, w, rfl, hv, hw⟩ := two_of hl h
  obtain rfl := hv.int
  obtain rfl := hw.int
  refine ⟨i, j, rfl, ?_⟩
  have e : (if j < i then j else i) = min i j := by split <;> omega
  rw [e]
  exact q _ H (Rl.refl hg) (.inr (.int _))
theorem cs_max {i j : Int} : CaS L (fun xs H Q => ∃ i j, xs = [.int i, .int j] ∧ Q (.int (if j > i then j else i)) H) [.int i, .int j] (.int (max i j)) := fun A H vs hi hg hl h Q q => by
  obtain ⟨v, w, rfl, hv, hw⟩ := two_of hl h
  obtain rfl := hv.int
  obtain rfl := hw.int
  refine ⟨i, j, rfl, ?_⟩
  have e : (if j > i then j else i) = max i j := by split <;> omega
  rw [e]
  exact q _ H (Rl.refl hg) (.inr (.int _))
theorem cs_sum {ns : List Int} : CaS L (rSum L.K) [.list (ns.map PyData.int)] (.int ns.sum) := fun A H vs hi hg hl h Q q => by
  obtain ⟨v, rfl, hv⟩ := one_of hl h
  obtain ⟨p, xs, rfl, na, e, r⟩ := hv.list
  rw [r.ints] at e
  exact ⟨p, ns, rfl, SqL.of e, q _ H (Rl.refl hg) (.inr (.int _))⟩
theorem cs_tuple {ds : List PyData} : CaS L (fun xs H Q => ∃ p ys, xs = [.ref p] ∧ ((SqL L.K H p ys ∧ ∀ l, H l = none → Q (.ref l) (upd H l (.tup ys))) ∨ (SqT L.K H p ys ∧ Q (.ref p) H))) [.list ds] (.tuple ds) := fun A H vs hi hg hl h Q q => by
  obtain ⟨v, rfl, hv⟩ := one_of hl h
  obtain ⟨p, xs, rfl, na, e, r⟩ := hv.list
  refine ⟨p, xs, rfl, .inl ⟨SqL.of e, fun l hl2 => ?_⟩⟩
  have rr := Rl.newR (o := .tup xs) hg hl2
  exact q _ _ rr (.inr (.tup (hi.no hl2) upd_same (r.r rr)))
theorem cs_reprL {ds : List PyData} (h1 : (PyData.list ds).showable = true) (h2 : (PyData.list ds).hasDict = false) (h3 : (PyData.list ds).depth ≤ 60) (h4 : (PyData.list ds).shown.length ≤ sizeLine) : CaS L (rRepr L.K) [.list ds] (.str (PyData.list ds).shown) := fun A H vs hi hg hl h Q q => by
  obtain ⟨v, rfl, hv⟩ := one_of hl h
  have hd := (hv.ne (by intro z; cases z)).dp (K := L.K)
  obtain ⟨p, xs, rfl, na, e, r⟩ := hv.list
  exact ⟨p, _, rfl, hd, h1, h2, h3, h4, q _ H (Rl.refl hg) (.inr (.str _))⟩
theorem cs_reprT {ds : List PyData} (h1 : (PyData.tuple ds).showable = true) (h2 : (PyData.tuple ds).hasDict = false) (h3 : (PyData.tuple ds).depth ≤ 60) (h4 : (PyData.tuple ds).shown.length ≤ sizeLine) : CaS L (rRepr L.K) [.tuple ds] (.str (PyData.tuple ds).shown) := fun A H vs hi hg hl h Q q => by
  obtain ⟨v, rfl, hv⟩ := one_of hl h
  have hd := (hv.ne (by intro z; cases z)).dp (K := L.K)
  obtain ⟨p, xs, rfl, e, r⟩ := hv.tuple
  exact ⟨p, _, rfl, hd, h1, h2, h3, h4, q _ H (Rl.refl hg) (.inr (.str _))⟩

/-! ### calls of own defs -/
def spL (L : Rl) (n : Nat) (Pre : List PyData → Prop) (Post : List PyData → PyData → Prop) : Sp := fun vs H Q _ => ∃ (A : Addr → Prop) (ds : List PyData), Inn A H ∧ vs.length = ds.length ∧
  (∀ (i : Nat) d, ds[i]? = some d → ∃ v, vs[i]? = some v ∧ Dq L A H v d) ∧ Pre ds ∧ L.G n H ∧ ∀ v d H', L.R n H H' → Dq L A H' v d → Post ds d → Q v H'
variable {Pre : List PyData → Prop} {Post : List PyData → PyData → Prop} {PA1 : List PyData → Prop} {E : XK}
theorem pure_dq (h : Dq (pureL L.K) A H v d) : Dq L A H v d := h.elim (fun z => z.2.elim) .inr
theorem eg_callP (ha : EaG L a t Γ PA1) (hp : ∀ ds, PA1 ds → Pre ds ∧ nomk ds = true) : EvG L a (tCall (spL (pureL L.K) 0 Pre Post) [] E t) Γ (fun d => ∃ ds, PA1 ds ∧ Post ds d) := fun A σ H hi he hg Q q => ha A σ H hi he hg _ fun vs ds H1 r1 l hv p => by
  obtain ⟨h1, h2⟩ := hp ds p
  show spL (pureL L.K) 0 Pre Post (vs ++ []) H1 Q E
  rw [List.append_nil]
  refine ⟨A, ds, hi.r r1, l, fun i d e => ?_, h1, trivial, fun v d H2 r2 hd hpo => q v d H2 (L.tr (b := 0) r1 (L.same (Rl.gR (b := 0) hg r1) r2)) (pure_dq hd) ⟨ds, p, hpo⟩⟩
  obtain ⟨v, e1, e2⟩ := hv i d e
  exact ⟨v, e1, .inr (e2.ne (nomk_ne h2 i d e))⟩
theorem eg_callD {F : List PyData → PyData} {ds : List PyData} (ha : EaD L t Γ ds) (hp : Pre ds) (hn : nomk ds = true := by rfl) : EvD L (tCall (spL (pureL L.K) 0 Pre fun ds d => d = F ds) [] E t) Γ (F ds) :=
  (eg_callP (PA1 := fun x => x = ds) ha fun ds' e => by rw [e]; exact ⟨hp, hn⟩).mono (Nat.le_refl _) fun d ⟨ds', e1, e2⟩ => by rw [e2, e1]
/-- keywords alone -/
theorem eg_callK {F : List PyData → PyData} {ds ds2 : List PyData} {gV : List V → List V → List V} {tk : TA} (ha : EaD L tk Γ ds) (hg2 : ∀ zs : List V, zs.length = ds.length → (gV [] zs).length = ds2.length ∧ ∀ (i : Nat) d, ds2[i]? = some d → ∃ j : Nat, ds[j]? = some d ∧ (gV [] zs)[i]? = zs[j]?) (hp : Pre ds2) (hn : nomk ds2 = true := by rfl) :
    EvD L (tCallK (spL (pureL L.K) 0 Pre fun ds d => d = F ds) gV E tNil tk) Γ (F ds2) := fun A σ H hi he hg Q q => ha A σ H hi he hg _ fun vs ds' H1 r1 l hv p => by
  subst p
  obtain ⟨g1, g2⟩ := hg2 vs l
  refine ⟨A, ds2, hi.r r1, g1, fun i d e => ?_, hp, trivial, fun v d H2 r2 hd hpo => q v d H2 (L.tr (a := 0) (b := 0) r1 (L.same (Rl.gR (b := 0) hg r1) r2)) (pure_dq hd) hpo⟩
  obtain ⟨j, e1, e2⟩ := g2 i d e
  obtain ⟨v, e3, e4⟩ := hv j d e1
  exact ⟨v, by rw [e2]; exact e3, .inr (e4.ne (nomk_ne hn i d e))⟩
/-- a def that goes on as L does -/
theorem eg_callL (ha : EaG L a t Γ PA1) (hp : ∀ ds, PA1 ds → Pre ds) : EvG L (a + b) (tCall (spL L b Pre Post) [] E t) Γ (fun d => ∃ ds, PA1 ds ∧ Post ds d) := fun A σ H hi he hg Q q => ha A σ H hi he (L.gle (Nat.le_add_right _ _) hg) _ fun vs ds H1 r1 l hv p => by
  show spL L b Pre Post (vs ++ []) H1 Q E
  rw [List.append_nil]
  exact ⟨A, ds, hi.r r1, l, hv, hp ds p, Rl.gR hg r1, fun v d H2 r2 hd hpo => q v d H2 (L.tr r1 r2) hd ⟨ds, p, hpo⟩⟩
/-- a def whose way hangs on what it is given -/
def spA (S : Rl → Prop) (n : Nat) (Pre : List PyData → Prop) (Post : List PyData → PyData → Prop) : Sp := fun vs H Q E => ∃ L, S L ∧ spL L n Pre Post vs H Q E
theorem eg_callA {S : Rl → Prop} (hS : S L) (ha : EaG L a t Γ PA1) (hp : ∀ ds, PA1 ds → Pre ds) : EvG L (a + b) (tCall (spA S b Pre Post) [] E t) Γ (fun d => ∃ ds, PA1 ds ∧ Post ds d) := fun A σ H hi he hg Q q => ha A σ H hi he (L.gle (Nat.le_add_right _ _) hg) _ fun vs ds H1 r1 l hv p => by
  show spA S b Pre Post (vs ++ []) H1 Q E
  rw [List.append_nil]
  exact ⟨L, hS, A, ds, hi.r r1, l, hv, hp ds p, Rl.gR hg r1, fun v d H2 r2 hd hpo => q v d H2 (L.tr r1 r2) hd ⟨ds, p, hpo⟩⟩

/-! ### tests -/
theorem et_B {k : Bool} (h : EvD L te Γ (.bool k)) : EtD L (tB te) Γ k := fun A σ H hi he hg Q q => h A σ H hi he hg _ fun v d H1 r1 hv p => by
  subst p
  obtain rfl := hv.bool
  exact ⟨k, rfl, q H1 r1⟩
theorem et_test {k : Bool} (h : EvD L te Γ (.bool k)) : EtD L (tTest te) Γ k := et_B h
theorem et_not {k : Bool} (h : EtD L tt Γ k) : EtD L (tNot tt) Γ (!k) := fun A σ H hi he hg Q q => h A σ H hi he hg _ fun H1 r1 => q H1 r1
theorem et_or0 {k : Bool} (h : EtD L tt Γ false) (h2 : EtD L tu Γ k) : EtD L (tOr tt tu) Γ k := fun A σ H hi he hg Q q => h A σ H hi he hg _ fun H1 r1 => by
  show tu σ H1 Q
  exact h2 A σ H1 (hi.r r1) (he.r r1) (Rl.gR (b := 0) hg r1) Q fun H2 r2 => q H2 (L.tr (a := 0) (b := 0) r1 r2)
theorem et_or1 (h : EtD L tt Γ true) : EtD L (tOr tt tu) Γ true := fun A σ H hi he hg Q q => h A σ H hi he hg _ fun H1 r1 => by
  show Q true H1
  exact q H1 r1
theorem et_is {k k' : Bool} (h : EtD L tt Γ k) (e : k = k') : EtD L tt Γ k' := e ▸ h
theorem eg_if {k : Bool} (h : EtD L tt Γ k) (h1 : k = true → EvD L ta Γ d) (h2 : k = false → EvD L tb Γ d) : EvD L (tIf tt ta tb) Γ d := fun A σ H hi he hg Q q => h A σ H hi he hg _ fun H1 r1 => by
  have fin : ∀ {tx : TE}, EvD L tx Γ d → tx σ H1 Q := fun {tx} hx => hx A σ H1 (hi.r r1) (he.r r1) (Rl.gR (b := 0) hg r1) Q fun v d' H2 r2 hd p => q v d' H2 (L.tr (a := 0) (b := 0) r1 r2) hd p
  cases k with
  | true => exact fin (h1 rfl)
  | false => exact fin (h2 rfl)
end
end V1
set_option Elab.async false
set_option linter.all false
set_option maxRecDepth 100000
set_option maxHeartbeats 4000000
/-! Walks, comprehensions, statements, loops, a def's promise by its body. -/
namespace V1
open PySem PySem.Spec PyProof.Rows L2

/-- all but dicts, and what is avoided, stay -/
def Kp (A : Addr → Prop) (H H' : Hp) : Prop := ∀ b o, ¬ A b → H b = some o → (∀ kvs, o ≠ .dK kvs) → H' b = some o
/-- the iterator gives the items, one by one, in whatever heap goes on from H1 -/
structure JOk (K : PySem.W.Frag) (A : Addr → Prop) (J : It) (H1 : Hp) (items : List PyData) : Prop where
  go : ∀ (i : Nat) H', Kp A H1 H' → i < items.length → J.go i H'
  yld : ∀ (i : Nat) H' x H'', Kp A H1 H' → (∀ b, A b → H' b ≠ none) → J.yld i H' x H'' → i < items.length → ∃ d, items[i]? = some d ∧ Same H' H'' ∧ (∀ A', (∀ b, A' b → H' b ≠ none) → (∀ b o, ¬ A b → H1 b = some o → (∀ kvs, o ≠ .dK kvs) → ¬ A' b) → Dv K A' H'' x d)
  stop : ∀ H', Kp A H1 H' → J.stop items.length H'
def WkG (L : Rl) (n : Nat) (wi : TI) (Γ : List (Option PyData)) (P : List PyData → Prop) : Prop := ∀ A σ H, Inn A H → EnvOk L A σ H Γ → L.G n H → ∀ R : It → Hp → Prop, (∀ J H1 items, L.R n H H1 → P items → JOk L.K A J H1 items → R J H1) → wi σ H R
abbrev WkD (L : Rl) (wi : TI) (Γ : List (Option PyData)) (items : List PyData) : Prop := WkG L 0 wi Γ (fun x => x = items)
section
variable {L : Rl} {A : Addr → Prop} {H H' H1 : Hp} {v : V} {d : PyData} {σ : L2.St} {Γ : List (Option PyData)} {n a b c : Nat} {te ta tb tl : TE} {t : TA} {tt tu : TT} {P P1 P2 : PyData → Prop}
theorem Kp.at {xs : List V} {p : Addr} (k : Kp A H H') (na : ¬ A p) (e : H p = some (.lst xs)) : H' p = some (.lst xs) := k _ _ na e (fun _ z => by cases z)
theorem Kp.att {xs : List V} {p : Addr} (k : Kp A H H') (na : ¬ A p) (e : H p = some (.tup xs)) : H' p = some (.tup xs) := k _ _ na e (fun _ z => by cases z)
/-- what stands stays, away from whatever is avoided later -/
theorem dv_later {A A' : Addr → Prop} {H1 H' H'' : Hp} (h : Dv L.K A H1 v d) (k : Kp A H1 H') (s : Same H' H'') (f : ∀ b o, ¬ A b → H1 b = some o → (∀ kvs, o ≠ .dK kvs) → ¬ A' b) : Dv L.K A' H'' v d := h.map fun b o na e q => ⟨f b o na e q, s _ _ (k b o na e q)⟩
/-- a sequence that stands, also later -/
def Stands (K : PySem.W.Frag) (k : Bool) (A : Addr → Prop) (H1 : Hp) (p : Addr) (xs : List V) : Prop := ∀ H', Kp A H1 H' → Sq K k H' p xs
theorem TpAt.stands {p : Addr} {xs : List V} (h : TpAt L.K A H1 p xs) : Stands L.K false A H1 p xs := fun H' q => h.elim (fun z => SqT.of (q.att z.1 z.2)) fun z => z.sq H'
theorem lst_stands {p : Addr} {xs : List V} (na : ¬ A p) (h : H1 p = some (.lst xs)) : Stands L.K true A H1 p xs := fun H' q => SqL.of (q.at na h)
theorem Stands.now {k : Bool} {p : Addr} {xs : List V} (h : Stands L.K k A H1 p xs) : Sq L.K k H1 p xs := h H1 fun _ _ _ e _ => e
theorem jok_seq (k : Bool) {p : Addr} {xs : List V} {ds : List PyData} (st : Stands L.K k A H1 p xs) (r : DvAll L.K A H1 xs ds) (J : It) (hJ : J = (if k then Itl L.K p else Itt L.K p)) : JOk L.K A J H1 ds := by
  subst hJ
  have l := r.length
  refine ⟨fun i H' q hi => ?_, fun i H' x H'' q hA y hi => ?_, fun H' q => ?_⟩
  · have hx : xs[i]? = some xs[i] := List.getElem?_eq_getElem (by omega)
    cases k with
    | true => exact ⟨xs, _, st H' q, hx⟩
    | false => exact ⟨xs, _, st H' q, hx⟩
  · have key : xs[i]? = some x ∧ H'' = H' := by
      cases k with
      | true => exact ⟨y.2 xs (st H' q), y.1⟩
      | false => exact ⟨y.2 xs (st H' q), y.1⟩
    obtain ⟨hx, rfl⟩ := key
    obtain ⟨d, hd, dv⟩ := r.getx hx
    exact ⟨d, hd, Same.refl _, fun A' _ f => dv_later dv q (Same.refl _) f⟩
  · cases k with
    | true => exact ⟨xs, st H' q, by omega⟩
    | false => exact ⟨xs, st H' q, by omega⟩
theorem wk_list {ds : List PyData} (h : EvD L tl Γ (.list ds)) : WkD L (iList L.K tl) Γ ds := fun A σ H hi he hg R q => h A σ H hi he hg _ fun x d H1 r1 hx p => by
  subst p
  obtain ⟨p, xs, rfl, na, e, r⟩ := hx.list
  exact ⟨p, rfl, ⟨xs, SqL.of e⟩, q _ H1 ds r1 rfl (jok_seq true (lst_stands na e) r _ rfl)⟩
theorem wk_tup {ds : List PyData} (h : EvD L tl Γ (.tuple ds)) : WkD L (iTup L.K tl) Γ ds := fun A σ H hi he hg R q => h A σ H hi he hg _ fun x d H1 r1 hx p => by
  subst p
  obtain ⟨p, xs, rfl, e, r⟩ := hx.tuple
  exact ⟨p, rfl, ⟨xs, e.sq⟩, q _ H1 ds r1 rfl (jok_seq false e.stands r _ rfl)⟩
/-- a sequence as data: a list (true), a tuple -/
def sqD : Bool → List PyData → PyData
  | true, ds => .list ds
  | false, ds => .tuple ds
theorem sq_dq {k : Bool} {ds : List PyData} (h : Dq L A H v (sqD k ds)) : ∃ p xs, v = .ref p ∧ Stands L.K k A H p xs ∧ DvAll L.K A H xs ds := by
  cases k with
  | true =>
    obtain ⟨p, xs, e1, na, e2, r⟩ := h.list
    exact ⟨p, xs, e1, lst_stands na e2, r⟩
  | false =>
    obtain ⟨p, xs, e1, e2, r⟩ := h.tuple
    exact ⟨p, xs, e1, e2.stands, r⟩
def zipD (ds es : List PyData) : List PyData := List.zipWith (fun d e => PyData.tuple [d, e]) ds es
theorem wk_zip {k1 k2 : Bool} {ds es : List PyData} (h : EaD L t Γ [sqD k1 ds, sqD k2 es]) : WkD L (iZipP L.K k1 k2 t) Γ (zipD ds es) := fun A σ H hi he hg R q => h A σ H hi he hg _ fun vs ds' H1 r1 hl hv p => by
  subst p
  obtain ⟨v, w, rfl, hx, hy⟩ := two_of hl hv
  obtain ⟨p1, xs, rfl, e1, r1'⟩ := sq_dq hx
  obtain ⟨p2, ys, rfl, e2, r2'⟩ := sq_dq hy
  have l1 := r1'.length
  have l2 := r2'.length
  refine ⟨p1, p2, xs, ys, rfl, e1.now, e2.now, q _ H1 _ r1 rfl ⟨fun i H' k hi => ?_, fun i H' x H'' k hA y hi => ?_, fun H' k => ?_⟩⟩
  · have hi' : i < min ds.length es.length := by simpa [zipD] using hi
    exact ⟨xs, ys, _, _, e1 _ k, e2 _ k, List.getElem?_eq_getElem (show i < xs.length by omega), List.getElem?_eq_getElem (show i < ys.length by omega)⟩
  · obtain ⟨T, x1, y1, rfl, hT, rfl, f1, f2⟩ := y
    obtain ⟨d, hd, dv⟩ := r1'.getx (f1 xs (e1 _ k))
    obtain ⟨e, he', ev⟩ := r2'.getx (f2 ys (e2 _ k))
    have sm : Same H' (upd H' T (.tup [x1, y1])) := fun b o z => by rw [upd_ne (ne_of_none z hT)]; exact z
    refine ⟨.tuple [d, e], ?_, sm, fun A' hA' f => .tup (fun z => hA' T z hT) upd_same (.cons (dv_later dv k sm f) (.cons (dv_later ev k sm f) .nil))⟩
    unfold zipD
    rw [List.getElem?_zipWith, hd, he']
  · refine ⟨xs, ys, e1 _ k, e2 _ k, ?_⟩
    unfold zipD
    rw [List.length_zipWith]
    omega
theorem wk_enum {k : Bool} {ds : List PyData} (h : EaD L t Γ [sqD k ds]) : WkD L (iEnumP L.K k t) Γ (ds.mapIdx fun i d => PyData.tuple [.int (i : Nat), d]) := fun A σ H hi he hg R q => h A σ H hi he hg _ fun vs ds' H1 r1 hl hv p => by
  subst p
  obtain ⟨v, rfl, hx⟩ := one_of hl hv
  obtain ⟨p1, xs, rfl, e1, r1'⟩ := sq_dq hx
  have l1 := r1'.length
  refine ⟨p1, xs, rfl, e1.now, q _ H1 _ r1 rfl ⟨fun i H' k hi => ?_, fun i H' x H'' k hA y hi => ?_, fun H' k => ?_⟩⟩
  · have hi' : i < ds.length := by simpa using hi
    exact ⟨xs, _, e1 _ k, List.getElem?_eq_getElem (show i < xs.length by omega)⟩
  · obtain ⟨T, x1, rfl, hT, rfl, f1⟩ := y
    obtain ⟨d, hd, dv⟩ := r1'.getx (f1 xs (e1 _ k))
    have sm : Same H' (upd H' T (.tup [.int (i : Nat), x1])) := fun b o z => by rw [upd_ne (ne_of_none z hT)]; exact z
    refine ⟨.tuple [.int (i : Nat), d], ?_, sm, fun A' hA' f => .tup (fun z => hA' T z hT) upd_same (.cons (.int _) (.cons (dv_later dv k sm f) .nil))⟩
    rw [List.getElem?_mapIdx, hd]
    rfl
  · refine ⟨xs, e1 _ k, ?_⟩
    rw [List.length_mapIdx]
    omega
def rngD (lo : Int) (n : Nat) : List PyData := (List.range n).map fun (i : Nat) => PyData.int (lo + (i : Int))
theorem wk_rng1G {P : PyData → Prop} (h : EaG L a t Γ (fun ds => ∃ j : Int, ds = [.int j] ∧ P (.int j) ∧ -(2 ^ 62) ≤ j ∧ j < 2 ^ 62)) : WkG L a (iRng1 t) Γ (fun items => ∃ j : Int, P (.int j) ∧ items = rngD 0 j.toNat) := fun A σ H hi he hg R q => h A σ H hi he hg _ fun vs ds' H1 r1 hl hv p => by
  obtain ⟨j, rfl, hp, h1, h2⟩ := p
  obtain ⟨v, rfl, hx⟩ := one_of hl hv
  obtain rfl := hx.int
  refine ⟨j, rfl, h1, h2, q _ H1 _ r1 ⟨j, hp, rfl⟩ ⟨fun i H' k hi => ?_, fun i H' x H'' k hA y hi => ?_, fun H' k => ?_⟩⟩
  · have hi' : i < j.toNat := by simpa [rngD] using hi
    exact hi'
  · obtain ⟨rfl, rfl⟩ := y
    have hi' : i < j.toNat := by simpa [rngD] using hi
    refine ⟨.int (0 + (i : Int)), ?_, Same.refl _, fun A' _ _ => .int _⟩
    unfold rngD
    rw [List.getElem?_map, List.getElem?_range hi']
    rfl
  · show j.toNat ≤ (rngD 0 j.toNat).length
    simp [rngD]
theorem wk_rng1 {j : Int} (h : EaD L t Γ [.int j]) (h1 : -(2 ^ 62) ≤ j ∧ j < 2 ^ 62) : WkD L (iRng1 t) Γ (rngD 0 j.toNat) := fun A σ H hi he hg R q =>
  wk_rng1G (P := fun x => x = .int j) (h.mono (Nat.le_refl _) fun ds e => ⟨j, e, rfl, h1⟩) A σ H hi he hg R fun J H1 items r ⟨j', e1, e2⟩ k => by
    have e3 : j' = j := by injection e1
    subst e3
    exact q J H1 items r e2 k

/-! ### targets -/
def TgG (L : Rl) (g : TG) (js : List Nat) (d : PyData) (Γ Γ' : List (Option PyData)) : Prop := ∀ A x σ H, Dv L.K A H x d → EnvOk L A σ H Γ → ∀ Q : L2.St → Hp → Prop, (∀ σ', EnvOk L A σ' H Γ' → (∀ vs : List Nat, (∀ j ∈ js, j ∈ vs) → wipe σ' vs = wipe σ vs) → Q σ' H) → g x σ H Q
theorem wipe_set {σ : L2.St} {j : Nat} {x : Option V} : ∀ {vs : List Nat}, j ∈ vs → wipe (σ.set j x) vs = wipe σ vs
  | [], h => by simp at h
  | v :: vs, h => by
    by_cases e : v = j
    · subst e
      by_cases h2 : v ∈ vs
      · show (wipe (σ.set v x) vs).set v none = (wipe σ vs).set v none
        rw [wipe_set h2]
      · have key : ∀ (ws : List Nat) (τ : L2.St), v ∉ ws → wipe (τ.set v x) ws = (wipe τ ws).set v x := by
          intro ws
          induction ws with
          | nil => intro τ _; rfl
          | cons u us ih =>
            intro τ hn
            show (wipe (τ.set v x) us).set u none = ((wipe τ us).set u none).set v x
            rw [ih τ (fun z => hn (List.mem_cons_of_mem _ z)), List.set_comm _ _ (fun z => hn (by rw [z]; exact List.mem_cons_self))]
        show (wipe (σ.set v x) vs).set v none = (wipe σ vs).set v none
        rw [key vs σ h2, List.set_set]
    · have h2 : j ∈ vs := (List.mem_cons.mp h).resolve_left (fun z => e z.symm)
      show (wipe (σ.set j x) vs).set v none = (wipe σ vs).set v none
      rw [wipe_set h2]
theorem wipe_mem {σ : L2.St} {v : Nat} : ∀ {ws : List Nat}, v ∈ ws → (wipe σ ws).set v none = wipe σ ws
  | [], h => by simp at h
  | u :: us, h => by
    by_cases e : u = v
    · subst e
      show ((wipe σ us).set u none).set u none = (wipe σ us).set u none
      rw [List.set_set]
    · have h2 : v ∈ us := (List.mem_cons.mp h).resolve_left (fun z => e z.symm)
      show ((wipe σ us).set u none).set v none = (wipe σ us).set u none
      rw [List.set_comm _ _ e, wipe_mem h2]
theorem wipe_wipe {σ : L2.St} (ws : List Nat) : ∀ {vs : List Nat}, (∀ v ∈ vs, v ∈ ws) → wipe (wipe σ ws) vs = wipe σ ws
  | [], _ => rfl
  | v :: vs, h => by
    show (wipe (wipe σ ws) vs).set v none = wipe σ ws
    rw [wipe_wipe ws (fun u hu => h u (List.mem_cons_of_mem _ hu)), wipe_mem (h v List.mem_cons_self)]
theorem tg_name {j : Nat} : TgG L (gName j) [j] d Γ (Γ.set j (some d)) := fun A x σ H hx he Q q => q _ (he.set (.inr hx) j) fun vs hv => wipe_set (hv j (by simp))
theorem tg_two {i j : Nat} {d1 d2 : PyData} : TgG L (gTup L.K 2 (gCons (gName i) (gCons (gName j) gNil))) [i, j] (.tuple [d1, d2]) Γ ((Γ.set i (some d1)).set j (some d2)) := fun A x σ H hx he Q q => by
  obtain ⟨p, xs, rfl, e, r⟩ := Dq.tuple (L := L) (.inr hx)
  cases r with
  | cons r1 r =>
    cases r with
    | cons r2 r =>
      cases r
      refine ⟨p, _, rfl, e.sq, rfl, _, _, rfl, _, _, rfl, rfl, ?_⟩
      refine q _ ((he.set (.inr r1) i).set (.inr r2) j) fun vs hv => ?_
      rw [wipe_set (hv j (by simp)), wipe_set (hv i (by simp))]

/-! ### comprehensions -/
def wipeD (Γ : List (Option PyData)) : List Nat → List (Option PyData)
  | [] => Γ
  | v :: vs => (wipeD Γ vs).set v none
theorem EnvOk.clear (h : EnvOk L A σ H Γ) (i : Nat) : EnvOk L A (σ.set i none) H (Γ.set i none) := by
  refine ⟨by rw [List.length_set, List.length_set]; exact h.1, fun j d' e => ?_⟩
  by_cases hj : i = j
  · subst hj
    have hl : i < Γ.length := by
      have := (List.getElem?_eq_some_iff.mp e).1
      rwa [List.length_set] at this
    rw [List.getElem?_set_self hl] at e
    cases e
  · rw [List.getElem?_set_ne hj] at e
    obtain ⟨w, h1, h2⟩ := h.2 j d' e
    exact ⟨w, by rw [List.getElem?_set_ne hj]; exact h1, h2⟩
theorem EnvOk.wipe (h : EnvOk L A σ H Γ) : ∀ vs : List Nat, EnvOk L A (wipe σ vs) H (wipeD Γ vs)
  | [] => h
  | v :: vs => (h.wipe vs).clear v
/-- a new address is avoided from now on -/
theorem EnvOk.avoid {q : Addr} {o : HO} (h : EnvOk L A σ H Γ) (e : H q = none) : EnvOk L (fun b => A b ∨ b = q) σ (upd H q o) Γ := ⟨h.1, fun i d ed => by
  obtain ⟨v, h1, h2⟩ := h.2 i d ed
  refine ⟨v, h1, h2.imp (fun x => x) fun x => x.map fun b u na eb _ => ?_⟩
  have ne : b ≠ q := ne_of_none eb e
  exact ⟨fun z => z.elim na ne, by rw [upd_ne ne]; exact eb⟩⟩
theorem kp_of (r : L.R n H H') : Kp A H H' := fun b o _ e k => L.keep r e k
/-- an avoided object is written -/
theorem DvAll.off {q : Addr} {o : HO} {vs : List V} {ds : List PyData} (h : DvAll L.K (fun b => A b ∨ b = q) H vs ds) : DvAll L.K (fun b => A b ∨ b = q) (upd H q o) vs ds := h.map fun b u na e k => ⟨na, by rw [upd_ne (fun z => na (.inr z))]; exact e⟩
theorem EnvOk.off {q : Addr} {o : HO} (h : EnvOk L (fun b => A b ∨ b = q) σ H Γ) : EnvOk L (fun b => A b ∨ b = q) σ (upd H q o) Γ := ⟨h.1, fun i d ed => by
  obtain ⟨v, h1, h2⟩ := h.2 i d ed
  exact ⟨v, h1, h2.imp (fun x => x) fun x => x.map fun b u na e _ => ⟨na, by rw [upd_ne (fun z => na (.inr z))]; exact e⟩⟩⟩
/-- a new object -/
def EvF (L : Rl) (n : Nat) (te : TE) (Γ : List (Option PyData)) (P : PyData → Prop) : Prop := ∀ A σ H, Inn A H → EnvOk L A σ H Γ → L.G n H → ∀ Q : VK, (∀ p d H', L.R n H H' → H p = none → Dq L A H' (.ref p) d → P d → Q (.ref p) H') → te σ H Q
theorem EvF.eg (h : EvF L a te Γ P) : EvG L a te Γ P := fun A σ H hi he hg Q q => h A σ H hi he hg Q fun p d H' r _ hv hp => q (.ref p) d H' r hv hp
theorem eg_lcGF {wi : TI} {g : TG} {js vs : List Nat} {PI1 : List PyData → Prop} {Pt : List PyData → Nat → PyData → Prop} (hw : WkG L a wi Γ PI1) (hj : ∀ j ∈ js, j ∈ vs) (hlen : ∀ items, PI1 items → items.length ≤ b ∧ b ≤ 1000)
    (hb : ∀ items, PI1 items → ∀ (i : Nat) d, items[i]? = some d → ∃ Γ', TgG L g js d (wipeD Γ vs) Γ' ∧ EvG L c te Γ' (fun r => r ≠ mark ∧ Pt items i r)) :
    EvF L (a + b * c) (tLc wi g tYes te vs) Γ (fun r => ∃ items rs, PI1 items ∧ r = .list rs ∧ rs.length = items.length ∧ ∀ (i : Nat) d, rs[i]? = some d → Pt items i d) := fun A σ H hi he hg Q q => hw A σ H hi he (L.gle (Nat.le_add_right _ _) hg) _ fun J H1 items r1 hp jk D hD => by
  have hD0 : H D = none := L.free r1 hD
  obtain ⟨hl, hl2⟩ := hlen items hp
  have g1 : L.G (b * c) H1 := Rl.gR hg r1
  -- the walk's word
  refine ⟨fun i m H2 => m = items.length - i ∧ i ≤ items.length ∧ L.R (a + i * c) H H2 ∧ Kp A H1 H2 ∧ ∃ acc rs, H2 D = some (.lst acc) ∧ DvAll L.K (fun b => A b ∨ b = D) H2 acc rs ∧ rs.length = i ∧ ∀ (j : Nat) d, rs[j]? = some d → Pt items j d, ⟨items.length, ?_⟩, ?_⟩
  · refine ⟨by omega, Nat.zero_le _, ?_, fun b o _ e k => by rw [upd_ne (ne_of_none e hD)]; exact e, [], [], upd_same, .nil, rfl, fun j d e => by simp at e⟩
    have e0 : a + 0 * c = a := by rw [Nat.zero_mul, Nat.add_zero]
    rw [e0]
    exact L.fresh r1 hD0
  · rintro i m H2 ⟨rfl, hle, r2, k2, acc, rs, eD, dv, hrl, hpt⟩
    have naD : ∀ b, A b → H2 b ≠ none := fun b z => hi.r r2 b z
    by_cases hlt : i < items.length
    · refine .inr ⟨jk.go i H2 k2 hlt, fun H3 => i + 1 ≤ items.length ∧ L.R (a + (i + 1) * c) H H3 ∧ Kp A H1 H3 ∧ ∃ acc rs, H3 D = some (.lst acc) ∧ DvAll L.K (fun b => A b ∨ b = D) H3 acc rs ∧ rs.length = i + 1 ∧ ∀ (j : Nat) d, rs[j]? = some d → Pt items j d,
        fun H3 h3 => ⟨items.length - (i + 1), by omega, rfl, h3⟩, fun x H3 y => ?_⟩
      obtain ⟨d, hd, sm, hdv⟩ := jk.yld i H2 x H3 k2 naD y hlt
      obtain ⟨Γ', htg, hev⟩ := hb items hp i d hd
      have innA' : ∀ b, (A b ∨ b = D) → H2 b ≠ none := fun b z => z.elim (naD b) fun e => by rw [e, eD]; simp
      have dx : Dv L.K (fun b => A b ∨ b = D) H3 x d := hdv _ innA' fun b o na e _ z => z.elim na (ne_of_none e hD)
      -- the names, away from the new list
      have ev2 : EnvOk L (fun b => A b ∨ b = D) (wipe σ vs) H3 (wipeD Γ vs) := by
        have h0 : EnvOk L (fun b => A b ∨ b = D) (wipe σ vs) (upd H1 D (.lst [])) (wipeD Γ vs) := ((he.r r1).wipe vs).avoid hD
        refine ⟨h0.1, fun j d' e => ?_⟩
        obtain ⟨v, e1, e2⟩ := h0.2 j d' e
        refine ⟨v, e1, e2.imp (fun z => z) fun z => z.map fun b o na eb kd => ⟨na, sm _ _ (k2 b o (fun w => na (.inl w)) ?_ kd)⟩⟩
        rwa [upd_ne (fun w => na (.inr w))] at eb
      refine htg (fun b => A b ∨ b = D) x (wipe σ vs) H3 dx ev2 _ fun σ2 e3 w3 => ⟨?_, ?_⟩
      · rw [w3 vs hj, wipe_wipe vs fun v hv => hv]
      · show te σ2 H3 _
        have g0 : L.G (c + 0) H2 := by
          refine Rl.gR (a := a + i * c) ?_ r2
          refine L.gle ?_ hg
          have h1 : (i + 1) * c ≤ b * c := Nat.mul_le_mul_right _ (by omega)
          have h2 : (i + 1) * c = i * c + c := Nat.succ_mul _ _
          omega
        have r3 : L.R 0 H2 H3 := L.same (L.g0 g0) sm
        have g3 : L.G c H3 := Rl.gR (a := 0) (by rw [Nat.zero_add]; exact g0) r3
        refine hev (fun b => A b ∨ b = D) σ2 H3 (fun b z y => innA' b z (L.free r3 y)) e3 g3 _ fun y dy H4 r4 hy pw => ?_
        obtain ⟨hmk, hpt4⟩ := pw
        have eD4 : H4 D = some (.lst acc) := L.keep r4 (sm _ _ eD) (fun kvs z => by cases z)
        refine ⟨acc, eD4, Nat.lt_of_le_of_lt (show acc.length ≤ 1000 by rw [dv.length, hrl]; omega) (by decide), hlt, ?_, ?_, acc ++ [y], rs ++ [dy], upd_same, ?_, by rw [List.length_append, hrl]; rfl, fun j d' e => ?_⟩
        · have hh : L.R (a + i * c + 0 + c) H H4 := L.tr (L.tr r2 r3) r4
          have e5 : a + (i + 1) * c = a + i * c + 0 + c := by rw [Nat.succ_mul]; omega
          rw [e5]
          exact L.fresh hh hD0
        · intro b o na e k
          have ne : b ≠ D := ne_of_none e hD
          rw [upd_ne ne]
          exact L.keep r4 (sm _ _ (k2 b o na e k)) k
        · have dv4 : DvAll L.K (fun b => A b ∨ b = D) H4 acc rs := (dv.map (fun b o na e k => ⟨na, sm _ _ e⟩) : DvAll L.K (fun b => A b ∨ b = D) H3 acc rs).r r4
          exact (dv4.app (.cons (hy.ne hmk) .nil)).off
        · by_cases hj2 : j < rs.length
          · rw [List.getElem?_append_left hj2] at e
            exact hpt j d' e
          · rw [List.getElem?_append_right (by omega)] at e
            have hj3 : j - rs.length = 0 := by
              have := (List.getElem?_eq_some_iff.mp e).1
              simp at this
              omega
            rw [hj3] at e
            simp at e
            subst e
            have : j = i := by omega
            subst this
            exact hpt4
    · have e : i = items.length := by omega
      subst e
      refine .inl ⟨jk.stop H2 k2, ?_⟩
      have nD : ¬ A D := hi.no hD0
      refine q D (.list rs) H2 (L.rle ?_ r2) hD0 (.inr (.lst nD eD (dv.map fun b o na e _ => ⟨fun z => na (.inl z), e⟩))) ⟨items, rs, hp, rfl, hrl, hpt⟩
      have := Nat.mul_le_mul_right c hl
      omega
theorem eg_lcG {wi : TI} {g : TG} {js vs : List Nat} {PI1 : List PyData → Prop} {Pt : List PyData → Nat → PyData → Prop} (hw : WkG L a wi Γ PI1) (hj : ∀ j ∈ js, j ∈ vs) (hlen : ∀ items, PI1 items → items.length ≤ b ∧ b ≤ 1000)
    (hb : ∀ items, PI1 items → ∀ (i : Nat) d, items[i]? = some d → ∃ Γ', TgG L g js d (wipeD Γ vs) Γ' ∧ EvG L c te Γ' (fun r => r ≠ mark ∧ Pt items i r)) :
    EvG L (a + b * c) (tLc wi g tYes te vs) Γ (fun r => ∃ items rs, PI1 items ∧ r = .list rs ∧ rs.length = items.length ∧ ∀ (i : Nat) d, rs[i]? = some d → Pt items i d) := (eg_lcGF hw hj hlen hb).eg
/-- each item comes to one thing -/
theorem eg_lcF {wi : TI} {g : TG} {js vs : List Nat} {items rs : List PyData} (hw : WkD L wi Γ items) (hj : ∀ j ∈ js, j ∈ vs) (hlen : items.length ≤ 1000) (hr : rs.length = items.length)
    (hb : ∀ (i : Nat) d r, items[i]? = some d → rs[i]? = some r → r ≠ mark ∧ ∃ Γ', TgG L g js d (wipeD Γ vs) Γ' ∧ EvD L te Γ' r) : EvF L 0 (tLc wi g tYes te vs) Γ (fun x => x = .list rs) := by
  have h := eg_lcGF (a := 0) (b := items.length) (c := 0) (te := te) (Pt := fun its i r => rs[i]? = some r) hw hj (fun its e => by rw [e]; exact ⟨Nat.le_refl _, hlen⟩) (fun its e i d hd => by
    subst e
    have hi : i < rs.length := by rw [hr]; exact (List.getElem?_eq_some_iff.mp hd).1
    obtain ⟨nm, Γ', h1, h2⟩ := hb i d rs[i] hd (List.getElem?_eq_getElem hi)
    refine ⟨Γ', h1, EvG.mono h2 (Nat.le_refl _) fun r e => ?_⟩
    rw [e]
    exact ⟨nm, List.getElem?_eq_getElem hi⟩)
  intro A σ H hi he hg Q q
  refine h A σ H hi he (L.gle (Nat.le_of_eq (by simp)) hg) Q fun p r H' rr hp hv ⟨its, rs', e1, e2, e3, e4⟩ => q p r H' (L.rle (Nat.le_of_eq (by simp)) rr) hp hv ?_
  rw [e2]
  congr 1
  subst e1
  refine List.ext_getElem? fun i => ?_
  by_cases hi : i < rs'.length
  · have z := e4 i rs'[i] (List.getElem?_eq_getElem hi)
    rw [z, List.getElem?_eq_getElem hi]
  · rw [List.getElem?_eq_none (by omega), List.getElem?_eq_none (by omega)]
theorem eg_lc {wi : TI} {g : TG} {js vs : List Nat} {items rs : List PyData} (hw : WkD L wi Γ items) (hj : ∀ j ∈ js, j ∈ vs) (hlen : items.length ≤ 1000) (hr : rs.length = items.length)
    (hb : ∀ (i : Nat) d r, items[i]? = some d → rs[i]? = some r → r ≠ mark ∧ ∃ Γ', TgG L g js d (wipeD Γ vs) Γ' ∧ EvD L te Γ' r) : EvD L (tLc wi g tYes te vs) Γ (.list rs) := (eg_lcF hw hj hlen hr hb).eg
end
end V1
set_option Elab.async false
set_option linter.all false
set_option maxRecDepth 100000
set_option maxHeartbeats 4000000
/-! Statements and loops by data; a def's promise by its body. -/
namespace V1
open PySem PySem.Spec PyProof.Rows L2
section
variable {L : Rl} {A : Addr → Prop} {H H' H1 : Hp} {v : V} {d : PyData} {σ : L2.St} {Γ : List (Option PyData)} {n a b c : Nat} {te ta tb tl : TE} {t : TA} {tt tu : TT} {ts u z : TS} {P P1 P2 : PyData → Prop} {K : PySem.W.Frag} {N N1 : List (Option PyData) → Prop} {Rt : PyData → Prop}
theorem SG.mono {N' : List (Option PyData) → Prop} {Rt' : PyData → Prop} (h : SG L a ts Γ N Rt) (hn : a ≤ b) (h1 : ∀ G, N G → N' G) (h2 : ∀ d, Rt d → Rt' d) : SG L b ts Γ N' Rt' := fun A σ H hi he hg D q1 q2 =>
  h A σ H hi he (L.gle hn hg) D (fun σ' H' Γ' r e p => q1 σ' H' Γ' (L.rle hn r) e (h1 _ p)) fun v d H' r e p => q2 v d H' (L.rle hn r) e (h2 _ p)
theorem sg_seqG (h : SG L a ts Γ N1 Rt) (k : ∀ Γ', N1 Γ' → SG L b u Γ' N Rt) : SG L (a + b) (tSeq ts u) Γ N Rt := fun A σ H hi he hg D q1 q2 =>
  h A σ H hi he (L.gle (Nat.le_add_right _ _) hg) { D with nx := u D } (fun σ' H' Γ' r e p => k Γ' p A σ' H' (hi.r r) e (Rl.gR hg r) D (fun σ2 H2 Γ2 r2 e2 p2 => q1 σ2 H2 Γ2 (L.tr r r2) e2 p2) fun v d H2 r2 e2 p2 => q2 v d H2 (L.tr r r2) e2 p2)
    fun v d H' r e p => q2 v d H' (L.rle (Nat.le_add_right _ _) r) e p
theorem sg_seq (h : SG L 0 ts Γ N1 Rt) (k : ∀ Γ', N1 Γ' → SG L b u Γ' N Rt) : SG L b (tSeq ts u) Γ N Rt := (sg_seqG h k).mono (Nat.le_of_eq (Nat.zero_add _)) (fun _ x => x) fun _ x => x
theorem sq_asgG {i : Nat} (h : EvG L a te Γ P) (k : ∀ d, P d → SG L b u (Γ.set i (some d)) N Rt) : SG L (a + b) (tSeq (tAsg te (gName i)) u) Γ N Rt := fun A σ H hi he hg D q1 q2 =>
  h A σ H hi he (L.gle (Nat.le_add_right _ _) hg) _ fun v d H1 r hv p => k d p A _ H1 (hi.r r) ((he.r r).set hv i) (Rl.gR hg r) D (fun σ2 H2 Γ2 r2 e2 p2 => q1 σ2 H2 Γ2 (L.tr r r2) e2 p2) fun v d H2 r2 e2 p2 => q2 v d H2 (L.tr r r2) e2 p2
theorem sq_asg {i : Nat} (h : EvD L te Γ d) (k : SG L b u (Γ.set i (some d)) N Rt) : SG L b (tSeq (tAsg te (gName i)) u) Γ N Rt := (sq_asgG (a := 0) h fun d' e => by rw [e]; exact k).mono (Nat.le_of_eq (Nat.zero_add _)) (fun _ x => x) fun _ x => x
theorem sg_asgG {i : Nat} (h : EvG L a te Γ P) (k : ∀ d, P d → N (Γ.set i (some d))) : SG L a (tAsg te (gName i)) Γ N Rt := fun A σ H hi he hg D q1 q2 =>
  h A σ H hi he hg _ fun v d H1 r hv p => q1 _ H1 _ r ((he.r r).set hv i) (k d p)
theorem sg_asg {i : Nat} (h : EvD L te Γ d) (k : N (Γ.set i (some d))) : SG L 0 (tAsg te (gName i)) Γ N Rt := sg_asgG h fun d' e => by rw [e]; exact k
theorem sq_parG {i j : Nat} {PP : List PyData → Prop} (h : EaG L a t Γ PP) (h2 : ∀ ds, PP ds → ∃ d1 d2, ds = [d1, d2] ∧ SG L b u ((Γ.set i (some d1)).set j (some d2)) N Rt) : SG L (a + b) (tSeq (tPar i j t) u) Γ N Rt := fun A σ H hi he hg D q1 q2 =>
  h A σ H hi he (L.gle (Nat.le_add_right _ _) hg) _ fun vs ds H1 r hl hv p => by
    obtain ⟨d1, d2, rfl, k⟩ := h2 ds p
    obtain ⟨v, w, rfl, h3, h4⟩ := two_of hl hv
    exact ⟨v, w, rfl, k A _ H1 (hi.r r) (((he.r r).set h3 i).set h4 j) (Rl.gR hg r) D (fun σ2 H2 Γ2 r2 e2 p2 => q1 σ2 H2 Γ2 (L.tr r r2) e2 p2) fun v d H2 r2 e2 p2 => q2 v d H2 (L.tr r r2) e2 p2⟩
theorem sq_par {i j : Nat} {d1 d2 : PyData} (h : EaD L t Γ [d1, d2]) (k : SG L b u ((Γ.set i (some d1)).set j (some d2)) N Rt) : SG L b (tSeq (tPar i j t) u) Γ N Rt :=
  (sq_parG (a := 0) h fun ds e => ⟨d1, d2, e, k⟩).mono (Nat.le_of_eq (Nat.zero_add _)) (fun _ x => x) fun _ x => x
theorem sg_par {i j : Nat} {d1 d2 : PyData} (h : EaD L t Γ [d1, d2]) (k : N ((Γ.set i (some d1)).set j (some d2))) : SG L 0 (tPar i j t) Γ N Rt := fun A σ H hi he hg D q1 q2 =>
  h A σ H hi he hg _ fun vs ds H1 r hl hv p => by
    subst p
    obtain ⟨v, w, rfl, h3, h4⟩ := two_of hl hv
    exact ⟨v, w, rfl, q1 _ H1 _ r (((he.r r).set h3 i).set h4 j) k⟩
theorem sg_retG (h : EvG L a te Γ P) (k : ∀ d, P d → Rt d) : SG L a (tRet te) Γ N Rt := fun A σ H hi he hg D q1 q2 => h A σ H hi he hg _ fun v d H1 r hv p => q2 v d H1 r hv (k d p)
theorem sg_ret (h : EvD L te Γ d) (k : Rt d) : SG L 0 (tRet te) Γ N Rt := sg_retG h fun d' e => by rw [e]; exact k
theorem sg_retq (h : EvD L te Γ d) (k : Rt d) : SG L 0 (tSeq (tRet te) z) Γ N Rt := fun A σ H hi he hg D q1 q2 => h A σ H hi he hg _ fun v d H1 r hv p => q2 v d H1 r hv (by rw [p]; exact k)
theorem sg_next (k : N Γ) : SG L 0 tNext Γ N Rt := fun A σ H hi he hg D q1 q2 => q1 σ H Γ (Rl.refl hg) he k
theorem sq_next (h : SG L a z Γ N Rt) : SG L a (tSeq tNext z) Γ N Rt := h
theorem sg_if {k : Bool} (h : EtD L tt Γ k) (h1 : k = true → SG L a ts Γ N Rt) (h2 : k = false → SG L a u Γ N Rt) : SG L a (tIfS tt ts u) Γ N Rt := fun A σ H hi he hg D q1 q2 => h A σ H hi he (L.g0 hg) _ fun H1 r1 => by
  have fin : ∀ {tx : TS}, SG L a tx Γ N Rt → tx D σ H1 := fun {tx} hx => hx A σ H1 (hi.r r1) (he.r r1) (Rl.gR (a := 0) (by rw [Nat.zero_add]; exact hg) r1) D
    (fun σ2 H2 Γ2 r2 e2 p2 => q1 σ2 H2 Γ2 (L.rle (Nat.le_of_eq (Nat.zero_add _)) (L.tr r1 r2)) e2 p2) fun v d H2 r2 e2 p2 => q2 v d H2 (L.rle (Nat.le_of_eq (Nat.zero_add _)) (L.tr r1 r2)) e2 p2
  cases k with
  | true => exact fin (h1 rfl)
  | false => exact fin (h2 rfl)
theorem sq_if {k : Bool} (h : EtD L tt Γ k) (h1 : k = true → SG L a (tSeq ts z) Γ N Rt) (h2 : k = false → SG L a (tSeq u z) Γ N Rt) : SG L a (tSeq (tIfS tt ts u) z) Γ N Rt := fun A σ H hi he hg D q1 q2 => h A σ H hi he (L.g0 hg) _ fun H1 r1 => by
  have fin : ∀ {tx : TS}, SG L a tx Γ N Rt → tx D σ H1 := fun {tx} hx => hx A σ H1 (hi.r r1) (he.r r1) (Rl.gR (a := 0) (by rw [Nat.zero_add]; exact hg) r1) D
    (fun σ2 H2 Γ2 r2 e2 p2 => q1 σ2 H2 Γ2 (L.rle (Nat.le_of_eq (Nat.zero_add _)) (L.tr r1 r2)) e2 p2) fun v d H2 r2 e2 p2 => q2 v d H2 (L.rle (Nat.le_of_eq (Nat.zero_add _)) (L.tr r1 r2)) e2 p2
  cases k with
  | true => exact fin (h1 rfl)
  | false => exact fin (h2 rfl)
theorem sg_if_no (h : EtD L tt Γ false) (h2 : SG L a u Γ N Rt) : SG L a (tIfS tt ts u) Γ N Rt := sg_if h (fun e => nomatch e) fun _ => h2
theorem sq_if_no (h : EtD L tt Γ false) (h2 : SG L a z Γ N Rt) : SG L a (tSeq (tIfS tt ts tNext) z) Γ N Rt := sq_if h (fun e => nomatch e) fun _ => h2
theorem sg_ifG {P : Bool → Prop} (h : EtG L a tt Γ P) (h2 : ∀ k, P k → k = false) (h3 : SG L b u Γ N Rt) : SG L (a + b) (tIfS tt ts u) Γ N Rt := fun A σ H hi he hg D q1 q2 => h A σ H hi he (L.gle (Nat.le_add_right _ _) hg) _ fun k H1 r1 pk => by
  rw [h2 k pk]
  exact h3 A σ H1 (hi.r r1) (he.r r1) (Rl.gR hg r1) D (fun σ2 H2 Γ2 r2 e2 p2 => q1 σ2 H2 Γ2 (L.tr r1 r2) e2 p2) fun v d H2 r2 e2 p2 => q2 v d H2 (L.tr r1 r2) e2 p2

/-! ### loops -/
theorem sg_forG {wi : TI} {g : TG} {js : List Nat} {PI1 : List PyData → Prop} (I : List PyData → Nat → List (Option PyData) → Prop) (hw : WkG L a wi Γ PI1) (hlen : ∀ items, PI1 items → items.length ≤ b) (h0 : ∀ items, PI1 items → I items 0 Γ)
    (hb : ∀ items, PI1 items → ∀ (i : Nat) d Γi, items[i]? = some d → I items i Γi → ∃ Γ', TgG L g js d Γi Γ' ∧ SG L c ts Γ' (I items (i + 1)) Rt) (hN : ∀ items, PI1 items → ∀ Γe, I items items.length Γe → N Γe) : SG L (a + b * c) (tFor wi g ts) Γ N Rt := fun A σ H hi he hg D q1 q2 =>
  hw A σ H hi he (L.gle (Nat.le_add_right _ _) hg) _ fun J H1 items r1 hp jk => by
  have hl := hlen items hp
  refine ⟨fun i m σ2 H2 => m = items.length - i ∧ i ≤ items.length ∧ L.R (a + i * c) H H2 ∧ Kp A H1 H2 ∧ ∃ Γi, EnvOk L A σ2 H2 Γi ∧ I items i Γi, ⟨items.length, ?_⟩, ?_⟩
  · refine ⟨by omega, Nat.zero_le _, ?_, fun b o _ e k => e, Γ, he.r r1, h0 items hp⟩
    have e0 : a + 0 * c = a := by rw [Nat.zero_mul, Nat.add_zero]
    rw [e0]
    exact r1
  · rintro i m σ2 H2 ⟨rfl, hle, r2, k2, Γi, e2, p2⟩
    by_cases hlt : i < items.length
    · refine .inr ⟨jk.go i H2 k2 hlt, fun σ3 H3 => i + 1 ≤ items.length ∧ L.R (a + (i + 1) * c) H H3 ∧ Kp A H1 H3 ∧ ∃ Γi, EnvOk L A σ3 H3 Γi ∧ I items (i + 1) Γi, fun σ3 H3 h3 => ⟨items.length - (i + 1), by omega, rfl, h3⟩, fun x H3 y => ?_⟩
      have naD : ∀ b, A b → H2 b ≠ none := fun b z => hi.r r2 b z
      obtain ⟨d, hd, sm, hdv⟩ := jk.yld i H2 x H3 k2 naD y hlt
      obtain ⟨Γ', htg, hs⟩ := hb items hp i d Γi hd p2
      have e5 : a + (i + 1) * c = a + i * c + 0 + c := by rw [Nat.succ_mul]; omega
      have g0 : L.G (c + 0) H2 := by
        refine Rl.gR (a := a + i * c) ?_ r2
        refine L.gle ?_ hg
        have h1 : (i + 1) * c ≤ b * c := Nat.mul_le_mul_right _ (by omega)
        have h2 : (i + 1) * c = i * c + c := Nat.succ_mul _ _
        omega
      have r3 : L.R 0 H2 H3 := L.same (L.g0 g0) sm
      have g3 : L.G c H3 := Rl.gR (a := 0) (by rw [Nat.zero_add]; exact g0) r3
      have dx : Dv L.K A H3 x d := hdv A naD fun b o na e _ => na
      refine htg A x σ2 H3 dx (e2.r r3) _ fun σ4 e4 _ => ?_
      refine hs A σ4 H3 (fun b z y => naD b z (L.free r3 y)) e4 g3 { D with nx := _, ct := _, bk := D.nx } (fun σ5 H5 Γ5 r5 e6 p5 => ?_) fun v d5 H5 r5 hv p5 => ?_
      · refine ⟨hlt, ?_, fun b o na e k => L.keep r5 (sm _ _ (k2 b o na e k)) k, Γ5, e6, p5⟩
        rw [e5]
        exact L.tr (L.tr r2 r3) r5
      · refine q2 v d5 H5 (L.rle ?_ (L.tr (L.tr r2 r3) r5)) hv p5
        have h1 : (i + 1) * c ≤ b * c := Nat.mul_le_mul_right _ (by omega)
        have h2 : (i + 1) * c = i * c + c := Nat.succ_mul _ _
        omega
    · have e : i = items.length := by omega
      subst e
      refine .inl ⟨jk.stop H2 k2, q1 σ2 H2 Γi (L.rle ?_ r2) e2 (hN items hp Γi p2)⟩
      have := Nat.mul_le_mul_right c hl
      omega
theorem sg_for {wi : TI} {g : TG} {js : List Nat} {items : List PyData} (I : Nat → List (Option PyData) → Prop) (hw : WkD L wi Γ items) (h0 : I 0 Γ)
    (hb : ∀ (i : Nat) d Γi, items[i]? = some d → I i Γi → ∃ Γ', TgG L g js d Γi Γ' ∧ SG L 0 ts Γ' (I (i + 1)) Rt) (hN : ∀ Γe, I items.length Γe → N Γe) : SG L 0 (tFor wi g ts) Γ N Rt :=
  (sg_forG (a := 0) (b := items.length) (c := 0) (fun _ => I) hw (fun its e => by rw [e]; exact Nat.le_refl _) (fun _ _ => h0) (fun its e i d Γi hd hI => by subst e; exact hb i d Γi hd hI) fun its e Γe hI => by subst e; exact hN Γe hI).mono (Nat.le_of_eq (by simp)) (fun _ x => x) fun _ x => x
theorem sg_while (I : List (Option PyData) → Prop) (μ : List (Option PyData) → Nat) (h0 : I Γ) (hs : ∀ Γi, I Γi → ∃ k, EtD L tt Γi k ∧ (k = true → SG L 0 ts Γi (fun Γ' => I Γ' ∧ μ Γ' < μ Γi) Rt) ∧ (k = false → N Γi)) : SG L 0 (tWhile tt ts) Γ N Rt := fun A σ H hi he hg D q1 q2 => by
  refine ⟨fun m σ2 H2 => L.R 0 H H2 ∧ ∃ Γi, EnvOk L A σ2 H2 Γi ∧ I Γi ∧ m = μ Γi, ⟨μ Γ, Rl.refl hg, Γ, he, h0, rfl⟩, ?_⟩
  rintro m σ2 H2 ⟨r2, Γi, e2, p2, rfl⟩
  obtain ⟨k, hk, h1, h2⟩ := hs Γi p2
  have g2 : L.G 0 H2 := Rl.gR (a := 0) (b := 0) hg r2
  refine hk A σ2 H2 (hi.r r2) e2 g2 _ fun H3 r3 => ?_
  have r23 : L.R 0 H H3 := L.tr (a := 0) (b := 0) r2 r3
  cases k with
  | true =>
    refine ⟨fun σ4 H4 => ∃ m', m' < μ Γi ∧ (L.R 0 H H4 ∧ ∃ Γi, EnvOk L A σ4 H4 Γi ∧ I Γi ∧ m' = μ Γi), fun σ4 H4 x => x, ?_⟩
    refine h1 rfl A σ2 H3 ((hi.r r2).r r3) (e2.r r3) (Rl.gR (a := 0) (b := 0) g2 r3) { D with nx := _, ct := _, bk := D.nx } (fun σ4 H4 Γ4 r4 e4 p4 => ⟨_, p4.2, L.tr (a := 0) (b := 0) r23 r4, Γ4, e4, p4.1, rfl⟩) fun v d H4 r4 hv p4 => q2 v d H4 (L.tr (a := 0) (b := 0) r23 r4) hv p4
  | false => exact q1 σ2 H3 Γi r23 (e2.r r3) (h2 rfl)
theorem et_orG {a b : Nat} (h : EtG L a tt Γ (fun k => k = false)) (h2 : EtG L b tu Γ (fun k => k = false)) : EtG L (a + b) (tOr tt tu) Γ (fun k => k = false) := fun A σ H hi he hg Q q => h A σ H hi he (L.gle (Nat.le_add_right _ _) hg) _ fun k H1 r1 e => by
  subst e
  show tu σ H1 Q
  exact h2 A σ H1 (hi.r r1) (he.r r1) (Rl.gR hg r1) Q fun k H2 r2 e => q k H2 (L.tr r1 r2) e
theorem et_notG {a : Nat} {te : TE} (h : EvG L a te Γ (fun d => d = .bool true)) : EtG L a (tNot (tB te)) Γ (fun k => k = false) := fun A σ H hi he hg Q q => h A σ H hi he hg _ fun v d H1 r1 hv p => by
  subst p
  obtain rfl := hv.bool
  exact ⟨true, rfl, q false H1 r1 rfl⟩
end

/-! ### a def's promise by its body -/
def Ga (m : Nat) (ds : List PyData) : List (Option PyData) := ds.map some ++ List.replicate (m - ds.length) none
theorem start_ok {L : Rl} {A : Addr → Prop} {H : Hp} {Nm : List Str} {vs : List V} {ds : List PyData} (hl : vs.length = ds.length) (h : ∀ (i : Nat) d, ds[i]? = some d → ∃ v, vs[i]? = some v ∧ Dq L A H v d) : EnvOk L A (L2.start Nm vs) H (Ga Nm.length ds) := by
  refine ⟨by unfold L2.start Ga; rw [List.length_append, List.length_append, List.length_map, List.length_map, List.length_replicate, List.length_replicate, hl], fun i d e => ?_⟩
  unfold Ga at e
  by_cases hi : i < ds.length
  · rw [List.getElem?_append_left (by rw [List.length_map]; exact hi), List.getElem?_map] at e
    cases e2 : ds[i]? with
    | none => rw [e2] at e; cases e
    | some d' =>
      rw [e2] at e
      have e3 : d' = d := Option.some.inj (Option.some.inj e)
      subst e3
      obtain ⟨v, h1, h2⟩ := h i d' e2
      refine ⟨v, ?_, h2⟩
      unfold L2.start
      rw [List.getElem?_append_left (by rw [List.length_map, hl]; exact hi), List.getElem?_map, h1]
      rfl
  · rw [List.getElem?_append_right (by rw [List.length_map]; omega), List.getElem?_replicate] at e
    split at e <;> cases e
section
variable {P : Program} {w : World} {K : PySem.W.Frag} {mg : Str → Option Value} {base : Heap}
theorem ok_of {S : Rl → Prop} {x : Str} {st : Stmt} {f : Addr} {fd : FuncData} {N ps : List Str} {k n : Nat} {Pre : List PyData → Prop} {Post : List PyData → PyData → Prop} (F : Fun K x x st f fd) (Sc : FnScope N ps (defScope st)) (hlen : ∀ ds, Pre ds → ds.length = ps.length)
    (hb : ∀ (cdv : Value) (A : Around) (outer : List Env) (s : Shared) (H : Hp) (E : XK), A.guards = some [] → Room k (A.deeper (envOfC x (defScope st) s.heap.objs.size f cdv)) →
      ∃ t, PSs (cxOf CX0 P w K mg base N x (defScope st) f cdv A outer s H E).nox (defBody st) t ∧ ∀ L, S L → ∀ ds, Pre ds → SG L n t (Ga N.length ds) (fun _ => Post ds .none) (Post ds)) : FnG P w K mg base (k + 1) f fd ps (spA S n Pre Post) := by
  refine okG F Sc (fun vs H Q E h => ?_) (fun cdv A outer s H vs Q E hg hr h => ?_)
  · obtain ⟨L, _, A, ds, _, hl, _, hp, _⟩ := h
    rw [hl, hlen ds hp]
  · obtain ⟨L, hS, Av, ds, hi, hl, hv, hp, hgg, q⟩ := h
    obtain ⟨t, h1, h2⟩ := hb cdv A outer s H E hg hr
    refine ⟨t, h1, h2 L hS ds hp Av (L2.start N vs) H hi (start_ok hl hv) hgg _ (fun σ' H' Γ' r e p => ?_) fun v d H' r hd p => q v d H' r hd p⟩
    exact q .non .none H' r (.inr .non) p
theorem FnG.imp {k : Nat} {f : Addr} {fd : FuncData} {ps : List Str} {sp sp' : Sp} (F : FnG P w K mg base k f fd ps sp) (h : ∀ vs H Q E, sp' vs H Q E → sp vs H Q E) : FnG P w K mg base k f fd ps sp' :=
  ⟨fun vs H Q E z => F.len vs H Q E (h _ _ _ _ z), fun A outer s H args us vs Q E hg hr e0 hb r z => F.run A outer s H args us vs Q E hg hr e0 hb r (h _ _ _ _ z)⟩
/-- a def that leaves the heap as it is, whose answer is F of its arguments -/
theorem ok_fn {x : Str} {st : Stmt} {f : Addr} {fd : FuncData} {N ps : List Str} {k : Nat} {Pre : List PyData → Prop} {Fv : List PyData → PyData} (F : Fun K x x st f fd) (Sc : FnScope N ps (defScope st)) (hlen : ∀ ds, Pre ds → ds.length = ps.length)
    (hb : ∀ (cdv : Value) (A : Around) (outer : List Env) (s : Shared) (H : Hp) (E : XK), A.guards = some [] → Room k (A.deeper (envOfC x (defScope st) s.heap.objs.size f cdv)) →
      ∃ t, PSs (cxOf CX0 P w K mg base N x (defScope st) f cdv A outer s H E).nox (defBody st) t ∧ ∀ ds, Pre ds → SG (pureL K) 0 t (Ga N.length ds) (fun _ => .none = Fv ds) (fun d => d = Fv ds)) : FnG P w K mg base (k + 1) f fd ps (spL (pureL K) 0 Pre fun ds d => d = Fv ds) :=
  (ok_of (S := fun L => L = (pureL K)) F Sc hlen fun cdv A outer s H E hg hr => by
    obtain ⟨t, h1, h2⟩ := hb cdv A outer s H E hg hr
    exact ⟨t, h1, fun L e ds hp => by subst e; exact h2 ds hp⟩).imp fun vs H Q E h => ⟨(pureL K), rfl, h⟩
end
end V1
set_option Elab.async false
set_option linter.all false
set_option maxRecDepth 100000
set_option maxHeartbeats 4000000
/-! Fractions, points and rows as rational numbers. -/
namespace V1
open PySem

/-! ### greatest common divisors of lists -/
def gcdl (ns : List Int) : Nat := ns.foldl (fun g n => Nat.gcd g n.natAbs) 0
def lcml (bs : List Nat) : Nat := bs.foldl (fun l b => Nat.lcm l b) 1
theorem gcd_fold (ns : List Int) : ∀ g : Nat, ns.foldl (fun g n => Nat.gcd g n.natAbs) g = Nat.gcd g (gcdl ns) := by
  unfold gcdl
  induction ns with
  | nil => intro g; simp
  | cons n r ih =>
    intro g
    rw [List.foldl_cons, List.foldl_cons, ih, ih (Nat.gcd 0 n.natAbs), Nat.gcd_zero_left, Nat.gcd_assoc]
theorem gcdl_cons (n : Int) (r : List Int) : gcdl (n :: r) = Nat.gcd n.natAbs (gcdl r) := by
  show List.foldl _ (Nat.gcd 0 n.natAbs) r = _
  rw [gcd_fold, Nat.gcd_zero_left]
theorem gcdl_dvd {ns : List Int} : ∀ n ∈ ns, (gcdl ns : Int) ∣ n := by
  induction ns with
  | nil => intro n h; simp at h
  | cons a r ih =>
    intro n h
    rw [gcdl_cons]
    rcases List.mem_cons.mp h with rfl | h
    · exact Int.ofNat_dvd_left.mpr (Nat.gcd_dvd_left _ _)
    · exact Int.dvd_trans (Int.natCast_dvd_natCast.mpr (Nat.gcd_dvd_right _ _)) (ih n h)
theorem dvd_gcdl {ns : List Int} {k : Nat} (h : ∀ n ∈ ns, (k : Int) ∣ n) : k ∣ gcdl ns := by
  induction ns with
  | nil => exact Nat.dvd_zero k
  | cons a r ih =>
    rw [gcdl_cons]
    exact Nat.dvd_gcd (Int.ofNat_dvd_left.mp (h a List.mem_cons_self)) (ih fun n hn => h n (List.mem_cons_of_mem _ hn))
theorem gcdl_mul (c : Nat) (ns : List Int) : gcdl (ns.map fun n => (c : Int) * n) = c * gcdl ns := by
  induction ns with
  | nil => simp [gcdl]
  | cons a r ih => rw [List.map_cons, gcdl_cons, gcdl_cons, ih, Int.natAbs_mul, Int.natAbs_natCast, Nat.gcd_mul_left]
theorem gcdl_pos {ns : List Int} {n : Int} (h : n ∈ ns) (hn : n ≠ 0) : 0 < gcdl ns := by
  rcases Nat.eq_zero_or_pos (gcdl ns) with z | z
  · have := gcdl_dvd n h
    rw [z] at this
    exact absurd (Int.zero_dvd.mp this) hn
  · exact z
theorem lcm_fold (bs : List Nat) : ∀ l : Nat, bs.foldl (fun l b => Nat.lcm l b) l = Nat.lcm l (lcml bs) := by
  unfold lcml
  induction bs with
  | nil => intro l; simp
  | cons b r ih =>
    intro l
    rw [List.foldl_cons, List.foldl_cons, ih, ih (Nat.lcm 1 b), Nat.lcm_one_left, Nat.lcm_assoc]
theorem lcml_cons (b : Nat) (r : List Nat) : lcml (b :: r) = Nat.lcm b (lcml r) := by
  show List.foldl _ (Nat.lcm 1 b) r = _
  rw [lcm_fold, Nat.lcm_one_left]
theorem dvd_lcml {bs : List Nat} : ∀ b ∈ bs, b ∣ lcml bs := by
  induction bs with
  | nil => intro b h; simp at h
  | cons a r ih =>
    intro b h
    rw [lcml_cons]
    rcases List.mem_cons.mp h with rfl | h
    · exact Nat.dvd_lcm_left _ _
    · exact Nat.dvd_trans (ih b h) (Nat.dvd_lcm_right _ _)
theorem lcml_dvd {bs : List Nat} {k : Nat} (h : ∀ b ∈ bs, b ∣ k) : lcml bs ∣ k := by
  induction bs with
  | nil => exact Nat.one_dvd k
  | cons a r ih =>
    rw [lcml_cons]
    exact Nat.lcm_dvd (h a List.mem_cons_self) (ih fun b hb => h b (List.mem_cons_of_mem _ hb))
theorem lcml_pos {bs : List Nat} (h : ∀ b ∈ bs, 0 < b) : 0 < lcml bs := by
  induction bs with
  | nil => exact Nat.one_pos
  | cons a r ih =>
    rw [lcml_cons]
    exact Nat.lcm_pos (h a List.mem_cons_self) (ih fun b hb => h b (List.mem_cons_of_mem _ hb))

/-! ### fractions -/
def fq (q : Rat) : PyData := .tuple [.int q.num, .int (q.den : Int)]
abbrev rat (a : Int) (b : Nat) : Rat := mkRat a b
theorem fq_of {a : Int} {b : Nat} (hb : 0 < b) : PyData.tuple [.int (a / (Nat.gcd a.natAbs b : Nat)), .int ((b : Int) / (Nat.gcd a.natAbs b : Nat))] = fq (rat a b) := by
  unfold fq rat
  rw [Rat.num_mkRat, Rat.den_mkRat, if_neg (by omega), if_neg (by omega), Nat.gcd_comm]
  rfl
theorem rat_mul_den {a : Int} {b : Nat} (hb : 0 < b) : (rat a b).num * b = a * (rat a b).den := by
  have h := Rat.mkRat_self (rat a b)
  exact (Rat.mkRat_eq_iff (Rat.den_nz _) (by omega)).mp h
theorem den_dvd (a : Int) (b : Nat) (hb : 0 < b) : (rat a b).den ∣ b := by
  unfold rat
  rw [Rat.den_mkRat, if_neg (by omega)]
  exact Nat.div_dvd_of_dvd (Nat.gcd_dvd_left _ _)
theorem rat_eq {a c : Int} {b d : Nat} (hb : 0 < b) (hd : 0 < d) (h : a * d = c * b) : rat a b = rat c d := (Rat.mkRat_eq_iff (by omega) (by omega)).mpr h
theorem rat_div (a : Int) (b : Nat) : rat a b = (a : Rat) / (b : Rat) := Rat.mkRat_eq_div a b

/-! ### points and rows: the primitive integers of rational numbers -/
def lq (qs : List Rat) : Nat := lcml (qs.map fun q => q.den)
def topQ (qs : List Rat) : List Int := qs.map fun q => q.num * ((lq qs / q.den : Nat) : Int)
def rowQ (qs : List Rat) : List Int := topQ qs ++ [(lq qs : Int)]
def tI (ns : List Int) : PyData := .tuple (ns.map .int)
def lI (ns : List Int) : PyData := .list (ns.map .int)
def rowD (qs : List Rat) : PyData := tI (rowQ qs)
def prim (ns : List Int) : List Int := ns.map fun n => n / (gcdl ns : Int)
theorem lq_pos (qs : List Rat) : 0 < lq qs := lcml_pos fun b hb => by
  obtain ⟨q, _, rfl⟩ := List.mem_map.mp hb
  exact q.den_pos
theorem lq_dvd {qs : List Rat} {q : Rat} (h : q ∈ qs) : q.den ∣ lq qs := dvd_lcml _ (List.mem_map.mpr ⟨q, h, rfl⟩)
theorem topQ_len (qs : List Rat) : (topQ qs).length = qs.length := List.length_map _
theorem rowQ_len (qs : List Rat) : (rowQ qs).length = qs.length + 1 := by unfold rowQ; rw [List.length_append, topQ_len]; rfl
/-- n over w, the list of them -/
def over (ns : List Int) (w : Nat) : List Rat := ns.map fun n => rat n w
theorem prim_over (ns : List Int) {w : Nat} (hw : 0 < w) : prim (ns ++ [(w : Int)]) = rowQ (over ns w) := by
  generalize hg : gcdl (ns ++ [(w : Int)]) = g
  have hgp : 0 < g := by rw [← hg]; exact gcdl_pos (n := (w : Int)) (by simp) (by omega)
  have dv : ∀ n ∈ ns ++ [(w : Int)], (g : Int) ∣ n := by rw [← hg]; exact gcdl_dvd
  obtain ⟨k, hk⟩ : g ∣ w := Int.natCast_dvd_natCast.mp (dv w (by simp))
  have hkp : 0 < k := Nat.pos_of_ne_zero fun z => by rw [z] at hk; omega
  have hns : ∀ n ∈ ns, n = (g : Int) * (n / g) := fun n hn => (Int.mul_ediv_cancel' (dv n (by simp [hn]))).symm
  have hq : ∀ n ∈ ns, rat n w = rat (n / g) k := fun n hn => rat_eq hw hkp (by
    have e := hns n hn
    rw [hk, Int.natCast_mul]
    calc n * (k : Int) = ((g : Int) * (n / g)) * k := by rw [← e]
      _ = n / g * ((g : Int) * k) := by rw [Int.mul_comm (g : Int) (n / g), Int.mul_assoc])
  -- the primitive ones have no common divisor
  have g1 : gcdl (ns.map (fun n => n / (g : Int)) ++ [(k : Int)]) = 1 := by
    have e : (ns.map (fun n => n / (g : Int)) ++ [(k : Int)]).map (fun n => (g : Int) * n) = ns ++ [(w : Int)] := by
      rw [List.map_append, List.map_map]
      congr 1
      · calc ns.map ((fun n => (g : Int) * n) ∘ fun n => n / (g : Int)) = ns.map id := List.map_congr_left fun n hn => (hns n hn).symm
          _ = ns := List.map_id ns
      · show [(g : Int) * (k : Int)] = [(w : Int)]
        rw [hk, Int.natCast_mul]
    have h := gcdl_mul g (ns.map (fun n => n / (g : Int)) ++ [(k : Int)])
    rw [e, hg] at h
    exact Nat.eq_of_mul_eq_mul_left hgp (by rw [Nat.mul_one]; exact h.symm)
  -- the common bottom is k
  have hl : lq (over ns w) = k := by
    refine Nat.dvd_antisymm (lcml_dvd fun b hb => ?_) ?_
    · obtain ⟨q, hq1, rfl⟩ := List.mem_map.mp hb
      obtain ⟨n, hn, rfl⟩ := List.mem_map.mp hq1
      rw [hq n hn]
      exact den_dvd _ _ hkp
    · have key : k ∣ gcdl ((ns.map (fun n => n / (g : Int)) ++ [(k : Int)]).map fun n => ((lq (over ns w) : Nat) : Int) * n) := dvd_gcdl fun m hm => by
        obtain ⟨m', hm', rfl⟩ := List.mem_map.mp hm
        rcases List.mem_append.mp hm' with z | z
        · obtain ⟨n, hn, rfl⟩ := List.mem_map.mp z
          have hd : (rat n w).den ∣ lq (over ns w) := lq_dvd (List.mem_map.mpr ⟨n, hn, rfl⟩)
          obtain ⟨c, hc⟩ := hd
          have h1 := rat_mul_den (a := n / g) hkp
          rw [← hq n hn] at h1
          refine ⟨(rat n w).num * c, ?_⟩
          rw [hc, Int.natCast_mul]
          calc ((rat n w).den : Int) * c * (n / g) = (n / g * (rat n w).den) * c := by grind
            _ = ((rat n w).num * k) * c := by rw [h1]
            _ = (k : Int) * ((rat n w).num * c) := by grind
        · have e : m' = (k : Int) := by simpa using z
          subst e
          exact ⟨_, Int.mul_comm _ _⟩
      rw [gcdl_mul, g1, Nat.mul_one] at key
      exact key
  unfold prim rowQ
  rw [hg, List.map_append, hl]
  congr 1
  · unfold topQ over
    rw [List.map_map]
    refine List.map_congr_left fun n hn => ?_
    show n / (g : Int) = (rat n w).num * ((lq (over ns w) / (rat n w).den : Nat) : Int)
    rw [hl]
    have hd : (rat n w).den ∣ k := by rw [hq n hn]; exact den_dvd _ _ hkp
    obtain ⟨c, hc⟩ := hd
    have hdp := (rat n w).den_pos
    have e1 : k / (rat n w).den = c := by rw [hc, Nat.mul_div_cancel_left _ hdp]
    rw [e1]
    have h1 := rat_mul_den (a := n / g) hkp
    rw [← hq n hn, hc, Int.natCast_mul] at h1
    have h2 : ((rat n w).den : Int) * (n / g) = ((rat n w).den : Int) * ((rat n w).num * c) := by
      calc ((rat n w).den : Int) * (n / g) = n / g * (rat n w).den := Int.mul_comm _ _
        _ = (rat n w).num * (((rat n w).den : Int) * c) := h1.symm
        _ = ((rat n w).den : Int) * ((rat n w).num * c) := by grind
    exact Int.eq_of_mul_eq_mul_left (by omega) h2
  · show [(w : Int) / (g : Int)] = [(k : Int)]
    rw [hk, Int.natCast_mul, Int.mul_ediv_cancel_left _ (by omega)]
/-- the integers of a row, over the bottom, are its numbers -/
theorem over_top (qs : List Rat) : over (topQ qs) (lq qs) = qs := by
  unfold over topQ
  rw [List.map_map]
  calc qs.map ((fun n => rat n (lq qs)) ∘ fun q => q.num * ((lq qs / q.den : Nat) : Int)) = qs.map id := List.map_congr_left fun q hq => by
        show rat (q.num * ((lq qs / q.den : Nat) : Int)) (lq qs) = q
        have hd := lq_dvd hq
        obtain ⟨c, hc⟩ := hd
        have hdp := q.den_pos
        have hlp := lq_pos qs
        have e1 : lq qs / q.den = c := by rw [hc, Nat.mul_div_cancel_left _ hdp]
        rw [e1]
        calc rat (q.num * c) (lq qs) = rat q.num q.den := rat_eq hlp hdp (by rw [hc, Int.natCast_mul]; grind)
          _ = q := Rat.mkRat_self q
    _ = qs := List.map_id qs
theorem prim_rowQ (qs : List Rat) : prim (rowQ qs) = rowQ qs := by
  have h := prim_over (topQ qs) (lq_pos qs)
  rw [over_top] at h
  exact h
theorem gcdl_rowQ (qs : List Rat) : gcdl (rowQ qs) = 1 := by
  have h := prim_rowQ qs
  have hm : (lq qs : Int) ∈ rowQ qs := by simp [rowQ]
  have hp : 0 < gcdl (rowQ qs) := gcdl_pos hm (by have := lq_pos qs; omega)
  have e : (prim (rowQ qs)).getLast? = (rowQ qs).getLast? := by rw [h]
  unfold prim at e
  rw [List.getLast?_map] at e
  have e2 : (rowQ qs).getLast? = some (lq qs : Int) := by simp [rowQ]
  rw [e2] at e
  have e3 : (lq qs : Int) / (gcdl (rowQ qs) : Int) = (lq qs : Int) := by simpa using e
  have hl := lq_pos qs
  have d := gcdl_dvd _ hm
  obtain ⟨c, hc⟩ := d
  rw [hc, Int.mul_ediv_cancel_left _ (by omega)] at e3
  have h4 : (1 : Int) * c = (gcdl (rowQ qs) : Int) * c := by rw [Int.one_mul]; exact e3
  have hcz : c ≠ 0 := fun z => by rw [z] at hc; omega
  have h5 := Int.eq_of_mul_eq_mul_right hcz h4
  omega
end V1
set_option Elab.async false
set_option linter.all false
set_option maxRecDepth 100000
set_option maxHeartbeats 4000000
/-! The text of the law k02 by places; what the top has left. -/
namespace V1
open PySem PySem.Spec PyProof.Rows L2

/-- built-in names, and the two of math -/
structure Bt (K : PySem.W.Frag) (mg : Str → Option Value) : Prop where
  len : mg "len" = none
  abs : mg "abs" = none
  sum : mg "sum" = none
  min : mg "min" = none
  max : mg "max" = none
  repr : mg "repr" = none
  int : mg "int" = none
  bool : mg "bool" = none
  tuple : mg "tuple" = none
  zip : mg "zip" = none
  enumerate : mg "enumerate" = none
  range : mg "range" = none
  isinstance : mg "isinstance" = none
  str : mg "str" = none
  list : mg "list" = none
  all : mg "all" = none
  set : mg "set" = none
  sorted : mg "sorted" = none
/-- a def of the top as it stands -/
structure Df (K : PySem.W.Frag) (mg : Str → Option Value) (x : Str) (st : Stmt) (ps : List Str) (f : Addr) (fd : FuncData) : Prop where
  gm : mg x = some (.ref f)
  F : Fun K x x st f fd
  b : Binds K fd ps []
/-- .. and what it promises -/
structure Cal (P : Program) (w : World) (K : PySem.W.Frag) (mg : Str → Option Value) (base : Heap) (x : Str) (st : Stmt) (ps : List Str) (k : Nat) (sp : Sp) (f : Addr) (fd : FuncData) : Prop where
  gm : mg x = some (.ref f)
  F : Fun K x x st f fd
  b : Binds K fd ps []
  G : FnG P w K mg base k f fd ps sp
theorem Cal.kp {P : Program} {w : World} {K : PySem.W.Frag} {mg : Str → Option Value} {base : Heap} {x : Str} {st : Stmt} {ps : List Str} {k : Nat} {sp : Sp} {f : Addr} {fd : FuncData} (c : Cal P w K mg base x st ps k sp f fd) : PySem.W.keepIn K (.ref f) = true := c.F.kp
/-- a list or a tuple, walked -/
def iAny (K : PySem.W.Frag) (tl : TE) : TI := fun σ H R => tl σ H fun x H1 => ∃ a, x = .ref a ∧ ((∃ xs, SqL K H1 a xs) ∧ R (Itl K a) H1 ∨ (∃ xs, SqT K H1 a xs) ∧ R (Itt K a) H1)
theorem pi_any {X : Cx} {tg l : Expr} {tl : TE} (hl : PE X l tl) : PI X tg l (iAny X.K tl) := by
  refine ⟨fun pins s σ H R I h => thn (hl.run pins s σ H _ I h) fun v s1 ⟨x, H1, I1, r1, q1⟩ => ?_⟩
  obtain ⟨a, rfl, q1⟩ := q1
  cases r1
  have fr : ∀ b ∈ [s1.heap.objs.size], FpOk X pins H1 b := fun b hb => by
    have e : b = s1.heap.objs.size := by simpa using hb
    subst e
    exact I1.fpOk (Nat.le_refl _) (I1.hok.fresh (Nat.le_refl _))
  rcases q1 with ⟨⟨xs, hq⟩, q⟩ | ⟨⟨xs, hq⟩, q⟩
  · obtain ⟨its, rv, p, hz⟩ := I1.list hq
    exact wpAny_pyIter_list p.isList ⟨s1.heap.objs.size, [s1.heap.objs.size], _, _, H1, rfl, I1.kept (t' := s1.toks) (fun b o e => Heap.get?_push_of_some _ e), turn_list a _, ⟨_, Heap.get?_push_size _ rfl, rfl, rfl⟩, fr, q⟩
  · obtain ⟨its, rv, p, hz⟩ := I1.tuple hq
    exact wpAny_pyIter_tuple (show s1.heap.IsTuple a its.toArray from p) ⟨s1.heap.objs.size, [s1.heap.objs.size], _, _, H1, rfl, I1.kept (t' := s1.toks) (fun b o e => Heap.get?_push_of_some _ e), turn_tuple a _, ⟨_, Heap.get?_push_size _ rfl, rfl, rfl⟩, fr, q⟩
section
variable {L : Rl} {Γ : List (Option PyData)} {K : PySem.W.Frag} {tl te : TE}
theorem wk_any {k : Bool} {ds : List PyData} (h : EvD L tl Γ (sqD k ds)) : WkD L (iAny L.K tl) Γ ds := fun A σ H hi he hg R q => h A σ H hi he hg _ fun x d H1 r1 hx p => by
  subst p
  obtain ⟨p, xs, rfl, e, r⟩ := sq_dq hx
  refine ⟨p, rfl, ?_⟩
  cases k with
  | true => exact .inl ⟨⟨xs, e.now⟩, q _ H1 ds r1 rfl (jok_seq true e r _ rfl)⟩
  | false => exact .inr ⟨⟨xs, e.now⟩, q _ H1 ds r1 rfl (jok_seq false e r _ rfl)⟩
/-- the name of a value's class -/
def kindN : PyData → String
  | .none => "NoneType"
  | .bool _ => "bool"
  | .int _ => "int"
  | .str _ => "str"
  | .list _ => "list"
  | .tuple _ => "tuple"
  | .dict _ => "dict"
theorem dv_ty {A : Addr → Prop} {H : Hp} {x : V} {d : PyData} (h : Dv L.K A H x d) : TyX L.K H x (.type (kindN d)) := by
  cases h with
  | non => exact .base .non
  | bl b => exact .base (.bl b)
  | int i => exact .base (.int i)
  | str z => exact .base (.str z)
  | lst _ e _ => exact .base (.lst e)
  | tup _ e _ => exact .base (.tup e)
  | ktup e _ =>
    obtain ⟨o, its, n, e1, e2, _⟩ := e
    exact .kTuple e1 e2
/-- isinstance of any data -/
theorem eg_isi {d : PyData} {b : Bool} {n : String} (h : EvD L te Γ d) (hd : d ≠ mark) (hk : kitB (kindN d) n = some b) : EvD L (tCB (rIsi L.K) (tCons te (tCons (tC (.ty n)) tNil))) Γ (.bool b) := fun A σ H hi he hg Q q => h A σ H hi he hg _ fun x d1 H1 r1 hx p => by
  subst p
  exact ⟨x, .ty n, .type (kindN d1), .type n, b, rfl, .ty n, dv_ty (hx.ne hd), kit_ty hk, q _ _ H1 r1 (.inr (.bl b)) rfl⟩
theorem eg_isiI {i : Int} {b : Bool} {n : String} (h : EvD L te Γ (.int i)) (hk : kitB "int" n = some b) : EvD L (tCB (rIsi L.K) (tCons te (tCons (tC (.ty n)) tNil))) Γ (.bool b) := eg_isi h (by intro z; cases z) hk
theorem eg_isiT {ds : List PyData} {b : Bool} {n : String} (h : EvD L te Γ (.tuple ds)) (hk : kitB "tuple" n = some b) : EvD L (tCB (rIsi L.K) (tCons te (tCons (tC (.ty n)) tNil))) Γ (.bool b) := eg_isi h (by intro z; cases z) hk
/-- and, or: the right one is looked at where the left one asks it -/
theorem eg_andC {a b : Bool} {ta tb : TE} (ha : EvD L ta Γ (.bool a)) (hb : a = true → EvD L tb Γ (.bool b)) : EvD L (tAndV ta tb) Γ (.bool (a && b)) := fun A σ H hi he hg Q q => ha A σ H hi he hg _ fun x d H1 r1 hx p => by
  subst p
  obtain rfl := hx.bool
  refine ⟨a, rfl, ?_⟩
  cases a with
  | true => exact hb rfl A σ H1 (hi.r r1) (he.r r1) (Rl.gR (b := 0) hg r1) _ fun y d H2 r2 hy p => q y d H2 (L.tr (a := 0) (b := 0) r1 r2) hy p
  | false => exact q _ _ H1 r1 (.inr (.bl false)) rfl
theorem eg_and {a b : Bool} {ta tb : TE} (ha : EvD L ta Γ (.bool a)) (hb : EvD L tb Γ (.bool b)) : EvD L (tAndV ta tb) Γ (.bool (a && b)) := fun A σ H hi he hg Q q => ha A σ H hi he hg _ fun x d H1 r1 hx p => by
  subst p
  obtain rfl := hx.bool
  refine ⟨a, rfl, ?_⟩
  cases a with
  | true => exact hb A σ H1 (hi.r r1) (he.r r1) (Rl.gR (b := 0) hg r1) _ fun y d H2 r2 hy p => q y d H2 (L.tr (a := 0) (b := 0) r1 r2) hy p
  | false => exact q _ _ H1 r1 (.inr (.bl false)) rfl
theorem eg_not {a : Bool} {ta : TE} (ha : EvD L ta Γ (.bool a)) : EvD L (tNotV ta) Γ (.bool (!a)) := fun A σ H hi he hg Q q => ha A σ H hi he hg _ fun x d H1 r1 hx p => by
  subst p
  obtain rfl := hx.bool
  exact ⟨a, rfl, q _ _ H1 r1 (.inr (.bl _)) rfl⟩
end
end V1
namespace V1
open PySem PySem.Spec PyProof.Rows L2
/-- a def whose answer is told for each a -/
def spR (K : PySem.W.Frag) {α : Type} (args : α → List PyData) (ok : α → Prop) (val : α → PyData) : Sp := fun vs H Q E => ∃ a, ok a ∧ spL (pureL K) 0 (fun ds => ds = args a) (fun _ d => d = val a) vs H Q E
section
variable {L : Rl} {Γ : List (Option PyData)} {t tk : TA} {E : XK} {α : Type} {args : α → List PyData} {ok : α → Prop} {val : α → PyData}
theorem eg_callR (a : α) (ha : EaD L t Γ (args a)) (ho : ok a) (hn : nomk (args a) = true := by rfl) : EvD L (tCall (spR L.K args ok val) [] E t) Γ (val a) := fun A σ H hi he hg Q q => ha A σ H hi he hg _ fun vs ds H1 r1 l hv p => by
  subst p
  show spR L.K args ok val (vs ++ []) H1 Q E
  rw [List.append_nil]
  refine ⟨a, ho, A, args a, hi.r r1, l, fun i d e => ?_, rfl, trivial, fun v d H2 r2 hd hpo => q v d H2 (L.tr (a := 0) (b := 0) r1 (L.same (Rl.gR (b := 0) hg r1) r2)) (pure_dq hd) hpo⟩
  obtain ⟨v, e1, e2⟩ := hv i d e
  exact ⟨v, e1, .inr (e2.ne (nomk_ne hn i d e))⟩
/-- with keywords alone, in an order of their own -/
theorem eg_callRK (a : α) {ds : List PyData} {gV : List V → List V → List V} (ha : EaD L tk Γ ds) (hg2 : ∀ zs : List V, zs.length = ds.length → (gV [] zs).length = (args a).length ∧ ∀ (i : Nat) d, (args a)[i]? = some d → ∃ j : Nat, ds[j]? = some d ∧ (gV [] zs)[i]? = zs[j]?) (ho : ok a) (hn : nomk (args a) = true := by rfl) :
    EvD L (tCallK (spR L.K args ok val) gV E tNil tk) Γ (val a) := fun A σ H hi he hg Q q => ha A σ H hi he hg _ fun vs ds' H1 r1 l hv p => by
  subst p
  obtain ⟨g1, g2⟩ := hg2 vs l
  refine ⟨a, ho, A, args a, hi.r r1, g1, fun i d e => ?_, rfl, trivial, fun v d H2 r2 hd hpo => q v d H2 (L.tr (a := 0) (b := 0) r1 (L.same (Rl.gR (b := 0) hg r1) r2)) (pure_dq hd) hpo⟩
  obtain ⟨j, e1, e2⟩ := g2 i d e
  obtain ⟨v, e3, e4⟩ := hv j d e1
  exact ⟨v, by rw [e2]; exact e3, .inr (e4.ne (nomk_ne hn i d e))⟩
end
section
variable {P : Program} {w : World} {K : PySem.W.Frag} {mg : Str → Option Value} {base : Heap}
theorem ok_R {α : Type} {args : α → List PyData} {ok : α → Prop} {val : α → PyData} {x : Str} {st : Stmt} {f : Addr} {fd : FuncData} {N ps : List Str} {k : Nat} (D : Df K mg x st ps f fd) (Sc : FnScope N ps (defScope st)) (hlen : ∀ a, (args a).length = ps.length)
    (hb : ∀ (cdv : Value) (A : Around) (outer : List Env) (s : Shared) (H : Hp) (E : XK), (cxOf CX0 P w K mg base N x (defScope st) f cdv A outer s H E).nox.A.guards = some [] → Room k (cxOf CX0 P w K mg base N x (defScope st) f cdv A outer s H E).nox.A →
      ∃ t, PSs (cxOf CX0 P w K mg base N x (defScope st) f cdv A outer s H E).nox (defBody st) t ∧ ∀ a, ok a → SG (pureL K) 0 t (Ga N.length (args a)) (fun _ => .none = val a) (fun d => d = val a)) : Cal P w K mg base x st ps (k + 1) (spR K args ok val) f fd := by
  refine ⟨D.gm, D.F, D.b, okG D.F Sc (fun vs H Q E h => ?_) (fun cdv A outer s H vs Q E hg hr h => ?_)⟩
  · obtain ⟨a, _, Av, ds, _, hl, _, hp, _⟩ := h
    rw [hl, hp, hlen a]
  · obtain ⟨a, ho, Av, ds, hi, hl, hv, hp, hgg, q⟩ := h
    subst hp
    obtain ⟨t, h1, h2⟩ := hb cdv A outer s H E hg hr
    refine ⟨t, h1, h2 a ho Av _ H hi (start_ok hl hv) hgg _ (fun σ' H' Γ' r e p => ?_) fun v d H' r hd p => q v d H' r hd p⟩
    exact q .non .none H' r (.inr .non) p
end
def Bn (n : Nat) (ns : List Int) : Prop := ∀ z ∈ ns, z.natAbs < 2 ^ n
end V1
set_option Elab.async false
set_option linter.all false
set_option maxRecDepth 100000
set_option maxHeartbeats 4000000
/-! Rows as data; slices of them; helpers for comprehensions. -/
namespace V1
open PySem PySem.Spec PyProof.Rows L2
/-- the integer of q over the bottom l -/
def tq (l : Nat) (q : Rat) : Int := q.num * ((l / q.den : Nat) : Int)
theorem tq_rat {l : Nat} {q : Rat} (hl : 0 < l) (h : q.den ∣ l) : rat (tq l q) l = q := by
  obtain ⟨c, hc⟩ := h
  have hdp := q.den_pos
  have e1 : l / q.den = c := by rw [hc, Nat.mul_div_cancel_left _ hdp]
  unfold tq
  rw [e1]
  calc rat (q.num * c) l = rat q.num q.den := rat_eq hl hdp (by rw [hc, Int.natCast_mul]; grind)
    _ = q := Rat.mkRat_self q
theorem rat_cast {a : Int} {b : Nat} (hb : 0 < b) : ((a : Int) : Rat) = rat a b * (b : Rat) := by
  rw [rat_div]
  have : (b : Rat) ≠ 0 := by
    intro z
    have : b = 0 := by exact_mod_cast z
    omega
  grind
theorem tq_cast {l : Nat} {q : Rat} (hl : 0 < l) (h : q.den ∣ l) : ((tq l q : Int) : Rat) = q * (l : Rat) := by
  rw [rat_cast (a := tq l q) hl, tq_rat hl h]
theorem natne {b : Nat} (hb : 0 < b) : (b : Rat) ≠ 0 := by
  intro z
  have : b = 0 := by exact_mod_cast z
  omega
/-- an integer over a bottom is q if it is q times the bottom -/
theorem rat_of {a : Int} {b : Nat} {q : Rat} (hb : 0 < b) (h : ((a : Int) : Rat) = q * (b : Rat)) : rat a b = q := by
  rw [rat_div, h]
  have := natne hb
  grind
theorem topQ_eq (qs : List Rat) : topQ qs = qs.map (tq (lq qs)) := rfl
def iv (l : Nat) (q : Rat) : PyData := .int (tq l q)
theorem rowD_one (x : List Rat) : rowD x = .tuple (x.map (iv (lq x)) ++ [.int (lq x : Int)]) := by
  unfold rowD tI rowQ
  rw [topQ_eq, List.map_append, List.map_map]
  rfl
theorem rowD_two (r : List Rat) (c : Rat) : rowD (r ++ [c]) = .tuple (r.map (iv (lq (r ++ [c]))) ++ [iv (lq (r ++ [c])) c, .int (lq (r ++ [c]) : Int)]) := by
  rw [rowD_one, List.map_append, List.append_assoc]
  rfl
/-- bounds -/
def rb (n : Nat) (r : List Rat) : Prop := r.length ≤ 50 ∧ Bn n (rowQ r)
theorem rb_lq {n : Nat} {r : List Rat} (h : rb n r) : lq r < 2 ^ n := by
  have := h.2 (lq r : Int) (by simp [rowQ])
  simpa using this
theorem rb_tq {n : Nat} {r : List Rat} (h : rb n r) {q : Rat} (hq : q ∈ r) : (tq (lq r) q).natAbs < 2 ^ n := h.2 _ (by
  unfold rowQ
  rw [topQ_eq]
  exact List.mem_append_left _ (List.mem_map.mpr ⟨q, hq, rfl⟩))
theorem bn_prim {n : Nat} {ns : List Int} (h : Bn n ns) : Bn n (prim ns) := fun z hz => by
  unfold prim at hz
  obtain ⟨m, hm, rfl⟩ := List.mem_map.mp hz
  have h1 := h m hm
  have h2 := Int.natAbs_ediv_le_natAbs m (gcdl ns : Int)
  omega
theorem rb_over {n : Nat} {ns : List Int} {w : Nat} (hw : 0 < w) (h : Bn n (ns ++ [(w : Int)])) (hl : ns.length ≤ 50) : rb n (over ns w) := by
  refine ⟨by unfold over; rw [List.length_map]; exact hl, ?_⟩
  rw [← prim_over ns hw]
  exact bn_prim h
theorem Bn.mono {a b : Nat} {ns : List Int} (h : Bn a ns) (hab : a ≤ b) : Bn b ns := fun z hz => Nat.lt_of_lt_of_le (h z hz) (Nat.pow_le_pow_right (by decide) hab)
theorem rb.mono {a b : Nat} {r : List Rat} (h : rb a r) (hab : a ≤ b) : rb b r := ⟨h.1, h.2.mono hab⟩

theorem ix_tupK {X : Cx} {K : PySem.W.Frag} (h : X.K = K) : IxR X (rIxT K) := h ▸ ix_tup
theorem ix_listK {X : Cx} {K : PySem.W.Frag} (h : X.K = K) : IxR X (rIxL K) := h ▸ ix_list
section
variable {L : Rl} {Γ : List (Option PyData)} {te : TE} {t : TA}
theorem cut1 (xs : List PyData) (a : PyData) : cutD (xs ++ [a]) none (some (-1)) = xs := by
  rw [show (-1 : Int) = -((1 : Nat) : Int) from rfl, cut_neg (by decide) (by simp)]
  simp
theorem cut2 (xs : List PyData) (a b : PyData) : cutD (xs ++ [a, b]) none (some (-2)) = xs := by
  rw [show (-2 : Int) = -((2 : Nat) : Int) from rfl, cut_neg (by decide) (by simp)]
  simp
theorem eg_init1 {xs : List PyData} {a : PyData} (h : EvD L te Γ (.tuple (xs ++ [a]))) : EvD L (tSl (rSlT L.K) te tNoPart (tPart (tUn (rU fun i => .int (-i)) (tC (.int 1))))) Γ (.tuple xs) := by
  have h1 := eg_slT h eo_none (eo_some (eg_neg (eg_int (i := 1)))) (by
    rintro ⟨_, z⟩
    have z2 : (if (-1 : Int) < 0 then ((-1 : Int) + ((xs ++ [a]).length : Int)).toNat else min (-1 : Int).toNat (xs ++ [a]).length) = (xs ++ [a]).length := z
    rw [if_pos (by omega)] at z2
    simp at z2
    omega)
  rw [cut1] at h1
  exact h1
theorem eg_init2 {xs : List PyData} {a b : PyData} (h : EvD L te Γ (.tuple (xs ++ [a, b]))) : EvD L (tSl (rSlT L.K) te tNoPart (tPart (tUn (rU fun i => .int (-i)) (tC (.int 2))))) Γ (.tuple xs) := by
  have h1 := eg_slT h eo_none (eo_some (eg_neg (eg_int (i := 2)))) (by
    rintro ⟨_, z⟩
    have z2 : (if (-2 : Int) < 0 then ((-2 : Int) + ((xs ++ [a, b]).length : Int)).toNat else min (-2 : Int).toNat (xs ++ [a, b]).length) = (xs ++ [a, b]).length := z
    rw [if_pos (by omega)] at z2
    simp at z2
    omega)
  rw [cut2] at h1
  exact h1
theorem at_last2 (xs : List PyData) (a b : PyData) : atI (xs ++ [a, b]) (-1) = some b := by
  rw [show xs ++ [a, b] = (xs ++ [a]) ++ [b] by simp]
  exact atI_last _ _
theorem at_last3 (xs : List PyData) (a b : PyData) : atI (xs ++ [a, b]) (-2) = some a := by
  have e : ixN (xs ++ [a, b]).length (-2) = some xs.length := by
    unfold ixN
    rw [if_neg (by omega), if_pos (by simp; omega)]
    simp
    omega
  unfold atI
  rw [e]
  simp
/-- a comprehension over things that stand for data -/
theorem eg_lcm {α : Type} {wi : TI} {g : TG} {js vs : List Nat} {xs : List α} {enc res : α → PyData} (hw : WkD L wi Γ (xs.map enc)) (hj : ∀ j ∈ js, j ∈ vs) (hlen : xs.length ≤ 1000)
    (hb : ∀ x ∈ xs, res x ≠ mark ∧ ∃ Γ', TgG L g js (enc x) (wipeD Γ vs) Γ' ∧ EvD L te Γ' (res x)) : EvD L (tLc wi g tYes te vs) Γ (.list (xs.map res)) :=
  eg_lc hw hj (by rw [List.length_map]; exact hlen) (by rw [List.length_map, List.length_map]) fun i d r hd hr => by
    rw [List.getElem?_map] at hd hr
    cases hx : xs[i]? with
    | none => rw [hx] at hd; cases hd
    | some x =>
      rw [hx] at hd hr
      have e1 : enc x = d := Option.some.inj hd
      have e2 : res x = r := Option.some.inj hr
      subst e1 e2
      exact hb x (List.mem_of_getElem? hx)
theorem zipD_map {α β : Type} (e1 : α → PyData) (e2 : β → PyData) : ∀ (xs : List α) (ys : List β), zipD (xs.map e1) (ys.map e2) = (xs.zip ys).map fun p => PyData.tuple [e1 p.1, e2 p.2]
  | [], ys => by cases ys <;> rfl
  | x :: xs, [] => rfl
  | x :: xs, y :: ys => by
    have h := zipD_map e1 e2 xs ys
    unfold zipD at h ⊢
    rw [List.map_cons, List.map_cons, List.zipWith_cons_cons, h, List.zip_cons_cons, List.map_cons]
theorem eg_notN (h : EvD L te Γ .none) : EvD L (tOp (fun x y H Q => y = V.non ∧ Q (.bl (!decide (x = .non))) H) te (tC .non)) Γ (.bool false) := fun A σ H hi he hg Q q => h A σ H hi he hg _ fun x d H1 r1 hx p => by
  subst p
  have hx1 := hx.ne (by intro z; cases z)
  cases hx1
  exact ⟨rfl, q _ _ H1 r1 (.inr (.bl false)) rfl⟩
theorem eg_mulN {C : Int → Int → Prop} {i j : Int} {ta tb : TE} (ha : EvD L ta Γ (.int i)) (hb : EvD L tb Γ (.int j)) (hc : C i j) : EvD L (tOp (rI C fun i j => .int (i * j)) ta tb) Γ (.int (i * j)) := eg_op ha hb (os_I hc)
end
/-- products of bounded numbers -/
theorem mw {i j : Int} {a b : Nat} (ha : i.natAbs < 2 ^ a) (hb : j.natAbs < 2 ^ b) (h0 : 0 < a := by decide) (h1 : 0 < b := by decide) (h : a + b ≤ 1000000 := by decide) : CMulW i j := wide_mul ha hb h0 h1 h
theorem nb {b n : Nat} (h : b < 2 ^ n) : ((b : Int)).natAbs < 2 ^ n := by rw [Int.natAbs_natCast]; exact h
theorem nat_mul_lt {a b n m : Nat} (ha : a < 2 ^ n) (hb : b < 2 ^ m) : a * b < 2 ^ (n + m) := by
  rw [Nat.pow_add]
  exact Nat.mul_lt_mul'' ha hb
/-! ### the inner product -/
def dot (r x : List Rat) : Rat := (List.zipWith (fun a b => a * b) r x).sum
def dotI (l w : Nat) (r x : List Rat) : Int := ((r.zip x).map fun p => tq l p.1 * tq w p.2).sum
theorem dotI_cast {l w : Nat} (hl : 0 < l) (hw : 0 < w) : ∀ (r x : List Rat), (∀ q ∈ r, q.den ∣ l) → (∀ q ∈ x, q.den ∣ w) → ((dotI l w r x : Int) : Rat) = dot r x * ((l : Rat) * (w : Rat))
  | [], x, _, _ => by simp [dotI, dot]
  | a :: r, [], _, _ => by simp [dotI, dot]
  | a :: r, b :: x, h1, h2 => by
    have ih := dotI_cast hl hw r x (fun q hq => h1 q (List.mem_cons_of_mem _ hq)) (fun q hq => h2 q (List.mem_cons_of_mem _ hq))
    have e1 : dotI l w (a :: r) (b :: x) = tq l a * tq w b + dotI l w r x := by simp [dotI]
    have e2 : dot (a :: r) (b :: x) = a * b + dot r x := by simp [dot]
    rw [e1, e2, Rat.intCast_add, Rat.intCast_mul, ih, tq_cast hl (h1 a List.mem_cons_self), tq_cast hw (h2 b List.mem_cons_self)]
    grind
end V1
set_option Elab.async false
set_option linter.all false
set_option maxRecDepth 100000
set_option maxHeartbeats 4000000
/-! A list made here is written. -/
namespace V1
open PySem PySem.Spec PyProof.Rows L2
def FrS (H0 : Hp) (j : Nat) (σ : L2.St) : Prop := ∃ p, σ[j]? = some (some (V.ref p)) ∧ H0 p = none
def SF (L : Rl) (j : Nat) (ts : TS) (Γ : List (Option PyData)) (N : List (Option PyData) → Prop) : Prop := ∀ (H0 : Hp) A σ H, Inn A H → EnvOk L A σ H Γ → L.G 0 H → L.R 0 H0 H → FrS H0 j σ → ∀ D : Ends,
  (∀ σ' H' Γ', L.R 0 H H' → EnvOk L A σ' H' Γ' → FrS H0 j σ' → N Γ' → D.nx σ' H') → ts D σ H
def SW (L : Rl) (j : Nat) (ts : TS) (Γ : List (Option PyData)) (N : List (Option PyData) → Prop) : Prop := ∀ (H0 : Hp) A σ H, Inn A H → EnvOk L A σ H Γ → L.G 0 H → L.R 0 H0 H → FrS H0 j σ → ∀ D : Ends,
  (∀ σ' H' Γ', L.R 0 H0 H' → EnvOk L A σ' H' Γ' → N Γ' → D.nx σ' H') → ts D σ H
section
variable {L : Rl} {Γ : List (Option PyData)} {te : TE} {ts tf ta u : TS} {d : PyData} {i j : Nat} {N N1 N2 : List (Option PyData) → Prop} {Rt : PyData → Prop}
theorem sf_asg (hij : i ≠ j) (h : EvD L te Γ d) (k : N (Γ.set i (some d))) : SF L j (tAsg te (gName i)) Γ N := fun H0 A σ H hi he hg r0 ⟨p, hp, hn⟩ D q => h A σ H hi he hg _ fun v d' H1 r hv e => by
  subst e
  exact q _ H1 _ r ((he.r r).set hv i) ⟨p, by rw [List.getElem?_set_ne hij]; exact hp, hn⟩ k
theorem sf_asgF (h : EvF L 0 te Γ (fun x => x = d)) (k : N (Γ.set j (some d))) : SF L j (tAsg te (gName j)) Γ N := fun H0 A σ H hi he hg r0 ⟨p, hp, hn⟩ D q => h A σ H hi he hg _ fun p1 d' H1 r hf hv e => by
  subst e
  exact q _ H1 _ r ((he.r r).set hv j) ⟨p1, List.getElem?_set_self (List.getElem?_eq_some_iff.mp hp).1, L.free r0 hf⟩ k
theorem sf_seq (h : SF L j ts Γ N1) (k : ∀ G, N1 G → SF L j u G N) : SF L j (tSeq ts u) Γ N := fun H0 A σ H hi he hg r0 hf D q => h H0 A σ H hi he hg r0 hf { D with nx := u D } fun σ1 H1 G r e f p =>
  k G p H0 A σ1 H1 (hi.r r) e (Rl.gR (b := 0) hg r) (L.tr (a := 0) (b := 0) r0 r) f D fun σ2 H2 G2 r2 e2 f2 p2 => q σ2 H2 G2 (L.tr (a := 0) (b := 0) r r2) e2 f2 p2
theorem wipe_get {σ : L2.St} {j : Nat} : ∀ {vs : List Nat}, j ∉ vs → (wipe σ vs)[j]? = σ[j]?
  | [], _ => rfl
  | v :: vs, h => by
    show ((wipe σ vs).set v none)[j]? = _
    rw [List.getElem?_set_ne (fun z => h (by rw [z]; exact List.mem_cons_self))]
    exact wipe_get fun z => h (List.mem_cons_of_mem _ z)
theorem sf_for {wi : TI} {g : TG} {js : List Nat} {items : List PyData} (I : Nat → List (Option PyData) → Prop) (hjs : j ∉ js) (hw : WkD L wi Γ items) (h0 : I 0 Γ)
    (hb : ∀ (i : Nat) d Γi, items[i]? = some d → I i Γi → ∃ Γ', TgG L g js d Γi Γ' ∧ SF L j ts Γ' (I (i + 1))) (hN : ∀ Γe, I items.length Γe → N Γe) : SF L j (tFor wi g ts) Γ N := fun H0 A σ H hi he hg r0 hf D q1 =>
  hw A σ H hi he hg _ fun J H1 its r1 hp jk => by
  subst hp
  refine ⟨fun i m σ2 H2 => m = its.length - i ∧ i ≤ its.length ∧ L.R 0 H H2 ∧ Kp A H1 H2 ∧ FrS H0 j σ2 ∧ ∃ Γi, EnvOk L A σ2 H2 Γi ∧ I i Γi, ⟨its.length, ?_⟩, ?_⟩
  · exact ⟨by omega, Nat.zero_le _, r1, fun b o _ e k => e, hf, Γ, he.r r1, h0⟩
  · rintro i m σ2 H2 ⟨rfl, hle, r2, k2, f2, Γi, e2, p2⟩
    have g2 : L.G 0 H2 := Rl.gR (b := 0) hg r2
    by_cases hlt : i < its.length
    · refine .inr ⟨jk.go i H2 k2 hlt, fun σ3 H3 => i + 1 ≤ its.length ∧ L.R 0 H H3 ∧ Kp A H1 H3 ∧ FrS H0 j σ3 ∧ ∃ Γi, EnvOk L A σ3 H3 Γi ∧ I (i + 1) Γi, fun σ3 H3 h3 => ⟨its.length - (i + 1), by omega, rfl, h3⟩, fun x H3 y => ?_⟩
      have naD : ∀ b, A b → H2 b ≠ none := fun b z => hi.r r2 b z
      obtain ⟨d, hd, sm, hdv⟩ := jk.yld i H2 x H3 k2 naD y hlt
      obtain ⟨Γ', htg, hs⟩ := hb i d Γi hd p2
      have r3 : L.R 0 H2 H3 := L.same g2 sm
      have r23 : L.R 0 H H3 := L.tr (a := 0) (b := 0) r2 r3
      have dx : Dv L.K A H3 x d := hdv A naD fun b o na e _ => na
      refine htg A x σ2 H3 dx (e2.r r3) _ fun σ4 e4 w4 => ?_
      obtain ⟨p, hp, hn⟩ := f2
      have f4 : FrS H0 j σ4 := by
        refine ⟨p, ?_, hn⟩
        have hw4 := w4 js fun k hk => hk
        rw [← wipe_get hjs, hw4, wipe_get hjs]
        exact hp
      refine hs H0 A σ4 H3 (fun b z y => naD b z (L.free r3 y)) e4 (Rl.gR (b := 0) g2 r3) (L.tr (a := 0) (b := 0) r0 r23) f4 { D with nx := _, ct := _, bk := D.nx } (fun σ5 H5 Γ5 r5 e6 f5 p5 => ?_)
      exact ⟨hlt, L.tr (a := 0) (b := 0) r23 r5, fun b o na e k => L.keep r5 (sm _ _ (k2 b o na e k)) k, f5, Γ5, e6, p5⟩
    · have e : i = its.length := by omega
      subst e
      exact .inl ⟨jk.stop H2 k2, q1 σ2 H2 Γi r2 e2 f2 (hN Γi p2)⟩
/-- made, filled, written, and on -/
theorem sg_grown (hj : j < Γ.length) (h1 : EvF L 0 te Γ (fun x => x = d)) (h2 : SF L j tf (Γ.set j (some d)) N1) (h3 : ∀ G, N1 G → SW L j ta G N2) (h4 : ∀ G, N2 G → SG L 0 u G N Rt) : SG L 0 (tSeq (tAsg te (gName j)) (tSeq tf (tSeq ta u))) Γ N Rt := fun A σ H hi he hg D q1 q2 =>
  h1 A σ H hi he hg _ fun p d' H1 r1 hf hv e => by
  subst e
  have fr : FrS H j (σ.set j (some (V.ref p))) := ⟨p, List.getElem?_set_self (by rw [he.1]; exact hj), hf⟩
  refine h2 H A _ H1 (hi.r r1) ((he.r r1).set hv j) (Rl.gR (b := 0) hg r1) r1 fr { D with nx := _ } fun σ2 H2 G2 r2 e2 f2 p2 => ?_
  have r12 : L.R 0 H H2 := L.tr (a := 0) (b := 0) r1 r2
  refine h3 G2 p2 H A σ2 H2 (hi.r r12) e2 (Rl.gR (b := 0) hg r12) r12 f2 { D with nx := _ } fun σ3 H3 G3 r3 e3 p3 => ?_
  exact h4 G3 p3 A σ3 H3 (hi.r r3) e3 (Rl.gR (b := 0) hg r3) D (fun σ4 H4 G4 r4 e4 p4 => q1 σ4 H4 G4 (L.tr (a := 0) (b := 0) r3 r4) e4 p4) fun v d H4 r4 e4 p4 => q2 v d H4 (L.tr (a := 0) (b := 0) r3 r4) e4 p4
theorem DvAll.ofInts {K : PySem.W.Frag} {A : Addr → Prop} {H : Hp} (ns : List Int) : DvAll K A H (ns.map V.int) (ns.map PyData.int) := by
  induction ns with
  | nil => exact .nil
  | cons n r ih => exact .cons (.int n) ih
theorem sw_aug {ti : TE} {ns : List Int} {m e : Int} {Γ2 : List (Option PyData)} (hΓ : Γ[j]? = some (some (lI (ns ++ [m])))) (hi2 : EvD L ti Γ (.int (-1))) (he2 : EvD L te Γ (.int e)) (hl : Γ2.length = Γ.length)
    (h2 : ∀ (i : Nat) d, Γ2[i]? = some (some d) → (i = j ∧ d = lI (ns ++ [m + e])) ∨ (Γ[i]? = some (some d) ∧ ((∃ zs, d = tI zs) ∨ ∃ z, d = .int z))) :
    SW L j (tAugS (tVar j) ti te (rIxL L.K) (ipI fun i j => i + j) rSetL) Γ (fun G => G = Γ2) := fun H0 A σ H hi he hg r0 ⟨p, hp, hn⟩ D q => by
  obtain ⟨v, hv, dv⟩ := he.2 j _ hΓ
  rw [hp] at hv
  have ev : V.ref p = v := Option.some.inj (Option.some.inj hv)
  subst ev
  refine ⟨V.ref p, hp, ?_⟩
  refine hi2 A σ H hi he hg _ fun vi d1 H1 r1 hvi p1 => ?_
  subst p1
  obtain rfl := hvi.int
  obtain ⟨p', xs, ep, na, eH, rr⟩ := (dv.r r1).list
  have ep' : p = p' := by injection ep
  subst ep'
  have ex := rr.ints
  subst ex
  have hix : ixN ((ns ++ [m]).map V.int).length (-1) = some ns.length := by
    unfold ixN
    rw [List.length_map, List.length_append]
    rw [List.length_singleton, if_neg (by decide), if_pos (by omega)]
    congr 1
    omega
  refine ⟨p, (ns ++ [m]).map V.int, -1, .int m, rfl, rfl, SqL.of eH, ?_, ?_⟩
  · unfold atI
    rw [hix]
    simp
  refine he2 A σ H1 (hi.r r1) (he.r r1) (Rl.gR (b := 0) hg r1) _ fun vy d2 H2 r2 hvy p2 => ?_
  subst p2
  obtain rfl := hvy.int
  have eH2 : H2 p = some (.lst ((ns ++ [m]).map V.int)) := L.keep r2 eH (fun kvs z => by cases z)
  have r02 : L.R 0 H0 H2 := L.tr (a := 0) (b := 0) (L.tr (a := 0) (b := 0) r0 r1) r2
  have he3 : EnvOk L A σ H2 Γ := (he.r r1).r r2
  refine ⟨m, e, rfl, rfl, p, _, -1, ns.length, rfl, rfl, eH2, hix, ?_⟩
  refine q σ _ Γ2 (L.fresh r02 hn) ⟨by rw [hl]; exact he.1, fun i d hd => ?_⟩ rfl
  have es : ((ns ++ [m]).map V.int).set ns.length (V.int (m + e)) = (ns ++ [m + e]).map V.int := by simp
  rw [es]
  rcases h2 i d hd with ⟨rfl, rfl⟩ | ⟨h3, h4⟩
  · exact ⟨V.ref p, hp, .inr (.lst na upd_same (DvAll.ofInts _))⟩
  · obtain ⟨v, hv, dv⟩ := he3.2 i d h3
    refine ⟨v, hv, ?_⟩
    rcases h4 with ⟨zs, rfl⟩ | ⟨z, rfl⟩
    · obtain ⟨a, xs, rfl, ea, ra⟩ := dv.tuple
      rw [ra.ints] at ea
      refine .inr (TpAt.dv ?_ (DvAll.ofInts _))
      rcases ea with ⟨na2, ea⟩ | ea
      · have ne : a ≠ p := fun z => by
          rw [z, eH2] at ea
          cases ea
        exact .inl ⟨na2, by rw [upd_ne ne]; exact ea⟩
      · exact .inr ea
    · obtain rfl := dv.int
      exact .inr (.int z)
theorem os_repF {ds : List PyData} {i : Int} {ta tb : TE} (ha : EvD L ta Γ (.list ds)) (hb : EvD L tb Γ (.int i)) (h0 : 0 ≤ i) (h1 : i ≤ 1000) (hl : ds.length ≤ 100) : EvF L 0 (tOp rRep ta tb) Γ (fun x => x = .list (List.replicate i.toNat ds).flatten) := fun A σ H hi he hg Q q =>
  ha A σ H hi he hg _ fun x d1 H1 r1 hx p1 => hb A σ H1 (hi.r r1) (he.r r1) (Rl.gR (b := 0) hg r1) _ fun y d2 H2 r2 hy p2 => by
    subst p1 p2
    obtain ⟨p, xs, rfl, na, e, r⟩ := (hx.r r2).list
    obtain rfl := hy.int
    have r12 : L.R 0 H H2 := L.tr (a := 0) (b := 0) r1 r2
    refine ⟨p, i, xs, rfl, rfl, e, by omega, by omega, Nat.le_trans (Nat.mul_le_mul (by rw [r.length]; exact hl) (show i.toNat ≤ 1000 by omega)) (by decide), fun l hl2 => ?_⟩
    have rr := Rl.newR (o := .lst (List.replicate i.toNat xs).flatten) (Rl.gR (b := 0) hg r12) hl2
    exact q l _ _ (L.tr (a := 0) (b := 0) r12 rr) (L.free r12 hl2) (.inr (.lst ((hi.r r12).no hl2) upd_same ((r.rep _).r rr))) rfl
theorem eg_lcmF {α : Type} {wi : TI} {g : TG} {js vs : List Nat} {xs : List α} {enc res : α → PyData} (hw : WkD L wi Γ (xs.map enc)) (hj : ∀ j ∈ js, j ∈ vs) (hlen : xs.length ≤ 1000)
    (hb : ∀ x ∈ xs, res x ≠ mark ∧ ∃ Γ', TgG L g js (enc x) (wipeD Γ vs) Γ' ∧ EvD L te Γ' (res x)) : EvF L 0 (tLc wi g tYes te vs) Γ (fun x => x = .list (xs.map res)) :=
  eg_lcF hw hj (by rw [List.length_map]; exact hlen) (by rw [List.length_map, List.length_map]) fun i d r hd hr => by
    rw [List.getElem?_map] at hd hr
    cases hx : xs[i]? with
    | none => rw [hx] at hd; cases hd
    | some x =>
      rw [hx] at hd hr
      have e1 : enc x = d := Option.some.inj hd
      have e2 : res x = r := Option.some.inj hr
      subst e1 e2
      exact hb x (List.mem_of_getElem? hx)
end
end V1
set_option Elab.async false
set_option linter.all false
set_option maxRecDepth 100000
set_option maxHeartbeats 4000000
/-! The dict of the draws. -/
namespace V1
open PySem PySem.Spec PyProof.Rows L2
def dct (l sd : Int) (c : Addr) (s : Int) : List (Key × V) := [(.inr "left", .int l), (.inr "seed", .int sd), (.inr "cells", .ref c), (.inr "spot", .int s)]
def mG (p c : Addr) (ns : List Int) (n : Nat) (H : Hp) : Prop := ∃ l sd s : Int, H p = some (.dK (dct l sd c s)) ∧ H c = some (.lst (ns.map V.int)) ∧ 0 ≤ s ∧ s + (n : Int) ≤ 2 ^ 50
def mR (p c : Addr) (n : Nat) (H H' : Hp) : Prop := (∀ b o, H b = some o → (b ≠ p ∨ ∀ kvs, o ≠ .dK kvs) → H' b = some o) ∧ (∀ l sd s : Int, H p = some (.dK (dct l sd c s)) → ∃ l' s' : Int, H' p = some (.dK (dct l' sd c s')) ∧ s ≤ s' ∧ s' ≤ s + (n : Int)) ∧ (H p ≠ none → H' p ≠ none)
def mL (K : PySem.W.Frag) (p c : Addr) (ns : List Int) : Rl where
  K := K
  G := mG p c ns
  R := mR p c
  M := fun v => v = .ref p
  gle := fun h ⟨l, sd, s, h1, h2, h3, h4⟩ => ⟨l, sd, s, h1, h2, h3, by omega⟩
  rle := fun h ⟨h1, h2, h3⟩ => ⟨h1, fun l sd s e => let ⟨l', s', e1, e2, e3⟩ := h2 l sd s e; ⟨l', s', e1, e2, by omega⟩, h3⟩
  gr := fun ⟨l, sd, s, g1, g2, g3, g4⟩ ⟨h1, h2, h3⟩ => by
    obtain ⟨l', s', e1, e2, e3⟩ := h2 l sd s g1
    exact ⟨l', sd, s', e1, h1 _ _ g2 (.inr fun kvs z => by cases z), by omega, by omega⟩
  tr := fun {a b H H1 H2} ⟨h1, h2, h3⟩ ⟨k1, k2, k3⟩ => ⟨fun q o e z => k1 q o (h1 q o e z) z, fun l sd s e => by
    obtain ⟨l', s', e1, e2, e3⟩ := h2 l sd s e
    obtain ⟨l2, s2, f1, f2, f3⟩ := k2 l' sd s' e1
    exact ⟨l2, s2, f1, by omega, by omega⟩, fun z => k3 (h3 z)⟩
  same := fun g s => ⟨fun b o e _ => s b o e, fun l sd sp e => ⟨l, sp, s _ _ e, by omega, by omega⟩, fun z y => by
    obtain ⟨l, sd, sp, e, _⟩ := g
    rw [s _ _ e] at y
    cases y⟩
  fresh := fun {a H H' q o} ⟨h1, h2, h3⟩ hq => ⟨fun b u e z => by rw [upd_ne (ne_of_none e hq)]; exact h1 b u e z, fun l sd s e => by
    have ne := ne_of_none e hq
    rw [upd_ne ne]
    exact h2 l sd s e, fun z => by
    have ne : p ≠ q := fun y => z (by rw [y]; exact hq)
    rw [upd_ne ne]
    exact h3 z⟩
  keep := fun ⟨h1, _, _⟩ e k => h1 _ _ e (.inr k)
  free := fun {a H H' q} ⟨h1, h2, h3⟩ e => by
    by_cases hq : q = p
    · subst hq
      exact Classical.byContradiction fun z => h3 z e
    · cases hH : H q with
      | none => rfl
      | some o => rw [h1 q o hH (.inl hq)] at e; cases e
  mref := fun h => ⟨p, h⟩
/-- the way of some dict of draws -/
def SM (L : Rl) : Prop := ∃ K p c ns, ns ≠ [] ∧ L = mL K p c ns
/-- a def that draws -/
def spM (K : PySem.W.Frag) {α : Type} (n : Nat) (args : α → List PyData) (ok : α → Prop) (post : α → PyData → Prop) : Sp := fun vs H Q E => ∃ L a, L.K = K ∧ SM L ∧ ok a ∧ spL L n (fun ds => ds = args a) (fun _ d => post a d) vs H Q E
section
variable {P : Program} {w : World} {K : PySem.W.Frag} {mg : Str → Option Value} {base : Heap}
theorem ok_A {α : Type} {args : α → List PyData} {ok : α → Prop} {post : α → PyData → Prop} {n : Nat} {x : Str} {st : Stmt} {f : Addr} {fd : FuncData} {N ps : List Str} {k : Nat} (D : Df K mg x st ps f fd) (Sc : FnScope N ps (defScope st)) (hlen : ∀ a, (args a).length = ps.length)
    (hb : ∀ (cdv : Value) (A : Around) (outer : List Env) (s : Shared) (H : Hp) (E : XK), (cxOf CX0 P w K mg base N x (defScope st) f cdv A outer s H E).nox.A.guards = some [] → Room k (cxOf CX0 P w K mg base N x (defScope st) f cdv A outer s H E).nox.A →
      ∃ t, PSs (cxOf CX0 P w K mg base N x (defScope st) f cdv A outer s H E).nox (defBody st) t ∧ ∀ L, L.K = K → SM L → ∀ a, ok a → SG L n t (Ga N.length (args a)) (fun _ => False) (post a)) : Cal P w K mg base x st ps (k + 1) (spM K n args ok post) f fd := by
  refine ⟨D.gm, D.F, D.b, okG D.F Sc (fun vs H Q E h => ?_) (fun cdv A outer s H vs Q E hg hr h => ?_)⟩
  · obtain ⟨L, a, _, _, _, Av, ds, _, hl, _, e, _⟩ := h
    rw [hl, e, hlen a]
  · obtain ⟨L, a, hK, hS, ha, Av, ds, hi, hl, hv, e, hgg, q⟩ := h
    obtain ⟨t, h1, h2⟩ := hb cdv A outer s H E hg hr
    subst e
    exact ⟨t, h1, h2 L hK hS a ha Av (L2.start N vs) H hi (start_ok hl hv) hgg _ (fun σ' H' Γ' r e p => p.elim) fun v d H' r hd p => q v d H' r hd p⟩
end
section
variable {L : Rl} {Γ : List (Option PyData)} {t : TA} {te ta tb : TE} {E : XK} {α : Type} {args : α → List PyData} {ok : α → Prop} {val : α → PyData} {post : α → PyData → Prop} {a m n : Nat} {P1 P2 : PyData → Prop} {PA : List PyData → Prop}
theorem eg_callM (hS : SM L) (x : α) (ha : EaD L t Γ (args x)) (ho : ok x) : EvG L n (tCall (spM L.K n args ok post) [] E t) Γ (post x) := fun A σ H hi he hg Q q => ha A σ H hi he (L.g0 hg) _ fun vs ds H1 r1 l hv p => by
  subst p
  show spM L.K n args ok post (vs ++ []) H1 Q E
  rw [List.append_nil]
  exact ⟨L, x, rfl, hS, ho, A, args x, hi.r r1, l, hv, rfl, Rl.gR (a := 0) (by rw [Nat.zero_add]; exact hg) r1, fun v d H2 r2 hd hpo => q v d H2 (L.rle (Nat.le_of_eq (Nat.zero_add _)) (L.tr r1 r2)) hd hpo⟩
/-- a def that leaves all, called with drawn things -/
theorem eg_callRG (ha : EaG L m t Γ PA) (hp : ∀ ds, PA ds → nomk ds = true ∧ ∃ x, ok x ∧ ds = args x) : EvG L m (tCall (spR L.K args ok val) [] E t) Γ (fun d => ∃ x, PA (args x) ∧ ok x ∧ d = val x) := fun A σ H hi he hg Q q => ha A σ H hi he hg _ fun vs ds H1 r1 l hv p => by
  obtain ⟨hn, x, ho, e⟩ := hp ds p
  subst e
  show spR L.K args ok val (vs ++ []) H1 Q E
  rw [List.append_nil]
  refine ⟨x, ho, A, args x, hi.r r1, l, fun i d e => ?_, rfl, trivial, fun v d H2 r2 hd hpo => q v d H2 (L.tr (b := 0) r1 (L.same (Rl.gR (b := 0) hg r1) r2)) (pure_dq hd) ⟨x, p, ho, hpo⟩⟩
  obtain ⟨v, e1, e2⟩ := hv i d e
  exact ⟨v, e1, .inr (e2.ne (nomk_ne hn i d e))⟩
theorem eg_addG {P1 P2 : Int → Prop} (ha : EvG L m ta Γ (fun d => ∃ i, P1 i ∧ d = .int i)) (hb : EvG L n tb Γ (fun d => ∃ i, P2 i ∧ d = .int i)) : EvG L (m + n) (tOp (rI0 fun i j => .int (i + j)) ta tb) Γ (fun d => ∃ i, (∃ x y, P1 x ∧ P2 y ∧ i = x + y) ∧ d = .int i) :=
  eg_opG ha hb fun d1 d2 ⟨i, p1, e1⟩ ⟨j, p2, e2⟩ => by
    subst e1 e2
    exact fun A H x y hi hg hx hy Q q => os_I0 A H x y hi hg hx hy Q fun v d H' r hv e => q v d H' r hv ⟨i + j, ⟨i, j, p1, p2, rfl⟩, e⟩
theorem eg_subG {P1 P2 : Int → Prop} (ha : EvG L m ta Γ (fun d => ∃ i, P1 i ∧ d = .int i)) (hb : EvG L n tb Γ (fun d => ∃ i, P2 i ∧ d = .int i)) : EvG L (m + n) (tOp (rI0 fun i j => .int (i - j)) ta tb) Γ (fun d => ∃ i, (∃ x y, P1 x ∧ P2 y ∧ i = x - y) ∧ d = .int i) :=
  eg_opG ha hb fun d1 d2 ⟨i, p1, e1⟩ ⟨j, p2, e2⟩ => by
    subst e1 e2
    exact fun A H x y hi hg hx hy Q q => os_I0 A H x y hi hg hx hy Q fun v d H' r hv e => q v d H' r hv ⟨i - j, ⟨i, j, p1, p2, rfl⟩, e⟩
theorem eg_intG {i : Int} : EvG L 0 (tC (.int i)) Γ (fun d => ∃ j, j = i ∧ d = .int j) := EvG.mono eg_int (Nat.le_refl _) fun d e => ⟨i, rfl, e⟩
end
end V1
set_option Elab.async false
set_option linter.all false
set_option maxRecDepth 100000
set_option maxHeartbeats 4000000
/-! What readings share. -/
namespace V1
open PySem PySem.Spec PyProof.Rows L2
theorem take_next {α : Type} {xs : List α} {i : Nat} {x : α} (h : xs[i]? = some x) : xs.take (i + 1) = xs.take i ++ [x] := by
  rw [List.take_add_one, h]
  rfl
theorem map_at {α : Type} {xs : List α} {enc : α → PyData} {i : Nat} {d : PyData} (h : (xs.map enc)[i]? = some d) : ∃ x, xs[i]? = some x ∧ x ∈ xs ∧ d = enc x := by
  rw [List.getElem?_map] at h
  cases hx : xs[i]? with
  | none => rw [hx] at h; cases h
  | some x =>
    rw [hx] at h
    exact ⟨x, rfl, List.mem_of_getElem? hx, (Option.some.inj h).symm⟩
/-- what repr may be asked of -/
structure Sh (d : PyData) : Prop where
  seq : (∃ ds, d = .list ds) ∨ ∃ ds, d = .tuple ds
  show1 : d.showable = true
  nd : d.hasDict = false
  dep : d.depth ≤ 60
  len : d.shown.length ≤ sizeLine

theorem atI_zero {α : Type} (x : α) (xs : List α) : atI (x :: xs) 0 = some x := by
  unfold atI ixN
  rw [if_pos (by decide), if_pos (by rw [List.length_cons]; omega)]
  rfl
theorem split_last {α : Type} {xs : List α} {n : Nat} (h : xs.length = n + 1) : ∃ ys y, xs = ys ++ [y] ∧ ys.length = n := by
  refine ⟨xs.take n, xs[n], ?_, by rw [List.length_take]; omega⟩
  have := List.take_append_drop n xs
  rw [List.drop_eq_getElem_cons (by omega), List.drop_of_length_le (by omega)] at this
  exact this.symm
structure Shn (b k : Nat) (d : PyData) : Prop where
  s : d.showable = true
  nd : d.hasDict = false
  dp : d.depth ≤ k
  sh : d.leavesShort 1921 = true
  bk : d.bulk ≤ b
theorem shn_int {i : Int} {b k : Nat} (h : i.natAbs < 2 ^ 1900) : Shn b k (.int i) := by
  have hlog : i.natAbs.log2 < 1920 := by
    by_cases z : i.natAbs = 0
    · rw [z]; decide
    · exact Nat.lt_of_lt_of_le ((Nat.log2_lt z).mpr h) (by decide)
  refine ⟨by simp only [PyData.showable, decide_eq_true_eq]; exact hlog, by simp only [PyData.hasDict], by simp only [PyData.depth]; omega, ?_, by simp only [PyData.bulk]; omega⟩
  simp only [PyData.leavesShort, decide_eq_true_eq]
  show (Str.ofString (toString i)).length ≤ 1921
  rw [PySem.ofString_length]
  exact int_text_length_le (by decide) hlog
theorem shn_all {b k : Nat} : ∀ {ds : List PyData}, (∀ d ∈ ds, Shn b k d) → PyData.showableAll ds = true ∧ PyData.hasDictAll ds = false ∧ PyData.depthAll ds ≤ k ∧ PyData.leavesShortAll 1921 ds = true ∧ PyData.bulkAll ds ≤ ds.length * (b + 1)
  | [], _ => ⟨by simp only [PyData.showableAll], by simp only [PyData.hasDictAll], by simp only [PyData.depthAll]; omega, by simp only [PyData.leavesShortAll], by simp only [PyData.bulkAll]; omega⟩
  | d :: ds, h => by
    have h1 := h d List.mem_cons_self
    obtain ⟨a1, a2, a3, a4, a5⟩ := shn_all (ds := ds) fun x hx => h x (List.mem_cons_of_mem _ hx)
    refine ⟨?_, ?_, ?_, ?_, ?_⟩
    · simp only [PyData.showableAll, h1.s, a1, Bool.and_self]
    · simp only [PyData.hasDictAll, h1.nd, a2, Bool.or_self]
    · simp only [PyData.depthAll]
      have := h1.dp
      omega
    · simp only [PyData.leavesShortAll, h1.sh, a4, Bool.and_self]
    · simp only [PyData.bulkAll, List.length_cons]
      have := h1.bk
      rw [Nat.succ_mul]
      omega
theorem shn_tup {b k m : Nat} {ds : List PyData} (h : ∀ d ∈ ds, Shn b k d) (hl : ds.length ≤ m) : Shn (m * (b + 1)) (k + 1) (.tuple ds) := by
  obtain ⟨a1, a2, a3, a4, a5⟩ := shn_all h
  exact ⟨by simpa only [PyData.showable] using a1, by simpa only [PyData.hasDict] using a2, by simp only [PyData.depth]; omega, by simpa only [PyData.leavesShort] using a4, by simp only [PyData.bulk]; exact Nat.le_trans a5 (Nat.mul_le_mul_right _ hl)⟩
theorem shn_lst {b k m : Nat} {ds : List PyData} (h : ∀ d ∈ ds, Shn b k d) (hl : ds.length ≤ m) : Shn (m * (b + 1)) (k + 1) (.list ds) := by
  obtain ⟨a1, a2, a3, a4, a5⟩ := shn_all h
  exact ⟨by simpa only [PyData.showable] using a1, by simpa only [PyData.hasDict] using a2, by simp only [PyData.depth]; omega, by simpa only [PyData.leavesShort] using a4, by simp only [PyData.bulk]; exact Nat.le_trans a5 (Nat.mul_le_mul_right _ hl)⟩
theorem Shn.mono {b k b' k' : Nat} {d : PyData} (h : Shn b k d) (hb : b ≤ b' := by decide) (hk : k ≤ k' := by decide) : Shn b' k' d := ⟨h.s, h.nd, Nat.le_trans h.dp hk, h.sh, Nat.le_trans h.bk hb⟩
theorem Shn.fits {b k : Nat} {d : PyData} (h : Shn b k d) (hb : b ≤ 8000) : d.shown.length ≤ sizeLine := by
  have h1 := PyData.shown_le_bulk 1921 (by decide) d h.sh
  have h2 : (1921 + 2) * d.bulk ≤ 1923 * 8000 := Nat.mul_le_mul (by decide) (Nat.le_trans h.bk hb)
  rw [sizeLine_eq]
  omega
theorem sh_lst {b k : Nat} {ds : List PyData} (h : Shn b k (.list ds)) (hb : b ≤ 8000 := by decide) (hk : k ≤ 60 := by decide) : Sh (.list ds) := ⟨.inl ⟨ds, rfl⟩, h.s, h.nd, Nat.le_trans h.dp hk, h.fits hb⟩
theorem sh_tup {b k : Nat} {ds : List PyData} (h : Shn b k (.tuple ds)) (hb : b ≤ 8000 := by decide) (hk : k ≤ 60 := by decide) : Sh (.tuple ds) := ⟨.inr ⟨ds, rfl⟩, h.s, h.nd, Nat.le_trans h.dp hk, h.fits hb⟩
theorem p1900 {i : Int} {n : Nat} (h : i.natAbs < 2 ^ n) (hn : n ≤ 1900 := by decide) : i.natAbs < 2 ^ 1900 := Nat.lt_of_lt_of_le h (Nat.pow_le_pow_right (by decide) hn)
section
variable {L : Rl} {Γ : List (Option PyData)} {t : TA} {te ta tb : TE} {E : XK} {a b c m n : Nat} {P1 P2 P3 P4 : PyData → Prop}
theorem ea2G (h1 : EvG L a ta Γ P1) (h2 : EvG L b tb Γ P2) : EaG L (a + (b + 0)) (tCons ta (tCons tb tNil)) Γ (fun ds => ∃ d1 d2, ds = [d1, d2] ∧ P1 d1 ∧ P2 d2) :=
  EaG.mono (ea_consG h1 (ea_consG h2 ea_nil)) (Nat.le_refl _) fun ds ⟨d1, r, e, p1, d2, r2, e2, p2, e3⟩ => ⟨d1, d2, by rw [e, e2, e3], p1, p2⟩
theorem ea1G (h1 : EvG L a ta Γ P1) : EaG L (a + 0) (tCons ta tNil) Γ (fun ds => ∃ d1, ds = [d1] ∧ P1 d1) :=
  EaG.mono (ea_consG h1 ea_nil) (Nat.le_refl _) fun ds ⟨d1, r, e, p1, e2⟩ => ⟨d1, by rw [e, e2], p1⟩
theorem enc_of {α : Type} {enc : α → PyData} {P : α → Prop} : ∀ {rs : List PyData}, (∀ (i : Nat) d, rs[i]? = some d → ∃ x, P x ∧ d = enc x) → ∃ xs : List α, rs = xs.map enc ∧ xs.length = rs.length ∧ ∀ x ∈ xs, P x
  | [], _ => ⟨[], rfl, rfl, fun x h => by simp at h⟩
  | d :: r, h => by
    obtain ⟨x, hx, e⟩ := h 0 d rfl
    obtain ⟨xs, e2, hl, hP⟩ := enc_of (rs := r) fun i d' e => h (i + 1) d' (by simpa using e)
    refine ⟨x :: xs, by rw [e, e2]; rfl, by rw [List.length_cons, List.length_cons, hl], fun y hy => ?_⟩
    rcases List.mem_cons.mp hy with rfl | hy
    · exact hx
    · exact hP y hy
/-- a comprehension of drawn things -/
theorem eg_lcX {α : Type} {enc : α → PyData} {P : α → Prop} {wi : TI} {g : TG} {js vs : List Nat} {items : List PyData} (henc : ∀ x, enc x ≠ mark) (hw : WkD L wi Γ items) (hj : ∀ j ∈ js, j ∈ vs) (hlen : items.length ≤ b) (hb1 : b ≤ 1000)
    (hb : ∀ (i : Nat) d, items[i]? = some d → ∃ Γ', TgG L g js d (wipeD Γ vs) Γ' ∧ EvG L c te Γ' (fun r => ∃ x, P x ∧ r = enc x)) : EvG L (0 + b * c) (tLc wi g tYes te vs) Γ (fun r => ∃ xs : List α, r = .list (xs.map enc) ∧ xs.length = items.length ∧ ∀ x ∈ xs, P x) :=
  EvG.mono (eg_lcG (a := 0) (b := b) (c := c) (Pt := fun _ _ r => ∃ x, P x ∧ r = enc x) hw hj (fun its e => by rw [e]; exact ⟨hlen, hb1⟩) fun its e i d hd => by
    subst e
    obtain ⟨Γ', h1, h2⟩ := hb i d hd
    exact ⟨Γ', h1, EvG.mono h2 (Nat.le_refl _) fun r ⟨x, hx, e⟩ => ⟨by rw [e]; exact henc x, x, hx, e⟩⟩) (Nat.le_refl _) fun r ⟨its, rs, e1, e2, e3, e4⟩ => by
    obtain ⟨xs, f1, f2, f3⟩ := enc_of e4
    exact ⟨xs, by rw [e2, f1], by rw [f2, e3, e1], f3⟩
end
theorem rng_len (n : Nat) : (rngD 0 n).length = n := by unfold rngD; rw [List.length_map, List.length_range]
section
variable {L : Rl} {Γ : List (Option PyData)} {t : TA} {te ta tb : TE} {E : XK} {a b c m n j : Nat} {P P1 P2 : PyData → Prop} {N N2 : List (Option PyData) → Prop} {Rt : PyData → Prop} {u us : TS} {d : PyData}
theorem eg_tupG {PA : List PyData → Prop} (h : EaG L a t Γ PA) (hn : ∀ ds, PA ds → nomk ds = true ∧ ds.length ≤ 1000) : EvG L a (tTup t) Γ (fun d => ∃ ds, PA ds ∧ d = .tuple ds) := fun A σ H hi he hg Q q => h A σ H hi he hg _ fun vs ds' H1 r1 l hv p => by
  obtain ⟨h1, h2⟩ := hn ds' p
  refine ⟨Nat.le_trans (by rw [l]; exact h2) (by decide), fun p1 hp => ?_⟩
  have rr := Rl.newR (o := .tup vs) (Rl.gR (b := 0) hg r1) hp
  exact q _ _ _ (L.tr (b := 0) r1 rr) (.inr (.tup ((hi.r r1).no hp) upd_same ((all_of l hv h1).r rr))) ⟨ds', p, rfl⟩
theorem eg_lstF {ds : List PyData} (h : EaD L t Γ ds) (hn : nomk ds = true := by rfl) (hl : ds.length ≤ 1000 := by simp) : EvF L 0 (tLst t) Γ (fun x => x = .list ds) := fun A σ H hi he hg Q q => h A σ H hi he hg _ fun vs ds' H1 r1 l hv p => by
  subst p
  refine ⟨Nat.le_trans (by rw [l]; exact hl) (by decide), fun p hp => ?_⟩
  have rr := Rl.newR (o := .lst vs) (Rl.gR (b := 0) hg r1) hp
  exact q p _ _ (L.tr (a := 0) (b := 0) r1 rr) (L.free r1 hp) (.inr (.lst ((hi.r r1).no hp) upd_same ((all_of l hv hn).r rr))) rfl
theorem sq_tgG {g : TG} {js : List Nat} (h : EvG L a te Γ P) (hm : ∀ d, P d → d ≠ mark) (k : ∀ d, P d → ∃ Γ', TgG L g js d Γ Γ' ∧ SG L b u Γ' N Rt) : SG L (a + b) (tSeq (tAsg te g) u) Γ N Rt := fun A σ H hi he hg D q1 q2 =>
  h A σ H hi he (L.gle (Nat.le_add_right _ _) hg) _ fun v d H1 r hv p => by
    obtain ⟨Γ', h1, h2⟩ := k d p
    exact h1 A v σ H1 (hv.ne (hm d p)) (he.r r) _ fun σ' e' _ => h2 A σ' H1 (hi.r r) e' (Rl.gR hg r) D (fun σ2 H2 Γ2 r2 e2 p2 => q1 σ2 H2 Γ2 (L.tr r r2) e2 p2) fun v d H2 r2 e2 p2 => q2 v d H2 (L.tr r r2) e2 p2
/-- made, written, and on -/
theorem sg_grown2 {n : Nat} (hj : j < Γ.length) (h1 : EvF L 0 te Γ (fun x => x = d)) (h3 : SW L j us (Γ.set j (some d)) N2) (h4 : ∀ G, N2 G → SG L n u G N Rt) : SG L n (tSeq (tAsg te (gName j)) (tSeq us u)) Γ N Rt := fun A σ H hi he hg D q1 q2 =>
  h1 A σ H hi he (L.g0 hg) _ fun p d' H1 r1 hf hv e => by
  subst e
  have fr : FrS H j (σ.set j (some (V.ref p))) := ⟨p, List.getElem?_set_self (by rw [he.1]; exact hj), hf⟩
  refine h3 H A _ H1 (hi.r r1) ((he.r r1).set hv j) (Rl.gR (b := 0) (L.g0 hg) r1) r1 fr { D with nx := _ } fun σ3 H3 G3 r3 e3 p3 => ?_
  have e0 : n = 0 + n := (Nat.zero_add n).symm
  have g3 : L.G n H3 := Rl.gR (a := 0) (by rw [Nat.zero_add]; exact hg) r3
  exact h4 G3 p3 A σ3 H3 (hi.r r3) e3 g3 D (fun σ4 H4 G4 r4 e4 p4 => q1 σ4 H4 G4 (L.rle (Nat.le_of_eq (Nat.zero_add n)) (L.tr r3 r4)) e4 p4) fun v d H4 r4 e4 p4 => q2 v d H4 (L.rle (Nat.le_of_eq (Nat.zero_add n)) (L.tr r3 r4)) e4 p4
theorem flat_upd {K : PySem.W.Frag} {A : Addr → Prop} {H : Hp} {v : V} {zs : List Int} {p : Addr} {xs : List V} {o : HO} (h : Dv K A H v (tI zs)) (e : H p = some (.lst xs)) : Dv K A (upd H p o) v (tI zs) := by
  cases h with
  | @tup a ys ds na ea ra =>
    have ne : a ≠ p := fun z => by
      rw [z, e] at ea
      cases ea
    refine .tup na (by rw [upd_ne ne]; exact ea) ?_
    rw [ra.ints]
    exact DvAll.ofInts _
  | @ktup a ys ds ea ra =>
    rw [ra.ints] at ea
    exact .ktup ea (DvAll.ofInts _)
theorem flats_upd {A : Addr → Prop} {H : Hp} {p : Addr} {xs : List V} {o : HO} (e : H p = some (.lst xs)) : ∀ {zss : List (List Int)} {vs : List V}, DvAll L.K A H vs (zss.map tI) → DvAll L.K A (upd H p o) vs (zss.map tI)
  | [], _, h => by cases h; exact .nil
  | z :: zs, _, h => by
    cases h with
    | cons h1 h2 => exact .cons (flat_upd h1 e) (flats_upd e h2)
theorem sw_app {zss : List (List Int)} {zs : List Int} {Γ2 : List (Option PyData)} (hj : Γ[j]? = some (some (.list (zss.map tI)))) (hlen : zss.length ≤ 1000) (he2 : EvD L te Γ (tI zs)) (hl : Γ2.length = Γ.length)
    (h2 : ∀ (i : Nat) d, Γ2[i]? = some (some d) → (i = j ∧ d = .list ((zss ++ [zs]).map tI)) ∨ (Γ[i]? = some (some d) ∧ ((∃ zs, d = tI zs) ∨ (∃ z, d = .int z) ∨ d = mark))) :
    SW L j (tDrop (tBM L.K "list" rAppend (tVar j) (tCons te tNil))) Γ (fun G => G = Γ2) := fun H0 A σ H hi he hg r0 ⟨p, hp, hn⟩ D q => by
  obtain ⟨v, hv, dv⟩ := he.2 j _ hj
  rw [hp] at hv
  have ev : V.ref p = v := Option.some.inj (Option.some.inj hv)
  subst ev
  obtain ⟨p', xs, ep, na, eH, rr⟩ := dv.list
  have ep' : p = p' := by injection ep
  subst ep'
  refine ⟨V.ref p, hp, .inl ⟨rfl, xs, SqL.of eH⟩, ?_⟩
  refine he2 A σ H hi he hg _ fun vy d2 H2 r2 hvy p2 => ?_
  subst p2
  have eH2 : H2 p = some (.lst xs) := L.keep r2 eH (fun kvs z => by cases z)
  have r02 : L.R 0 H0 H2 := L.tr (a := 0) (b := 0) r0 r2
  have he3 : EnvOk L A σ H2 Γ := he.r r2
  have rr2 := rr.r r2
  have hlx : xs.length = zss.length := by rw [rr.length, List.length_map]
  refine ⟨p, xs, vy, rfl, rfl, eH2, Nat.lt_of_le_of_lt (show xs.length ≤ 1000 by omega) (by decide), ?_⟩
  refine q σ _ Γ2 (L.fresh r02 hn) ⟨by rw [hl]; exact he.1, fun i d hd => ?_⟩ rfl
  rcases h2 i d hd with ⟨rfl, rfl⟩ | ⟨h3, h4⟩
  · refine ⟨V.ref p, hp, .inr (.lst na upd_same ?_)⟩
    rw [List.map_append]
    have hvy2 : Dv L.K A H2 vy (tI zs) := hvy.ne (by unfold tI; intro z; cases z)
    exact (flats_upd eH2 rr2).app (.cons (flat_upd hvy2 eH2) .nil)
  · obtain ⟨v, hv, dv⟩ := he3.2 i d h3
    refine ⟨v, hv, ?_⟩
    rcases h4 with ⟨zs, rfl⟩ | ⟨z, rfl⟩ | rfl
    · exact .inr (flat_upd (dv.ne (by unfold tI; intro z; cases z)) eH2)
    · obtain rfl := dv.int
      exact .inr (.int z)
    · rcases dv with dv | dv
      · exact .inl dv
      · cases dv
end

end V1
set_option Elab.async false
set_option linter.all false
set_option maxRecDepth 100000
set_option maxHeartbeats 4000000
/-! The script: a list that is read alone. -/
namespace V1
open PySem PySem.Spec PyProof.Rows L2
theorem SqL.same {K : PySem.W.Frag} {H H' : Hp} {a : Addr} {xs : List V} (h : SqL K H a xs) (s : Same H H') : SqL K H' a xs := by
  rcases h with (e | ⟨o, e⟩) | h
  · exact .inl (.inl (s _ _ e))
  · exact .inl (.inr ⟨o, s _ _ e⟩)
  · exact .inr h
def scL (K : PySem.W.Frag) (a : Addr) (sc : List Int) : Rl where
  K := K
  G := fun _ H => SqL K H a (sc.map V.int)
  R := fun _ H H' => Same H H'
  M := fun v => v = .ref a
  gle := fun _ h => h
  rle := fun _ r => r
  gr := fun g r => SqL.same g r
  tr := fun a b => a.trans b
  same := fun _ s => s
  fresh := fun s h b o e => by rw [upd_ne (ne_of_none e h)]; exact s b o e
  keep := fun s e _ => s _ _ e
  free := fun s e => Same.free s e
  mref := fun h => ⟨a, h⟩
section
variable {K : PySem.W.Frag} {L : Rl} {Γ : List (Option PyData)} {a : Addr} {sc : List Int} {i : Nat} {te : TE} {tt : TT}
theorem dq_mark {A : Addr → Prop} {H : Hp} {v : V} (h : Dq (scL K a sc) A H v mark) : v = .ref a := by
  rcases h with ⟨_, h⟩ | h
  · exact h
  · cases h
theorem cut_ints (xs : List Int) (lo hi : Option Int) : ∃ zs : List Int, cutV (xs.map V.int) lo hi = zs.map V.int ∧ zs.length ≤ xs.length := by
  refine ⟨(xs.drop (HT.sIx (xs.map V.int).length 0 lo)).take (HT.sIx (xs.map V.int).length (xs.map V.int).length hi - HT.sIx (xs.map V.int).length 0 lo), ?_, ?_⟩
  · unfold cutV
    rw [List.map_take, List.map_drop]
  · rw [List.length_take, List.length_drop]
    omega
theorem eg_slS {tl th : TO} {lo hi0 : Option Int} (e : Γ[i]? = some (some mark)) (h1 : EoD (scL K a sc) tl Γ lo) (h2 : EoD (scL K a sc) th Γ hi0) : EvG (scL K a sc) 0 (tSl (rSlL K) (tVar i) tl th) Γ (fun d => ∃ zs : List Int, zs.length ≤ sc.length ∧ d = lI zs) := fun A σ H hi he hg Q q => by
  obtain ⟨v, hv, dv⟩ := he.2 i _ e
  have ev := dq_mark dv
  subst ev
  refine ⟨_, hv, h1 A σ H hi he hg _ fun H1 r1 => h2 A σ H1 (hi.r r1) (he.r r1) (Rl.gR (a := 0) (b := 0) hg r1) _ fun H2 r2 => ?_⟩
  have r12 : (scL K a sc).R 0 H H2 := (scL K a sc).tr (a := 0) (b := 0) r1 r2
  have g2 : (scL K a sc).G 0 H2 := Rl.gR (a := 0) (b := 0) hg r12
  obtain ⟨zs, e1, e2⟩ := cut_ints sc lo hi0
  refine ⟨a, sc.map V.int, rfl, g2, fun p hp => ?_⟩
  have rr := Rl.newR (L := scL K a sc) (o := .lst (cutV (sc.map V.int) lo hi0)) g2 hp
  rw [e1] at rr ⊢
  exact q _ _ _ ((scL K a sc).tr (a := 0) (b := 0) r12 rr) (.inr (.lst ((hi.r r12).no hp) upd_same (DvAll.ofInts zs))) ⟨zs, e2, rfl⟩
theorem cs_lenS (e : Γ[i]? = some (some mark)) : EvD (scL K a sc) (tCB (fun xs H Q => ∃ p ys, xs = [.ref p] ∧ (SqL K H p ys ∨ SqT K H p ys) ∧ Q (.int ys.length) H) (tCons (tVar i) tNil)) Γ (.int (sc.length : Int)) := fun A σ H hi he hg Q q => by
  obtain ⟨v, hv, dv⟩ := he.2 i _ e
  have ev := dq_mark dv
  subst ev
  refine ⟨_, hv, a, sc.map V.int, rfl, .inl hg, ?_⟩
  rw [List.length_map]
  exact q _ _ H (Rl.refl hg) (.inr (.int _)) rfl
/-- a comprehension with a test -/
theorem eg_lcT {wi : TI} {g : TG} {js vs : List Nat} {items : List PyData} {Pt : PyData → Prop} (hw : WkD L wi Γ items) (hj : ∀ j ∈ js, j ∈ vs) (hlen : items.length ≤ 1000)
    (hb : ∀ (i : Nat) d, items[i]? = some d → ∃ Γ', TgG L g js d (wipeD Γ vs) Γ' ∧ (∃ k, EtD L tt Γ' k) ∧ EvG L 0 te Γ' (fun r => r ≠ mark ∧ Pt r)) :
    EvG L 0 (tLc wi g tt te vs) Γ (fun r => ∃ rs, r = .list rs ∧ rs.length ≤ items.length ∧ ∀ (i : Nat) d, rs[i]? = some d → Pt d) := fun A σ H hi he hg Q q => hw A σ H hi he hg _ fun J H1 its r1 hp jk D hD => by
  subst hp
  have hD0 : H D = none := L.free r1 hD
  have g1 : L.G 0 H1 := Rl.gR (b := 0) hg r1
  refine ⟨fun i m H2 => m = its.length - i ∧ i ≤ its.length ∧ L.R 0 H H2 ∧ Kp A H1 H2 ∧ ∃ acc rs, H2 D = some (.lst acc) ∧ DvAll L.K (fun b => A b ∨ b = D) H2 acc rs ∧ rs.length ≤ i ∧ ∀ (j : Nat) d, rs[j]? = some d → Pt d, ⟨its.length, ?_⟩, ?_⟩
  · exact ⟨by omega, Nat.zero_le _, L.fresh r1 hD0, fun b o _ e k => by rw [upd_ne (ne_of_none e hD)]; exact e, [], [], upd_same, .nil, Nat.le_refl _, fun j d e => by simp at e⟩
  · rintro i m H2 ⟨rfl, hle, r2, k2, acc, rs, eD, dv, hrl, hpt⟩
    have naD : ∀ b, A b → H2 b ≠ none := fun b z => hi.r r2 b z
    by_cases hlt : i < its.length
    · refine .inr ⟨jk.go i H2 k2 hlt, fun H3 => i + 1 ≤ its.length ∧ L.R 0 H H3 ∧ Kp A H1 H3 ∧ ∃ acc rs, H3 D = some (.lst acc) ∧ DvAll L.K (fun b => A b ∨ b = D) H3 acc rs ∧ rs.length ≤ i + 1 ∧ ∀ (j : Nat) d, rs[j]? = some d → Pt d,
        fun H3 h3 => ⟨its.length - (i + 1), by omega, rfl, h3⟩, fun x H3 y => ?_⟩
      obtain ⟨d, hd, sm, hdv⟩ := jk.yld i H2 x H3 k2 naD y hlt
      obtain ⟨Γ', htg, ⟨kk, htt⟩, hev⟩ := hb i d hd
      have innA' : ∀ b, (A b ∨ b = D) → H2 b ≠ none := fun b z => z.elim (naD b) fun e => by rw [e, eD]; simp
      have dx : Dv L.K (fun b => A b ∨ b = D) H3 x d := hdv _ innA' fun b o na e _ z => z.elim na (ne_of_none e hD)
      have ev2 : EnvOk L (fun b => A b ∨ b = D) (wipe σ vs) H3 (wipeD Γ vs) := by
        have h0 : EnvOk L (fun b => A b ∨ b = D) (wipe σ vs) (upd H1 D (.lst [])) (wipeD Γ vs) := ((he.r r1).wipe vs).avoid hD
        refine ⟨h0.1, fun j d' e => ?_⟩
        obtain ⟨v, e1, e2⟩ := h0.2 j d' e
        refine ⟨v, e1, e2.imp (fun z => z) fun z => z.map fun b o na eb kd => ⟨na, sm _ _ (k2 b o (fun w => na (.inl w)) ?_ kd)⟩⟩
        rwa [upd_ne (fun w => na (.inr w))] at eb
      refine htg (fun b => A b ∨ b = D) x (wipe σ vs) H3 dx ev2 _ fun σ2 e3 w3 => ⟨?_, ?_⟩
      · rw [w3 vs hj, wipe_wipe vs fun v hv => hv]
      · have g2 : L.G 0 H2 := Rl.gR (b := 0) hg r2
        have r3 : L.R 0 H2 H3 := L.same g2 sm
        have g3 : L.G 0 H3 := Rl.gR (b := 0) g2 r3
        have inn3 : Inn (fun b => A b ∨ b = D) H3 := fun b z y => innA' b z (L.free r3 y)
        refine htt (fun b => A b ∨ b = D) σ2 H3 inn3 e3 g3 _ fun H4 r4 => ?_
        have r34 : L.R 0 H2 H4 := L.tr (a := 0) (b := 0) r3 r4
        have k4 : Kp A H1 H4 := fun b o na e k => L.keep r34 (k2 b o na e k) k
        have eD4 : H4 D = some (.lst acc) := L.keep r34 eD (fun kvs z => by cases z)
        cases kk with
        | false =>
          show i + 1 ≤ its.length ∧ _
          exact ⟨hlt, L.tr (a := 0) (b := 0) r2 r34, k4, acc, rs, eD4, dv.r r34, by omega, hpt⟩
        | true =>
          show te σ2 H4 _
          refine hev (fun b => A b ∨ b = D) σ2 H4 (inn3.r r4) (e3.r r4) (Rl.gR (b := 0) g3 r4) _ fun y dy H5 r5 hy pw => ?_
          obtain ⟨hmk, hpt4⟩ := pw
          have eD5 : H5 D = some (.lst acc) := L.keep r5 eD4 (fun kvs z => by cases z)
          have r25 : L.R 0 H2 H5 := L.tr (a := 0) (b := 0) r34 r5
          refine ⟨acc, eD5, Nat.lt_of_le_of_lt (show acc.length ≤ 1000 by rw [dv.length]; omega) (by decide), hlt, L.fresh (L.tr (a := 0) (b := 0) r2 r25) hD0, ?_, acc ++ [y], rs ++ [dy], upd_same, ?_, by rw [List.length_append]; show _ + 1 ≤ _; omega, fun j d' e => ?_⟩
          · intro b o na e k
            have ne : b ≠ D := ne_of_none e hD
            rw [upd_ne ne]
            exact L.keep r25 (k2 b o na e k) k
          · exact ((dv.r r25).app (.cons (hy.ne hmk) .nil)).off
          · by_cases hj2 : j < rs.length
            · rw [List.getElem?_append_left hj2] at e
              exact hpt j d' e
            · rw [List.getElem?_append_right (by omega)] at e
              have hj3 : j - rs.length = 0 := by
                have := (List.getElem?_eq_some_iff.mp e).1
                simp at this
                omega
              rw [hj3] at e
              simp at e
              subst e
              exact hpt4
    · have e : i = its.length := by omega
      subst e
      refine .inl ⟨jk.stop H2 k2, ?_⟩
      have nD : ¬ A D := hi.no hD0
      exact q (.ref D) (.list rs) H2 r2 (.inr (.lst nD eD (dv.map fun b o na e _ => ⟨fun z => na (.inl z), e⟩))) ⟨rs, rfl, hrl, hpt⟩
theorem eg_catG {P1 P2 : List Int → Prop} {ta tb : TE} {m n : Nat} (ha : EvG L m ta Γ (fun d => ∃ zs, P1 zs ∧ d = lI zs)) (hb : EvG L n tb Γ (fun d => ∃ zs, P2 zs ∧ d = lI zs)) (hl : ∀ xs ys, P1 xs → P2 ys → xs.length + ys.length ≤ 100000) : EvG L (m + n) (tOp rCat ta tb) Γ (fun d => ∃ xs ys, P1 xs ∧ P2 ys ∧ d = lI (xs ++ ys)) :=
  eg_opG ha hb fun d1 d2 ⟨xs, p1, e1⟩ ⟨ys, p2, e2⟩ => by
    subst e1 e2
    exact fun A H x y hi hg hx hy Q q => os_cat (by rw [List.length_map, List.length_map]; exact hl xs ys p1 p2) A H x y hi hg hx hy Q fun v d H' r hv e => q v d H' r hv ⟨xs, ys, p1, p2, by rw [e]; unfold lI; rw [List.map_append]⟩
theorem dp_nil {K : PySem.W.Frag} {A : Addr → Prop} {H : Hp} {p : Addr} (h : H p = some (.lst [])) : Dp K H (.ref p) (.list []) := .lst (SqL.of h) .nil
theorem eqv_nil (ds : List PyData) : PyData.eqv (.list ds) (.list []) = ds.isEmpty := by
  cases ds with
  | nil => rfl
  | cons d ds => rfl
theorem canlay_ints : ∀ zs : List Int, PyData.canLayAll0 (zs.map .int) = true
  | [] => rfl
  | z :: zs => by simp only [List.map_cons, PyData.canLayAll0, PyData.canLay0, canlay_ints zs, Bool.and_self]
theorem depth_ints : ∀ zs : List Int, PyData.depthAll (zs.map .int) = 0
  | [] => rfl
  | z :: zs => by simp only [List.map_cons, PyData.depthAll, PyData.depth, depth_ints zs, Nat.max_self]
theorem shaped_ints (zs : List Int) : SeqAt.shaped (lI zs) = true := by
  unfold SeqAt.shaped lI
  rw [Bool.and_eq_true]
  refine ⟨by simp only [PyData.canLay0]; exact canlay_ints zs, decide_eq_true ?_⟩
  simp only [PyData.depth, depth_ints]
  omega
/-- xs != [] -/
theorem eg_neNil {ta : TE} {zs : List Int} (h : EvD L ta Γ (lI zs)) : EvD L (tOp (rNeD L.K) ta (tLst tNil)) Γ (.bool (!zs.isEmpty)) := fun A σ H hi he hg Q q => h A σ H hi he hg _ fun x d H1 r1 hx p => by
  subst p
  refine eg_lst (L := L) (Γ := Γ) (t := tNil) (ds := []) ea_nil rfl (by decide) A σ H1 (hi.r r1) (he.r r1) (Rl.gR (b := 0) hg r1) _ fun y d2 H2 r2 hy p2 => ?_
  subst p2
  have dx : Dp L.K H2 x (lI zs) := ((hx.r r2).ne (by unfold lI; intro z; cases z)).dp
  have dy : Dp L.K H2 y (.list []) := (hy.ne (by intro z; cases z)).dp
  refine ⟨lI zs, .list [], dx, dy, shaped_ints zs, rfl, ?_⟩
  have e : PyData.eqv (lI zs) (.list []) = zs.isEmpty := by
    unfold lI
    rw [eqv_nil]
    cases zs <;> rfl
  rw [e]
  exact q _ _ H2 (L.tr (a := 0) (b := 0) r1 r2) (.inr (.bl _)) rfl
/-- a way through statements, to an end of its own -/
def SX (L : Rl) (A : Addr → Prop) (H0 : Hp) (D : Ends) (ts : TS) (Γ : List (Option PyData)) : Prop := ∀ σ H, Inn A H → EnvOk L A σ H Γ → L.G 0 H → L.R 0 H0 H → ts D σ H
theorem sx_asgG {A : Addr → Prop} {H0 : Hp} {D : Ends} {u : TS} {P : PyData → Prop} {j : Nat} (h : EvG L 0 te Γ P) (k : ∀ d, P d → SX L A H0 D u (Γ.set j (some d))) : SX L A H0 D (tSeq (tAsg te (gName j)) u) Γ := fun σ H hi he hg r0 =>
  h A σ H hi he hg _ fun v d H1 r1 hv p => k d p _ H1 (hi.r r1) ((he.r r1).set hv j) (Rl.gR (b := 0) hg r1) (L.tr (a := 0) (b := 0) r0 r1)
theorem sx_sg {A : Addr → Prop} {H0 : Hp} {D : Ends} {ts u : TS} {N : List (Option PyData) → Prop} (h : SG L 0 ts Γ N (fun _ => False)) (k : ∀ Γ', N Γ' → SX L A H0 D u Γ') : SX L A H0 D (tSeq ts u) Γ := fun σ H hi he hg r0 =>
  h A σ H hi he hg { D with nx := u D } (fun σ' H' Γ' r e p => k Γ' p σ' H' (hi.r r) e (Rl.gR (b := 0) hg r) (L.tr (a := 0) (b := 0) r0 r)) fun v d H' r hd z => z.elim
end
end V1
set_option Elab.async false
set_option linter.all false
set_option maxRecDepth 100000
set_option maxHeartbeats 4000000
/-! A way that leaves one slot as it is. -/
namespace V1
open PySem PySem.Spec PyProof.Rows L2
def SK (L : Rl) (j : Nat) (v0 : V) (n : Nat) (ts : TS) (Γ : List (Option PyData)) (N : List (Option PyData) → Prop) : Prop := ∀ A σ H, Inn A H → EnvOk L A σ H Γ → L.G n H → σ[j]? = some (some v0) → ∀ D : Ends,
  (∀ σ' H' Γ', L.R n H H' → EnvOk L A σ' H' Γ' → σ'[j]? = some (some v0) → N Γ' → D.nx σ' H') → ts D σ H
section
variable {L : Rl} {Γ : List (Option PyData)} {te : TE} {t : TA} {tt : TT} {ts u : TS} {i j a b c : Nat} {v0 : V} {N : List (Option PyData) → Prop} {P : PyData → Prop}
theorem sk_asgG (hij : i ≠ j) (h : EvG L a te Γ P) (k : ∀ d, P d → SK L j v0 b u (Γ.set i (some d)) N) : SK L j v0 (a + b) (tSeq (tAsg te (gName i)) u) Γ N := fun A σ H hi he hg hs D q =>
  h A σ H hi he (L.gle (Nat.le_add_right _ _) hg) _ fun v d H1 r hv p => k d p A _ H1 (hi.r r) ((he.r r).set hv i) (Rl.gR hg r) (by rw [List.getElem?_set_ne hij]; exact hs) D fun σ2 H2 Γ2 r2 e2 s2 p2 => q σ2 H2 Γ2 (L.tr r r2) e2 s2 p2
theorem sk_parG {i2 : Nat} {PP : List PyData → Prop} (h1 : i ≠ j) (h2 : i2 ≠ j) (h : EaG L a t Γ PP) (k : ∀ ds, PP ds → ∃ d1 d2, ds = [d1, d2] ∧ SK L j v0 b u ((Γ.set i (some d1)).set i2 (some d2)) N) : SK L j v0 (a + b) (tSeq (tPar i i2 t) u) Γ N := fun A σ H hi he hg hs D q =>
  h A σ H hi he (L.gle (Nat.le_add_right _ _) hg) _ fun vs ds H1 r hl hv p => by
    obtain ⟨d1, d2, rfl, k⟩ := k ds p
    obtain ⟨v, w, rfl, h3, h4⟩ := two_of hl hv
    exact ⟨v, w, rfl, k A _ H1 (hi.r r) (((he.r r).set h3 i).set h4 i2) (Rl.gR hg r) (by rw [List.getElem?_set_ne h2, List.getElem?_set_ne h1]; exact hs) D fun σ2 H2 Γ2 r2 e2 s2 p2 => q σ2 H2 Γ2 (L.tr r r2) e2 s2 p2⟩
theorem sk_ifn (h : EtG L a tt Γ (fun k => k = false)) (k : N Γ) : SK L j v0 a (tIfS tt ts tNext) Γ N := fun A σ H hi he hg hs D q => h A σ H hi he hg _ fun b H1 r1 e => by
  subst e
  exact q σ H1 Γ r1 (he.r r1) hs k
theorem sk_for {wi : TI} {g : TG} {js : List Nat} {items : List PyData} (I : Nat → List (Option PyData) → Prop) (hjs : j ∉ js) (hw : WkD L wi Γ items) (hlen : items.length ≤ b) (h0 : I 0 Γ)
    (hb : ∀ (i : Nat) d Γi, items[i]? = some d → I i Γi → ∃ Γ', TgG L g js d Γi Γ' ∧ SK L j v0 c ts Γ' (I (i + 1))) (hN : ∀ Γe, I items.length Γe → N Γe) : SK L j v0 (b * c) (tFor wi g ts) Γ N := fun A σ H hi he hg hs D q1 =>
  hw A σ H hi he (L.g0 hg) _ fun J H1 its r1 hp jk => by
  subst hp
  refine ⟨fun i m σ2 H2 => m = its.length - i ∧ i ≤ its.length ∧ L.R (i * c) H H2 ∧ Kp A H1 H2 ∧ σ2[j]? = some (some v0) ∧ ∃ Γi, EnvOk L A σ2 H2 Γi ∧ I i Γi, ⟨its.length, ?_⟩, ?_⟩
  · refine ⟨by omega, Nat.zero_le _, ?_, fun b o _ e k => e, hs, Γ, he.r r1, h0⟩
    rw [Nat.zero_mul]
    exact r1
  · rintro i m σ2 H2 ⟨rfl, hle, r2, k2, s2, Γi, e2, p2⟩
    by_cases hlt : i < its.length
    · refine .inr ⟨jk.go i H2 k2 hlt, fun σ3 H3 => i + 1 ≤ its.length ∧ L.R ((i + 1) * c) H H3 ∧ Kp A H1 H3 ∧ σ3[j]? = some (some v0) ∧ ∃ Γi, EnvOk L A σ3 H3 Γi ∧ I (i + 1) Γi, fun σ3 H3 h3 => ⟨its.length - (i + 1), by omega, rfl, h3⟩, fun x H3 y => ?_⟩
      have naD : ∀ b, A b → H2 b ≠ none := fun b z => hi.r r2 b z
      obtain ⟨d, hd, sm, hdv⟩ := jk.yld i H2 x H3 k2 naD y hlt
      obtain ⟨Γ', htg, hs'⟩ := hb i d Γi hd p2
      have e5 : (i + 1) * c = i * c + 0 + c := by rw [Nat.succ_mul]; omega
      have g0 : L.G (c + 0) H2 := by
        refine Rl.gR (a := i * c) ?_ r2
        refine L.gle ?_ hg
        have h1 : (i + 1) * c ≤ b * c := Nat.mul_le_mul_right _ (by omega)
        have h2 : (i + 1) * c = i * c + c := Nat.succ_mul _ _
        omega
      have r3 : L.R 0 H2 H3 := L.same (L.g0 g0) sm
      have g3 : L.G c H3 := Rl.gR (a := 0) (by rw [Nat.zero_add]; exact g0) r3
      have dx : Dv L.K A H3 x d := hdv A naD fun b o na e _ => na
      refine htg A x σ2 H3 dx (e2.r r3) _ fun σ4 e4 w4 => ?_
      have s4 : σ4[j]? = some (some v0) := by
        have hw4 := w4 js fun k hk => hk
        rw [← wipe_get hjs, hw4, wipe_get hjs]
        exact s2
      refine hs' A σ4 H3 (fun b z y => naD b z (L.free r3 y)) e4 g3 s4 { D with nx := _, ct := _, bk := D.nx } (fun σ5 H5 Γ5 r5 e6 s5 p5 => ?_)
      refine ⟨hlt, ?_, fun b o na e k => L.keep r5 (sm _ _ (k2 b o na e k)) k, s5, Γ5, e6, p5⟩
      rw [e5]
      exact L.tr (L.tr r2 r3) r5
    · have e : i = its.length := by omega
      subst e
      exact .inl ⟨jk.stop H2 k2, q1 σ2 H2 Γi (L.rle (Nat.mul_le_mul_right c hlen) r2) e2 s2 (hN Γi p2)⟩
end
end V1
set_option Elab.async false
set_option linter.all false
set_option maxRecDepth 100000
set_option maxHeartbeats 4000000
/-! max of a list with a default. -/
namespace V1
open PySem PySem.Spec PyProof.Rows L2
def maxI (d : Int) : List Int → Int
  | [] => d
  | n :: r => r.foldl max n
theorem dpAll_ints {K : PySem.W.Frag} {H : Hp} : ∀ ns : List Int, DpAll K H (ns.map V.int) (ns.map PyData.int)
  | [] => .nil
  | n :: r => .cons (.int n) (dpAll_ints r)
theorem alike_ints (ns : List Int) : PySem.W.AlikeAll (ns.map PyData.int) := by
  refine ⟨fun x hx y hy => ?_, fun x hx => ?_⟩
  · obtain ⟨a, _, rfl⟩ := List.mem_map.mp hx
    obtain ⟨b, _, rfl⟩ := List.mem_map.mp hy
    rfl
  · obtain ⟨a, _, rfl⟩ := List.mem_map.mp hx
    intro z
    cases z
theorem cr_maxDef {X : Cx} {K : PySem.W.Frag} (hK : X.K = K) (hc : X.calm = true) (hu : X.A.units + 64 < cLine) : CallRK X (.builtin "max") [Str.ofString "default"] (fun vs zs H Q => ∃ (a : Addr) (ns : List Int) (d : Int), vs = [.ref a] ∧ zs = [.int d] ∧ SqL K H a (ns.map V.int) ∧ Q (.int (maxI d ns)) H) := by
  subst hK
  intro pins s σ H vs zs us ws Q I r rz h
  obtain ⟨a, ns, d, rfl, rfl, hs, q⟩ := h
  obtain rfl := Vals.ref1 r
  obtain ⟨w1, rfl, e1⟩ := vals1 rz
  obtain ⟨t, rfl⟩ := e1
  obtain ⟨its, rv, pl, hz⟩ := I.list hs
  obtain ⟨as, ra⟩ := Dp.readsAll I _ _ _ (dpAll_ints ns) rv
  refine PySem.W.max_list_default (vs := its.toArray) (I.ok.hd hc) pl.isList (by simpa using ra) (alike_ints ns) (by rw [depth_ints]; omega) (fun e h' tk hk => ?_) fun y ys i v h' tk bs e hv rr hk => ?_
  · have e2 : ns = [] := by simpa using e
    subst e2
    exact ⟨.int d, H, I.kept hk, ⟨_, rfl⟩, q⟩
  · cases ns with
    | nil => cases e
    | cons n r =>
      rw [List.map_cons] at e
      injection e with e2 e3
      subst e2 e3
      rw [PySem.W.maxD_ints] at rr
      cases rr
      exact ⟨.int (r.foldl max n), H, I.kept hk, ⟨_, rfl⟩, q⟩
section
variable {L : Rl} {Γ : List (Option PyData)} {ta : TE}
theorem eg_maxDef {ns : List Int} {d : Int} (h : EvD L ta Γ (lI ns)) : EvD L (tCKw (fun vs zs H Q => ∃ (a : Addr) (ns : List Int) (d : Int), vs = [.ref a] ∧ zs = [.int d] ∧ SqL L.K H a (ns.map V.int) ∧ Q (.int (maxI d ns)) H) (tCons ta tNil) (tCons (tC (.int d)) tNil)) Γ (.int (maxI d ns)) := fun A σ H hi he hg Q q => h A σ H hi he hg _ fun v d1 H1 r1 hv p => by
  subst p
  obtain ⟨p, xs, rfl, na, e, r⟩ := hv.list
  rw [r.ints] at e
  exact ⟨p, ns, d, rfl, rfl, SqL.of e, q _ _ H1 r1 (.inr (.int _)) rfl⟩
/-- a tuple of texts of the written part, by its address -/
theorem eg_gtup {a : Addr} {ws : List Str} (h : ∀ H, SqT L.K H a (ws.map V.str)) : EvD L (tC (.ref a)) Γ (.tuple (ws.map .str)) := fun A σ H hi he hg Q q => by
  have hk : KT L.K a (ws.map V.str) := by
    rcases h (fun _ => none) with (e | ⟨o, e⟩) | e
    · cases e
    · cases e
    · exact e
  refine q _ _ H (Rl.refl hg) (.inr (.ktup hk ?_)) rfl
  clear h hk q
  induction ws with
  | nil => exact .nil
  | cons w r ih => exact .cons (.str w) ih
end
end V1
set_option Elab.async false
set_option linter.all false
set_option maxRecDepth 100000
set_option maxHeartbeats 4000000
/-! A text, or None, in a dict of the written part. -/
namespace V1
open PySem PySem.Spec PyProof.Rows L2
theorem none_mapK {P : Program} {w : World} {K : PySem.W.Frag} {h : Heap} {d : Addr} {es : Array DictEntry} {n : Nat} (X : K.In h) (D : KDict K w d es n) : ∃ f, h.MapOf (noneKind P w) d f ∧ f none = none := by
  refine ⟨fun k => findBy (noneKind P w).is es k, ⟨_, es, n, X _ _ D.at_, ⟨rfl, rfl, rfl⟩, rfl, fun e he => ?_, fun k => rfl⟩, ?_⟩
  · obtain ⟨x, t, e1, e2⟩ := D.lit.all e (Array.mem_toList_iff.mpr he)
    refine ⟨some (.inr x), ?_, e2⟩
    show keyIs (.inr x) e.key = true
    rw [e1]
    exact PySem.strKind_is P w x t
  · have q : (es.find? fun e => nkIs none e.key) = none := by
      rw [Array.find?_eq_none]
      intro e he hq
      obtain ⟨x, t, e1, _⟩ := D.lit.all e (Array.mem_toList_iff.mpr he)
      rw [nk_none hq] at e1
      cases e1
    show (es.find? fun e => nkIs none e.key).map (·.val) = none
    rw [q] <;> rfl
section
variable {X : Cx} {d : Addr} {es : Array DictEntry} {n : Nat}
theorem op_in_kdN (D : KDict X.K X.w d es n) : OpR X (compareOp .In) (fun x y H Q => y = .ref d ∧ ((∃ (z : Str) (r : Option Value), x = .str z ∧ PySem.W.nsIn X.K d z = some r ∧ Q (.bl r.isSome) H) ∨ (x = .non ∧ Q (.bl false) H))) := by
  intro pins s σ H x y v u Q I rx ry h
  obtain ⟨rfl, h⟩ := h
  rcases h with ⟨z, r, rfl, e, q⟩ | ⟨rfl, q⟩
  · exact op_in_kd D pins s σ H _ _ v u Q I rx ry ⟨z, r, rfl, rfl, e, q⟩
  · cases ry
    obtain rfl : v = Value.none := rx
    obtain ⟨f, hm, hf⟩ := none_mapK (P := X.prog) (w := X.w) I.kIn D
    refine wpAny_in_of (show (noneKind X.prog X.w).is none .none = true from rfl) D.low hm ?_
    rw [hf]
    exact ⟨.bl false, H, I.tok _, rfl, q⟩
end
end V1
set_option Elab.async false
set_option linter.all false
set_option maxRecDepth 100000
set_option maxHeartbeats 4000000
/-! A list made here that grows in a loop. -/
namespace V1
open PySem PySem.Spec PyProof.Rows L2
/-- a new list whose things stand away from it -/
def EvL (L : Rl) (te : TE) (Γ : List (Option PyData)) (ds : List PyData) : Prop := ∀ A σ H, Inn A H → EnvOk L A σ H Γ → L.G 0 H → ∀ Q : VK, (∀ p xs H', L.R 0 H H' → H p = none → H' p = some (.lst xs) → DvAll L.K (fun b => A b ∨ b = p) H' xs ds → Q (.ref p) H') → te σ H Q
section
variable {L : Rl} {Γ : List (Option PyData)} {t : TA} {te te2 : TE} {B u : TS} {j : Nat} {N : List (Option PyData) → Prop} {Rt : PyData → Prop}
theorem evl_lst {ds : List PyData} (h : EaD L t Γ ds) (hn : nomk ds = true := by rfl) (hl : ds.length ≤ 1000 := by simp) : EvL L (tLst t) Γ ds := fun A σ H hi he hg Q q => h A σ H hi he hg _ fun vs ds' H1 r1 l hv p => by
  subst p
  refine ⟨Nat.le_trans (by rw [l]; exact hl) (by decide), fun p hp => ?_⟩
  have rr := Rl.newR (o := .lst vs) (Rl.gR (b := 0) hg r1) hp
  refine q p vs _ (L.tr (a := 0) (b := 0) r1 rr) (L.free r1 hp) upd_same ((all_of l hv hn).map fun b o na e k => ⟨fun z => z.elim na (ne_of_none e hp), ?_⟩)
  rw [upd_ne (ne_of_none e hp)]
  exact e
theorem EnvOk.less {A A' : Addr → Prop} {σ : L2.St} {H : Hp} (h : EnvOk L A' σ H Γ) (f : ∀ b, A b → A' b) : EnvOk L A σ H Γ := ⟨h.1, fun i d e => let ⟨v, h1, h2⟩ := h.2 i d e; ⟨v, h1, h2.imp (fun z => z) fun z => z.map fun b o na e k => ⟨fun w => na (f b w), e⟩⟩⟩
theorem sg_growE {wi : TI} {g : TG} {js : List Nat} {items ds0 : List PyData} {acc : Nat → List PyData} (I : Nat → List (Option PyData) → Prop) (hj : j < Γ.length) (hjs : j ∉ js) (h1 : EvL L te Γ ds0) (ha0 : acc 0 = ds0) (hlen : ∀ i, (acc i).length ≤ 100000)
    (hw : WkD L wi (Γ.set j none) items) (h0 : I 0 (Γ.set j none))
    (hb : ∀ (i : Nat) d Γi, items[i]? = some d → I i Γi → ∃ Γ' N1, TgG L g js d Γi Γ' ∧ (∀ v0, SK L j v0 0 B Γ' N1) ∧ ∀ G, N1 G → ∃ es, EvD L te2 G (.list es) ∧ es.length ≤ 100000 ∧ acc (i + 1) = acc i ++ es ∧ I (i + 1) G)
    (hN : ∀ Γe, I items.length Γe → SG L 0 u (Γe.set j (some (.list (acc items.length)))) N Rt) :
    SG L 0 (tSeq (tAsg te (gName j)) (tSeq (tFor wi g (tSeq B (tDrop (tBM L.K "list" rExtend (tVar j) (tCons te2 tNil))))) u)) Γ N Rt := fun A σ H hi he hg D q1 q2 => h1 A σ H hi he hg _ fun p xs0 H1 r1 hp0 eP dv0 => by
  have nAp : ¬ A p := fun z => hi p z hp0
  have g1 : L.G 0 H1 := Rl.gR (b := 0) hg r1
  have hi1 : Inn (fun b => A b ∨ b = p) H1 := fun b z y => z.elim (fun z => (hi.r r1) b z y) fun z => by rw [z, eP] at y; cases y
  have sj : (σ.set j (some (V.ref p)))[j]? = some (some (V.ref p)) := List.getElem?_set_self (by rw [he.1]; exact hj)
  have he1 : EnvOk L (fun b => A b ∨ b = p) (σ.set j (some (V.ref p))) H1 (Γ.set j none) := by
    refine ⟨by rw [List.length_set, List.length_set]; exact he.1, fun i d e => ?_⟩
    by_cases hij : j = i
    · subst hij
      rw [List.getElem?_set_self hj] at e
      cases e
    · rw [List.getElem?_set_ne hij] at e
      obtain ⟨v, e1, e2⟩ := he.2 i d e
      refine ⟨v, by rw [List.getElem?_set_ne hij]; exact e1, e2.imp (fun z => z) fun z => z.map fun b o na eb k => ⟨fun w => w.elim na (ne_of_none eb hp0), L.keep r1 eb k⟩⟩
  refine hw (fun b => A b ∨ b = p) _ H1 hi1 he1 g1 _ fun J H2 its r2 hits jk => ?_
  subst hits
  have eP2 : H2 p = some (.lst xs0) := L.keep r2 eP (fun kvs z => by cases z)
  refine ⟨fun i m σ3 H3 => m = its.length - i ∧ i ≤ its.length ∧ L.R 0 H H3 ∧ Kp (fun b => A b ∨ b = p) H2 H3 ∧ σ3[j]? = some (some (V.ref p)) ∧ (∃ xs, H3 p = some (.lst xs) ∧ DvAll L.K (fun b => A b ∨ b = p) H3 xs (acc i)) ∧ ∃ Γi, EnvOk L (fun b => A b ∨ b = p) σ3 H3 Γi ∧ I i Γi, ⟨its.length, ?_⟩, ?_⟩
  · exact ⟨by omega, Nat.zero_le _, L.tr (a := 0) (b := 0) r1 r2, fun b o _ e _ => e, sj, ⟨xs0, eP2, by rw [ha0]; exact dv0.r r2⟩, _, he1.r r2, h0⟩
  · rintro i m σ3 H3 ⟨rfl, hle, r3, k3, s3, ⟨xs, eP3, dv3⟩, Γi, e3, p3⟩
    have g3 : L.G 0 H3 := Rl.gR (b := 0) hg r3
    have hi3 : Inn (fun b => A b ∨ b = p) H3 := fun b z y => z.elim (fun z => (hi.r r3) b z y) fun z => by rw [z, eP3] at y; cases y
    by_cases hlt : i < its.length
    · refine .inr ⟨jk.go i H3 k3 hlt, fun σ4 H4 => i + 1 ≤ its.length ∧ L.R 0 H H4 ∧ Kp (fun b => A b ∨ b = p) H2 H4 ∧ σ4[j]? = some (some (V.ref p)) ∧ (∃ xs, H4 p = some (.lst xs) ∧ DvAll L.K (fun b => A b ∨ b = p) H4 xs (acc (i + 1))) ∧ ∃ Γi, EnvOk L (fun b => A b ∨ b = p) σ4 H4 Γi ∧ I (i + 1) Γi, fun σ4 H4 h4 => ⟨its.length - (i + 1), by omega, rfl, h4⟩, fun x H4 y => ?_⟩
      obtain ⟨d, hd, sm, hdv⟩ := jk.yld i H3 x H4 k3 hi3 y hlt
      obtain ⟨Γ', N1, htg, hB, hes⟩ := hb i d Γi hd p3
      have r34 : L.R 0 H3 H4 := L.same g3 sm
      have dx : Dv L.K (fun b => A b ∨ b = p) H4 x d := hdv _ hi3 fun b o na e _ => na
      refine htg _ x σ3 H4 dx (e3.r r34) _ fun σ5 e5 w5 => ?_
      have s5 : σ5[j]? = some (some (V.ref p)) := by
        have hw5 := w5 js fun k hk => hk
        rw [← wipe_get hjs, hw5, wipe_get hjs]
        exact s3
      have g4 : L.G 0 H4 := Rl.gR (b := 0) g3 r34
      refine hB (V.ref p) _ σ5 H4 (hi3.r r34) e5 g4 s5 { nx := _, rt := _, bk := _, ct := _ } fun σ6 H6 Γ6 r6 e6 s6 p6 => ?_
      obtain ⟨es, he2, hl2, hacc, hI⟩ := hes Γ6 p6
      have r36 : L.R 0 H3 H6 := L.tr (a := 0) (b := 0) r34 r6
      have eP6 : H6 p = some (.lst xs) := L.keep r36 eP3 (fun kvs z => by cases z)
      refine ⟨V.ref p, s6, .inl ⟨rfl, xs, SqL.of eP6⟩, ?_⟩
      refine he2 _ σ6 H6 (hi3.r r36) e6 (Rl.gR (b := 0) g3 r36) _ fun v d7 H7 r7 hv7 ed => ?_
      subst ed
      obtain ⟨b7, zs, rfl, nb7, eb7, dz⟩ := hv7.list
      have r37 : L.R 0 H3 H7 := L.tr (a := 0) (b := 0) r36 r7
      have eP7 : H7 p = some (.lst xs) := L.keep r37 eP3 (fun kvs z => by cases z)
      have dv7 := dv3.r r37
      refine ⟨p, b7, xs, zs, rfl, rfl, eP7, eb7, ?_, ?_⟩
      · rw [dv7.length, dz.length]
        exact Nat.le_trans (Nat.add_le_add (hlen i) hl2) (by decide)
      · refine ⟨hlt, L.fresh (L.tr (a := 0) (b := 0) r3 r37) hp0, fun b o na e k => ?_, s6, ⟨xs ++ zs, upd_same, ?_⟩, Γ6, (e6.r r7).off, hI⟩
        · rw [upd_ne (fun z => na (.inr z))]
          exact L.keep r37 (k3 b o na e k) k
        · rw [hacc]
          exact (dv7.app dz).off
    · have e : i = its.length := by omega
      subst e
      refine .inl ⟨jk.stop H3 k3, ?_⟩
      have e4 : EnvOk L A σ3 H3 Γi := e3.less fun b z => .inl z
      have dA : DvAll L.K A H3 xs (acc its.length) := dv3.map fun b o na e k => ⟨fun z => na (.inl z), e⟩
      have hlj : j < σ3.length := (List.getElem?_eq_some_iff.mp s3).1
      have e5 : EnvOk L A σ3 H3 (Γi.set j (some (.list (acc its.length)))) := by
        have h5 := e4.set (d := .list (acc its.length)) (v := V.ref p) (.inr (.lst nAp eP3 dA)) j
        have hs : σ3.set j (some (V.ref p)) = σ3 := by
          refine List.ext_getElem? fun i => ?_
          by_cases hij : j = i
          · subst hij
            rw [List.getElem?_set_self hlj, s3]
          · rw [List.getElem?_set_ne hij]
        rwa [hs] at h5
      exact hN Γi p3 A σ3 H3 (hi.r r3) e5 g3 D (fun σ6 H6 G6 r6 e6 p6 => q1 σ6 H6 G6 (L.tr (a := 0) (b := 0) r3 r6) e6 p6) fun v d H6 r6 e6 p6 => q2 v d H6 (L.tr (a := 0) (b := 0) r3 r6) e6 p6
end
end V1
set_option Elab.async false
set_option linter.all false
set_option maxRecDepth 100000
set_option maxHeartbeats 4000000
/-! A comprehension with two walks. -/
namespace V1
open PySem PySem.Spec PyProof.Rows L2
theorem EnvOk.kp {L : Rl} {Γ : List (Option PyData)} {A : Addr → Prop} {σ : L2.St} {H H' : Hp} (h : EnvOk L A σ H Γ) (k : Kp A H H') : EnvOk L A σ H' Γ := ⟨h.1, fun i d e => let ⟨v, h1, h2⟩ := h.2 i d e; ⟨v, h1, h2.imp (fun z => z) fun z => z.map fun b o na e kd => ⟨na, k b o na e kd⟩⟩⟩
def rowR (res : Nat → Nat → PyData) (i k : Nat) : List PyData := (List.range k).map (res i)
def flatR (inn : Nat → List PyData) (res : Nat → Nat → PyData) (n : Nat) : List PyData := (List.range n).flatMap fun i => rowR res i (inn i).length
theorem flatR_succ (inn : Nat → List PyData) (res : Nat → Nat → PyData) (n : Nat) : flatR inn res (n + 1) = flatR inn res n ++ rowR res n (inn n).length := by
  unfold flatR
  rw [List.range_succ, List.flatMap_append]
  simp
theorem rowR_succ (res : Nat → Nat → PyData) (i k : Nat) : rowR res i (k + 1) = rowR res i k ++ [res i k] := by
  unfold rowR
  rw [List.range_succ, List.map_append]
  rfl
section
variable {L : Rl} {Γ : List (Option PyData)} {te : TE}
theorem eg_lc2 {wi wi1 : TI} {g g1 : TG} {js js1 vs vs1 : List Nat} {items : List PyData} {inn : Nat → List PyData} {res : Nat → Nat → PyData} (hw : WkD L wi Γ items) (hj : ∀ j ∈ js, j ∈ vs) (hj1 : ∀ j ∈ js1, j ∈ vs1) (hl : items.length ≤ 1000) (hl2 : ∀ i, (inn i).length ≤ 1000)
    (hb : ∀ (i : Nat) d, items[i]? = some d → ∃ Γ', TgG L g js d (wipeD Γ vs) Γ' ∧ WkD L wi1 Γ' (inn i) ∧ ∀ (k : Nat) e, (inn i)[k]? = some e → ∃ Γ'', TgG L g1 js1 e (wipeD Γ' vs1) Γ'' ∧ res i k ≠ mark ∧ EvD L te Γ'' (res i k)) :
    EvD L (tLc2 wi g tYes wi1 g1 tYes te vs vs1) Γ (.list (flatR inn res items.length)) := fun A σ H hi he hg Q q => hw A σ H hi he hg _ fun J H1 its r1 hits jk D hD => by
  subst hits
  have hD0 : H D = none := L.free r1 hD
  have g1' : L.G 0 H1 := Rl.gR (b := 0) hg r1
  have lenF : ∀ n, n ≤ its.length → (flatR inn res n).length ≤ n * 1000 := by
    intro n
    induction n with
    | zero => intro _; exact Nat.le_refl _
    | succ n ih =>
      intro hn
      have h1 := ih (by omega)
      have h2 := hl2 n
      rw [flatR_succ, List.length_append]
      unfold rowR
      rw [List.length_map, List.length_range]
      omega
  refine ⟨fun i m H2 => m = its.length - i ∧ i ≤ its.length ∧ L.R 0 H H2 ∧ Kp A H1 H2 ∧ ∃ acc, H2 D = some (.lst acc) ∧ DvAll L.K (fun b => A b ∨ b = D) H2 acc (flatR inn res i), ⟨its.length, ?_⟩, ?_⟩
  · exact ⟨by omega, Nat.zero_le _, L.fresh r1 hD0, fun b o _ e k => by rw [upd_ne (ne_of_none e hD)]; exact e, [], upd_same, .nil⟩
  · rintro i m H2 ⟨rfl, hle, r2, k2, acc, eD, dv⟩
    have naD : ∀ b, A b → H2 b ≠ none := fun b z => hi.r r2 b z
    by_cases hlt : i < its.length
    · refine .inr ⟨jk.go i H2 k2 hlt, fun H3 => i + 1 ≤ its.length ∧ L.R 0 H H3 ∧ Kp A H1 H3 ∧ ∃ acc, H3 D = some (.lst acc) ∧ DvAll L.K (fun b => A b ∨ b = D) H3 acc (flatR inn res (i + 1)),
        fun H3 h3 => ⟨its.length - (i + 1), by omega, rfl, h3⟩, fun x H3 y => ?_⟩
      obtain ⟨d, hd, sm, hdv⟩ := jk.yld i H2 x H3 k2 naD y hlt
      obtain ⟨Γ', htg, hw1, hin⟩ := hb i d hd
      have innA' : ∀ b, (A b ∨ b = D) → H2 b ≠ none := fun b z => z.elim (naD b) fun e => by rw [e, eD]; simp
      have dx : Dv L.K (fun b => A b ∨ b = D) H3 x d := hdv _ innA' fun b o na e _ z => z.elim na (ne_of_none e hD)
      have ev2 : EnvOk L (fun b => A b ∨ b = D) (wipe σ vs) H3 (wipeD Γ vs) := by
        have h0 : EnvOk L (fun b => A b ∨ b = D) (wipe σ vs) (upd H1 D (.lst [])) (wipeD Γ vs) := ((he.r r1).wipe vs).avoid hD
        refine ⟨h0.1, fun j d' e => ?_⟩
        obtain ⟨v, e1, e2⟩ := h0.2 j d' e
        refine ⟨v, e1, e2.imp (fun z => z) fun z => z.map fun b o na eb kd => ⟨na, sm _ _ (k2 b o (fun w => na (.inl w)) ?_ kd)⟩⟩
        rwa [upd_ne (fun w => na (.inr w))] at eb
      refine htg (fun b => A b ∨ b = D) x (wipe σ vs) H3 dx ev2 _ fun σ2 e3 w3 => ⟨?_, ?_⟩
      · rw [w3 vs hj, wipe_wipe vs fun v hv => hv]
      · show wi1 σ2 H3 _
        have g2 : L.G 0 H2 := Rl.gR (b := 0) hg r2
        have r3 : L.R 0 H2 H3 := L.same g2 sm
        have g3 : L.G 0 H3 := Rl.gR (b := 0) g2 r3
        have inn3 : Inn (fun b => A b ∨ b = D) H3 := fun b z y => innA' b z (L.free r3 y)
        refine hw1 (fun b => A b ∨ b = D) σ2 H3 inn3 e3 g3 _ fun J1 H4 its1 r4 hits1 jk1 => ?_
        subst hits1
        have r24 : L.R 0 H2 H4 := L.tr (a := 0) (b := 0) r3 r4
        have eD4 : H4 D = some (.lst acc) := L.keep r24 eD (fun kvs z => by cases z)
        have e4 : EnvOk L (fun b => A b ∨ b = D) σ2 H4 Γ' := e3.r r4
        refine ⟨fun j k H5 => k = (inn i).length - j ∧ j ≤ (inn i).length ∧ L.R 0 H H5 ∧ Kp A H1 H5 ∧ Kp (fun b => A b ∨ b = D) H4 H5 ∧ ∃ acc, H5 D = some (.lst acc) ∧ DvAll L.K (fun b => A b ∨ b = D) H5 acc (flatR inn res i ++ rowR res i j), ⟨(inn i).length, ?_⟩, ?_⟩
        · exact ⟨by omega, Nat.zero_le _, L.tr (a := 0) (b := 0) r2 r24, fun b o na e k => L.keep r24 (k2 b o na e k) k, fun b o _ e _ => e, acc, eD4, by
            have e : rowR res i 0 = [] := rfl
            rw [e, List.append_nil]
            exact dv.r r24⟩
        · rintro j k H5 ⟨rfl, hle5, r5, k5, k45, acc5, eD5, dv5⟩
          have inn5 : ∀ b, (A b ∨ b = D) → H5 b ≠ none := fun b z => z.elim (fun z => hi.r r5 b z) fun e => by rw [e, eD5]; simp
          have g5 : L.G 0 H5 := Rl.gR (b := 0) hg r5
          by_cases hlt5 : j < (inn i).length
          · refine .inr ⟨jk1.go j H5 k45 hlt5, fun H6 => j + 1 ≤ (inn i).length ∧ L.R 0 H H6 ∧ Kp A H1 H6 ∧ Kp (fun b => A b ∨ b = D) H4 H6 ∧ ∃ acc, H6 D = some (.lst acc) ∧ DvAll L.K (fun b => A b ∨ b = D) H6 acc (flatR inn res i ++ rowR res i (j + 1)),
              fun H6 h6 => ⟨(inn i).length - (j + 1), by omega, rfl, h6⟩, fun x1 H6 y1 => ?_⟩
            obtain ⟨d1, hd1, sm1, hdv1⟩ := jk1.yld j H5 x1 H6 k45 inn5 y1 hlt5
            obtain ⟨Γ'', htg1, hmk, hev⟩ := hin j d1 hd1
            have dx1 : Dv L.K (fun b => A b ∨ b = D) H6 x1 d1 := hdv1 _ inn5 fun b o na e _ => na
            have r6 : L.R 0 H5 H6 := L.same g5 sm1
            have e6 : EnvOk L (fun b => A b ∨ b = D) (wipe σ2 vs1) H6 (wipeD Γ' vs1) := ((e4.kp k45).r r6).wipe vs1
            have inn6 : Inn (fun b => A b ∨ b = D) H6 := fun b z y => inn5 b z (L.free r6 y)
            refine htg1 (fun b => A b ∨ b = D) x1 (wipe σ2 vs1) H6 dx1 e6 _ fun σ3 e7 w7 => ⟨?_, ?_⟩
            · rw [w7 vs1 hj1, wipe_wipe vs1 fun v hv => hv]
            · show te σ3 H6 _
              refine hev (fun b => A b ∨ b = D) σ3 H6 inn6 e7 (Rl.gR (b := 0) g5 r6) _ fun yv dy H7 r7 hy ed => ?_
              subst ed
              have r57 : L.R 0 H5 H7 := L.tr (a := 0) (b := 0) r6 r7
              have eD7 : H7 D = some (.lst acc5) := L.keep r57 eD5 (fun kvs z => by cases z)
              have hlen5 : acc5.length ≤ 2000000 := by
                rw [dv5.length, List.length_append]
                have h1 := lenF i hle
                have h2 := hl2 i
                unfold rowR
                rw [List.length_map, List.length_range]
                have h3 : i * 1000 ≤ 1000 * 1000 := Nat.mul_le_mul_right _ (by omega)
                omega
              refine ⟨acc5, eD7, Nat.lt_of_le_of_lt hlen5 (by decide), hlt5, L.fresh (L.tr (a := 0) (b := 0) r5 r57) hD0, ?_, ?_, acc5 ++ [yv], upd_same, ?_⟩
              · intro b o na e k
                rw [upd_ne (ne_of_none e hD)]
                exact L.keep r57 (k5 b o na e k) k
              · intro b o na e k
                rw [upd_ne (fun z => na (.inr z))]
                exact L.keep r57 (k45 b o na e k) k
              · rw [rowR_succ, ← List.append_assoc]
                exact ((dv5.r r57).app (.cons (hy.ne hmk) .nil)).off
          · have e : j = (inn i).length := by omega
            subst e
            refine .inl ⟨jk1.stop H5 k45, ?_⟩
            show i + 1 ≤ its.length ∧ _
            exact ⟨hlt, r5, k5, acc5, eD5, by rw [flatR_succ]; exact dv5⟩
    · have e : i = its.length := by omega
      subst e
      refine .inl ⟨jk.stop H2 k2, ?_⟩
      have nD : ¬ A D := hi.no hD0
      exact q (.ref D) _ H2 r2 (.inr (.lst nD eD (dv.map fun b o na e _ => ⟨fun z => na (.inl z), e⟩))) rfl
end
end V1
set_option Elab.async false
set_option linter.all false
set_option maxRecDepth 100000
set_option maxHeartbeats 4000000
/-! A walk over range(a, b). -/
namespace V1
open PySem PySem.Spec PyProof.Rows L2
section
variable {L : Rl} {Γ : List (Option PyData)} {t : TA}
theorem wk_rng2 {i0 j0 : Int} (h : EaD L t Γ [.int i0, .int j0]) (hb : -(2 ^ 62) ≤ i0 ∧ i0 < 2 ^ 62 ∧ -(2 ^ 62) ≤ j0 ∧ j0 < 2 ^ 62) : WkD L (iRng2 t) Γ (rngD i0 (j0 - i0).toNat) := fun A σ H hi he hg R q => h A σ H hi he hg _ fun vs ds' H1 r1 hl hv p => by
  have p' : ds' = [.int i0, .int j0] := p
  subst p'
  obtain ⟨v, w, rfl, hx, hy⟩ := two_of hl hv
  obtain rfl := hx.int
  obtain rfl := hy.int
  refine ⟨i0, j0, rfl, hb, q _ H1 _ r1 rfl ⟨fun i H' k hi => ?_, fun i H' x H'' k hA y hi => ?_, fun H' k => ?_⟩⟩
  · have hi' : i < (j0 - i0).toNat := by simpa [rngD] using hi
    exact hi'
  · obtain ⟨rfl, rfl⟩ := y
    have hi' : i < (j0 - i0).toNat := by simpa [rngD] using hi
    refine ⟨.int (i0 + (i : Int)), ?_, Same.refl _, fun A' _ _ => .int _⟩
    unfold rngD
    rw [List.getElem?_map, List.getElem?_range hi']
    rfl
  · show (j0 - i0).toNat ≤ (rngD i0 (j0 - i0).toNat).length
    simp [rngD]
end
end V1
namespace V1
open PySem
def top (i : Nat) : Stmt := PySem.Challenge.pw_everyfont_k42_whole_plain_forms.main.body.getD i (.Pass ⟨0, 0, 0, 0⟩)
end V1
set_option Elab.async false
set_option linter.all false
set_option maxRecDepth 100000
set_option maxHeartbeats 4000000
namespace V1
open PySem PySem.Spec PyProof.Rows L2
variable {P : Program} {w : World} {K : PySem.W.Frag} {mg : Str → Option Value} {base : Heap}
theorem v_left (l sd : Int) (c : Addr) (s : Int) : valV (dct l sd c s) (.inr "left") = some (.int l) := rfl
theorem v_seed (l sd : Int) (c : Addr) (s : Int) : valV (dct l sd c s) (.inr "seed") = some (.int sd) := rfl
theorem v_cells (l sd : Int) (c : Addr) (s : Int) : valV (dct l sd c s) (.inr "cells") = some (.ref c) := rfl
theorem v_spot (l sd : Int) (c : Addr) (s : Int) : valV (dct l sd c s) (.inr "spot") = some (.int s) := rfl
theorem p_left (l sd : Int) (c : Addr) (s x : Int) : putK (dct l sd c s) (.inr "left") (.int x) = dct x sd c s := rfl
theorem p_spot (l sd : Int) (c : Addr) (s x : Int) : putK (dct l sd c s) (.inr "spot") (.int x) = dct l sd c x := rfl
theorem h_get {σ : L2.St} {H : Hp} {p : Addr} {kvs : List (Key × V)} {x : Str} {v : V} {Q : VK} (h0 : σ[0]? = some (some (V.ref p))) (e : H p = some (.dK kvs)) (hv : valV kvs (.inr x) = some v) (q : Q v H) : tDGet (tVar 0) (tC (.str x)) σ H Q :=
  ⟨V.ref p, h0, p, v, rfl, by rw [← hv]; exact DGet.k (k := .inr x) e, q⟩
theorem h_put {σ : L2.St} {H H1 : Hp} {p : Addr} {kvs : List (Key × V)} {x : Str} {v : V} {te : TE} {D : Ends} (h0 : σ[0]? = some (some (V.ref p))) (e : H p = some (.dK kvs)) (hl : kvs.length < sizeLine) (ht : ∀ Q : VK, Q v H → te σ H Q) (q : D.nx σ (upd H p (.dK (putK kvs (.inr x) v)))) : sDPut (tVar 0) (tC (.str x)) te D σ H :=
  ht _ ⟨V.ref p, h0, p, _, rfl, DPut.k (k := .inr x) e hl, q⟩
theorem dct_len (l sd : Int) (c : Addr) (s : Int) : (dct l sd c s).length < sizeLine := by
  show 4 < sizeLine
  exact Nat.lt_of_lt_of_le (by decide) (show 100000 ≤ sizeLine by decide)
theorem cmul_l {i j : Int} (h1 : 0 ≤ i) (h2 : i < 2 ^ 64) : CMul i j := .inl ⟨by omega, h2⟩
theorem cmul_r {i j : Int} (h1 : 0 ≤ j) (h2 : j < 2 ^ 64) : CMul i j := .inr ⟨by omega, h2⟩

abbrev s_law_draw : Stmt := top 16
abbrev n_law_draw : List Str := ["m", "bound", "found", "spot", "cells", "extra", "cell", "blend"]
theorem sc_law_draw : FnScope n_law_draw ["m", "bound"] (defScope s_law_draw) := ⟨rfl, rfl, rfl, by decide +kernel, rfl, by decide +kernel, by decide +kernel⟩
def sp_law_draw (K : PySem.W.Frag) : Sp := spM K 1 (fun b : Nat => [mark, .int (b : Int)]) (fun b => 0 < b ∧ b < 2 ^ 30) fun b d => ∃ r : Nat, r < b ∧ d = .int (r : Int)
theorem ok_law_draw {f : Addr} {fd : FuncData} (T : Bt K mg) (D : Df K mg "_law_draw" s_law_draw ["m", "bound"] f fd) : Cal P w K mg base "_law_draw" s_law_draw ["m", "bound"] 1 (sp_law_draw K) f fd := by
  refine ok_A D sc_law_draw (fun _ => rfl) fun cdv A outer s H E hgd hr => ⟨_, (pss_cons (ps_if (pt_cmpR op_gt (pe_dget (hu_of hr) (pv 0) pe_str (fun _ _ => rfl)) pe_int (nomark _)) (pss_cons (ps_set (i := 2) sc_law_draw.nd rfl (Or.inl rfl) (pe_op op_modN (pe_callTy call_int1 (by rfl) T.int (by decide +kernel) (pa_cons (pe_dget (hu_of hr) (pv 0) pe_str (fun _ _ => rfl)) pa_nil)) (pv 1)))
        (pss_cons (ps_dput (hu_of hr) (pv 0) pe_str (pe_op op_fdivW (pe_dget (hu_of hr) (pv 0) pe_str (fun _ _ => rfl)) (pv 1)) rfl)
        (pss_one (ps_ret (pv 2))))) pss_nil)
        (pss_cons (ps_set (i := 3) sc_law_draw.nd rfl (Or.inl rfl) (pe_dget (hu_of hr) (pv 0) pe_str (fun _ _ => rfl)))
        (pss_cons (ps_dput (hu_of hr) (pv 0) pe_str (pe_op op_add (pv 3) pe_int) rfl)
        (pss_cons (ps_par (i := 4) (j := 5) rfl sc_law_draw.nd rfl rfl (by decide) rfl rfl (pa_cons (pe_dget (hu_of hr) (pv 0) pe_str (fun _ _ => rfl)) (pa_cons (pe_op op_add (pe_dget (hu_of hr) (pv 0) pe_str (fun _ _ => rfl)) (pe_op op_mul (pe_op op_mul pe_int (pv 3)) (pv 3))) pa_nil)) (by rfl))
        (pss_cons (ps_set (i := 6) sc_law_draw.nd rfl (Or.inl rfl) (pe_ix (ix_listK (K := K) rfl) (pv 4) (pe_op op_modN (pe_callTy call_int1 (by rfl) T.int (by decide +kernel) (pa_cons (pv 3) pa_nil)) (pe_callB call_len_seq (by rfl) T.len PySem.boot_len (pa_cons (pv 4) pa_nil))) (fun _ _ => rfl)))
        (pss_cons (ps_set (i := 7) sc_law_draw.nd rfl (Or.inl rfl) (pe_op op_modN (pe_callTy call_int1 (by rfl) T.int (by decide +kernel) (pa_cons (pe_op op_add (pe_op op_mul (pv 6) (pe_op op_add (pe_op op_mul pe_int (pv 3)) pe_int)) (pv 5)) pa_nil)) pe_int))
        (pss_cons (ps_set (i := 7) sc_law_draw.nd rfl (Or.inl rfl) (pe_op op_modN (pe_callTy call_int1 (by rfl) T.int (by decide +kernel) (pa_cons (pe_op op_add (pe_op op_add (pe_op op_mul (pv 7) (pv 7)) (pe_op op_mul pe_int (pv 3))) (pe_dget (hu_of hr) (pv 0) pe_str (fun _ _ => rfl))) pa_nil)) pe_int))
        (pss_one (ps_ret (pe_op op_modN (pe_op op_fdivW (pe_op op_modN (pe_callTy call_int1 (by rfl) T.int (by decide +kernel) (pa_cons (pe_op op_add (pe_op op_mul (pv 7) pe_int) (pv 3)) pa_nil)) pe_int) pe_int) (pv 1))))))))))), ?_⟩
  rintro L hK ⟨K', p, c, ns, hne, rfl⟩ b ⟨hb0, hb1⟩ A σ H hi he hg DD q1 q2
  have hK2 : K' = K := hK
  subst hK2
  obtain ⟨v0, hv0, d0⟩ := he.2 0 mark rfl
  obtain ⟨v1, hv1, d1⟩ := he.2 1 (.int (b : Int)) rfl
  obtain rfl := d1.int
  have hp0 : v0 = .ref p := by
    rcases d0 with ⟨_, h⟩ | h
    · exact h
    · cases h
  subst hp0
  have hl : σ.length = 8 := he.1
  obtain ⟨a0, a1, a2, a3, a4, a5, a6, a7, rfl⟩ : ∃ a0 a1 a2 a3 a4 a5 a6 a7, σ = [a0, a1, a2, a3, a4, a5, a6, a7] := by
    match σ, hl with
    | [a0, a1, a2, a3, a4, a5, a6, a7], _ => exact ⟨a0, a1, a2, a3, a4, a5, a6, a7, rfl⟩
  have e0 : a0 = some (.ref p) := Option.some.inj hv0
  have e1 : a1 = some (.int (b : Int)) := Option.some.inj hv1
  subst e0 e1
  clear hi he d0 d1 hv0 hv1 hl q1
  obtain ⟨l, sd, s, hP, hC, hs0, hs1⟩ := hg
  have hb : (b : Int) ≠ 0 := by omega
  have hbp : (0 : Int) < (b : Int) := by omega
  have mod_b : ∀ x : Int, ∃ r : Nat, r < b ∧ x.fmod (b : Int) = (r : Int) := fun x => by
    rw [Int.fmod_eq_emod_of_nonneg _ (by omega)]
    have h1 := Int.emod_nonneg x hb
    have h2 := Int.emod_lt_of_pos x hbp
    exact ⟨(x % (b : Int)).toNat, by omega, by omega⟩
  have hcd : ∀ x : Int, CDivW x (b : Int) := fun x => wide_div (b := 30) hbp (nb hb1) (by decide) (by decide)
  refine h_get rfl hP (v_left l sd c s) ⟨l, 0, rfl, rfl, _, rfl, ?_⟩
  by_cases hl0 : (0 : Int) < l
  · rw [decide_eq_true hl0]
    obtain ⟨r, hr1, hr2⟩ := mod_b l
    refine h_get rfl hP (v_left l sd c s) (.inl ⟨l, rfl, ⟨.int (b : Int), rfl, l, b, rfl, rfl, hb, ?_⟩⟩)
    refine h_get rfl hP (v_left l sd c s) ⟨.int (b : Int), rfl, l, b, rfl, rfl, hcd l, .ref p, rfl, p, _, rfl, DPut.k (k := .inr "left") hP (dct_len l sd c s), ?_⟩
    refine ⟨.int (l.fmod b), rfl, q2 _ (.int (r : Int)) _ ?_ (by rw [hr2]; exact .inr (.int _)) ⟨r, hr1, rfl⟩⟩
    refine ⟨fun q o e z => ?_, fun l2 sd2 s2 e => ?_, fun _ y => ?_⟩
    · by_cases hq : q = p
      · subst hq
        rw [hP] at e
        have e2 := Option.some.inj e
        subst e2
        rcases z with z | z
        · exact absurd rfl z
        · exact absurd rfl (z _)
      · rw [upd_ne hq]
        exact e
    · rw [hP] at e
      have e2 : dct l sd c s = dct l2 sd2 c s2 := HO.dK.inj (Option.some.inj e)
      unfold dct at e2
      simp at e2
      obtain ⟨rfl, rfl, rfl⟩ := e2
      exact ⟨l / b, s, by rw [upd_same, p_left], by omega, by omega⟩
    · rw [upd_same] at y
      cases y
  · rw [decide_eq_false hl0]
    have hs2 : s < 2 ^ 50 := by omega
    have hn0 : 0 < ns.length := List.length_pos_iff.mpr hne
    refine h_get rfl hP (v_spot l sd c s) ?_
    refine ⟨.int s, rfl, s, 1, rfl, rfl, .ref p, rfl, p, _, rfl, DPut.k (k := .inr "spot") hP (dct_len l sd c s), ?_⟩
    rw [p_spot]
    have hne2 : c ≠ p := fun z => by
      rw [z, hP] at hC
      cases hC
    generalize hH1 : upd H p (.dK (dct l sd c (s + 1))) = H1
    have hP1 : H1 p = some (.dK (dct l sd c (s + 1))) := by rw [← hH1]; exact upd_same
    have hC1 : H1 c = some (.lst (ns.map V.int)) := by rw [← hH1, upd_ne hne2]; exact hC
    have c1 : CMul 40503 s := cmul_l (by decide) (by decide)
    refine h_get rfl hP1 (v_cells l sd c _) (h_get rfl hP1 (v_seed l sd c _) ⟨.int s, rfl, 40503, s, rfl, rfl, c1, ⟨.int s, rfl, _, s, rfl, rfl, cmul_r hs0 (by omega), sd, _, rfl, rfl, _, _, rfl, ?_⟩⟩)
    refine ⟨.ref c, rfl, .int s, rfl, .inl ⟨s, rfl, .ref c, rfl, c, ns.map V.int, rfl, .inl (SqL.of hC1), s, _, rfl, rfl, by rw [List.length_map]; omega, ?_⟩⟩
    have hmod : ∀ (x y : Int), 0 < y → 0 ≤ x.fmod y ∧ x.fmod y < y := fun x y hy => by
      rw [Int.fmod_eq_emod_of_nonneg _ (by omega)]
      exact ⟨Int.emod_nonneg x (by omega), Int.emod_lt_of_pos x hy⟩
    obtain ⟨m1, m2⟩ := hmod s ((ns.map V.int).length : Nat) (by rw [List.length_map]; omega)
    generalize hk : s.fmod ((ns.map V.int).length : Nat) = k at m1 m2
    obtain ⟨cell, hcell⟩ : ∃ cell : Int, atI (ns.map V.int) k = some (.int cell) := by
      unfold atI ixN
      rw [if_pos m1, if_pos m2]
      have hkn : k.toNat < ns.length := by rw [List.length_map] at m2; omega
      refine ⟨ns[k.toNat], ?_⟩
      show (ns.map V.int)[k.toNat]? = _
      rw [List.getElem?_map, List.getElem?_eq_getElem hkn]
      rfl
    refine ⟨c, ns.map V.int, k, .int cell, rfl, congrArg V.int hk, SqL.of hC1, hcell, ?_⟩
    refine ⟨.int cell, rfl, .int s, rfl, 2, s, rfl, rfl, cmul_l (by decide) (by decide), 2 * s, 3, rfl, rfl, cell, 2 * s + 3, rfl, rfl, cmul_r (by omega) (by omega), V.int (sd + 40503 * s * s), rfl, cell * (2 * s + 3), sd + 40503 * s * s, rfl, rfl, .inl ⟨_, rfl, cell * (2 * s + 3) + (sd + 40503 * s * s), 2147483647, rfl, rfl, (show (2147483647 : Int) ≠ 0 by decide), ?_⟩⟩
    obtain ⟨b1, b2⟩ := hmod (cell * (2 * s + 3) + (sd + 40503 * s * s)) 2147483647 (by decide)
    generalize hbl : (cell * (2 * s + 3) + (sd + 40503 * s * s)).fmod 2147483647 = bl at b1 b2
    refine ⟨.int bl, congrArg (fun z => some (some (V.int z))) hbl, .int bl, congrArg (fun z => some (some (V.int z))) hbl, bl, bl, rfl, rfl, cmul_l b1 (by omega), .int s, rfl, 69621, s, rfl, rfl, cmul_l (by decide) (by decide), bl * bl, 69621 * s, rfl, rfl, ?_⟩
    refine h_get rfl hP1 (v_seed l sd c _) ⟨_, _, rfl, rfl, .inl ⟨_, rfl, bl * bl + 69621 * s + sd, 2147483629, rfl, rfl, (show (2147483629 : Int) ≠ 0 by decide), ?_⟩⟩
    obtain ⟨d1, d2⟩ := hmod (bl * bl + 69621 * s + sd) 2147483629 (by decide)
    generalize hbl2 : (bl * bl + 69621 * s + sd).fmod 2147483629 = bl2 at d1 d2
    have hcd11 : ∀ x : Int, CDivW x 11 := fun x => wide_div (b := 30) (by decide) (by decide) (by decide) (by decide)
    refine ⟨.int bl2, congrArg (fun z => some (some (V.int z))) hbl2, bl2, 48271, rfl, rfl, cmul_r (by decide) (by decide), .int s, rfl, bl2 * 48271, s, rfl, rfl, .inl ⟨_, rfl, bl2 * 48271 + s, 2147483647, rfl, rfl, (show (2147483647 : Int) ≠ 0 by decide), (bl2 * 48271 + s).fmod 2147483647, 11, rfl, rfl, hcd11 _, .int (b : Int), rfl, (bl2 * 48271 + s).fmod 2147483647 / 11, b, rfl, rfl, hb, ?_⟩⟩
    obtain ⟨r, hr1, hr2⟩ := mod_b ((bl2 * 48271 + s).fmod 2147483647 / 11)
    refine q2 _ (.int (r : Int)) _ ?_ (by show Dq _ A H1 (V.int (((bl2 * 48271 + s).fmod 2147483647 / 11).fmod (b : Int))) _; rw [hr2]; exact .inr (.int _)) ⟨r, hr1, rfl⟩
    refine ⟨fun q o e z => ?_, fun l2 sd2 s2 e => ?_, fun _ y => ?_⟩
    · by_cases hq : q = p
      · subst hq
        rw [hP] at e
        have e2 := Option.some.inj e
        subst e2
        rcases z with z | z
        · exact absurd rfl z
        · exact absurd rfl (z _)
      · rw [← hH1, upd_ne hq]
        exact e
    · rw [hP] at e
      have e2 : dct l sd c s = dct l2 sd2 c s2 := HO.dK.inj (Option.some.inj e)
      unfold dct at e2
      simp at e2
      obtain ⟨rfl, rfl, rfl⟩ := e2
      exact ⟨l, s + 1, hP1, by omega, by omega⟩
    · rw [hP1] at y
      cases y

abbrev s_law_begun : Stmt := top 15
abbrev n_law_begun : List Str := ["script", "k", "cells", "great", "seed", "cell"]
theorem sc_law_begun : FnScope n_law_begun ["script", "k"] (defScope s_law_begun) := ⟨rfl, rfl, rfl, by decide +kernel, rfl, by decide +kernel, by decide +kernel⟩
def sp_law_begun (K : PySem.W.Frag) : Sp := fun vs H Q _ => ∃ (a : Addr) (sc : List Int) (k : Nat), vs = [.ref a, .int (k : Int)] ∧ SqL K H a (sc.map V.int) ∧ k ≤ 4 ∧ sc.length ≤ 63 ∧
  ∀ p c l sd ns H', Same H H' → H p = none → ns ≠ [] → H' p = some (.dK (dct l sd c 0)) → H' c = some (.lst (ns.map V.int)) → Q (.ref p) H'
theorem len_law_begun : ∀ vs H Q E, sp_law_begun K vs H Q E → vs.length = (["script", "k"] : List Str).length := fun vs H Q E ⟨a, sc, k, e, _⟩ => by rw [e]; rfl
theorem ok_law_begun {f : Addr} {fd : FuncData} (T : Bt K mg) (D : Df K mg "_law_begun" s_law_begun ["script", "k"] f fd) : Cal P w K mg base "_law_begun" s_law_begun ["script", "k"] 1 (sp_law_begun K) f fd := by
  refine ⟨D.gm, D.F, D.b, okG D.F sc_law_begun len_law_begun (fun cdv A outer s H vs Q E hgd hr h => ⟨_, (pss_cons (ps_set (i := 2) sc_law_begun.nd rfl (Or.inl rfl) (pe_op op_cat (pe_slice sl_list (pv 0) (po_some (pv 1)) po_none) (pe_slice sl_list (pv 0) po_none (po_some (pv 1)))))
        (pss_cons (ps_setLc (i := 3) (own := [("cell", 5)]) (g := gName 5) rfl sc_law_begun.nd rfl rfl (sw_true rfl rfl rfl (by decide +kernel)) (pi_list (pv 2)) (blkOk_by (own := [("cell", 5)]) (N := n_law_begun) (sc := defScope s_law_begun) (by decide +kernel)) (fun _ _ _ _ _ => (pg_name (i := 5) sc_law_begun.nd rfl (Or.inl rfl))) (fun _ _ _ _ _ => (pts_one (pt_cmpR op_ge (pv 5) (pe_op op_pow pe_int pe_int) (nomark _)))) (fun _ _ _ _ _ => (pv 5)))
        (pss_cons (ps_set (i := 4) sc_law_begun.nd rfl (Or.inl rfl) (pe_op op_add pe_int (pv 1)))
        (pss_cons (ps_for PassesOwn.never rfl (pi_list (pv 2)) (pg_name (i := 5) sc_law_begun.nd rfl (Or.inl rfl))
        (pss_one (ps_set (i := 4) sc_law_begun.nd rfl (Or.inl rfl) (pe_op op_modN (pe_callTy call_int1 (by rfl) T.int (by decide +kernel) (pa_cons (pe_op op_add (pe_op op_mul (pv 4) pe_int) (pv 5)) pa_nil)) pe_int))))
        (pss_one (ps_ret (pe_disp (pps_cons pe_str (pe_ifExp (pt_cmpR (op_neD hr.units) (pv 3) (pe_lst pa_nil) (nomark _)) (pe_ix (ix_listK (K := K) rfl) (pv 3) pe_int (fun _ _ => rfl)) pe_int) (pps_cons pe_str (pv 4) (pps_cons pe_str (pe_op op_cat (pv 2) (pe_lst (pa_cons (pe_op op_add (pe_op op_mul pe_int (pv 1)) pe_int) pa_nil))) (pps_cons pe_str pe_int pps_nil)))) (by rfl) (by rfl) (fun z => by cases z) (by decide)))))))), ?_⟩)⟩
  obtain ⟨a, sc, k, rfl, hsc, hk, hl, q⟩ := h
  have he : EnvOk (scL K a sc) (fun _ => False) (L2.start n_law_begun [V.ref a, .int (k : Int)]) H [some mark, some (.int (k : Int)), none, none, none, none] := ⟨rfl, fun i d e => by
    match i, e with
    | 0, e =>
      have e1 : mark = d := Option.some.inj (Option.some.inj e)
      subst e1
      exact ⟨_, rfl, .inl ⟨rfl, rfl⟩⟩
    | 1, e =>
      have e1 : PyData.int (k : Int) = d := Option.some.inj (Option.some.inj e)
      subst e1
      exact ⟨_, rfl, .inr (.int _)⟩
    | 2, e => cases e
    | 3, e => cases e
    | 4, e => cases e
    | 5, e => cases e
    | i + 6, e => cases e⟩
  have hi : Inn (fun _ => False) H := fun b z => z.elim
  refine (?run : SX (scL K a sc) (fun _ => False) H _ _ [some mark, some (.int (k : Int)), none, none, none, none]) _ H hi he hsc (Same.refl H)
  case run =>
    refine sx_asgG (eg_catG (P1 := fun zs => zs.length ≤ sc.length) (P2 := fun zs => zs.length ≤ sc.length) (eg_slS (i := 0) rfl (eo_some (eg_var (i := 1) rfl)) eo_none) (eg_slS (i := 0) rfl eo_none (eo_some (eg_var (i := 1) rfl))) (fun xs ys h1 h2 => by omega)) ?_
    rintro d ⟨xs, ys, hx, hy, rfl⟩
    generalize hc : xs ++ ys = cs
    have hcl : cs.length ≤ 126 := by rw [← hc, List.length_append]; omega
    clear hc hx hy
    refine sx_asgG (eg_lcT (js := [5]) (vs := [5]) (items := cs.map .int) (Pt := fun r => ∃ z : Int, r = .int z) (wk_list (eg_var (i := 2) rfl)) (by simp) (by rw [List.length_map]; omega) (fun i d hd => ?_)) ?_
    · obtain ⟨n, _, _, rfl⟩ := map_at hd
      exact ⟨_, tg_name, ⟨_, et_test (eg_ge (eg_var rfl) (eg_pow eg_int eg_int (by unfold CPow; decide)))⟩, EvG.mono (eg_var rfl) (Nat.le_refl _) fun r e => by rw [e]; exact ⟨(fun z => by cases z), n, rfl⟩⟩
    rintro d ⟨rs, rfl, hrl, hrs⟩
    obtain ⟨gs, rfl, hgl, _⟩ := enc_of (enc := PyData.int) (P := fun _ : Int => True) (rs := rs) fun i d e => let ⟨z, hz⟩ := hrs i d e; ⟨z, trivial, hz⟩
    refine sx_asgG (EvG.mono (eg_add (eg_int (i := 91)) (eg_var (i := 1) rfl)) (Nat.le_refl _) fun d e => e) ?_
    rintro d rfl
    refine sx_sg (N := fun G => ∃ s x, G = [some mark, some (.int (k : Int)), some (lI cs), some (.list (gs.map .int)), some (.int s), x]) (sg_for (js := [5]) (fun i G => ∃ s x, G = [some mark, some (.int (k : Int)), some (lI cs), some (.list (gs.map .int)), some (.int s), x]) (wk_list (eg_var (i := 2) rfl)) ⟨_, none, rfl⟩ (fun i d G hd ⟨s, x, eG⟩ => by
      subst eG
      obtain ⟨n, hn, _, rfl⟩ := map_at hd
      exact ⟨_, tg_name (j := 5), sg_asg (i := 4) (eg_mod (eg_cb (ea_cons (eg_add (eg_mulN (C := CMul) (eg_var (i := 4) rfl) (eg_int (i := 48271)) (cmul_r (by decide) (by decide))) (eg_var (i := 5) rfl)) ea_nil) cs_int) (eg_int (i := 2147483647)) (by decide)) ⟨_, _, rfl⟩⟩) fun G hG => hG) ?_
    rintro G ⟨sd, x, rfl⟩ σ3 H3 hi3 he3 hg3 r3
    have r13 : Same H H3 := r3
    -- the dict
    intro p hp
    have rp : Same H3 (upd H3 p (.dK [])) := fun b o z => by rw [upd_ne (ne_of_none z hp)]; exact z
    have he4 : EnvOk (scL K a sc) (fun _ => False) σ3 (upd H3 p (.dK [])) _ := he3.r (L := scL K a sc) (n := 0) rp
    have hP4 : (upd H3 p (.dK [])) p = some (.dK []) := upd_same
    have hg4 : (scL K a sc).G 0 (upd H3 p (.dK [])) := SqL.same hg3 rp
    generalize upd H3 p (.dK []) = H4 at rp he4 hP4 hg4
    have left : EvG (scL K a sc) 0 (tIf (tTest (tOp (rNeD K) (tVar 3) (tLst tNil))) (tOp (rIxL K) (tVar 3) (tC (.int 0))) (tC (.int 0))) [some mark, some (.int (k : Int)), some (lI cs), some (.list (gs.map .int)), some (.int sd), x] (fun d => ∃ l : Int, d = .int l) := by
      cases gs with
      | nil => exact EvG.mono (eg_if (d := .int 0) (et_test (eg_neNil (zs := []) (eg_var (i := 3) rfl))) (fun z => by cases z) fun _ => eg_int) (Nat.le_refl _) fun d e => ⟨0, e⟩
      | cons g gs => exact EvG.mono (eg_if (d := .int g) (et_test (eg_neNil (zs := g :: gs) (eg_var (i := 3) rfl))) (fun _ => eg_ixL (eg_var (i := 3) rfl) eg_int (atI_zero _ _)) fun z => by cases z) (Nat.le_refl _) fun d e => ⟨g, e⟩
    show tIf _ _ _ σ3 H4 _
    refine left _ σ3 H4 (fun b z => z.elim) he4 hg4 _ fun v1 d H5 r5 hv1 ⟨l, e⟩ => ?_
    subst e
    obtain rfl := hv1.int
    have he5 := he4.r r5
    obtain ⟨v2, hs2, hv2⟩ := he5.2 4 (.int sd) rfl
    obtain rfl := hv2.int
    refine ⟨_, hs2, ?_⟩
    show tOp rCat _ _ σ3 H5 _
    refine eg_cat (L := scL K a sc) (ds := cs.map .int) (es := [.int (61 * (k : Int) + 17)]) (eg_var (i := 2) rfl) (eg_lst (ea_cons (eg_add (eg_mulN (C := CMul) (eg_int (i := 61)) (eg_var (i := 1) rfl) (cmul_l (by decide) (by decide))) (eg_int (i := 17))) ea_nil)) (by rw [List.length_map]; show _ + 1 ≤ _; omega) _ σ3 H5 (fun b z => z.elim) he5 (SqL.same hg4 r5) _ fun v3 d H7 r7 hv3 e => ?_
    subst e
    obtain ⟨c, xs7, rfl, _, e7, r7'⟩ := hv3.list
    have e8 : (cs.map PyData.int ++ [.int (61 * (k : Int) + 17)]) = (cs ++ [61 * (k : Int) + 17]).map .int := by rw [List.map_append]; rfl
    rw [e8] at r7'
    rw [r7'.ints] at e7
    have r47 : Same H4 H7 := Same.trans r5 r7
    have hP7 := r47 _ _ hP4
    refine ⟨hP7, [(.inr "left", .int l), (.inr "seed", .int sd), (.inr "cells", .ref c), (.inr "spot", .int 0)], rfl, (show 4 ≤ 15 by decide), ?_⟩
    have hcp : c ≠ p := fun z => by
      rw [z, hP7] at e7
      cases e7
    have r37 : Same H3 H7 := rp.trans r47
    refine q p c l sd (cs ++ [61 * (k : Int) + 17]) _ (fun b o z => ?_) (Same.free r13 hp) (by simp) upd_same (by rw [upd_ne hcp]; exact e7)
    rw [upd_ne (ne_of_none (r13 _ _ z) hp)]
    exact r37 _ _ (r13 _ _ z)

def rReprA (K : PySem.W.Frag) : List V → Hp → VK → Prop := fun vs H Q => ∃ (v : V) (d : PyData), vs = [v] ∧ Dp K H v d ∧ d.showable = true ∧ d.hasDict = false ∧ d.depth ≤ 60 ∧ d.shown.length ≤ sizeLine ∧ Q (.str d.shown) H
theorem call_reprA {X : Cx} (hgd : X.A.guards = some []) (hu : X.A.units + 64 < cLine) : CallR X (.builtin "repr") (rReprA X.K) := by
  intro pins s σ H vs us Q I r h
  obtain ⟨v, d, rfl, hd, h1, h2, h3, h4, q⟩ := h
  cases r with
  | cons r rr =>
    cases rr
    cases hd with
    | non =>
      obtain rfl := r
      exact PySem.P.repr_of_none ⟨.str _, H, I.tok _, ⟨_, rfl⟩, q⟩
    | bl b =>
      obtain rfl := r
      refine PySem.P.repr_of_bool ⟨.str _, H, I.tok _, ⟨_, rfl⟩, ?_⟩
      cases b <;> exact q
    | int i =>
      obtain ⟨t, rfl⟩ := r
      refine PySem.P.repr_of_int ?_ ⟨.str _, H, I.tok _, ⟨_, rfl⟩, ?_⟩
      · simpa only [PyData.showable, decide_eq_true_eq] using h1
      · exact q
    | str x =>
      obtain ⟨t, rfl⟩ := r
      exact PySem.P.repr_of_str ⟨.str _, H, I.tok _, ⟨_, rfl⟩, q⟩ h4
    | lst e rr =>
      obtain rfl := r
      obtain ⟨as, rd⟩ := Dp.reads I _ _ _ (.lst e rr) rfl
      refine repr_of_reads' (h₀ := s.heap) rd h1 (PyData.noDict_hsm h2) hgd (by omega) (fun _ _ z => z) (fun h' u tk hk => ?_) h4
      exact ⟨.str _, H, I.kept (t' := tk) hk, ⟨_, rfl⟩, q⟩
    | tup e rr =>
      obtain rfl := r
      obtain ⟨as, rd⟩ := Dp.reads I _ _ _ (.tup e rr) rfl
      refine repr_of_reads' (h₀ := s.heap) rd h1 (PyData.noDict_hsm h2) hgd (by omega) (fun _ _ z => z) (fun h' u tk hk => ?_) h4
      exact ⟨.str _, H, I.kept (t' := tk) hk, ⟨_, rfl⟩, q⟩
theorem cs_reprA {L : Rl} {d : PyData} (h1 : d.showable = true) (h2 : d.hasDict = false) (h3 : d.depth ≤ 60) (h4 : d.shown.length ≤ sizeLine) : CaS L (rReprA L.K) [d] (.str d.shown) := fun A H vs hi hg hl h Q q => by
  obtain ⟨v, rfl, hv⟩ := one_of hl h
  have hd := (hv.ne (by intro z; rw [z] at h2; simp [PyData.hasDict] at h2)).dp (K := L.K)
  exact ⟨v, _, rfl, hd, h1, h2, h3, h4, q _ H (Rl.refl hg) (.inr (.str _))⟩
/-- what repr may be asked of -/
structure ShA (d : PyData) : Prop where
  show1 : d.showable = true
  nd : d.hasDict = false
  dep : d.depth ≤ 60
  len : d.shown.length ≤ sizeLine

abbrev s_law_like : Stmt := top 18
abbrev n_law_like : List Str := ["told", "due"]
theorem sc_law_like : FnScope n_law_like ["told", "due"] (defScope s_law_like) := ⟨rfl, rfl, rfl, by decide +kernel, rfl, by decide +kernel, by decide +kernel⟩
def sp_law_like (K : PySem.W.Frag) : Sp := spR K (fun d : PyData => [d, d]) ShA fun _ => .bool true
theorem ok_law_like {f : Addr} {fd : FuncData} (T : Bt K mg) (D : Df K mg "_law_like" s_law_like ["told", "due"] f fd) : Cal P w K mg base "_law_like" s_law_like ["told", "due"] 1 (sp_law_like K) f fd := by
  refine ok_R D sc_law_like (fun _ => rfl) fun cdv A outer s H E hgd hr => ⟨_, (pss_one (ps_ret (pe_cmpR op_eq (pe_callB (call_reprA hgd hr.units) (by rfl) T.repr (by decide +kernel) (pa_cons (pv 0) pa_nil)) (pe_callB (call_reprA hgd hr.units) (by rfl) T.repr (by decide +kernel) (pa_cons (pv 1) pa_nil)) (nomark _)))), ?_⟩
  rintro d ⟨h1, h2, h3, h4⟩
  show SG (pureL K) 0 _ [some d, some d] _ _
  have e : PyData.bool (decide (d.shown = d.shown)) = .bool true := by rw [decide_eq_true rfl]
  exact sg_ret ((eg_eqS (eg_cb (L := pureL K) (ea_cons (eg_var rfl) ea_nil) (cs_reprA h1 h2 h3 h4)) (eg_cb (L := pureL K) (ea_cons (eg_var rfl) ea_nil) (cs_reprA h1 h2 h3 h4))).to e) rfl

section
variable {L : Rl} {Γ : List (Option PyData)} {t : TA} {te ta tb : TE} {E : XK} {a b c m n : Nat} {P1 P2 P3 P4 : PyData → Prop}
theorem eg_draw (hS : SM L) {b : Nat} (hb : 0 < b ∧ b < 2 ^ 30) (h0 : Γ[0]? = some (some mark)) : EvG L 1 (tCall (sp_law_draw L.K) [] E (tCons (tVar 0) (tCons (tC (.int (b : Int))) tNil))) Γ (fun d => ∃ z : Int, (0 ≤ z ∧ z < (b : Int)) ∧ d = .int z) :=
  EvG.mono (eg_callM hS b (ea_cons (eg_var h0) (ea_cons eg_int ea_nil)) hb) (Nat.le_refl _) fun d ⟨r, h1, e⟩ => ⟨(r : Int), ⟨by omega, by omega⟩, e⟩
end

end V1
set_option Elab.async false
set_option linter.all false
set_option maxRecDepth 100000
set_option maxHeartbeats 4000000
namespace V1
open PySem PySem.Spec PyProof.Rows L2
variable {P : Program} {w : World} {K : PySem.W.Frag} {mg : Str → Option Value} {base : Heap}
abbrev s_law_of : Stmt := top 17
abbrev n_law_of : List Str := ["m", "some"]
theorem sc_law_of : FnScope n_law_of ["m", "some"] (defScope s_law_of) := ⟨rfl, rfl, rfl, by decide +kernel, rfl, by decide +kernel, by decide +kernel⟩
def sp_law_of (K : PySem.W.Frag) : Sp := spM K 1 (fun ds : List PyData => [mark, .list ds]) (fun ds => ds ≠ [] ∧ ds.length ≤ 100) fun ds d => d ∈ ds
theorem ok_law_of {f : Addr} {fd : FuncData} (T : Bt K mg) (D : Df K mg "_law_of" s_law_of ["m", "some"] f fd)
    {f_law_draw : Addr} {d_law_draw : FuncData} (h_law_draw : Cal P w K mg base "_law_draw" s_law_draw ["m", "bound"] 1 (sp_law_draw K) f_law_draw d_law_draw) : Cal P w K mg base "_law_of" s_law_of ["m", "some"] 2 (sp_law_of K) f fd := by
  refine ok_A D sc_law_of (fun _ => rfl) fun cdv A outer s H E hgd hr => ⟨_, (pss_one (ps_ret (pe_ix (ix_listK (K := K) rfl) (pv 1) (pe_fn (E := E0) h_law_draw.G hgd (hr.mono (by decide)) (by rfl) h_law_draw.gm h_law_draw.kp h_law_draw.b (pa_cons (pv 0) (pa_cons (pe_callB call_len_seq (by rfl) T.len PySem.boot_len (pa_cons (pv 1) pa_nil)) pa_nil))) (fun _ _ => rfl)))), ?_⟩
  rintro L rfl hS ds ⟨h1, h2⟩
  show SG L 1 _ [some mark, some (.list ds)] _ _
  have hl : 0 < ds.length := List.length_pos_iff.mpr h1
  refine sg_retG (EvG.mono (a := 0 + 1) (eg_opG (P := fun d => d ∈ ds) (eg_var rfl) (EvG.mono (eg_callM hS ds.length (ea_cons (eg_var rfl) (ea_cons (eg_cb (ea_cons (eg_var rfl) ea_nil) cs_lenL) ea_nil)) ⟨hl, Nat.lt_of_le_of_lt h2 (by decide)⟩) (Nat.le_refl _) fun d h => h) ?_) (Nat.le_refl _) fun d h => h) fun d h => h
  rintro d1 d2 rfl ⟨r, hr, rfl⟩
  have hat : atI ds (r : Int) = some ds[r] := by
    unfold atI ixN
    rw [if_pos (by omega), if_pos (by omega)]
    show ds[(r : Int).toNat]? = _
    rw [Int.toNat_natCast, List.getElem?_eq_getElem hr]
  exact fun A H x y hi hg hx hy Q q => os_ixL hat A H x y hi hg hx hy Q fun v d H' r' hv e => q v d H' r' hv (by rw [e]; exact List.getElem_mem hr)

end V1
set_option Elab.async false
set_option linter.all false
set_option maxRecDepth 100000
set_option maxHeartbeats 4000000
namespace V1
open PySem PySem.Spec PyProof.Rows L2
variable {P : Program} {w : World} {K : PySem.W.Frag} {mg : Str → Option Value} {base : Heap}
theorem call_tupleK {X : Cx} {K : PySem.W.Frag} (h : X.K = K) : CallR X (.type "tuple") (fun xs H Q => ∃ p ys, xs = [.ref p] ∧ ((SqL K H p ys ∧ ∀ l, H l = none → Q (.ref l) (upd H l (.tup ys))) ∨ (SqT K H p ys ∧ Q (.ref p) H))) := h ▸ call_tuple_of
theorem call_lenK {X : Cx} {K : PySem.W.Frag} (h : X.K = K) : CallR X (.builtin "len") (fun xs H Q => ∃ p ys, xs = [.ref p] ∧ (SqL K H p ys ∨ SqT K H p ys) ∧ Q (.int ys.length) H) := h ▸ call_len_seq
section
variable {L : Rl} {Γ : List (Option PyData)} {t : TA} {te ta tb : TE} {tt tu : TT} {ts u z : TS} {E : XK} {a b c m n : Nat} {N : List (Option PyData) → Prop} {Rt : PyData → Prop}
/-- tuples, one behind the other; the left one isn't empty -/
theorem eg_catTG {P1 P2 : List PyData → Prop} (ha : EvG L a ta Γ (fun d => ∃ ds, d = .tuple ds ∧ P1 ds)) (hb : EvG L b tb Γ (fun d => ∃ ds, d = .tuple ds ∧ P2 ds)) (h1 : ∀ ds, P1 ds → ds ≠ [] ∧ ds.length ≤ 100000) (h2 : ∀ ds, P2 ds → ds.length ≤ 100000) : EvG L (a + b) (tOp (rCatT L.K) ta tb) Γ (fun d => ∃ ds es, d = .tuple (ds ++ es) ∧ P1 ds ∧ P2 es) :=
  eg_opG ha hb fun d1 d2 ⟨ds, e1, p1⟩ ⟨es, e2, p2⟩ => by
    subst e1 e2
    intro A H x y hi hg hx hy Q q
    obtain ⟨p, xs, rfl, e, r⟩ := hx.tuple
    obtain ⟨p2', ys, rfl, e2, r2⟩ := hy.tuple
    obtain ⟨n1, l1⟩ := h1 ds p1
    have l2 := h2 es p2
    have hxs : xs ≠ [] := fun z => n1 (List.length_eq_zero_iff.mp (by rw [← r.length, z]; rfl))
    refine ⟨p, p2', xs, ys, rfl, rfl, e.sq, e2.sq, hxs, Nat.le_trans (by rw [r.length, r2.length]; exact Nat.add_le_add l1 l2) (by decide), fun z => ?_, fun z l hl => ?_⟩
    · have e3 : es = [] := List.length_eq_zero_iff.mp (by rw [← r2.length, z]; rfl)
      subst e3
      exact q _ (.tuple ds) H (Rl.refl hg) (.inr (e.dv r)) ⟨ds, [], by rw [List.append_nil], p1, p2⟩
    · have rr := Rl.newR (o := .tup (xs ++ ys)) hg hl
      exact q _ (.tuple (ds ++ es)) _ rr (.inr (.tup (hi.no hl) upd_same ((r.app r2).r rr))) ⟨ds, es, rfl, p1, p2⟩
theorem eg_tupleG {P : List PyData → Prop} (h : EvG L a te Γ (fun d => ∃ ds, d = .list ds ∧ P ds)) : EvG L a (tCB (fun xs H Q => ∃ p ys, xs = [.ref p] ∧ ((SqL L.K H p ys ∧ ∀ l, H l = none → Q (.ref l) (upd H l (.tup ys))) ∨ (SqT L.K H p ys ∧ Q (.ref p) H))) (tCons te tNil)) Γ (fun d => ∃ ds, d = .tuple ds ∧ P ds) := fun A σ H hi he hg Q q =>
  h A σ H hi he hg _ fun v d H1 r1 hv ⟨ds, e, p⟩ => by
    subst e
    obtain ⟨b, xs, rfl, na, e, r⟩ := hv.list
    refine ⟨b, xs, rfl, .inl ⟨SqL.of e, fun l hl2 => ?_⟩⟩
    have rr := Rl.newR (o := .tup xs) (Rl.gR (b := 0) hg r1) hl2
    exact q _ _ _ (L.tr (b := 0) r1 rr) (.inr (.tup ((hi.r r1).no hl2) upd_same (r.r rr))) ⟨ds, rfl, p⟩
/-- a comprehension: things of one kind -/
theorem eg_lcP {P : PyData → Prop} {PI1 : List PyData → Prop} {wi : TI} {g : TG} {js vs : List Nat} (hP : ∀ d, P d → d ≠ mark) (hw : WkG L a wi Γ PI1) (hj : ∀ j ∈ js, j ∈ vs) (hlen : ∀ items, PI1 items → items.length ≤ b) (hb1 : b ≤ 1000)
    (hb : ∀ items, PI1 items → ∀ (i : Nat) d, items[i]? = some d → ∃ Γ', TgG L g js d (wipeD Γ vs) Γ' ∧ EvG L c te Γ' P) : EvG L (a + b * c) (tLc wi g tYes te vs) Γ (fun r => ∃ ds, r = .list ds ∧ ∃ items, PI1 items ∧ ds.length = items.length ∧ ∀ d ∈ ds, P d) :=
  EvG.mono (eg_lcG (a := a) (b := b) (c := c) (Pt := fun _ _ r => P r) hw hj (fun its e => ⟨hlen its e, hb1⟩) fun its e i d hd => by
    obtain ⟨Γ', h1, h2⟩ := hb its e i d hd
    exact ⟨Γ', h1, EvG.mono h2 (Nat.le_refl _) fun r h => ⟨hP r h, h⟩⟩) (Nat.le_refl _) fun r ⟨its, rs, e1, e2, e3, e4⟩ => ⟨rs, e2, its, e1, e3, fun d hd => by
    obtain ⟨i, hi⟩ := List.getElem?_of_mem hd
    exact e4 i d hi⟩
theorem inV_str (w : Str) (ws : List Str) : inV (.str w) (ws.map V.str) = decide (w ∈ ws) := by
  unfold inV
  induction ws with
  | nil => rfl
  | cons x r ih =>
    rw [List.map_cons, List.any_cons, ih]
    by_cases h : w = x
    · subst h
      have e : eqV (.str w) (.str w) = true := by simp [eqV]
      rw [e]
      simp
    · have e : eqV (.str x) (.str w) = false := by
        simp [eqV]
        exact fun z => h z.symm
      rw [e]
      simp [h]
theorem DvAll.strs {K : PySem.W.Frag} {A : Addr → Prop} {H : Hp} {xs : List V} {ws : List Str} (h : DvAll K A H xs (ws.map PyData.str)) : xs = ws.map V.str := by
  induction ws generalizing xs with
  | nil => cases h; rfl
  | cons n ns ih =>
    cases h with
    | cons a b =>
      cases a
      rw [ih b]
      rfl
theorem flat_strs (ws : List Str) : (ws.map V.str).all flatV = true := by
  induction ws with
  | nil => rfl
  | cons w r ih => rw [List.map_cons, List.all_cons, ih]; rfl
theorem eg_inS {w : Str} {ws : List Str} (ha : EvD L ta Γ (.str w)) (hb : EvD L tb Γ (.tuple (ws.map .str))) : EvD L (tOp (rIn L.K false) ta tb) Γ (.bool (decide (w ∈ ws))) := eg_op ha hb fun A H x y hi hg hx hy Q q => by
  obtain rfl := hx.str
  obtain ⟨p, xs, rfl, e, r⟩ := hy.tuple
  have ex := r.strs
  subst ex
  refine ⟨p, _, rfl, .inr e.sq, rfl, flat_strs ws, ?_⟩
  show Q (.bl (inV (.str w) (ws.map V.str))) H
  rw [inV_str]
  exact q _ _ H (Rl.refl hg) (.inr (.bl _)) rfl
theorem et_orD {k : Bool} {P : Bool → Prop} (h : EtD L tt Γ k) (h1 : k = true → P true) (h2 : k = false → EtG L a tu Γ P) : EtG L a (tOr tt tu) Γ P := fun A σ H hi he hg Q q => h A σ H hi he (L.g0 hg) _ fun H1 r1 => by
  cases k with
  | true => exact q true H1 (L.rle (Nat.zero_le _) r1) (h1 rfl)
  | false => exact h2 rfl A σ H1 (hi.r r1) (he.r r1) (Rl.gR (a := 0) (by rw [Nat.zero_add]; exact hg) r1) Q fun k H2 r2 p => q k H2 (L.rle (Nat.le_of_eq (Nat.zero_add _)) (L.tr r1 r2)) p
theorem et_testG {P : Bool → Prop} (h : EvG L a te Γ (fun d => ∃ k, d = .bool k ∧ P k)) : EtG L a (tTest te) Γ P := fun A σ H hi he hg Q q => h A σ H hi he hg _ fun v d H1 r1 hv ⟨k, e, p⟩ => by
  subst e
  obtain rfl := hv.bool
  exact ⟨k, rfl, q k H1 r1 p⟩
theorem eg_eqIG {P1 : Int → Prop} {j : Int} (ha : EvG L a ta Γ (fun d => ∃ i, P1 i ∧ d = .int i)) (hb : EvD L tb Γ (.int j)) : EvG L (a + 0) (tOp rEq ta tb) Γ (fun d => ∃ k, d = .bool k ∧ True) := eg_opG ha hb fun d1 d2 ⟨i, _, e1⟩ e2 => by
  subst e1 e2
  intro A H x y hi hg hx hy Q q
  obtain rfl := hx.int
  obtain rfl := hy.int
  exact ⟨rfl, q _ (.bool (decide (V.int i = V.int j))) H (Rl.refl hg) (.inr (.bl _)) ⟨_, rfl, trivial⟩⟩
theorem sq_ifG {P : Bool → Prop} (h : EtG L a tt Γ P) (h1 : P true → SG L b (tSeq ts z) Γ N Rt) (h2 : P false → SG L b (tSeq u z) Γ N Rt) : SG L (a + b) (tSeq (tIfS tt ts u) z) Γ N Rt := fun A σ H hi he hg D q1 q2 => h A σ H hi he (L.gle (Nat.le_add_right _ _) hg) _ fun k H1 r1 p => by
  have fin : ∀ {tx : TS}, SG L b tx Γ N Rt → tx D σ H1 := fun {tx} hx => hx A σ H1 (hi.r r1) (he.r r1) (Rl.gR hg r1) D
    (fun σ2 H2 Γ2 r2 e2 p2 => q1 σ2 H2 Γ2 (L.tr r1 r2) e2 p2) fun v d H2 r2 e2 p2 => q2 v d H2 (L.tr r1 r2) e2 p2
  cases k with
  | true => exact fin (h1 p)
  | false => exact fin (h2 p)
theorem sg_retqG {P : PyData → Prop} (h : EvG L a te Γ P) (k : ∀ d, P d → Rt d) : SG L a (tSeq (tRet te) z) Γ N Rt := fun A σ H hi he hg D q1 q2 => h A σ H hi he hg _ fun v d H1 r hv p => q2 v d H1 r hv (k d p)
end

end V1
set_option Elab.async false
set_option linter.all false
set_option maxRecDepth 100000
set_option maxHeartbeats 4000000
namespace V1
open PySem PySem.Spec PyProof.Rows L2
variable {P : Program} {w : World} {K : PySem.W.Frag} {mg : Str → Option Value} {base : Heap}
/-- how many texts, how many parts stand behind a word -/
def shapeOk (w : Str) (s p : Nat) : Bool :=
  (w == "sign" && (s == 1 && p == 0)) || (w == "row" && (s == 0 && decide (1 ≤ p))) || ((w == "over" || w == "high" || w == "low") && (s == 0 && p == 2)) || ((w == "root" || w == "fence" || w == "bar") && (s == 0 && p == 1)) ||
  (w == "both" && (s == 0 && p == 3)) || ((w == "under" || w == "upper") && (s == 1 && p == 1)) || (w == "limits" && (s == 1 && p == 2))
def wordD : PyData → Option Str
  | .tuple (.str w :: _) => some w
  | _ => none
abbrev noBases : List Str := ["row", "high", "low", "both"]
abbrev scripts : List Str := ["high", "low", "both"]
def baseOk (d : PyData) : Prop := ∀ w, wordD d = some w → w ∉ noBases
abbrev signs3 : List Str := ["a", "b", "sum"]
/-- a formula as it is drawn, so deep at most -/
inductive Fd : Nat → PyData → Prop
  | nd {n : Nat} {w : Str} {sg : List Str} {ds : List PyData} : shapeOk w sg.length ds.length = true → (∀ s ∈ sg, s ∈ signs3) → ds.length ≤ 3 → (w ∈ scripts → ∀ d, ds.head? = some d → baseOk d) → (∀ d ∈ ds, Fd n d) → Fd (n + 1) (.tuple (.str w :: (sg.map .str ++ ds)))
  | tb {n : Nat} {rows : List (List PyData)} {c : Nat} : 1 ≤ rows.length → rows.length ≤ 3 → 1 ≤ c → c ≤ 3 → (∀ r ∈ rows, r.length = c) → (∀ r ∈ rows, ∀ d ∈ r, Fd n d) → Fd (n + 2) (.tuple [.str "table", .tuple (rows.map .tuple)])
theorem Fd.mono {n m : Nat} {d : PyData} (h : Fd n d) (hm : n ≤ m) : Fd m d := by
  induction h generalizing m with
  | @nd n w sg ds h1 h2 h3 h4 h5 ih =>
    obtain ⟨k, rfl⟩ : ∃ k, m = k + 1 := ⟨m - 1, by omega⟩
    exact .nd h1 h2 h3 h4 fun d hd => ih d hd (by omega)
  | @tb n rows c h1 h2 h3 h4 h5 h6 ih =>
    obtain ⟨k, rfl⟩ : ∃ k, m = k + 2 := ⟨m - 2, by omega⟩
    exact .tb h1 h2 h3 h4 h5 fun r hr d hd => ih r hr d hd (by omega)
theorem Fd.word {n : Nat} {d : PyData} (h : Fd n d) : ∃ w ds, d = .tuple (.str w :: ds) := by
  cases h with
  | nd => exact ⟨_, _, rfl⟩
  | tb => exact ⟨_, _, rfl⟩
theorem Fd.ne {n : Nat} {d : PyData} (h : Fd n d) : d ≠ mark := by
  obtain ⟨w, ds, rfl⟩ := h.word
  intro z
  cases z
section
variable {L : Rl} {Γ : List (Option PyData)} {t : TA} {a : Nat}
theorem wk_rngG {lo hi : Int} (h : EaG L a t Γ (fun ds => ∃ j : Int, ds = [.int j] ∧ lo ≤ j ∧ j ≤ hi)) (h0 : 0 ≤ lo) (h1 : hi ≤ 1000) : WkG L a (iRng1 t) Γ (fun items => ∃ j : Int, (lo ≤ j ∧ j ≤ hi) ∧ items = rngD 0 j.toNat) := fun A σ H hi2 he hg R q =>
  wk_rng1G (P := fun d => ∃ j : Int, d = .int j ∧ lo ≤ j ∧ j ≤ hi) (EaG.mono h (Nat.le_refl _) fun ds ⟨j, e, h1, h2⟩ => ⟨j, e, ⟨j, rfl, h1, h2⟩, by omega, by omega⟩) A σ H hi2 he hg R fun J H1 items r ⟨j, ⟨j', ej, h1, h2⟩, e⟩ k => by
    have ejj : j = j' := by injection ej
    exact q J H1 items r ⟨j, ⟨by omega, by omega⟩, e⟩ k
/-- a tuple of so many things of one kind -/
theorem eg_parts {te : TE} {g : TG} {c m : Nat} {j : Nat} {lo hi : Int} {P : PyData → Prop} (h : EaG L a t Γ (fun ds => ∃ j : Int, ds = [.int j] ∧ lo ≤ j ∧ j ≤ hi)) (h0 : 0 ≤ lo) (hm : hi ≤ (m : Int)) (h1 : m ≤ 1000) (hP : ∀ d, P d → d ≠ mark)
    (hb : ∀ i : Int, ∃ Γ', TgG L g [j] (.int i) (wipeD Γ [j]) Γ' ∧ EvG L c te Γ' P) : EvG L (a + m * c) (tLc (iRng1 t) g tYes te [j]) Γ (fun d => ∃ ds, d = .list ds ∧ (lo ≤ (ds.length : Int) ∧ (ds.length : Int) ≤ hi) ∧ ∀ d ∈ ds, P d) :=
  EvG.mono (eg_lcP (P := P) (js := [j]) (b := m) hP (wk_rngG h h0 (by omega)) (fun j hj => hj) (fun items ⟨j, hj, e⟩ => by rw [e, rng_len]; omega) h1 fun items ⟨j, hj, e⟩ i d hd => by
    subst e
    unfold rngD at hd
    obtain ⟨y, _, _, rfl⟩ := map_at hd
    exact hb _) (Nat.le_refl _) fun r ⟨ds, e, items, ⟨j, hj, e2⟩, hl, hd⟩ => ⟨ds, e, ⟨by rw [hl, e2, rng_len]; omega, by rw [hl, e2, rng_len]; omega⟩, hd⟩
end
theorem sq_assoc {L : Rl} {Γ : List (Option PyData)} {a : Nat} {x y z : TS} {N : List (Option PyData) → Prop} {Rt : PyData → Prop} (h : SG L a (tSeq x (tSeq y z)) Γ N Rt) : SG L a (tSeq (tSeq x y) z) Γ N Rt := h
theorem eg_num {L : Rl} {Γ : List (Option PyData)} {i : Nat} {w x : Str} {p q : Int} (e : Γ[i]? = some (some (.str w))) : EvD L (tIf (tTest (tOp rEq (tVar i) (tC (.str x)))) (tC (.int p)) (tC (.int q))) Γ (.int (if w = x then p else q)) :=
  eg_if (et_test (eg_eqS (eg_var e) eg_str)) (fun h => by rw [if_pos (of_decide_eq_true h)]; exact eg_int) fun h => by rw [if_neg (of_decide_eq_false h)]; exact eg_int
def cost : Nat → Nat
  | 0 => 0
  | n + 1 => 6 + 9 * cost n

abbrev s_law_formula : Stmt := top 19
abbrev n_law_formula : List Str := ["m", "deep", "word", "parts", "rows", "columns", "first", "k", "r", "c"]
theorem sc_law_formula : FnScope n_law_formula ["m", "deep"] (defScope s_law_formula) := ⟨rfl, rfl, rfl, by decide +kernel, rfl, by decide +kernel, by decide +kernel⟩
def sp_law_formula (K : PySem.W.Frag) (n : Nat) : Sp := spM K (cost n) (fun deep : Nat => [mark, .int (deep : Int)]) (fun deep => deep < n) fun deep d => Fd (deep + 1) d
abbrev words12 : List Str := ["row", "row", "over", "over", "root", "high", "low", "both", "stack", "fence", "bar", "table"]
theorem ok_law_formula {f : Addr} {fd : FuncData} (T : Bt K mg) (D : Df K mg "_law_formula" s_law_formula ["m", "deep"] f fd)
    {f_law_draw : Addr} {d_law_draw : FuncData} (h_law_draw : Cal P w K mg base "_law_draw" s_law_draw ["m", "bound"] 1 (sp_law_draw K) f_law_draw d_law_draw)
    {f_law_of : Addr} {d_law_of : FuncData} (h_law_of : Cal P w K mg base "_law_of" s_law_of ["m", "some"] 2 (sp_law_of K) f_law_of d_law_of)
    {n : Nat} (h_law_formula : Cal P w K mg base "_law_formula" s_law_formula ["m", "deep"] (2 + n) (sp_law_formula K n) f fd) : Cal P w K mg base "_law_formula" s_law_formula ["m", "deep"] (2 + n + 1) (sp_law_formula K (n + 1)) f fd := by
  refine ok_A D sc_law_formula (fun _ => rfl) fun cdv A outer s H E hgd hr => ⟨_, (pss_cons (ps_if (PW.pt (pw_or (pt_cmpR op_lt (pv 1) pe_int (nomark _)) (pw_or1 (pt_cmpR op_eq (pe_fn (E := E0) h_law_draw.G hgd (hr.mono (by omega)) (by rfl) h_law_draw.gm h_law_draw.kp h_law_draw.b (pa_cons (pv 0) (pa_cons pe_int pa_nil))) pe_int (nomark _))))) (pss_one (ps_ret (pe_tup (pa_cons pe_str (pa_cons (pe_fn (E := E0) h_law_of.G hgd (hr.mono (by omega)) (by rfl) h_law_of.gm h_law_of.kp h_law_of.b (pa_cons (pv 0) (pa_cons (pe_lst (pa_cons pe_str (pa_cons pe_str (pa_cons pe_str pa_nil)))) pa_nil))) pa_nil))))) pss_nil)
        (pss_cons (ps_set (i := 2) sc_law_formula.nd rfl (Or.inl rfl) (pe_fn (E := E0) h_law_of.G hgd (hr.mono (by omega)) (by rfl) h_law_of.gm h_law_of.kp h_law_of.b (pa_cons (pv 0) (pa_cons (pe_lst (pa_cons pe_str (pa_cons pe_str (pa_cons pe_str (pa_cons pe_str (pa_cons pe_str (pa_cons pe_str (pa_cons pe_str (pa_cons pe_str (pa_cons pe_str (pa_cons pe_str (pa_cons pe_str (pa_cons pe_str pa_nil))))))))))))) pa_nil))))
        (pss_cons (ps_if (pt_cmpR op_eq (pv 2) pe_str (nomark _)) (pss_one (ps_ret (pe_op op_catT (pe_tup (pa_cons pe_str pa_nil)) (pe_callTy call_tuple_of (by rfl) T.tuple (by decide +kernel) (pa_cons (pe_lc (own := [("k", 7)]) (g := gName 7) (tt := tYes) rfl sc_law_formula.nd (pi_range1 (by rfl) T.range (pa_cons (pe_op op_add pe_int (pe_fn (E := E0) h_law_draw.G hgd (hr.mono (by omega)) (by rfl) h_law_draw.gm h_law_draw.kp h_law_draw.b (pa_cons (pv 0) (pa_cons pe_int pa_nil)))) pa_nil)) (blkOk_by (own := [("k", 7)]) (N := n_law_formula) (sc := defScope s_law_formula) (by decide +kernel)) (fun _ _ _ _ _ => (pg_name (i := 7) sc_law_formula.nd rfl (Or.inl rfl))) (fun _ _ _ _ _ => pts_nil) (fun _ _ _ _ _ => (pe_fn (E := E0) h_law_formula.G hgd (hr.mono (by omega)) (by rfl) h_law_formula.gm h_law_formula.kp h_law_formula.b (pa_cons (pv 0) (pa_cons (pe_op op_sub (pv 1) pe_int) pa_nil))))) pa_nil))))) pss_nil)
        (pss_cons (ps_if (pt_cmpR op_eq (pv 2) pe_str (nomark _)) (pss_cons (ps_set (i := 2) sc_law_formula.nd rfl (Or.inl rfl) (pe_fn (E := E0) h_law_of.G hgd (hr.mono (by omega)) (by rfl) h_law_of.gm h_law_of.kp h_law_of.b (pa_cons (pv 0) (pa_cons (pe_lst (pa_cons pe_str (pa_cons pe_str (pa_cons pe_str pa_nil)))) pa_nil))))
        (pss_cons (ps_setLc (i := 3) (own := [("k", 7)]) (g := gName 7) (tt := tYes) rfl sc_law_formula.nd rfl rfl (sw_true rfl rfl rfl (by decide +kernel)) (pi_range1 (by rfl) T.range (pa_cons (pe_ifExp (pt_cmpR op_eq (pv 2) pe_str (nomark _)) pe_int pe_int) pa_nil)) (blkOk_by (own := [("k", 7)]) (N := n_law_formula) (sc := defScope s_law_formula) (by decide +kernel)) (fun _ _ _ _ _ => (pg_name (i := 7) sc_law_formula.nd rfl (Or.inl rfl))) (fun _ _ _ _ _ => pts_nil) (fun _ _ _ _ _ => (pe_fn (E := E0) h_law_formula.G hgd (hr.mono (by omega)) (by rfl) h_law_formula.gm h_law_formula.kp h_law_formula.b (pa_cons (pv 0) (pa_cons (pe_op op_sub (pv 1) pe_int) pa_nil)))))
        (pss_one (ps_ret (pe_op op_catT (pe_tup (pa_cons (pv 2) (pa_cons (pe_fn (E := E0) h_law_of.G hgd (hr.mono (by omega)) (by rfl) h_law_of.gm h_law_of.kp h_law_of.b (pa_cons (pv 0) (pa_cons (pe_lst (pa_cons pe_str (pa_cons pe_str pa_nil))) pa_nil))) pa_nil))) (pe_callTy call_tuple_of (by rfl) T.tuple (by decide +kernel) (pa_cons (pv 3) pa_nil))))))) pss_nil)
        (pss_cons (ps_if (pt_cmpR op_eq (pv 2) pe_str (nomark _)) (pss_cons (ps_asg (pe_tup (pa_cons (pe_op op_add pe_int (pe_fn (E := E0) h_law_draw.G hgd (hr.mono (by omega)) (by rfl) h_law_draw.gm h_law_draw.kp h_law_draw.b (pa_cons (pv 0) (pa_cons pe_int pa_nil)))) (pa_cons (pe_op op_add pe_int (pe_fn (E := E0) h_law_draw.G hgd (hr.mono (by omega)) (by rfl) h_law_draw.gm h_law_draw.kp h_law_draw.b (pa_cons (pv 0) (pa_cons pe_int pa_nil)))) pa_nil))) (pg_tup rfl (pgs_cons (pg_name (i := 4) sc_law_formula.nd rfl (Or.inl rfl)) (pgs_cons (pg_name (i := 5) sc_law_formula.nd rfl (Or.inr rfl)) pgs_nil))))
        (pss_one (ps_ret (pe_tup (pa_cons (pv 2) (pa_cons (pe_callTy call_tuple_of (by rfl) T.tuple (by decide +kernel) (pa_cons (pe_lc (own := [("r", 8)]) (g := gName 8) (tt := tYes) rfl sc_law_formula.nd (pi_range1 (by rfl) T.range (pa_cons (pv 4) pa_nil)) (blkOk_by (own := [("r", 8)]) (N := n_law_formula) (sc := defScope s_law_formula) (by decide +kernel)) (fun _ _ _ _ _ => (pg_name (i := 8) sc_law_formula.nd rfl (Or.inl rfl))) (fun _ _ _ _ _ => pts_nil) (fun _ _ _ _ _ => (pe_callTy (call_tupleK (K := K) rfl) (by rfl) T.tuple (by decide +kernel) (pa_cons (pe_lc (own := [("c", 9)]) (g := gName 9) (tt := tYes) rfl sc_law_formula.nd (pi_range1 (by rfl) T.range (pa_cons (pv 5) pa_nil)) (blkOk_by (own := [("c", 9)]) (N := n_law_formula) rfl) (fun _ _ _ _ _ => (pg_name (i := 9) sc_law_formula.nd rfl (Or.inl rfl))) (fun _ _ _ _ _ => pts_nil) (fun _ _ _ _ _ => (pe_fn (E := E0) h_law_formula.G hgd (hr.mono (by omega)) (by rfl) h_law_formula.gm h_law_formula.kp h_law_formula.b (pa_cons (pv 0) (pa_cons (pe_op op_sub (pv 1) pe_int) pa_nil))))) pa_nil)))) pa_nil)) pa_nil)))))) pss_nil)
        (pss_cons (ps_if (pt_cmpR op_in_seq (pv 2) (pe_tup (pa_cons pe_str (pa_cons pe_str (pa_cons pe_str pa_nil)))) (by rfl)) (pss_cons (ps_set (i := 6) sc_law_formula.nd rfl (Or.inl rfl) (pe_fn (E := E0) h_law_formula.G hgd (hr.mono (by omega)) (by rfl) h_law_formula.gm h_law_formula.kp h_law_formula.b (pa_cons (pv 0) (pa_cons (pe_op op_sub (pv 1) pe_int) pa_nil))))
        (pss_cons (ps_set (i := 6) sc_law_formula.nd rfl (Or.inl rfl) (pe_ifExp (pt_cmpR op_in_seq (pe_ix (ix_tupK (K := K) rfl) (pv 6) pe_int (fun _ _ => rfl)) (pe_tup (pa_cons pe_str (pa_cons pe_str (pa_cons pe_str (pa_cons pe_str pa_nil))))) (by rfl)) (pe_tup (pa_cons pe_str (pa_cons pe_str pa_nil))) (pv 6)))
        (pss_one (ps_ret (pe_op op_catT (pe_tup (pa_cons (pv 2) (pa_cons (pv 6) pa_nil))) (pe_callTy call_tuple_of (by rfl) T.tuple (by decide +kernel) (pa_cons (pe_lc (own := [("k", 7)]) (g := gName 7) (tt := tYes) rfl sc_law_formula.nd (pi_range1 (by rfl) T.range (pa_cons (pe_ifExp (pt_cmpR op_eq (pv 2) pe_str (nomark _)) pe_int pe_int) pa_nil)) (blkOk_by (own := [("k", 7)]) (N := n_law_formula) (sc := defScope s_law_formula) (by decide +kernel)) (fun _ _ _ _ _ => (pg_name (i := 7) sc_law_formula.nd rfl (Or.inl rfl))) (fun _ _ _ _ _ => pts_nil) (fun _ _ _ _ _ => (pe_fn (E := E0) h_law_formula.G hgd (hr.mono (by omega)) (by rfl) h_law_formula.gm h_law_formula.kp h_law_formula.b (pa_cons (pv 0) (pa_cons (pe_op op_sub (pv 1) pe_int) pa_nil))))) pa_nil))))))) pss_nil)
        (pss_one (ps_ret (pe_op op_catT (pe_tup (pa_cons (pv 2) pa_nil)) (pe_callTy call_tuple_of (by rfl) T.tuple (by decide +kernel) (pa_cons (pe_lc (own := [("k", 7)]) (g := gName 7) (tt := tYes) rfl sc_law_formula.nd (pi_range1 (by rfl) T.range (pa_cons (pe_ifExp (pt_cmpR op_eq (pv 2) pe_str (nomark _)) pe_int pe_int) pa_nil)) (blkOk_by (own := [("k", 7)]) (N := n_law_formula) (sc := defScope s_law_formula) (by decide +kernel)) (fun _ _ _ _ _ => (pg_name (i := 7) sc_law_formula.nd rfl (Or.inl rfl))) (fun _ _ _ _ _ => pts_nil) (fun _ _ _ _ _ => (pe_fn (E := E0) h_law_formula.G hgd (hr.mono (by omega)) (by rfl) h_law_formula.gm h_law_formula.kp h_law_formula.b (pa_cons (pv 0) (pa_cons (pe_op op_sub (pv 1) pe_int) pa_nil))))) pa_nil))))))))))), ?_⟩
  rintro L rfl hS deep hdn
  have hdn' : deep < n + 1 := hdn
  clear hdn
  generalize hC : cost n = C
  have eC : cost (n + 1) = 6 + 9 * C := by rw [← hC]; rfl
  rw [eC]
  have self : ∀ {Γ : List (Option PyData)} (j : Nat), 1 ≤ j → j ≤ 2 → 2 ≤ deep → Γ[0]? = some (some mark) → Γ[1]? = some (some (.int (deep : Int))) → EvG L C (tCall (sp_law_formula L.K n) [] E0 (tCons (tVar 0) (tCons (tOp (rI0 fun i j => .int (i - j)) (tVar 1) (tC (.int (j : Int)))) tNil))) Γ (Fd deep) := fun {Γ} j h1 h2 h3 e0 e1 => by
    rw [← hC]
    refine EvG.mono (eg_callM hS (deep - j) (ea_cons (eg_var e0) (ea_cons ((eg_sub (eg_var e1) eg_int).to ?_) ea_nil)) (show deep - j < n by omega)) (Nat.le_refl _) fun d h => Fd.mono h (show deep - j + 1 ≤ deep by omega)
    congr 1
    omega
  have self2 : ∀ {Γ : List (Option PyData)} (j : Nat), 1 ≤ j → j ≤ 2 → 2 ≤ deep → Γ[0]? = some (some mark) → Γ[1]? = some (some (.int (deep : Int))) → EvG L C (tCall (sp_law_formula L.K n) [] E0 (tCons (tVar 0) (tCons (tOp (rI0 fun i j => .int (i - j)) (tVar 1) (tC (.int (j : Int)))) tNil))) Γ (Fd (deep - j + 1)) := fun {Γ} j h1 h2 h3 e0 e1 => by
    rw [← hC]
    refine EvG.mono (eg_callM hS (deep - j) (ea_cons (eg_var e0) (ea_cons ((eg_sub (eg_var e1) eg_int).to ?_) ea_nil)) (show deep - j < n by omega)) (Nat.le_refl _) fun d h => h
    congr 1
    omega
  show SG L (6 + 9 * C) _ [some mark, some (.int (deep : Int)), none, none, none, none, none, none, none, none] _ _
  refine SG.mono (a := 1 + (5 + 9 * C)) (sq_ifG (P := fun k => k = false → 2 ≤ deep) (et_orD (et_test (eg_lt (eg_var rfl) eg_int)) (fun _ z => by cases z) fun hk => et_testG (EvG.mono (eg_eqIG (eg_draw (b := 5) hS (by decide) rfl) eg_int) (by omega) fun d ⟨k, e, _⟩ => ⟨k, e, fun _ => ?_⟩)) (fun _ => ?_) fun hP => ?_) (by omega) (fun _ h => h) fun _ h => h
  · have h2 : ¬ ((deep : Int) < 2) := of_decide_eq_false hk
    omega
  · refine SG.mono (a := 1) (sg_retqG (EvG.mono (a := 0 + (1 + 0)) (eg_tupG (ea2G eg_str (eg_callM hS (signs3.map .str) (ea_cons (eg_var rfl) (ea_cons (eg_lst (ea_cons eg_str (ea_cons eg_str (ea_cons eg_str ea_nil)))) ea_nil)) ⟨(by decide), (by decide)⟩)) ?_) (Nat.le_refl _) fun d h => h) ?_) (by omega) (fun _ h => h) fun _ h => h
    · rintro ds ⟨d1, d2, rfl, rfl, h⟩
      obtain ⟨s, _, rfl⟩ := List.mem_map.mp h
      exact ⟨rfl, (show 2 ≤ 1000 by decide)⟩
    · rintro d ⟨ds, ⟨d1, d2, rfl, rfl, h⟩, rfl⟩
      obtain ⟨s, hs, rfl⟩ := List.mem_map.mp h
      exact .nd (n := deep) (w := "sign") (sg := [s]) (ds := []) rfl (fun z hz => by rw [List.mem_singleton.mp hz]; exact hs) (by decide) (fun z => absurd z (by decide)) fun d hd => by simp at hd
  have h2 : 2 ≤ deep := hP rfl
  refine sq_next ?_
  refine SG.mono (a := 1 + (4 + 9 * C)) (sq_asgG (eg_callM hS (words12.map .str) (ea_cons (eg_var rfl) (ea_cons (eg_lst (ea_cons eg_str (ea_cons eg_str (ea_cons eg_str (ea_cons eg_str (ea_cons eg_str (ea_cons eg_str (ea_cons eg_str (ea_cons eg_str (ea_cons eg_str (ea_cons eg_str (ea_cons eg_str (ea_cons eg_str ea_nil))))))))))))) ea_nil)) ⟨(by decide), (by decide)⟩) fun d hd => ?_) (by omega) (fun _ h => h) fun _ h => h
  obtain ⟨w, hw, rfl⟩ := List.mem_map.mp hd
  clear hd
  show SG L (4 + 9 * C) _ [some mark, some (.int (deep : Int)), some (.str w), none, none, none, none, none, none, none] _ _
  -- parts of a drawn number
  refine sq_if (et_test (eg_eqS (eg_var rfl) eg_str)) (fun hk => ?_) fun hk => ?_
  · have hw2 : w = "row" := of_decide_eq_true hk
    subst hw2
    refine SG.mono (a := 0 + ((0 + 1) + 0 + 3 * C)) (sg_retqG (EvG.mono (eg_catTG (P1 := fun ds => ds = [.str "row"]) (P2 := fun es => 1 ≤ es.length ∧ es.length ≤ 3 ∧ ∀ d ∈ es, Fd deep d) (EvG.mono (eg_tup (ea_cons eg_str ea_nil)) (Nat.le_refl _) fun d e => ⟨_, e, rfl⟩)
      (EvG.mono (eg_tupleG (eg_parts (lo := 1) (hi := 3) (m := 3) (P := Fd deep) (EaG.mono (ea1G (eg_addG eg_intG (eg_draw (b := 3) hS (by decide) rfl))) (Nat.le_refl _) fun ds ⟨d1, e1, i, ⟨x, y, hx, hy, hi⟩, e2⟩ => ⟨i, by rw [e1, e2], by omega, by omega⟩) (by decide) (by decide) (by decide) (fun d h => h.ne) fun i => ⟨_, tg_name, self 1 (by omega) (by omega) h2 rfl rfl⟩)) (Nat.le_refl _) fun d ⟨ds, e, hl, hd⟩ => ⟨ds, e, by omega, by omega, hd⟩)
      (fun ds e => by rw [e]; exact ⟨by simp, (show 1 ≤ 100000 by decide)⟩) fun es h => Nat.le_trans h.2.1 (by decide)) (Nat.le_refl _) fun d h => h) ?_) (by omega) (fun _ h => h) fun _ h => h
    rintro d ⟨ds, es, rfl, rfl, h1, h3, h4⟩
    exact .nd (n := deep) (w := "row") (sg := []) (ds := es) (by unfold shapeOk; simp [h1]) (fun z hz => by simp at hz) h3 (fun z => absurd z (by decide)) h4
  have hrow : w ≠ "row" := of_decide_eq_false hk
  refine sq_next ?_
  refine sq_if (et_test (eg_eqS (eg_var rfl) eg_str)) (fun hk => ?_) fun hk => ?_
  · clear hk hrow hw
    refine sq_assoc ?_
    refine SG.mono (a := 1 + (3 + 9 * C)) (sq_asgG (eg_callM hS ((["under", "upper", "limits"] : List Str).map .str) (ea_cons (eg_var rfl) (ea_cons (eg_lst (ea_cons eg_str (ea_cons eg_str (ea_cons eg_str ea_nil)))) ea_nil)) ⟨(by decide), (by decide)⟩) fun d hd => ?_) (by omega) (fun _ h => h) fun _ h => h
    obtain ⟨v, hv, rfl⟩ := List.mem_map.mp hd
    clear hd
    refine sq_assoc ?_
    obtain ⟨m, hm1, hm2⟩ : ∃ m : Nat, (if v = "limits" then (2 : Int) else 1) = (m : Int) ∧ m ≤ 2 := by
      by_cases z : v = "limits"
      · exact ⟨2, by rw [if_pos z]; rfl, by decide⟩
      · exact ⟨1, by rw [if_neg z]; rfl, by decide⟩
    refine SG.mono (a := (0 + m * C) + (1 + 0)) (sq_asgG (eg_parts (lo := (m : Int)) (hi := (m : Int)) (m := m) (P := Fd deep) (EaG.mono (ea_cons (eg_num (w := v) rfl) ea_nil) (Nat.le_refl _) fun ds e => ⟨_, e, by omega, by omega⟩) (by omega) (Int.le_refl _) (by omega) (fun d h => h.ne) fun i => ⟨_, tg_name, self 1 (by omega) (by omega) h2 rfl rfl⟩) fun d hd => ?_) (by have := Nat.mul_le_mul_right C hm2; omega) (fun _ h => h) fun _ h => h
    obtain ⟨es, rfl, hl, hes⟩ := hd
    have hl' : es.length = m := by omega
    refine sg_retqG (EvG.mono (a := (0 + (1 + 0)) + 0) (eg_catTG (P1 := fun ds => ∃ s ∈ signs3, ds = [.str v, .str s]) (P2 := fun x => x = es) (EvG.mono (eg_tupG (ea2G (eg_var rfl) (eg_callM hS ((["sum", "a"] : List Str).map .str) (ea_cons (eg_var rfl) (ea_cons (eg_lst (ea_cons eg_str (ea_cons eg_str ea_nil))) ea_nil)) ⟨(by decide), (by decide)⟩)) ?_) (Nat.le_refl _) ?_) (eg_tupleG (EvG.mono (eg_var rfl) (Nat.le_refl _) fun d e => ⟨es, e, rfl⟩)) ?_ ?_) (by omega) fun d h => h) ?_
    · rintro ds ⟨d1, d2, rfl, rfl, h⟩
      obtain ⟨s, _, rfl⟩ := List.mem_map.mp h
      exact ⟨rfl, (show 2 ≤ 1000 by decide)⟩
    · rintro d ⟨ds, ⟨d1, d2, rfl, rfl, h⟩, rfl⟩
      obtain ⟨s, hs, rfl⟩ := List.mem_map.mp h
      refine ⟨_, rfl, s, ?_, rfl⟩
      simp only [List.mem_cons, List.not_mem_nil, or_false] at hs ⊢
      rcases hs with h | h
      · exact .inr (.inr h)
      · exact .inl h
    · rintro ds ⟨s, _, rfl⟩
      exact ⟨by simp, (show 2 ≤ 100000 by decide)⟩
    · rintro x rfl
      omega
    rintro d ⟨ds, es2, rfl, ⟨s, hs, rfl⟩, rfl⟩
    refine .nd (n := deep) (w := v) (sg := [s]) (ds := es2) ?_ (fun z hz => by rw [List.mem_singleton.mp hz]; exact hs) (by omega) (fun z => ?_) hes
    · rw [hl']
      simp only [List.mem_cons, List.not_mem_nil, or_false] at hv
      rcases hv with rfl | rfl | rfl
      · have : m = 1 := by rw [if_neg (by decide)] at hm1; omega
        subst this
        rfl
      · have : m = 1 := by rw [if_neg (by decide)] at hm1; omega
        subst this
        rfl
      · have : m = 2 := by rw [if_pos rfl] at hm1; omega
        subst this
        rfl
    · exfalso
      simp only [List.mem_cons, List.not_mem_nil, or_false] at hv
      rcases hv with rfl | rfl | rfl <;> exact absurd z (by decide)
  have hstack : w ≠ "stack" := of_decide_eq_false hk
  refine sq_next ?_
  refine sq_if (et_test (eg_eqS (eg_var rfl) eg_str)) (fun hk => ?_) fun hk => ?_
  · have hw2 : w = "table" := of_decide_eq_true hk
    subst hw2
    clear hrow hstack hw hk
    refine sq_assoc ?_
    refine SG.mono (a := ((0 + 1) + ((0 + 1) + 0)) + (9 * C)) (sq_tgG (js := [4, 5]) (eg_tupG (ea2G (eg_addG eg_intG (eg_draw (b := 3) hS (by decide) rfl)) (eg_addG eg_intG (eg_draw (b := 3) hS (by decide) rfl))) ?_) ?_ ?_) (by omega) (fun _ h => h) fun _ h => h
    · rintro ds ⟨d1, d2, rfl, ⟨i, _, rfl⟩, j, _, rfl⟩
      exact ⟨rfl, (show 2 ≤ 1000 by decide)⟩
    · rintro d ⟨ds, _, rfl⟩ z
      cases z
    rintro d ⟨ds, ⟨d1, d2, rfl, ⟨i, ⟨x, y, rfl, hy, rfl⟩, rfl⟩, j, ⟨x2, y2, rfl, hy2, rfl⟩, rfl⟩, rfl⟩
    have hy' : 0 ≤ y ∧ y < 3 := hy
    have hy2' : 0 ≤ y2 ∧ y2 < 3 := hy2
    refine ⟨_, tg_two, ?_⟩
    refine sg_retqG (EvG.mono (a := 0 + ((0 + 3 * (0 + 3 * C)) + 0)) (eg_tupG (ea2G (eg_var rfl) (eg_tupleG (eg_parts (lo := 1 + y) (hi := 1 + y) (m := 3) (P := fun d => ∃ ds, d = .tuple ds ∧ ((1 + y2 ≤ (ds.length : Int) ∧ (ds.length : Int) ≤ 1 + y2) ∧ ∀ d ∈ ds, Fd (deep - 2 + 1) d)) (EaG.mono (ea_cons (eg_var rfl) ea_nil) (Nat.le_refl _) fun ds e => ⟨_, e, by omega, by omega⟩) (by omega) (by omega) (by decide) (fun d ⟨ds, e, _⟩ z => by rw [e] at z; cases z)
      fun i => ⟨_, tg_name, eg_tupleG (eg_parts (lo := 1 + y2) (hi := 1 + y2) (m := 3) (P := Fd (deep - 2 + 1)) (EaG.mono (ea_cons (eg_var rfl) ea_nil) (Nat.le_refl _) fun ds e => ⟨_, e, by omega, by omega⟩) (by omega) (by omega) (by decide) (fun d h => h.ne) fun i => ⟨_, tg_name, self2 2 (by omega) (by omega) h2 rfl rfl⟩)⟩))) ?_) (by omega) fun d h => h) ?_
    · rintro ds ⟨d1, d2, rfl, rfl, rs, rfl, _⟩
      exact ⟨rfl, (show 2 ≤ 1000 by decide)⟩
    rintro d ⟨ds, ⟨d1, d2, rfl, rfl, rs, rfl, hl, hrs⟩, rfl⟩
    obtain ⟨rows, rfl, hrl, hrows⟩ := enc_of (enc := PyData.tuple) (P := fun ds : List PyData => (1 + y2 ≤ (ds.length : Int) ∧ (ds.length : Int) ≤ 1 + y2) ∧ ∀ d ∈ ds, Fd (deep - 2 + 1) d) (rs := rs) fun i d e => let ⟨ds, e1, e2⟩ := hrs d (List.mem_of_getElem? e); ⟨ds, e2, e1⟩
    have hfin := Fd.tb (n := deep - 2 + 1) (c := (1 + y2).toNat) (by omega) (by omega) (by omega) (by omega) (fun r hr => by have := (hrows r hr).1; omega) fun r hr d hd => (hrows r hr).2 d hd
    rw [show deep - 2 + 1 + 2 = deep + 1 by omega] at hfin
    exact hfin
  have htable : w ≠ "table" := of_decide_eq_false hk
  refine sq_next ?_
  refine sq_if (et_test (eg_inS (ws := scripts) (eg_var rfl) (eg_tup (ea_cons eg_str (ea_cons eg_str (ea_cons eg_str ea_nil)))))) (fun hk => ?_) fun hk => ?_
  · have hws : w ∈ scripts := of_decide_eq_true hk
    clear hrow hstack htable hw hk
    refine sq_assoc ?_
    refine SG.mono (a := C + (2 * C)) (sq_asgG (self 1 (by omega) (by omega) h2 rfl rfl) fun d1 hd1 => ?_) (by omega) (fun _ h => h) fun _ h => h
    obtain ⟨w1, rest, hw1⟩ := hd1.word
    obtain ⟨first, hf⟩ : ∃ first, first = (if w1 ∈ noBases then .tuple [.str "sign", .str "b"] else d1) := ⟨_, rfl⟩
    have hfd : Fd deep first ∧ baseOk first := by
      rw [hf]
      by_cases z : w1 ∈ noBases
      · rw [if_pos z]
        obtain ⟨e, rfl⟩ : ∃ e, deep = e + 1 := ⟨deep - 1, by omega⟩
        exact ⟨.nd (n := e) (w := "sign") (sg := ["b"]) (ds := []) rfl (fun s hs => by rw [List.mem_singleton.mp hs]; decide) (by decide) (fun z => absurd z (by decide)) fun d hd => by simp at hd, fun w hw => by
          have e2 : w = "sign" := (Option.some.inj hw).symm
          rw [e2]
          decide⟩
      · rw [if_neg z]
        refine ⟨hd1, fun w hw => ?_⟩
        rw [hw1] at hw
        have e2 : w = w1 := (Option.some.inj hw).symm
        rw [e2]
        exact z
    refine sq_assoc ?_
    refine SG.mono (a := 2 * C) (sq_asg (d := first) (eg_if (et_test (eg_inS (w := w1) (ws := noBases) (eg_ixT (ds := .str w1 :: rest) ((eg_var rfl).to hw1) eg_int (atI_zero _ _)) (eg_tup (ea_cons eg_str (ea_cons eg_str (ea_cons eg_str (ea_cons eg_str ea_nil))))))) (fun z => ?_) fun z => ?_) ?_) (by omega) (fun _ h => h) fun _ h => h
    · rw [hf, if_pos (of_decide_eq_true z)]
      exact eg_tup (ea_cons eg_str (ea_cons eg_str ea_nil))
    · rw [hf, if_neg (of_decide_eq_false z)]
      exact eg_var rfl
    obtain ⟨m, hm1, hm2⟩ : ∃ m : Nat, (if w = "both" then (2 : Int) else 1) = (m : Int) ∧ m ≤ 2 := by
      by_cases z : w = "both"
      · exact ⟨2, by rw [if_pos z]; rfl, by decide⟩
      · exact ⟨1, by rw [if_neg z]; rfl, by decide⟩
    refine sg_retqG (EvG.mono (a := 0 + (0 + m * C)) (eg_catTG (P1 := fun ds => ds = [.str w, first]) (P2 := fun es => es.length = m ∧ ∀ d ∈ es, Fd deep d) (EvG.mono (eg_tup (ds := [.str w, first]) (ea_cons (eg_var rfl) (ea_cons (eg_var rfl) ea_nil)) (by
        obtain ⟨w3, r3, e3⟩ := hfd.1.word
        rw [e3]
        rfl)) (Nat.le_refl _) fun d e => ⟨_, e, rfl⟩)
      (EvG.mono (eg_tupleG (eg_parts (lo := (m : Int)) (hi := (m : Int)) (m := m) (P := Fd deep) (EaG.mono (ea_cons (eg_num (w := w) rfl) ea_nil) (Nat.le_refl _) fun ds e => ⟨_, e, by omega, by omega⟩) (by omega) (Int.le_refl _) (by omega) (fun d h => h.ne) fun i => ⟨_, tg_name, self 1 (by omega) (by omega) h2 rfl rfl⟩)) (Nat.le_refl _) fun d ⟨ds, e, hl, hd⟩ => ⟨ds, e, by omega, hd⟩)
      (fun ds e => by rw [e]; exact ⟨by simp, (show 2 ≤ 100000 by decide)⟩) fun es h => by have := h.1; omega) (by have := Nat.mul_le_mul_right C hm2; omega) fun d h => h) ?_
    rintro d ⟨ds, es, rfl, rfl, hl, hes⟩
    refine .nd (n := deep) (w := w) (sg := []) (ds := first :: es) ?_ (fun z hz => by simp at hz) (by rw [List.length_cons]; omega) (fun _ d hd => ?_) fun d hd => ?_
    · rw [List.length_cons, hl]
      simp only [scripts, List.mem_cons, List.not_mem_nil, or_false] at hws
      rcases hws with rfl | rfl | rfl
      · have : m = 1 := by rw [if_neg (by decide)] at hm1; omega
        subst this
        rfl
      · have : m = 1 := by rw [if_neg (by decide)] at hm1; omega
        subst this
        rfl
      · have : m = 2 := by rw [if_pos rfl] at hm1; omega
        subst this
        rfl
    · have e : d = first := by simpa using hd.symm
      rw [e]
      exact hfd.2
    · rcases List.mem_cons.mp hd with rfl | hd
      · exact hfd.1
      · exact hes d hd
  have hsc : w ∉ scripts := of_decide_eq_false hk
  refine sq_next ?_
  obtain ⟨m, hm1, hm2⟩ : ∃ m : Nat, (if w = "over" then (2 : Int) else 1) = (m : Int) ∧ m ≤ 2 := by
    by_cases z : w = "over"
    · exact ⟨2, by rw [if_pos z]; rfl, by decide⟩
    · exact ⟨1, by rw [if_neg z]; rfl, by decide⟩
  refine SG.mono (a := 0 + (0 + m * C)) (sg_retG (eg_catTG (P1 := fun ds => ds = [.str w]) (P2 := fun es => es.length = m ∧ ∀ d ∈ es, Fd deep d) (EvG.mono (eg_tup (ea_cons (eg_var rfl) ea_nil)) (Nat.le_refl _) fun d e => ⟨_, e, rfl⟩)
      (EvG.mono (eg_tupleG (eg_parts (lo := (m : Int)) (hi := (m : Int)) (m := m) (P := Fd deep) (EaG.mono (ea_cons (eg_num (w := w) rfl) ea_nil) (Nat.le_refl _) fun ds e => ⟨_, e, by omega, by omega⟩) (by omega) (Int.le_refl _) (by omega) (fun d h => h.ne) fun i => ⟨_, tg_name, self 1 (by omega) (by omega) h2 rfl rfl⟩)) (Nat.le_refl _) fun d ⟨ds, e, hl, hd⟩ => ⟨ds, e, by omega, hd⟩)
      (fun ds e => by rw [e]; exact ⟨by simp, (show 1 ≤ 100000 by decide)⟩) fun es h => by have := h.1; omega) ?_) (by have := Nat.mul_le_mul_right C hm2; omega) (fun _ h => h) fun _ h => h
  rintro d ⟨ds, es, rfl, rfl, hl, hes⟩
  refine .nd (n := deep) (w := w) (sg := []) (ds := es) ?_ (fun z hz => by simp at hz) (by omega) (fun z => absurd z hsc) hes
  rw [hl]
  simp only [words12, List.mem_cons, List.not_mem_nil, or_false] at hw
  rcases hw with rfl | rfl | rfl | rfl | rfl | rfl | rfl | rfl | rfl | rfl | rfl | rfl
  · exact absurd rfl hrow
  · exact absurd rfl hrow
  · have : m = 2 := by rw [if_pos rfl] at hm1; omega
    subst this
    rfl
  · have : m = 2 := by rw [if_pos rfl] at hm1; omega
    subst this
    rfl
  · have : m = 1 := by rw [if_neg (by decide)] at hm1; omega
    subst this
    rfl
  · exact absurd (by decide) hsc
  · exact absurd (by decide) hsc
  · exact absurd (by decide) hsc
  · exact absurd rfl hstack
  · have : m = 1 := by rw [if_neg (by decide)] at hm1; omega
    subst this
    rfl
  · have : m = 1 := by rw [if_neg (by decide)] at hm1; omega
    subst this
    rfl
  · exact absurd rfl htable

end V1

set_option Elab.async false
set_option linter.all false
set_option maxRecDepth 100000
set_option maxHeartbeats 4000000
namespace V1
open PySem PySem.Spec PyProof.Rows L2
variable {P : Program} {w : World} {K : PySem.W.Frag} {mg : Str → Option Value} {base : Heap}
/-- what the module's constants are -/
structure KW (K : PySem.W.Frag) (w : World) (d : Addr) where
  es : Array DictEntry
  n : Nat
  D : KDict K w d es n
def wantedL : List (Str × List Str) := [("sign", ["sign"]), ("over", ["part", "part"]), ("root", ["part"]), ("high", ["base", "part"]), ("low", ["base", "part"]), ("both", ["base", "part", "part"]), ("under", ["sign", "part"]), ("upper", ["sign", "part"]), ("limits", ["sign", "part", "part"]), ("fence", ["part"]), ("bar", ["part"]), ("table", ["rows"])]
def wanted (w : Str) : Option (List Str) := wantedL.lookup w
structure Cst (K : PySem.W.Frag) (w : World) (mg : Str → Option Value) where
  ws : Addr
  sc : Addr
  h_WITH_SIGN : mg "WITH_SIGN" = some (.ref ws)
  h_WITH_SCRIPTS : mg "WITH_SCRIPTS" = some (.ref sc)
  s_ws : ∀ H, SqT K H ws ((["sign", "under", "upper", "limits"] : List Str).map V.str)
  s_sc : ∀ H, SqT K H sc ((["high", "low", "both", "under", "upper", "limits"] : List Str).map V.str)
theorem ix_kdK {X : Cx} {K : PySem.W.Frag} {w : World} (h : X.K = K) (h2 : X.w = w) : IxR X (rIxD K w) := by
  subst h h2
  exact ix_kdict
section
variable {L : Rl} {Γ : List (Option PyData)} {t : TA} {te ta tb : TE} {tt tu : TT} {E : XK} {a b c m n : Nat}
theorem et_andC {k k2 : Bool} (h : EtD L tt Γ k) (h2 : k = true → EtD L tu Γ k2) : EtD L (tAnd tt tu) Γ (k && k2) := fun A σ H hi he hg Q q => h A σ H hi he hg _ fun H1 r1 => by
  cases k with
  | false => exact q H1 r1
  | true => exact h2 rfl A σ H1 (hi.r r1) (he.r r1) (Rl.gR (b := 0) hg r1) Q fun H2 r2 => q H2 (L.tr (a := 0) (b := 0) r1 r2)
end
theorem hd_ne {d : PyData} (h : d.hasDict = false) : d ≠ mark := fun z => by
  rw [z] at h
  simp [PyData.hasDict] at h
theorem hd_nomk {d : PyData} (h : d.hasDict = false) : nomk [d] = true := by
  cases d with
  | dict k => simp [PyData.hasDict] at h
  | _ => rfl
theorem hd_all {ds : List PyData} (h : PyData.hasDictAll ds = false) : ∀ d ∈ ds, d.hasDict = false := by
  induction ds with
  | nil => intro d hd; simp at hd
  | cons x r ih =>
    simp only [PyData.hasDictAll, Bool.or_eq_false_iff] at h
    intro d hd
    rcases List.mem_cons.mp hd with rfl | hd
    · exact h.1
    · exact ih h.2 d hd
theorem hd_tup {ds : List PyData} (h : (PyData.tuple ds).hasDict = false) : ∀ d ∈ ds, d.hasDict = false := hd_all (by simpa only [PyData.hasDict] using h)

def wordO (d : PyData) : PyData := match wordD d with
  | some w => .str w
  | none => .none
def hasForm (d : PyData) : Bool := match d with
  | .tuple (.str w :: r) => if w = "row" then decide (1 ≤ r.length) else match wanted w with
    | some ks => decide (r.length = ks.length)
    | none => false
  | _ => false
end V1
set_option Elab.async false
set_option linter.all false
set_option maxRecDepth 100000
set_option maxHeartbeats 4000000
namespace V1
open PySem PySem.Spec PyProof.Rows L2
variable {P : Program} {w : World} {K : PySem.W.Frag} {mg : Str → Option Value} {base : Heap}
abbrev s_thing_at : Stmt := top 4
abbrev n_thing_at : List Str := ["value", "path", "place"]
theorem sc_thing_at : FnScope n_thing_at ["value", "path"] (defScope s_thing_at) := ⟨rfl, rfl, rfl, by decide +kernel, rfl, by decide +kernel, by decide +kernel⟩
/-- what a path leads to, by tuples -/
def atP : PyData → List Int → Option PyData
  | d, [] => some d
  | .tuple ds, i :: p => (atI ds i).bind fun x => atP x p
  | _, _ :: _ => none
structure AP where
  d : PyData
  p : List Int
  x : PyData
def sp_thing_at (K : PySem.W.Frag) : Sp := spR K (fun a : AP => [a.d, tI a.p]) (fun a => a.d.hasDict = false ∧ atP a.d a.p = some a.x) fun a => a.x
theorem atP_cons {d x : PyData} {i : Int} {p : List Int} (h : atP d (i :: p) = some x) : ∃ ds y, d = .tuple ds ∧ atI ds i = some y ∧ atP y p = some x := by
  cases d with
  | tuple ds =>
    have h2 : (atI ds i).bind (fun x => atP x p) = some x := h
    cases hj : atI ds i with
    | none => rw [hj] at h2; cases h2
    | some y =>
      rw [hj] at h2
      exact ⟨ds, y, rfl, hj, h2⟩
  | _ => cases h
theorem ok_thing_at {f : Addr} {fd : FuncData} (T : Bt K mg) (C : Cst K w mg) (D : Df K mg "thing_at" s_thing_at ["value", "path"] f fd) : Cal P w K mg base "thing_at" s_thing_at ["value", "path"] 1 (sp_thing_at K) f fd := by
  refine ok_R D sc_thing_at (fun _ => rfl) fun cdv A outer s H E hgd hr => ⟨_, (pss_cons (ps_for PassesOwn.never rfl (pi_tup (pv 1)) (pg_name (i := 2) sc_thing_at.nd rfl (Or.inl rfl))
        (pss_one (ps_set (i := 0) sc_thing_at.nd rfl (Or.inl rfl) (pe_ix (ix_tupK (K := K) rfl) (pv 0) (pv 2) (fun _ _ => rfl)))))
        (pss_one (ps_ret (pv 0)))), ?_⟩
  rintro ⟨d, p, x⟩ ⟨h1, h2⟩
  have h2' : atP d p = some x := h2
  show SG (pureL K) 0 _ [some d, some (tI p), none] _ (fun r => r = x)
  refine sg_seq (N1 := fun G => ∃ u, G = [some x, some (tI p), u]) (sg_for (js := [2]) (fun i G => ∃ y u, G = [some y, some (tI p), u] ∧ atP y (p.drop i) = some x) (wk_tup (eg_var rfl)) ⟨d, none, rfl, h2'⟩ ?_ ?_) ?_
  · rintro i e G hd ⟨y, u, rfl, hy⟩
    obtain ⟨j, hj, _, rfl⟩ := map_at hd
    have hl := (List.getElem?_eq_some_iff.mp hj).1
    have hd2 : p.drop i = j :: p.drop (i + 1) := by
      rw [List.drop_eq_getElem_cons hl]
      congr 1
      exact (List.getElem?_eq_some_iff.mp hj).2
    rw [hd2] at hy
    obtain ⟨ds, z, rfl, e1, e2⟩ := atP_cons hy
    exact ⟨_, tg_name, sg_asg (eg_ixT (eg_var (i := 0) rfl) (eg_var (i := 2) rfl) e1) ⟨z, _, rfl, e2⟩⟩
  · rintro G ⟨y, u, rfl, hy⟩
    rw [List.length_map, List.drop_of_length_le (Nat.le_refl _)] at hy
    have e : y = x := by
      cases y <;> exact Option.some.inj hy
    subst e
    exact ⟨u, rfl⟩
  · rintro G ⟨u, rfl⟩
    exact sg_ret (eg_var rfl) rfl

abbrev s_level_below : Stmt := top 5
abbrev n_level_below : List Str := ["formula", "level", "way"]
theorem sc_level_below : FnScope n_level_below ["formula", "level", "way"] (defScope s_level_below) := ⟨rfl, rfl, rfl, by decide +kernel, rfl, by decide +kernel, by decide +kernel⟩
structure LB where
  w : Str
  r : List PyData
  lev : Int
  i : Int
  way : List Int
abbrev withScripts : List Str := ["high", "low", "both", "under", "upper", "limits"]
def lowB (w : Str) (i : Int) : Bool := decide (w = "over") || (decide (w ∈ withScripts) && decide (1 < i))
def sp_level_below (K : PySem.W.Frag) : Sp := spR K (fun a : LB => [.tuple (.str a.w :: a.r), .int a.lev, tI (a.i :: a.way)]) (fun _ => True) fun a => .int (if lowB a.w a.i then a.lev + 1 else a.lev)
theorem ok_level_below {f : Addr} {fd : FuncData} (T : Bt K mg) (C : Cst K w mg) (D : Df K mg "level_below" s_level_below ["formula", "level", "way"] f fd) : Cal P w K mg base "level_below" s_level_below ["formula", "level", "way"] 1 (sp_level_below K) f fd := by
  refine ok_R D sc_level_below (fun _ => rfl) fun cdv A outer s H E hgd hr => ⟨_, (pss_cons (ps_if (PW.pt (pw_or (pt_cmpR op_eq (pe_ix (ix_tupK (K := K) rfl) (pv 0) pe_int (fun _ _ => rfl)) pe_str (nomark _)) (pw_or1 (PW.pt (pw_and (pt_cmpR op_in_seq (pe_ix (ix_tupK (K := K) rfl) (pv 0) pe_int (fun _ _ => rfl)) (pe_glob (v := .ref C.sc) (by rfl) C.h_WITH_SCRIPTS rfl) (by rfl)) (pw_and1 (pt_cmpR op_gt (pe_ix (ix_tupK (K := K) rfl) (pv 2) pe_int (fun _ _ => rfl)) pe_int (nomark _)))))))) (pss_one (ps_ret (pe_op op_add (pv 1) pe_int))) pss_nil)
        (pss_one (ps_ret (pv 1)))), ?_⟩
  rintro ⟨w, r, lev, i, way⟩ _
  show SG (pureL K) 0 _ [some (.tuple (.str w :: r)), some (.int lev), some (tI (i :: way))] _ (fun d => d = .int (if lowB w i then lev + 1 else lev))
  have word : ∀ {Γ : List (Option PyData)}, Γ[0]? = some (some (.tuple (.str w :: r))) → EvD (pureL K) (tOp (rIxT K) (tVar 0) (tC (.int 0))) Γ (.str w) := fun e => eg_ixT (L := pureL K) (eg_var e) eg_int (atI_zero _ _)
  by_cases ho : w = "over"
  · have e : lowB w i = true := by unfold lowB; rw [decide_eq_true ho]; rfl
    rw [e]
    exact sq_if (k := true) (fun A σ H hi he hg Q q => et_or1 (et_is (et_test (eg_eqS (word rfl) eg_str)) (decide_eq_true ho)) A σ H hi he hg Q q) (fun _ => sg_retq (eg_add (eg_var rfl) eg_int) rfl) fun z => by cases z
  · have e : lowB w i = (decide (w ∈ withScripts) && decide (1 < i)) := by unfold lowB; rw [decide_eq_false ho]; rfl
    rw [e]
    refine sq_if (et_or0 (et_is (et_test (eg_eqS (word rfl) eg_str)) (decide_eq_false ho)) (et_andC (et_test (eg_inS (ws := withScripts) (word rfl) (eg_gtup (L := pureL K) C.s_sc))) fun _ => et_test (eg_gt (eg_ixT (eg_var (i := 2) rfl) eg_int (atI_zero _ _)) eg_int))) (fun hk => ?_) fun hk => ?_
    · rw [hk]
      exact sg_retq (eg_add (eg_var rfl) eg_int) rfl
    · rw [hk]
      exact sq_next (sg_ret (eg_var rfl) rfl)

end V1
set_option Elab.async false
set_option linter.all false
set_option maxRecDepth 100000
set_option maxHeartbeats 4000000
namespace V1
open PySem PySem.Spec PyProof.Rows L2
variable {P : Program} {w : World} {K : PySem.W.Frag} {mg : Str → Option Value} {base : Heap}
abbrev s_ways_down : Stmt := top 3
abbrev n_ways_down : List Str := ["formula", "rows", "first", "row", "column", "place"]
theorem sc_ways_down : FnScope n_ways_down ["formula"] (defScope s_ways_down) := ⟨rfl, rfl, rfl, by decide +kernel, rfl, by decide +kernel, by decide +kernel⟩
structure WY where
  w : Str
  r : List PyData
def rngL (lo : Int) (n : Nat) : List PyData := (List.range n).map fun (i : Nat) => PyData.tuple [.int (lo + (i : Int))]
def cellD (i k : Nat) : PyData := .tuple [.int 1, .int (0 + (i : Int)), .int (0 + (k : Int))]
def waysD (w : Str) (r : List PyData) : List PyData :=
  if w = "table" then match r with
    | .tuple (.tuple first :: rows) :: _ => flatR (fun _ => rngD 0 first.length) cellD (rows.length + 1)
    | _ => []
  else
    let lo : Int := if w ∈ (["sign", "under", "upper", "limits"] : List Str) then 2 else 1
    rngL lo ((r.length + 1 : Nat) - lo).toNat
def sp_ways_down (K : PySem.W.Frag) : Sp := spR K (fun a : WY => [.tuple (.str a.w :: a.r)]) (fun a => (a.w = "table" → ∃ rows first fr, a.r = .tuple (.tuple first :: rows) :: fr ∧ rows.length ≤ 900 ∧ first.length ≤ 900) ∧ a.r.length ≤ 900) fun a => .list (waysD a.w a.r)
theorem sq_as {L : Rl} {a : Nat} {ts u z : TS} {Γ : List (Option PyData)} {N : List (Option PyData) → Prop} {Rt : PyData → Prop} (h : SG L a (tSeq ts (tSeq u z)) Γ N Rt) : SG L a (tSeq (tSeq ts u) z) Γ N Rt := h
theorem atI_one {α : Type} (x y : α) (xs : List α) : atI (x :: y :: xs) 1 = some y := by
  unfold atI ixN
  rw [if_pos (by decide), if_pos (by simp only [List.length_cons]; omega)]
  rfl
theorem rng_atL {lo : Int} {n i : Nat} {d : PyData} (h : (rngD lo n)[i]? = some d) : d = .int (lo + (i : Int)) ∧ i < n := by
  have hl := (List.getElem?_eq_some_iff.mp h).1
  unfold rngD at h hl
  rw [List.length_map, List.length_range] at hl
  rw [List.getElem?_map, List.getElem?_range hl] at h
  exact ⟨(Option.some.inj h).symm, hl⟩
theorem rng_at {n i : Nat} {d : PyData} (h : (rngD 0 n)[i]? = some d) : d = .int (0 + (i : Int)) := (rng_atL h).1
theorem rngL_at {lo : Int} {n i : Nat} {d x : PyData} (h : (rngD lo n)[i]? = some d) (h2 : (rngL lo n)[i]? = some x) : d = .int (lo + (i : Int)) ∧ x = .tuple [.int (lo + (i : Int))] := by
  obtain ⟨e, hl⟩ := rng_atL h
  unfold rngL at h2
  rw [List.getElem?_map, List.getElem?_range hl] at h2
  exact ⟨e, (Option.some.inj h2).symm⟩
theorem ok_ways_down {f : Addr} {fd : FuncData} (T : Bt K mg) (C : Cst K w mg) (D : Df K mg "ways_down" s_ways_down ["formula"] f fd) : Cal P w K mg base "ways_down" s_ways_down ["formula"] 1 (sp_ways_down K) f fd := by
  refine ok_R D sc_ways_down (fun _ => rfl) fun cdv A outer s H E hgd hr => ⟨_, (pss_cons (ps_if (pt_cmpR op_eq (pe_ix (ix_tupK (K := K) rfl) (pv 0) pe_int (fun _ _ => rfl)) pe_str (nomark _)) (pss_cons (ps_set (i := 1) sc_ways_down.nd rfl (Or.inr rfl) (pe_ix (ix_tupK (K := K) rfl) (pv 0) pe_int (fun _ _ => rfl)))
        (pss_one (ps_ret (pe_lc2 (own := [("row", 3), ("column", 4)]) (vs1 := [4]) (g := gName 3) (g1 := gName 4) (tt := tYes) (tt1 := tYes) rfl sc_ways_down.nd (pi_range1 (by rfl) T.range (pa_cons (pe_callB call_len_seq (by rfl) T.len PySem.boot_len (pa_cons (pv 1) pa_nil)) pa_nil)) (blkOk_by (own := [("row", 3), ("column", 4)]) (N := n_ways_down) (sc := defScope s_ways_down) (by decide +kernel)) (by decide) (fun _ _ _ _ _ => (pg_name (i := 3) sc_ways_down.nd rfl (Or.inl rfl))) (fun _ _ _ _ _ => pts_nil) (fun _ _ _ _ _ => (pi_range1 (by rfl) T.range (pa_cons (pe_callB (call_lenK (K := K) rfl) (by rfl) T.len PySem.boot_len (pa_cons (pe_ix (ix_tupK (K := K) rfl) (pv 1) pe_int (fun _ _ => rfl)) pa_nil)) pa_nil))) (fun _ _ _ _ _ => (pg_name (i := 4) sc_ways_down.nd rfl (Or.inl rfl))) (fun _ _ _ _ _ => pts_nil) (fun _ _ _ _ _ => (pe_tup (pa_cons pe_int (pa_cons (pv 3) (pa_cons (pv 4) pa_nil))))))))) pss_nil)
        (pss_cons (ps_set (i := 2) sc_ways_down.nd rfl (Or.inl rfl) (pe_ifExp (pt_cmpR op_in_seq (pe_ix (ix_tupK (K := K) rfl) (pv 0) pe_int (fun _ _ => rfl)) (pe_glob (v := .ref C.ws) (by rfl) C.h_WITH_SIGN rfl) (by rfl)) pe_int pe_int))
        (pss_one (ps_ret (pe_lc (own := [("place", 5)]) (g := gName 5) (tt := tYes) rfl sc_ways_down.nd (pi_range2 (by rfl) T.range (pa_cons (pv 2) (pa_cons (pe_callB call_len_seq (by rfl) T.len PySem.boot_len (pa_cons (pv 0) pa_nil)) pa_nil))) (blkOk_by (own := [("place", 5)]) (N := n_ways_down) (sc := defScope s_ways_down) (by decide +kernel)) (fun _ _ _ _ _ => (pg_name (i := 5) sc_ways_down.nd rfl (Or.inl rfl))) (fun _ _ _ _ _ => pts_nil) (fun _ _ _ _ _ => (pe_tup (pa_cons (pv 5) pa_nil)))))))), ?_⟩
  rintro ⟨w, r⟩ ⟨h1, h2⟩
  have h2 : r.length ≤ 900 := h2
  show SG (pureL K) 0 _ [some (.tuple (.str w :: r)), none, none, none, none, none] _ (fun d => d = .list (waysD w r))
  have word : ∀ {Γ : List (Option PyData)}, Γ[0]? = some (some (.tuple (.str w :: r))) → EvD (pureL K) (tOp (rIxT K) (tVar 0) (tC (.int 0))) Γ (.str w) := fun e => eg_ixT (L := pureL K) (eg_var e) eg_int (atI_zero _ _)
  refine sq_if (et_test (eg_eqS (word rfl) eg_str)) (fun hk => ?_) fun hk => ?_
  · have ew : w = "table" := of_decide_eq_true hk
    obtain ⟨rows, first, fr, rfl, l1, l2⟩ := h1 ew
    refine sq_as (sq_asg (i := 1) (d := .tuple (.tuple first :: rows)) (eg_ixT (L := pureL K) (eg_var (i := 0) rfl) eg_int (atI_one _ _ _)) ?_)
    show SG (pureL K) 0 _ [some (.tuple (.str w :: .tuple (.tuple first :: rows) :: fr)), some (.tuple (.tuple first :: rows)), none, none, none, none] _ _
    refine sg_retq (d := .list (flatR (fun _ => rngD 0 first.length) cellD (rngD 0 (rows.length + 1)).length)) (eg_lc2 (js := [3]) (js1 := [4]) (inn := fun _ => rngD 0 first.length) (wk_rng1 (j := ((rows.length + 1 : Nat) : Int)) (ea_cons (eg_cb (ea_cons (eg_var rfl) ea_nil) cs_lenT) ea_nil) (by omega)) (by simp) (by simp) (by rw [rng_len]; omega) (fun _ => by rw [rng_len]; omega) ?_) ?_
    · intro i d hd
      obtain rfl := rng_at hd
      refine ⟨_, tg_name, wk_rng1 (j := (first.length : Int)) (ea_cons (eg_cb (ea_cons (eg_ixT (L := pureL K) (eg_var (i := 1) rfl) eg_int (atI_zero _ _)) ea_nil) cs_lenT) ea_nil) (by omega), fun k e he => ?_⟩
      obtain rfl := rng_at he
      exact ⟨_, tg_name, (fun z => by cases z), eg_tup (ea_cons eg_int (ea_cons (eg_var (i := 3) rfl) (ea_cons (eg_var (i := 4) rfl) ea_nil)))⟩
    · rw [rng_len]
      unfold waysD
      rw [if_pos ew]
  · have ew : ¬ w = "table" := of_decide_eq_false hk
    refine sq_next (sg_seq (N1 := fun G => ∃ lo : Int, lo = (if w ∈ (["sign", "under", "upper", "limits"] : List Str) then 2 else 1) ∧ G = [some (.tuple (.str w :: r)), none, some (.int lo), none, none, none]) (sg_asg (d := .int (if w ∈ (["sign", "under", "upper", "limits"] : List Str) then 2 else 1)) (eg_if (et_test (eg_inS (ws := ["sign", "under", "upper", "limits"]) (word rfl) (eg_gtup (L := pureL K) C.s_ws))) (fun z => by rw [if_pos (of_decide_eq_true z)]; exact eg_int) (fun z => by rw [if_neg (of_decide_eq_false z)]; exact eg_int)) ⟨_, rfl, rfl⟩) ?_)
    rintro G ⟨lo, hlo, rfl⟩
    have hl : 1 ≤ lo ∧ lo ≤ 2 := by
      rw [hlo]
      split <;> omega
    refine sg_ret (d := .list (rngL lo (((r.length + 1 : Nat) : Int) - lo).toNat)) (eg_lc (js := [5]) (wk_rng2 (i0 := lo) (j0 := ((r.length + 1 : Nat) : Int)) (ea_cons (eg_var (i := 2) rfl) (ea_cons (eg_cb (ea_cons (eg_var (i := 0) rfl) ea_nil) cs_lenT) ea_nil)) (by omega)) (by simp) (by unfold rngD; rw [List.length_map, List.length_range]; omega) (by simp [rngL, rngD]) ?_) ?_
    · intro i d x hd hx
      obtain ⟨rfl, rfl⟩ := rngL_at hd hx
      exact ⟨(fun z => by cases z), _, tg_name, eg_tup (ea_cons (eg_var (i := 5) rfl) ea_nil)⟩
    · unfold waysD
      rw [if_neg ew, ← hlo]

end V1
set_option Elab.async false
set_option linter.all false
set_option maxRecDepth 100000
set_option maxHeartbeats 4000000
/-! (rules) tuple * int for any int, tuple + tuple, slices of tuples: by data. -/
namespace V1
open PySem PySem.Spec PyProof.Rows L2
theorem tmul_self (l : Addr) (items : Array Value) (n : Nat) (dd : Option Addr) (sl : Array (Option Value)) (x : Int) (u : Tok) (c0 : (decide (x < -(2 ^ 63)) || decide (x ≥ 2 ^ 63)) = false) (c1 : (items.isEmpty || x == 1) = true) :
    Meets (Builtin.«tuple.__mul__» ⟨[.ref l, .int x u], []⟩) (fun _ R s => s.heap.get? l = some { cls := .type "tuple", dict := dd, data := .seq items n, slots := sl } ∧ R (.ok (.ret (Value.ref l))) s) :=
  .of_wp fun prog w A R s h => by
    obtain ⟨hp, g, d, tk, os⟩ := s
    obtain ⟨hl, h⟩ := h
    have f1 := AutoSeq1.idx_int
    wp_walk using wpAny_loadPart' hl
    repeat (first
      | (refine wpAny_ite_false (decide_eq_false (by rw [c0]; exact Bool.false_ne_true)) ?_; wp_walk using wpAny_loadPart' hl)
      | (refine wpAny_ite_true (decide_eq_true c1) ?_; wp_walk using wpAny_loadPart' hl)
      | (refine wpAny_ite_true (by simpa using c1) ?_; wp_walk using wpAny_loadPart' hl))
    exact ⟨_, rfl, h⟩
theorem tmul_none (l : Addr) (items : Array Value) (n : Nat) (dd : Option Addr) (sl : Array (Option Value)) (x : Int) (u : Tok) (c0 : (decide (x < -(2 ^ 63)) || decide (x ≥ 2 ^ 63)) = false) (c1 : (items.isEmpty || x == 1) = false) (c2 : (decide (x ≤ 0) || items.isEmpty) = true) :
    Meets (Builtin.«tuple.__mul__» ⟨[.ref l, .int x u], []⟩) (fun _ R s => s.heap.get? l = some { cls := .type "tuple", dict := dd, data := .seq items n, slots := sl } ∧
      R (.ok (.ret (Value.ref s.heap.objs.size))) { s with heap := s.heap.push { cls := Value.type "tuple", data := Data.seq #[] }, toks := s.toks }) :=
  .of_wp fun prog w A R s h => by
    obtain ⟨hp, g, d, tk, os⟩ := s
    obtain ⟨hl, h⟩ := h
    have f1 := AutoSeq1.idx_int
    wp_walk using wpAny_loadPart' hl
    repeat (first
      | (refine wpAny_ite_false (decide_eq_false (by rw [c0]; exact Bool.false_ne_true)) ?_; wp_walk using wpAny_loadPart' hl)
      | (refine wpAny_ite_false (decide_eq_false (by rw [c1]; exact Bool.false_ne_true)) ?_; wp_walk using wpAny_loadPart' hl)
      | (refine wpAny_ite_true (decide_eq_true c2) ?_; wp_walk using wpAny_loadPart' hl))
    exact ⟨_, rfl, h⟩

/-- t * k -/
def rRepA (K : PySem.W.Frag) : R2 := fun x y H Q => ∃ l k xs, x = .ref l ∧ y = .int k ∧ SqT K H l xs ∧ 0 ≤ k ∧ k ≤ 1000 ∧ xs.length ≤ 1000 ∧ ((xs = [] ∨ k = 1) → Q (.ref l) H) ∧
  (xs ≠ [] → k ≠ 1 → ∀ p, H p = none → Q (.ref p) (upd H p (.tup (List.replicate k.toNat xs).flatten)))
theorem op_repA {X : Cx} : OpR X (binaryOp .Mult) (rRepA X.K) := by
  intro pins s σ H x y v u Q I rx ry h
  obtain ⟨l, k, xs, rfl, rfl, hT, h1, h2, hz, q0, q1⟩ := h
  by_cases hs : xs ≠ [] ∧ 2 ≤ k
  · exact op_repT pins s σ H _ _ v u Q I rx ry ⟨l, k, xs, rfl, rfl, hT, hs.1, hs.2, h2, hz, q1 hs.1 (by omega)⟩
  cases rx
  obtain ⟨t, rfl⟩ := ry
  obtain ⟨its, r, ⟨⟨cls, dd, data, sl⟩, ho, hc, n, hd⟩, hsz⟩ := I.tuple hT
  simp only at hc hd
  subst hc hd
  have hle : its.length = xs.length := r.length.symm
  have c0 : (decide (k < -(2 ^ 63)) || decide (k ≥ 2 ^ 63)) = false := by
    rw [decide_eq_false (by omega), decide_eq_false (by omega)] <;> rfl
  have ie : its.toArray.isEmpty = xs.isEmpty := by
    cases its with
    | nil =>
      have : xs = [] := List.length_eq_zero_iff.mp (by rw [← hle]; rfl)
      subst this
      rfl
    | cons a b =>
      cases xs with
      | nil => simp at hle
      | cons c d => rfl
  have go : ∀ {R : Result → Shared → Prop}, (codeAny (model X.prog X.w) X.A (.call (.builtin "tuple.__mul__") ⟨[.ref l, .int k t], []⟩) R s → codeAny (model X.prog X.w) X.A (.call (.builtin "tuple.__mul__") ⟨[.ref l, .int k t], []⟩) R s) := fun h => h
  by_cases hone : xs = [] ∨ k = 1
  · have c1 : (its.toArray.isEmpty || k == 1) = true := by
      rw [ie]
      rcases hone with z | z
      · rw [z]; rfl
      · rw [z]; simp
    exact wpAny_binaryOp_repeat_ref (T := "tuple") (U := "int") (by decide) ⟨_, ho, rfl⟩ (fun s' => typeIs_int s' k t) noFill_tuple_mul F.fills_int_mul F.slot_int_rmul repeat_tuple F.slot_int_index.lookup
      (call_meets F.slot_int_rmul (typeIs_int s k t) F.entry_int_rmul (F.args_int_rmul_2 _ _) (int_rmul_tuple k t l its.toArray n dd sl)
        ⟨ho, rfl, ⟨_, ho, rfl⟩, call_meets F.slot_tuple_mul ⟨_, ho, rfl⟩ F.entry_tuple_mul (F.args_tuple_mul_2 _ _) (tmul_self l its.toArray n dd sl k t c0 c1) ⟨ho, ⟨.ref l, H, I, rfl, q0 hone⟩⟩⟩)
  · have hx : xs ≠ [] := fun z => hone (.inl z)
    have hk1 : k ≠ 1 := fun z => hone (.inr z)
    have hk : k = 0 := by
      by_cases h2 : 2 ≤ k
      · exact absurd ⟨hx, h2⟩ hs
      · omega
    subst hk
    have xe : xs.isEmpty = false := by
      cases xs with
      | nil => exact absurd rfl hx
      | cons c d => rfl
    have c1 : (its.toArray.isEmpty || (0 : Int) == 1) = false := by rw [ie, xe]; rfl
    have c2 : (decide ((0 : Int) ≤ 0) || its.toArray.isEmpty) = true := by simp
    refine wpAny_binaryOp_repeat_ref (T := "tuple") (U := "int") (by decide) ⟨_, ho, rfl⟩ (fun s' => typeIs_int s' 0 t) noFill_tuple_mul F.fills_int_mul F.slot_int_rmul repeat_tuple F.slot_int_index.lookup
      (call_meets F.slot_int_rmul (typeIs_int s 0 t) F.entry_int_rmul (F.args_int_rmul_2 _ _) (int_rmul_tuple 0 t l its.toArray n dd sl)
        ⟨ho, rfl, ⟨_, ho, rfl⟩, call_meets F.slot_tuple_mul ⟨_, ho, rfl⟩ F.entry_tuple_mul (F.args_tuple_mul_2 _ _) (tmul_none l its.toArray n dd sl 0 t c0 c1 c2) ⟨ho, ?_⟩⟩)
    refine ⟨.ref s.heap.objs.size, _, I.laid (t' := s.toks) (o := .tup []) (fun b ob q => Heap.get?_push_of_some _ q) (Nat.le_refl _) ?_, rfl, q1 hx (by decide) _ (I.hok.fresh (Nat.le_refl _))⟩
    exact ⟨by rw [sizeLine_eq]; exact Nat.zero_le _, _, .nil, IsTup.new _ _⟩
section
variable {L : Rl} {Γ : List (Option PyData)} {t : TA} {te ta tb : TE} {tt tu : TT} {E : XK} {a b c m n : Nat}
theorem dv_tup0 {A : Addr → Prop} {H : Hp} {p : Addr} {xs : List V} {ds : List PyData} (h : TpAt L.K A H p xs) (r : DvAll L.K A H xs ds) : Dq L A H (.ref p) (.tuple ds) := .inr (h.dv r)
theorem eg_catA {ds es : List PyData} (ha : EvD L ta Γ (.tuple ds)) (hb : EvD L tb Γ (.tuple es)) (hl : ds.length + es.length ≤ 100000) : EvD L (tOp (rCatA L.K) ta tb) Γ (.tuple (ds ++ es)) := eg_op ha hb fun A H x y hi hg hx hy Q q => by
  obtain ⟨p, xs, rfl, e, r⟩ := hx.tuple
  obtain ⟨p2, ys, rfl, e2, r2⟩ := hy.tuple
  refine ⟨p, p2, xs, ys, rfl, rfl, e.sq, e2.sq, Nat.le_trans (by rw [r.length, r2.length]; exact hl) (by decide), fun z => ?_, fun _ z => ?_, fun _ _ l hl2 => ?_⟩
  · have e3 : ds = [] := List.length_eq_zero_iff.mp (by rw [← r.length, z]; rfl)
    subst e3
    exact q _ _ H (Rl.refl hg) (dv_tup0 e2 r2) (by rw [List.nil_append])
  · have e3 : es = [] := List.length_eq_zero_iff.mp (by rw [← r2.length, z]; rfl)
    subst e3
    exact q _ _ H (Rl.refl hg) (dv_tup0 e r) (by rw [List.append_nil])
  · have rr := Rl.newR (o := .tup (xs ++ ys)) hg hl2
    exact q _ _ _ rr (.inr (.tup (hi.no hl2) upd_same ((r.app r2).r rr))) rfl
theorem rep_one {α : Type} (xs : List α) : (List.replicate (1 : Int).toNat xs).flatten = xs := by
  show [xs].flatten = xs
  simp
theorem rep_nil {α : Type} (n : Nat) : (List.replicate n ([] : List α)).flatten = [] := by
  induction n with
  | zero => rfl
  | succ n ih => rw [List.replicate_succ, List.flatten_cons, ih]; rfl
theorem eg_repA {ds : List PyData} {k : Int} (ha : EvD L ta Γ (.tuple ds)) (hb : EvD L tb Γ (.int k)) (h0 : 0 ≤ k) (h1 : k ≤ 1000) (hl : ds.length ≤ 1000) : EvD L (tOp (rRepA L.K) ta tb) Γ (.tuple (List.replicate k.toNat ds).flatten) := eg_op ha hb fun A H x y hi hg hx hy Q q => by
  obtain ⟨p, xs, rfl, e, r⟩ := hx.tuple
  obtain rfl := hy.int
  refine ⟨p, k, xs, rfl, rfl, e.sq, h0, h1, by rw [r.length]; exact hl, fun z => ?_, fun _ _ l hl2 => ?_⟩
  · refine q _ _ H (Rl.refl hg) (dv_tup0 e r) ?_
    rcases z with z | z
    · have e3 : ds = [] := List.length_eq_zero_iff.mp (by rw [← r.length, z]; rfl)
      subst e3
      rw [rep_nil]
    · subst z
      rw [rep_one]
  · have rr := Rl.newR (o := .tup (List.replicate k.toNat xs).flatten) hg hl2
    exact q _ _ _ rr (.inr (.tup (hi.no hl2) upd_same ((r.rep _).r rr))) rfl
theorem cut_whole {ds : List PyData} {lo hi : Option Int} (h : HT.sIx ds.length 0 lo = 0 ∧ HT.sIx ds.length ds.length hi = ds.length) : cutD ds lo hi = ds := by
  unfold cutD
  rw [h.1, h.2]
  simp
theorem eg_slA {ds : List PyData} {tl th : TO} {lo0 hi0 : Option Int} (h : EvD L te Γ (.tuple ds)) (h1 : EoD L tl Γ lo0) (h2 : EoD L th Γ hi0) : EvD L (tSl (rSlA L.K) te tl th) Γ (.tuple (cutD ds lo0 hi0)) := fun A σ H hi he hg Q q => h A σ H hi he hg _ fun x d1 H1 r1 hx p => by
  subst p
  refine h1 A σ H1 (hi.r r1) (he.r r1) (Rl.gR (b := 0) hg r1) _ fun H2 r2 => h2 A σ H2 ((hi.r r1).r r2) ((he.r r1).r r2) (Rl.gR (b := 0) (Rl.gR (b := 0) hg r1) r2) _ fun H3 r3 => ?_
  have g3 : L.G 0 H3 := Rl.gR (b := 0) (Rl.gR (b := 0) (Rl.gR (b := 0) hg r1) r2) r3
  obtain ⟨p, xs, rfl, e, r⟩ := ((hx.r r2).r r3).tuple
  have r13 := L.tr (a := 0) (b := 0) (L.tr (a := 0) (b := 0) r1 r2) r3
  refine ⟨p, xs, rfl, e.sq, fun hw => ?_, fun hw q1 hq => ?_⟩
  · rw [r.length] at hw
    rw [cut_whole hw] at q
    exact q _ _ H3 r13 (dv_tup0 e r) rfl
  · have rr := Rl.newR (o := .tup (cutV xs lo0 hi0)) g3 hq
    exact q _ _ _ (L.tr (a := 0) (b := 0) r13 rr) (.inr (.tup ((((hi.r r1).r r2).r r3).no hq) upd_same ((r.cut lo0 hi0).r rr))) rfl
end
/-! ### equality of data, x in t -/
theorem dp_of {K : PySem.W.Frag} {L : Rl} {A : Addr → Prop} {H : Hp} {v : V} {d : PyData} (hK : L.K = K) (h : Dq L A H v d) (hd : d ≠ mark) : Dp K H v d := hK ▸ (h.ne hd).dp (K := L.K)
def rInT (K : PySem.W.Frag) : R2 := fun x y H Q => ∃ d ds, Dp K H x d ∧ Dp K H y (.tuple ds) ∧ SeqAt.shaped d = true ∧ SeqAt.shaped (.tuple ds) = true ∧ Q (.bl (ds.any fun z => PyData.eqv z d)) H
theorem op_inT {X : Cx} (hu : X.A.units + 65 < cLine) : OpR X (compareOp .In) (rInT X.K) := by
  intro pins s σ H x y v u Q I rx ry h
  obtain ⟨d, ds, hd, he, sd, se, q⟩ := h
  obtain ⟨as, r1⟩ := Dp.reads I d x v hd rx
  obtain ⟨bs, r2⟩ := Dp.reads I (.tuple ds) y u he ry
  exact SeqAt.in_tuple_reads r2 r1 (SeqAt.canLay_of_shaped se) (SeqAt.canLay_of_shaped sd) (room_in_shaped sd hu) ⟨.bl _, H, I, rfl, q⟩
section
variable {L : Rl} {Γ : List (Option PyData)} {t : TA} {te ta tb : TE}
theorem eg_eqD {d e : PyData} (ha : EvD L ta Γ d) (hb : EvD L tb Γ e) (hd : d ≠ mark) (he : e ≠ mark) (h1 : SeqAt.shaped d = true) (h2 : SeqAt.shaped e = true) : EvD L (tOp (rEqD L.K) ta tb) Γ (.bool (PyData.eqv d e)) := eg_op ha hb fun A H x y hi hg hx hy Q q =>
  ⟨d, e, dp_of rfl hx hd, dp_of rfl hy he, h1, h2, q _ _ H (Rl.refl hg) (.inr (.bl _)) rfl⟩
theorem eg_neD {d e : PyData} (ha : EvD L ta Γ d) (hb : EvD L tb Γ e) (hd : d ≠ mark) (he : e ≠ mark) (h1 : SeqAt.shaped d = true) (h2 : SeqAt.shaped e = true) : EvD L (tOp (rNeD L.K) ta tb) Γ (.bool (!PyData.eqv d e)) := eg_op ha hb fun A H x y hi hg hx hy Q q =>
  ⟨d, e, dp_of rfl hx hd, dp_of rfl hy he, h1, h2, q _ _ H (Rl.refl hg) (.inr (.bl _)) rfl⟩
theorem eg_inT {d : PyData} {ds : List PyData} (ha : EvD L ta Γ d) (hb : EvD L tb Γ (.tuple ds)) (hd : d ≠ mark) (h1 : SeqAt.shaped d = true) (h2 : SeqAt.shaped (.tuple ds) = true) : EvD L (tOp (rInT L.K) ta tb) Γ (.bool (ds.any fun z => PyData.eqv z d)) := eg_op ha hb fun A H x y hi hg hx hy Q q =>
  ⟨d, ds, dp_of rfl hx hd, dp_of rfl hy (by intro z; cases z), h1, h2, q _ _ H (Rl.refl hg) (.inr (.bl _)) rfl⟩
theorem eqv_tup0 (ds : List PyData) : PyData.eqv (.tuple ds) (.tuple []) = ds.isEmpty := by
  cases ds with
  | nil => rfl
  | cons d ds => rfl
theorem eqv_tup1 (y : PyData) (z : Str) : PyData.eqv (.tuple [.str z]) (.tuple [y]) = (match y with | .str x => z == x | _ => false) := by
  cases y <;> simp [PyData.eqv, PyData.eqvAll]
/-! ### isinstance by data -/
def isTup : PyData → Bool
  | .tuple _ => true
  | _ => false
def isStr : PyData → Bool
  | .str _ => true
  | _ => false
theorem kit_tup {d : PyData} (h : d.hasDict = false) : kitB (kindN d) "tuple" = some (isTup d) := by
  cases d with
  | dict k => simp [PyData.hasDict] at h
  | none => exact (show kitB "NoneType" "tuple" = some false by decide +kernel)
  | bool b => exact (show kitB "bool" "tuple" = some false by decide +kernel)
  | int b => exact (show kitB "int" "tuple" = some false by decide +kernel)
  | str b => exact (show kitB "str" "tuple" = some false by decide +kernel)
  | list b => exact (show kitB "list" "tuple" = some false by decide +kernel)
  | tuple b => exact (show kitB "tuple" "tuple" = some true by decide +kernel)
theorem kit_str {d : PyData} (h : d.hasDict = false) : kitB (kindN d) "str" = some (isStr d) := by
  cases d with
  | dict k => simp [PyData.hasDict] at h
  | none => exact (show kitB "NoneType" "str" = some false by decide +kernel)
  | bool b => exact (show kitB "bool" "str" = some false by decide +kernel)
  | int b => exact (show kitB "int" "str" = some false by decide +kernel)
  | str b => exact (show kitB "str" "str" = some true by decide +kernel)
  | list b => exact (show kitB "list" "str" = some false by decide +kernel)
  | tuple b => exact (show kitB "tuple" "str" = some false by decide +kernel)
theorem hd_nm {d : PyData} (h : d.hasDict = false) : d ≠ mark := fun z => by
  rw [z] at h
  simp [PyData.hasDict] at h
theorem eg_isT {d : PyData} (h : EvD L te Γ d) (hd : d.hasDict = false) : EvD L (tCB (rIsi L.K) (tCons te (tCons (tC (.ty "tuple")) tNil))) Γ (.bool (isTup d)) := eg_isi h (hd_nm hd) (kit_tup hd)
theorem eg_isS {d : PyData} (h : EvD L te Γ d) (hd : d.hasDict = false) : EvD L (tCB (rIsi L.K) (tCons te (tCons (tC (.ty "str")) tNil))) Γ (.bool (isStr d)) := eg_isi h (hd_nm hd) (kit_str hd)
/-! ### the signs of a text, chains, all -/
def signsD (z : Str) : List PyData := z.cps.toList.map fun c => PyData.str ⟨#[c]⟩
theorem wk_str {z : Str} (h : EvD L te Γ (.str z)) : WkD L (iStr te) Γ (signsD z) := fun A σ H hi he hg R q => h A σ H hi he hg _ fun x d1 H1 r1 hx p => by
  subst p
  obtain rfl := hx.str
  have hl : (signsD z).length = z.cps.size := by unfold signsD; rw [List.length_map, Array.length_toList]
  refine ⟨z, rfl, q _ H1 _ r1 rfl ⟨fun i H' k hi => ?_, fun i H' x H'' k hA y hi => ?_, fun H' k => ?_⟩⟩
  · show i < z.cps.size
    omega
  · obtain ⟨rfl, c, hc, rfl⟩ := y
    refine ⟨.str ⟨#[c]⟩, ?_, Same.refl _, fun A' _ _ => .str _⟩
    unfold signsD
    rw [List.getElem?_map, Array.getElem?_toList, hc]
    rfl
  · show z.cps.size ≤ (signsD z).length
    omega
theorem eg_chainI {i j k : Int} {tc : TE} {a b : Int → Int → Bool} (ha : EvD L ta Γ (.int i)) (hb : EvD L tb Γ (.int j)) (hc : EvD L tc Γ (.int k)) : EvD L (tChain (rI0 fun i j => .bl (a i j)) (rI0 fun i j => .bl (b i j)) ta tb tc) Γ (.bool (a i j && b j k)) := fun A σ H hi he hg Q q =>
  ha A σ H hi he hg _ fun x d1 H1 r1 hx e1 => hb A σ H1 (hi.r r1) (he.r r1) (Rl.gR (b := 0) hg r1) _ fun y d2 H2 r2 hy e2 => by
    subst e1 e2
    obtain rfl := hx.int
    obtain rfl := hy.int
    refine ⟨i, j, rfl, rfl, _, rfl, ?_⟩
    have r12 := L.tr (a := 0) (b := 0) r1 r2
    cases h : a i j with
    | true =>
      rw [if_pos rfl]
      refine hc A σ H2 ((hi.r r1).r r2) ((he.r r1).r r2) (Rl.gR (b := 0) hg r12) _ fun w d3 H3 r3 hw e3 => ?_
      subst e3
      obtain rfl := hw.int
      exact ⟨j, k, rfl, rfl, q _ _ H3 (L.tr (a := 0) (b := 0) r12 r3) (.inr (.bl _)) (by rw [h, Bool.true_and])⟩
    | false =>
      rw [if_neg (by decide)]
      exact q _ _ H2 r12 (.inr (.bl _)) (by rw [h]; rfl)
def rS2 (f : Str → Str → Bool) : R2 := fun x y H Q => ∃ i j, x = .str i ∧ y = .str j ∧ Q (.bl (f i j)) H
theorem eg_chainS {i j k : Str} {tc : TE} {a b : Str → Str → Bool} (ha : EvD L ta Γ (.str i)) (hb : EvD L tb Γ (.str j)) (hc : EvD L tc Γ (.str k)) : EvD L (tChain (rS2 a) (rS2 b) ta tb tc) Γ (.bool (a i j && b j k)) := fun A σ H hi he hg Q q =>
  ha A σ H hi he hg _ fun x d1 H1 r1 hx e1 => hb A σ H1 (hi.r r1) (he.r r1) (Rl.gR (b := 0) hg r1) _ fun y d2 H2 r2 hy e2 => by
    subst e1 e2
    obtain rfl := hx.str
    obtain rfl := hy.str
    refine ⟨i, j, rfl, rfl, _, rfl, ?_⟩
    have r12 := L.tr (a := 0) (b := 0) r1 r2
    cases h : a i j with
    | true =>
      rw [if_pos rfl]
      refine hc A σ H2 ((hi.r r1).r r2) ((he.r r1).r r2) (Rl.gR (b := 0) hg r12) _ fun w d3 H3 r3 hw e3 => ?_
      subst e3
      obtain rfl := hw.str
      exact ⟨j, k, rfl, rfl, q _ _ H3 (L.tr (a := 0) (b := 0) r12 r3) (.inr (.bl _)) (by rw [h, Bool.true_and])⟩
    | false =>
      rw [if_neg (by decide)]
      exact q _ _ H2 r12 (.inr (.bl _)) (by rw [h]; rfl)
theorem DvAll.bls {K : PySem.W.Frag} {A : Addr → Prop} {H : Hp} {xs : List V} {bs : List Bool} (h : DvAll K A H xs (bs.map PyData.bool)) : xs = bs.map V.bl := by
  induction bs generalizing xs with
  | nil => cases h; rfl
  | cons n ns ih =>
    cases h with
    | cons a b =>
      cases a
      rw [ih b]
      rfl
theorem eg_all {bs : List Bool} (h : EvD L te Γ (.list (bs.map .bool))) : EvD L (tCB (rAll L.K) (tCons te tNil)) Γ (.bool (bs.all id)) := fun A σ H hi he hg Q q => h A σ H hi he hg _ fun x d H1 r1 hx e => by
  subst e
  obtain ⟨p, xs, rfl, na, e, r⟩ := hx.list
  rw [r.bls] at e
  exact ⟨p, bs, rfl, SqL.of e, q _ _ H1 r1 (.inr (.bl _)) rfl⟩
end
end V1
set_option Elab.async false
set_option linter.all false
set_option maxRecDepth 100000
set_option maxHeartbeats 4000000
/-! k03: the faults of a value, all of them and the first one; words and depth. -/
namespace V1
open PySem PySem.Spec PyProof.Rows L2
abbrev Pth := List Int
def lettersOk (z : Str) : Bool := (decide (1 ≤ z.cps.size) && decide (z.cps.size ≤ 8)) && z.cps.toList.all fun c => decide (97 ≤ c) && decide (c ≤ 122)
def signB : PyData → Bool
  | .str z => lettersOk z
  | _ => false
def shortS : PyData → Bool
  | .str z => decide (z.cps.size ≤ 100)
  | _ => true
/-- may be walked: so deep, no wider than 200 -/
def bd : Nat → PyData → Bool
  | 0, _ => false
  | n + 1, .tuple ds => decide (ds.length ≤ 200) && ds.all (bd n)
  | _ + 1, d => d.canLay0 && (decide (d.depth ≤ 8) && (!d.hasDict && (shortS d && (d.showable && d.leavesShort 100))))
abbrev sgn4 : List Str := ["sign", "under", "upper", "limits"]
def baseBad (x : PyData) : Bool := match wordD x with
  | some w => decide (w ∈ noBases)
  | none => false
def itemsT : PyData → List PyData
  | .tuple ds => ds
  | _ => []
def firstO {α : Type} (f : Nat → α → Option Pth) : Nat → List α → Option Pth
  | _, [] => none
  | i, x :: xs => match f i x with
    | some p => some p
    | none => firstO f (i + 1) xs
def rowBad (l0 l : PyData) : Bool := !isTup l || ((itemsT l).isEmpty || decide ((itemsT l).length ≠ (itemsT l0).length))
def rfR (g : PyData → Pth → Option Pth) (x : PyData) (p : Pth) : Option Pth := match x with
  | .tuple (l0 :: ls) => firstO (fun i l => if rowBad l0 l then some (p ++ [(i : Int)]) else firstO (fun k c => g c (p ++ [(i : Int), (k : Int)])) 0 (itemsT l)) 0 (l0 :: ls)
  | _ => some p
def tfR (g : PyData → Pth → Option Pth) (kind : Str) (x : PyData) (p : Pth) : Option Pth :=
  if kind = "sign" then (if signB x then none else some p)
  else if kind = "rows" then rfR g x p
  else if kind = "base" ∧ baseBad x = true then some p else g x p
def kindsOf (w : Str) (r : List PyData) : List Str := if w = "row" then List.replicate r.length "part" else (wanted w).getD []
def bodyT (d : PyData) : Str × List PyData := match d with
  | .tuple (.str w :: r) => (w, r)
  | _ => ("", [])
def ffF : Nat → PyData → Pth → Option Pth
  | 0, _, p => some p
  | n + 1, d, p => if hasForm d then firstO (fun i (kx : Str × PyData) => tfR (ffF n) kx.1 kx.2 (p ++ [(i : Int)])) 1 ((kindsOf (bodyT d).1 (bodyT d).2).zip (bodyT d).2) else some p
/-- a walk that gathers, and stops where it must -/
def gather {α : Type} (stop : Nat → α → Option Pth) (f : Nat → α → List Pth) : Nat → List α → List Pth
  | _, [] => []
  | i, x :: xs => match stop i x with
    | some q => [q]
    | none => f i x ++ gather stop f (i + 1) xs
def rowBadL (l0 l : PyData) : Bool := !isTup l || ((itemsT l).isEmpty || (isTup l0 && decide ((itemsT l).length ≠ (itemsT l0).length)))
def tableFl (g : PyData → Pth → List Pth) (x : PyData) (p : Pth) : List Pth := match x with
  | .tuple (l0 :: ls) => gather (fun i l => if rowBadL l0 l then some (p ++ [(i : Int)]) else none) (fun i l => gather (fun _ _ => none) (fun k c => g c (p ++ [(i : Int), (k : Int)])) 0 (itemsT l)) 0 (l0 :: ls)
  | _ => [p]
abbrev sizesL : List (Str × Nat) := [("sign", 2), ("over", 3), ("root", 2), ("high", 3), ("low", 3), ("both", 4), ("under", 3), ("upper", 3), ("limits", 4)]
abbrev four : List Str := ["row", "fence", "bar", "table"]
def bad1 (w : Str) (n : Nat) : Bool := (decide (w = "row") && decide (n < 2)) || ((sizesL.lookup w).isSome && decide (some n ≠ sizesL.lookup w))
def bad2 (w : Str) (n : Nat) : Bool := (decide (w ∈ (["fence", "bar", "table"] : List Str)) && decide (n ≠ 2)) || (!(sizesL.lookup w).isSome && !decide (w ∈ four))
def low (w : Str) : Nat := if w ∈ sgn4 then 2 else 1
def stopB (w : Str) (p : Pth) (i : Nat) (x : PyData) : Option Pth := if (decide (w ∈ scripts) && (decide (i = 1) && isTup x)) = true ∧ baseBad x = true then some (p ++ [(i : Int)]) else none
def flF : Nat → PyData → Pth → List Pth
  | 0, _, p => [p]
  | n + 1, d, p => match d with
    | .tuple (.str w :: r) => if bad1 w (r.length + 1) then [p] else if bad2 w (r.length + 1) then [p] else
      if decide (w ∈ sgn4) && !signB (r.headD .none) then [p ++ [1]] else if w = "table" then tableFl (flF n) (r.headD .none) (p ++ [1]) else
      gather (stopB w p) (fun i x => flF n x (p ++ [(i : Int)])) (low w) (r.drop (low w - 1))
    | _ => [p]
theorem head_gather {α : Type} {stop : Nat → α → Option Pth} {f : Nat → α → List Pth} {g : Nat → α → Option Pth} : ∀ (xs : List α) (i : Nat), (∀ j, i ≤ j → ∀ x ∈ xs, g j x = (match stop j x with | some q => some q | none => (f j x).head?)) → (gather stop f i xs).head? = firstO g i xs
  | [], i, _ => rfl
  | x :: xs, i, h => by
    have h1 := h i (Nat.le_refl _) x List.mem_cons_self
    have ih := head_gather xs (i + 1) fun j hj y hy => h j (by omega) y (List.mem_cons_of_mem _ hy)
    unfold gather firstO
    rw [h1]
    cases hs : stop i x with
    | some q => rfl
    | none =>
      dsimp only
      rw [List.head?_append, ih]
      cases (f i x).head? <;> rfl
theorem baseBad_tup {x : PyData} (h : baseBad x = true) : isTup x = true := by
  unfold baseBad wordD at h
  cases x with
  | tuple ds => rfl
  | _ => simp at h
theorem rows_eq {g : PyData → Pth → Option Pth} {gl : PyData → Pth → List Pth} (hg : ∀ d p, (gl d p).head? = g d p) (x : PyData) (p : Pth) : (tableFl gl x p).head? = rfR g x p := by
  unfold tableFl rfR
  split
  · rename_i l0 ls
    by_cases h0 : isTup l0 = true
    · refine head_gather _ _ fun i _ l _ => ?_
      have e : rowBadL l0 l = rowBad l0 l := by unfold rowBadL rowBad; rw [h0, Bool.true_and]
      rw [e]
      cases rowBad l0 l with
      | true => rfl
      | false =>
        simp only [Bool.false_eq_true, if_false]
        exact (head_gather _ _ fun k _ c _ => (hg _ _).symm).symm
    · have h0' : isTup l0 = false := by cases h : isTup l0 with | true => exact absurd h h0 | false => rfl
      unfold gather firstO
      have e1 : rowBadL l0 l0 = true := by unfold rowBadL; rw [h0']; rfl
      have e2 : rowBad l0 l0 = true := by unfold rowBad; rw [h0']; rfl
      rw [e1, e2]
      rfl
  · rfl
theorem wanted_cases {w : Str} {ks : List Str} (h : wanted w = some ks) : (w, ks) ∈ wantedL := by
  unfold wanted at h
  have key : ∀ l : List (Str × List Str), l.lookup w = some ks → (w, ks) ∈ l := by
    intro l
    induction l with
    | nil => intro h; cases h
    | cons a r ih =>
      intro h
      obtain ⟨k, v⟩ := a
      rw [List.lookup_cons] at h
      by_cases e : w = k
      · subst e
        simp at h
        subst h
        exact List.mem_cons_self
      · have e2 : (w == k) = false := by simpa using e
        rw [e2] at h
        exact List.mem_cons_of_mem _ (ih h)
  exact key _ h

theorem zip_part {g : PyData → Pth → Option Pth} {p : Pth} : ∀ (r : List PyData) (i : Nat), firstO (fun i (kx : Str × PyData) => tfR g kx.1 kx.2 (p ++ [(i : Int)])) i ((List.replicate r.length ("part" : Str)).zip r) = firstO (fun i x => g x (p ++ [(i : Int)])) i r
  | [], i => rfl
  | x :: r, i => by
    rw [List.length_cons, List.replicate_succ, List.zip_cons_cons]
    unfold firstO
    have e : tfR g "part" x (p ++ [(i : Int)]) = g x (p ++ [(i : Int)]) := by
      unfold tfR
      rw [if_neg (by decide +kernel), if_neg (by decide +kernel), if_neg (fun z => absurd z.1 (by decide +kernel))]
    dsimp only
    rw [e, zip_part r (i + 1)]
theorem stop_none {w : Str} {p : Pth} (h : w ∉ scripts) (i : Nat) (x : PyData) : stopB w p i x = none := by
  unfold stopB
  rw [if_neg]
  rintro ⟨z, _⟩
  rw [decide_eq_false h] at z
  cases z
theorem stop_late {w : Str} {p : Pth} {i : Nat} (h : 2 ≤ i) (x : PyData) : stopB w p i x = none := by
  unfold stopB
  rw [if_neg]
  rintro ⟨z, _⟩
  have e : decide (i = 1) = false := decide_eq_false (by omega)
  rw [e] at z
  simp at z
theorem bad_size {w : Str} {k : Nat} (hs : sizesL.lookup w = some k) (hr : w ≠ "row") (h3 : w ∉ (["fence", "bar", "table"] : List Str)) (m : Nat) : (bad1 w m = true ∨ bad2 w m = true) ↔ m ≠ k := by
  unfold bad1 bad2
  rw [hs, decide_eq_false hr, decide_eq_false h3]
  constructor
  · rintro (h | h)
    · simp at h
      exact fun z => h z
    · cases h
  · intro h
    refine .inl ?_
    simp
    exact fun z => h z
theorem bad_two {w : Str} (hs : sizesL.lookup w = none) (hr : w ≠ "row") (h3 : w ∈ (["fence", "bar", "table"] : List Str)) (h4 : w ∈ four) (m : Nat) : (bad1 w m = true ∨ bad2 w m = true) ↔ m ≠ 2 := by
  unfold bad1 bad2
  rw [hs, decide_eq_false hr, decide_eq_true h3, decide_eq_true h4]
  constructor
  · rintro (h | h)
    · cases h
    · simp at h
      exact fun z => h z
  · intro h
    refine .inr ?_
    simp
    exact fun z => h z
/-- a word's kinds: parts alone, a base ahead, a sign ahead, rows -/
inductive Knd (w : Str) (k : Nat) (ks : List Str) : Prop
  | part : ks = List.replicate k ("part" : Str) → w ∉ sgn4 → w ≠ "table" → w ∉ scripts → Knd w k ks
  | base : 1 ≤ k → ks = ("base" : Str) :: List.replicate (k - 1) ("part" : Str) → w ∉ sgn4 → w ≠ "table" → w ∈ scripts → Knd w k ks
  | sign : 1 ≤ k → ks = ("sign" : Str) :: List.replicate (k - 1) ("part" : Str) → w ∈ sgn4 → w ≠ "table" → w ∉ scripts → Knd w k ks
  | rows : k = 1 → ks = [("rows" : Str)] → w ∉ sgn4 → w = "table" → w ∉ scripts → Knd w k ks
theorem wanted_knd {w : Str} {ks : List Str} (h : wanted w = some ks) : w ≠ "row" ∧ Knd w ks.length ks ∧ ∀ m, (bad1 w (m + 1) = true ∨ bad2 w (m + 1) = true) ↔ m ≠ ks.length := by
  have hm := wanted_cases h
  have fin : ∀ {k : Nat}, (∀ m, (bad1 w m = true ∨ bad2 w m = true) ↔ m ≠ k + 1) → ∀ m, (bad1 w (m + 1) = true ∨ bad2 w (m + 1) = true) ↔ m ≠ k := fun h m => (h (m + 1)).trans (by constructor <;> (intro a b; omega))
  simp only [wantedL, List.mem_cons, Prod.mk.injEq, List.not_mem_nil, or_false] at hm
  rcases hm with ⟨rfl, rfl⟩ | ⟨rfl, rfl⟩ | ⟨rfl, rfl⟩ | ⟨rfl, rfl⟩ | ⟨rfl, rfl⟩ | ⟨rfl, rfl⟩ | ⟨rfl, rfl⟩ | ⟨rfl, rfl⟩ | ⟨rfl, rfl⟩ | ⟨rfl, rfl⟩ | ⟨rfl, rfl⟩ | ⟨rfl, rfl⟩
  · exact ⟨by decide +kernel, .sign (by decide) rfl (by decide +kernel) (by decide +kernel) (by decide +kernel), fin (bad_size (by decide +kernel) (by decide +kernel) (by decide +kernel))⟩
  · exact ⟨by decide +kernel, .part rfl (by decide +kernel) (by decide +kernel) (by decide +kernel), fin (bad_size (by decide +kernel) (by decide +kernel) (by decide +kernel))⟩
  · exact ⟨by decide +kernel, .part rfl (by decide +kernel) (by decide +kernel) (by decide +kernel), fin (bad_size (by decide +kernel) (by decide +kernel) (by decide +kernel))⟩
  · exact ⟨by decide +kernel, .base (by decide) rfl (by decide +kernel) (by decide +kernel) (by decide +kernel), fin (bad_size (by decide +kernel) (by decide +kernel) (by decide +kernel))⟩
  · exact ⟨by decide +kernel, .base (by decide) rfl (by decide +kernel) (by decide +kernel) (by decide +kernel), fin (bad_size (by decide +kernel) (by decide +kernel) (by decide +kernel))⟩
  · exact ⟨by decide +kernel, .base (by decide) rfl (by decide +kernel) (by decide +kernel) (by decide +kernel), fin (bad_size (by decide +kernel) (by decide +kernel) (by decide +kernel))⟩
  · exact ⟨by decide +kernel, .sign (by decide) rfl (by decide +kernel) (by decide +kernel) (by decide +kernel), fin (bad_size (by decide +kernel) (by decide +kernel) (by decide +kernel))⟩
  · exact ⟨by decide +kernel, .sign (by decide) rfl (by decide +kernel) (by decide +kernel) (by decide +kernel), fin (bad_size (by decide +kernel) (by decide +kernel) (by decide +kernel))⟩
  · exact ⟨by decide +kernel, .sign (by decide) rfl (by decide +kernel) (by decide +kernel) (by decide +kernel), fin (bad_size (by decide +kernel) (by decide +kernel) (by decide +kernel))⟩
  · exact ⟨by decide +kernel, .part rfl (by decide +kernel) (by decide +kernel) (by decide +kernel), fin (bad_two (by decide +kernel) (by decide +kernel) (by decide +kernel) (by decide +kernel))⟩
  · exact ⟨by decide +kernel, .part rfl (by decide +kernel) (by decide +kernel) (by decide +kernel), fin (bad_two (by decide +kernel) (by decide +kernel) (by decide +kernel) (by decide +kernel))⟩
  · exact ⟨by decide +kernel, .rows rfl rfl (by decide +kernel) rfl (by decide +kernel), fin (bad_two (by decide +kernel) (by decide +kernel) (by decide +kernel) (by decide +kernel))⟩
theorem not_wanted {w : Str} (h : wanted w = none) (hr : w ≠ "row") (m : Nat) : bad2 w m = true := by
  have h1 : ∀ x ∈ wantedL, w ≠ x.1 := by
    intro x hx e
    unfold wanted at h
    have key : ∀ l : List (Str × List Str), l.lookup w = none → ∀ x ∈ l, w ≠ x.1 := by
      intro l
      induction l with
      | nil => intro _ x hx; simp at hx
      | cons a r ih =>
        intro h x hx e
        obtain ⟨k, v⟩ := a
        rw [List.lookup_cons] at h
        by_cases e2 : (w == k) = true
        · rw [e2] at h; cases h
        · have e3 : (w == k) = false := by cases z : (w == k) with | true => exact absurd z e2 | false => rfl
          rw [e3] at h
          rcases List.mem_cons.mp hx with rfl | hx
          · exact e2 (by simpa using e)
          · exact ih h x hx e
    exact key _ h x hx e
  have ne : ∀ (k : Str) (v : List Str), (k, v) ∈ wantedL → w ≠ k := fun k v hx => h1 (k, v) hx
  have hs : sizesL.lookup w = none := by
    have key : ∀ l : List (Str × Nat), (∀ x ∈ l, w ≠ x.1) → l.lookup w = none := by
      intro l
      induction l with
      | nil => intro _; rfl
      | cons a r ih =>
        intro h
        obtain ⟨k, v⟩ := a
        rw [List.lookup_cons]
        have e : (w == k) = false := by
          have := h (k, v) List.mem_cons_self
          simpa using this
        rw [e]
        exact ih fun x hx => h x (List.mem_cons_of_mem _ hx)
    refine key _ fun x hx => ?_
    have hk : ∃ v, (x.1, v) ∈ wantedL := by
      have all : ∀ y ∈ sizesL, (wantedL.any fun z => decide (z.1 = y.1)) = true := by decide +kernel
      obtain ⟨z, hz, e⟩ := List.any_eq_true.mp (all x hx)
      have e' : z.1 = x.1 := of_decide_eq_true e
      exact ⟨z.2, by rw [← e']; exact hz⟩
    obtain ⟨v, hv⟩ := hk
    exact ne _ _ hv
  have h4 : w ∉ four := by
    intro z
    simp only [List.mem_cons, List.not_mem_nil, or_false] at z
    rcases z with z | z | z | z
    · exact hr z
    · exact ne "fence" ["part"] (by decide +kernel) z
    · exact ne "bar" ["part"] (by decide +kernel) z
    · exact ne "table" ["rows"] (by decide +kernel) z
  unfold bad2
  rw [hs, decide_eq_false h4]
  simp
theorem faults_eq : ∀ (n : Nat) (d : PyData) (p : Pth), (flF n d p).head? = ffF n d p
  | 0, d, p => rfl
  | n + 1, d, p => by
    have ih := faults_eq n
    by_cases hd : ∃ w r, d = .tuple (.str w :: r)
    · obtain ⟨w, r, rfl⟩ := hd
      show (if bad1 w (r.length + 1) then [p] else if bad2 w (r.length + 1) then [p] else if decide (w ∈ sgn4) && !signB (r.headD .none) then [p ++ [1]] else if w = "table" then tableFl (flF n) (r.headD .none) (p ++ [1]) else
        gather (stopB w p) (fun i x => flF n x (p ++ [(i : Int)])) (low w) (r.drop (low w - 1))).head? = (if hasForm (.tuple (.str w :: r)) then firstO (fun i (kx : Str × PyData) => tfR (ffF n) kx.1 kx.2 (p ++ [(i : Int)])) 1 ((kindsOf w r).zip r) else some p)
      by_cases hr : w = "row"
      · subst hr
        have b2 : bad2 "row" (r.length + 1) = false := by
          have : ∀ m, bad2 "row" m = false := by
            intro m
            unfold bad2
            rw [show sizesL.lookup ("row" : Str) = none by decide +kernel, show decide (("row" : Str) ∈ (["fence", "bar", "table"] : List Str)) = false by decide +kernel, show decide (("row" : Str) ∈ four) = true by decide +kernel]
            rfl
          exact this _
        have hf : hasForm (.tuple (.str "row" :: r)) = decide (1 ≤ r.length) := by
          unfold hasForm
          dsimp only
          rw [if_pos rfl]
        have b1 : bad1 "row" (r.length + 1) = decide (r.length + 1 < 2) := by
          unfold bad1
          rw [show sizesL.lookup ("row" : Str) = none by decide +kernel]
          simp
        rw [b1, b2, hf]
        by_cases hl : 1 ≤ r.length
        · rw [if_neg (by simp; omega), if_neg (by simp), if_neg (by rw [show decide (("row" : Str) ∈ sgn4) = false by decide +kernel]; simp), if_neg (by decide +kernel), if_pos (by simpa using hl)]
          have lw : low "row" = 1 := by decide +kernel
          rw [lw]
          have kk : kindsOf "row" r = List.replicate r.length ("part" : Str) := by unfold kindsOf; rw [if_pos rfl]
          rw [kk, zip_part]
          refine head_gather _ _ fun i _ x _ => ?_
          rw [stop_none (by decide +kernel)]
          exact (ih _ _).symm
        · rw [if_pos (by simp; omega), if_neg (by simpa using hl)]
          rfl
      · cases hw : wanted w with
        | none =>
          have hf : hasForm (.tuple (.str w :: r)) = false := by
            unfold hasForm
            dsimp only
            rw [if_neg hr, hw]
          rw [hf, not_wanted hw hr]
          simp only [if_true]
          cases bad1 w (r.length + 1) <;> rfl
        | some ks =>
          obtain ⟨_, hk, hb⟩ := wanted_knd hw
          have hf : hasForm (.tuple (.str w :: r)) = decide (r.length = ks.length) := by
            unfold hasForm
            dsimp only
            rw [if_neg hr, hw]
          have kk : kindsOf w r = ks := by unfold kindsOf; rw [if_neg hr, hw]; rfl
          rw [hf, kk]
          by_cases hl : r.length = ks.length
          · have nb := fun z => (hb r.length).mp z hl
            rw [if_neg (fun z => nb (.inl z)), if_neg (fun z => nb (.inr z)), if_pos (decide_eq_true hl)]
            cases hk with
            | part e h1 h2 h3 =>
              rw [decide_eq_false h1, if_neg (by simp), if_neg h2]
              have lw : low w = 1 := by unfold low; rw [if_neg h1]
              rw [lw, e, ← hl, zip_part]
              refine head_gather _ _ fun i _ x _ => ?_
              rw [stop_none h3]
              exact (ih _ _).symm
            | base hk1 e h1 h2 h3 =>
              rw [decide_eq_false h1, if_neg (by simp), if_neg h2]
              have lw : low w = 1 := by unfold low; rw [if_neg h1]
              rw [lw]
              cases r with
              | nil => simp at hl; omega
              | cons x r =>
                have hl2 : ks.length - 1 = r.length := by rw [List.length_cons] at hl; omega
                rw [e, hl2, List.zip_cons_cons]
                show (gather (stopB w p) (fun i x => flF n x (p ++ [(i : Int)])) 1 (x :: r)).head? = _
                unfold gather firstO
                have rest : (gather (stopB w p) (fun i x => flF n x (p ++ [(i : Int)])) (1 + 1) r).head? = firstO (fun i (kx : Str × PyData) => tfR (ffF n) kx.1 kx.2 (p ++ [(i : Int)])) (1 + 1) ((List.replicate r.length ("part" : Str)).zip r) := by
                  rw [zip_part]
                  refine head_gather _ _ fun i hi x _ => ?_
                  rw [stop_late hi]
                  exact (ih _ _).symm
                have et : tfR (ffF n) "base" x (p ++ [((1 : Nat) : Int)]) = if baseBad x = true then some (p ++ [((1 : Nat) : Int)]) else ffF n x (p ++ [((1 : Nat) : Int)]) := by
                  unfold tfR
                  rw [if_neg (by decide +kernel), if_neg (by decide +kernel)]
                  by_cases z : baseBad x = true
                  · rw [if_pos ⟨rfl, z⟩, if_pos z]
                  · rw [if_neg (fun y => z y.2), if_neg z]
                have es : stopB w p 1 x = if baseBad x = true then some (p ++ [((1 : Nat) : Int)]) else none := by
                  unfold stopB
                  by_cases z : baseBad x = true
                  · rw [if_pos z, if_pos ⟨by rw [decide_eq_true h3, baseBad_tup z]; rfl, z⟩]
                  · rw [if_neg z, if_neg (fun y => z y.2)]
                dsimp only
                rw [et, es]
                by_cases z : baseBad x = true
                · rw [if_pos z, if_pos z]
                  rfl
                · rw [if_neg z, if_neg z]
                  dsimp only
                  rw [List.head?_append, rest, ih]
                  cases ffF n x (p ++ [((1 : Nat) : Int)]) <;> rfl
            | sign hk1 e h1 h2 h3 =>
              have lw : low w = 2 := by unfold low; rw [if_pos h1]
              rw [decide_eq_true h1, lw]
              cases r with
              | nil => simp at hl; omega
              | cons x r =>
                have hl2 : ks.length - 1 = r.length := by rw [List.length_cons] at hl; omega
                rw [e, hl2, List.zip_cons_cons]
                unfold firstO
                have et : tfR (ffF n) "sign" x (p ++ [((1 : Nat) : Int)]) = if signB x = true then none else some (p ++ [((1 : Nat) : Int)]) := by
                  unfold tfR
                  rw [if_pos rfl]
                dsimp only
                rw [et]
                show (if (true && !signB x) = true then [p ++ [1]] else if w = "table" then _ else gather (stopB w p) (fun i x => flF n x (p ++ [(i : Int)])) 2 r).head? = _
                cases hs : signB x with
                | false => rfl
                | true =>
                  rw [if_neg (by decide), if_neg h2, if_pos rfl]
                  dsimp only
                  rw [zip_part]
                  refine head_gather _ _ fun i hi x _ => ?_
                  rw [stop_late hi]
                  exact (ih _ _).symm
            | rows hk1 e h1 h2 h3 =>
              subst e
              cases r with
              | nil => simp at hl
              | cons x r =>
                have hr0 : r = [] := List.length_eq_zero_iff.mp (by simpa using hl)
                subst hr0
                rw [decide_eq_false h1, if_neg (by simp), if_pos h2]
                show (tableFl (flF n) x (p ++ [1])).head? = firstO _ 1 [(("rows" : Str), x)]
                unfold firstO firstO
                have et : tfR (ffF n) "rows" x (p ++ [((1 : Nat) : Int)]) = rfR (ffF n) x (p ++ [((1 : Nat) : Int)]) := by
                  unfold tfR
                  rw [if_neg (by decide +kernel), if_pos rfl]
                dsimp only
                rw [et]
                have := rows_eq ih x (p ++ [1])
                rw [this]
                show rfR (ffF n) x (p ++ [1]) = _
                cases hq : rfR (ffF n) x (p ++ [((1 : Nat) : Int)]) with
                | none => rfl
                | some q => rfl
          · have e9 : decide (r.length = ks.length) = false := decide_eq_false hl
            rw [e9]
            have := (hb r.length).mpr hl
            by_cases h1 : bad1 w (r.length + 1) = true
            · rw [if_pos h1]
              rfl
            · rw [if_neg h1, if_pos (this.resolve_left h1)]
              rfl
    · have hf : hasForm d = false := by
        unfold hasForm
        split
        · rename_i w r
          exact absurd ⟨w, r, rfl⟩ hd
        · rfl
      show (match d with | .tuple (.str w :: r) => _ | _ => [p]).head? = if hasForm d then _ else some p
      rw [hf, if_neg (by decide)]
      split
      · rename_i w r
        exact absurd ⟨w, r, rfl⟩ hd
      · rfl
end V1
set_option Elab.async false
set_option linter.all false
set_option maxRecDepth 100000
set_option maxHeartbeats 4000000
/-! k03: parts, words, depth; what has no fault. -/
namespace V1
open PySem PySem.Spec PyProof.Rows L2
def cellsOf (rows : List PyData) : List (Pth × PyData) := (rows.mapIdx fun i l => (itemsT l).mapIdx fun k c => (([1, (i : Int), (k : Int)] : Pth), c)).flatten
def subs (w : Str) (r : List PyData) : List (Pth × PyData) := if w = "table" then (match r with
    | .tuple rows :: _ => cellsOf rows
    | _ => []) else (r.drop (low w - 1)).mapIdx fun i x => (([((low w + i : Nat) : Int)] : Pth), x)
def W : Nat → PyData → Nat
  | 0, _ => 0
  | n + 1, d => 1 + ((subs (bodyT d).1 (bodyT d).2).map fun s => W n s.2).sum
def maxN (l : List Nat) : Nat := l.foldr max 0
def Dp1 : Nat → PyData → Nat
  | 0, _ => 0
  | n + 1, d => 1 + maxN ((subs (bodyT d).1 (bodyT d).2).map fun s => Dp1 n s.2)
/-- a formula by its form, so deep -/
def Gd : Nat → PyData → Prop
  | 0, _ => False
  | n + 1, d => ∃ w r, d = .tuple (.str w :: r) ∧ r.length ≤ 200 ∧ (w ∈ sgn4 → 1 ≤ r.length) ∧ (w = "sign" → r.length = 1) ∧
    (w = "table" → ∃ (rows : List (List PyData)) (c : Nat), r = [.tuple (rows.map .tuple)] ∧ 1 ≤ rows.length ∧ rows.length ≤ 200 ∧ 1 ≤ c ∧ c ≤ 200 ∧ ∀ l ∈ rows, l.length = c) ∧ ∀ s ∈ subs w r, Gd n s.2
theorem firstO_none {α : Type} {f : Nat → α → Option Pth} : ∀ {xs : List α} {i : Nat}, firstO f i xs = none → ∀ (j : Nat) x, xs[j]? = some x → f (i + j) x = none
  | [], i, _, j, x, e => by simp at e
  | y :: ys, i, h, j, x, e => by
    unfold firstO at h
    cases hy : f i y with
    | some p => rw [hy] at h; cases h
    | none =>
      rw [hy] at h
      cases j with
      | zero =>
        simp at e
        subst e
        exact hy
      | succ j =>
        have := firstO_none (xs := ys) (i := i + 1) h j x (by simpa using e)
        rw [show i + (j + 1) = i + 1 + j by omega]
        exact this
theorem mem_cells {rows : List PyData} {s : Pth × PyData} (h : s ∈ cellsOf rows) : ∃ (i k : Nat) (l : PyData), rows[i]? = some l ∧ (itemsT l)[k]? = some s.2 ∧ s.1 = [1, (i : Int), (k : Int)] := by
  unfold cellsOf at h
  obtain ⟨ys, hys, hs⟩ := List.mem_flatten.mp h
  obtain ⟨i, hi⟩ := List.getElem?_of_mem hys
  rw [List.getElem?_mapIdx] at hi
  cases hl : rows[i]? with
  | none => rw [hl] at hi; cases hi
  | some l =>
    rw [hl] at hi
    have e := Option.some.inj hi
    obtain ⟨k, hk⟩ := List.getElem?_of_mem hs
    rw [← e, List.getElem?_mapIdx] at hk
    cases hc : (itemsT l)[k]? with
    | none => rw [hc] at hk; cases hk
    | some c =>
      rw [hc] at hk
      have e2 := Option.some.inj hk
      exact ⟨i, k, l, hl, by rw [hc, ← e2], by rw [← e2]⟩
theorem mem_flat {r : List PyData} {lo : Nat} {s : Pth × PyData} (h : s ∈ r.mapIdx fun i x => (([((lo + i : Nat) : Int)] : Pth), x)) : ∃ i : Nat, r[i]? = some s.2 ∧ s.1 = [((lo + i : Nat) : Int)] := by
  obtain ⟨i, hi⟩ := List.getElem?_of_mem h
  rw [List.getElem?_mapIdx] at hi
  cases hx : r[i]? with
  | none => rw [hx] at hi; cases hi
  | some x =>
    rw [hx] at hi
    have e := Option.some.inj hi
    exact ⟨i, by rw [hx, ← e], by rw [← e]⟩
theorem bd_tup {n : Nat} {ds : List PyData} (h : bd (n + 1) (.tuple ds) = true) : ds.length ≤ 200 ∧ ∀ d ∈ ds, bd n d = true := by
  unfold bd at h
  rw [Bool.and_eq_true] at h
  exact ⟨of_decide_eq_true h.1, List.all_eq_true.mp h.2⟩
theorem bd_items {n : Nat} {l : PyData} (h : bd (n + 1) l = true) : ∀ d ∈ itemsT l, bd n d = true := by
  cases l with
  | tuple ds => exact (bd_tup h).2
  | _ => intro d hd; simp [itemsT] at hd
/-- more room is as good -/
theorem bd_mono : ∀ {n m : Nat} {d : PyData}, n ≤ m → bd n d = true → bd m d = true
  | 0, m, d, _, h => by unfold bd at h; cases h
  | n + 1, 0, d, h, _ => by omega
  | n + 1, m + 1, d, h, hb => by
    cases d with
    | tuple ds =>
      obtain ⟨h1, h2⟩ := bd_tup hb
      unfold bd
      rw [Bool.and_eq_true]
      exact ⟨decide_eq_true h1, List.all_eq_true.mpr fun x hx => bd_mono (by omega) (h2 x hx)⟩
    | none => exact hb
    | bool b => exact hb
    | int b => exact hb
    | str b => exact hb
    | list b => exact hb
    | dict b => exact hb
theorem lay_all {ds : List PyData} (h : ∀ d ∈ ds, d.canLay0 = true) : PyData.canLayAll0 ds = true := by
  induction ds with
  | nil => rfl
  | cons x r ih =>
    simp only [PyData.canLayAll0, Bool.and_eq_true]
    exact ⟨h x List.mem_cons_self, ih fun d hd => h d (List.mem_cons_of_mem _ hd)⟩
theorem dict_all {ds : List PyData} (h : ∀ d ∈ ds, d.hasDict = false) : PyData.hasDictAll ds = false := by
  induction ds with
  | nil => rfl
  | cons x r ih =>
    simp only [PyData.hasDictAll, Bool.or_eq_false_iff]
    exact ⟨h x List.mem_cons_self, ih fun d hd => h d (List.mem_cons_of_mem _ hd)⟩
theorem depth_all {ds : List PyData} {n : Nat} (h : ∀ d ∈ ds, d.depth ≤ n) : PyData.depthAll ds ≤ n := by
  induction ds with
  | nil => simp only [PyData.depthAll]; omega
  | cons x r ih =>
    simp only [PyData.depthAll]
    have h1 := h x List.mem_cons_self
    have h2 := ih fun d hd => h d (List.mem_cons_of_mem _ hd)
    omega
theorem showable_all {ds : List PyData} (h : ∀ d ∈ ds, d.showable = true) : PyData.showableAll ds = true := by
  induction ds with
  | nil => simp only [PyData.showableAll]
  | cons x r ih =>
    simp only [PyData.showableAll, Bool.and_eq_true]
    exact ⟨h x List.mem_cons_self, ih fun d hd => h d (List.mem_cons_of_mem _ hd)⟩
theorem short_all {L : Nat} {ds : List PyData} (h : ∀ d ∈ ds, d.leavesShort L = true) : PyData.leavesShortAll L ds = true := by
  induction ds with
  | nil => simp only [PyData.leavesShortAll]
  | cons x r ih =>
    simp only [PyData.leavesShortAll, Bool.and_eq_true]
    exact ⟨h x List.mem_cons_self, ih fun d hd => h d (List.mem_cons_of_mem _ hd)⟩
theorem bd_all : ∀ (n : Nat) (d : PyData), bd n d = true → d.canLay0 = true ∧ d.hasDict = false ∧ d.depth ≤ n + 8 ∧ shortS d = true ∧ d.showable = true ∧ d.leavesShort 100 = true
  | 0, d, h => by unfold bd at h; cases h
  | n + 1, d, h => by
    have leaf : ∀ d : PyData, (d.canLay0 && (decide (d.depth ≤ 8) && (!d.hasDict && (shortS d && (d.showable && d.leavesShort 100))))) = true → d.canLay0 = true ∧ d.hasDict = false ∧ d.depth ≤ n + 1 + 8 ∧ shortS d = true ∧ d.showable = true ∧ d.leavesShort 100 = true := fun d h => by
      rw [Bool.and_eq_true, Bool.and_eq_true, Bool.and_eq_true, Bool.and_eq_true, Bool.and_eq_true] at h
      have h2 : d.depth ≤ 8 := of_decide_eq_true h.2.1
      exact ⟨h.1, by simpa using h.2.2.1, by omega, h.2.2.2.1, h.2.2.2.2.1, h.2.2.2.2.2⟩
    cases d with
    | tuple ds =>
      obtain ⟨_, h2⟩ := bd_tup h
      have ih : ∀ x ∈ ds, _ := fun x hx => bd_all n x (h2 x hx)
      refine ⟨?_, ?_, ?_, rfl, ?_, ?_⟩
      · simp only [PyData.canLay0]
        exact lay_all fun x hx => (ih x hx).1
      · simp only [PyData.hasDict]
        exact dict_all fun x hx => (ih x hx).2.1
      · simp only [PyData.depth]
        have := depth_all fun x hx => (ih x hx).2.2.1
        omega
      · simp only [PyData.showable]
        exact showable_all fun x hx => (ih x hx).2.2.2.2.1
      · simp only [PyData.leavesShort]
        exact short_all fun x hx => (ih x hx).2.2.2.2.2
    | none => exact leaf _ h
    | bool b => exact leaf _ h
    | int b => exact leaf _ h
    | str b => exact leaf _ h
    | list b => exact leaf _ h
    | dict b => exact leaf _ h
theorem bd_nd {n : Nat} {d : PyData} (h : bd n d = true) : d.hasDict = false := (bd_all n d h).2.1
theorem bd_short {n : Nat} {d : PyData} (h : bd n d = true) : shortS d = true := (bd_all n d h).2.2.2.1
theorem bd_shaped {n : Nat} {d : PyData} (h : bd n d = true) (hn : n ≤ 56) : SeqAt.shaped d = true := by
  obtain ⟨h1, _, h3, _⟩ := bd_all n d h
  unfold SeqAt.shaped
  rw [Bool.and_eq_true]
  exact ⟨h1, decide_eq_true (by omega)⟩
theorem rows_good {g : PyData → Pth → Option Pth} {x : PyData} {p : Pth} (h : rfR g x p = none) : ∃ (rows : List (List PyData)) (c : Nat), x = .tuple (rows.map .tuple) ∧ 1 ≤ rows.length ∧ 1 ≤ c ∧ (∀ l ∈ rows, l.length = c) ∧ ∀ (i k : Nat) (l : PyData) (y : PyData), (rows.map PyData.tuple)[i]? = some l → (itemsT l)[k]? = some y → ∃ q, g y q = none := by
  unfold rfR at h
  split at h
  · rename_i l0 ls
    have hn := firstO_none h
    have row : ∀ (i : Nat) l, (l0 :: ls)[i]? = some l → rowBad l0 l = false ∧ firstO (fun k c => g c (p ++ [(i : Int), (k : Int)])) 0 (itemsT l) = none := fun i l e => by
      have h1 := hn i l e
      rw [Nat.zero_add] at h1
      cases hb : rowBad l0 l with
      | true => rw [hb] at h1; simp at h1
      | false =>
        rw [hb] at h1
        exact ⟨rfl, by simpa using h1⟩
    have rb : ∀ l, rowBad l0 l = false → ∃ cs, l = .tuple cs ∧ cs ≠ [] ∧ cs.length = (itemsT l0).length := fun l hb => by
      unfold rowBad at hb
      cases l with
      | tuple cs =>
        refine ⟨cs, rfl, ?_, ?_⟩
        · intro z
          subst z
          simp [isTup, itemsT] at hb
        · have hb2 : (cs.isEmpty || decide (cs.length ≠ (itemsT l0).length)) = false := hb
          rw [Bool.or_eq_false_iff] at hb2
          exact Decidable.byContradiction fun z => by
            have := of_decide_eq_false hb2.2
            exact this z
      | _ => simp [isTup] at hb
    have all : ∀ l ∈ l0 :: ls, ∃ cs, l = .tuple cs ∧ cs ≠ [] ∧ cs.length = (itemsT l0).length := fun l hl => by
      obtain ⟨i, hi⟩ := List.getElem?_of_mem hl
      exact rb l (row i l hi).1
    refine ⟨(l0 :: ls).map itemsT, (itemsT l0).length, ?_, by simp, ?_, ?_, ?_⟩
    · congr 1
      rw [List.map_map]
      calc l0 :: ls = (l0 :: ls).map id := (List.map_id _).symm
        _ = _ := List.map_congr_left fun l hl => by
          obtain ⟨cs, rfl, _, _⟩ := all l hl
          rfl
    · obtain ⟨cs, e, hne, hl⟩ := all l0 List.mem_cons_self
      rw [← hl]
      exact List.length_pos_iff.mpr hne
    · intro l hl
      obtain ⟨l', hl', rfl⟩ := List.mem_map.mp hl
      obtain ⟨cs, rfl, _, e⟩ := all l' hl'
      exact e
    · intro i k l y e1 e2
      have e1' : (l0 :: ls)[i]? = some l := by
        have : ((l0 :: ls).map itemsT).map PyData.tuple = l0 :: ls := by
          rw [List.map_map]
          calc (l0 :: ls).map (PyData.tuple ∘ itemsT) = (l0 :: ls).map id := List.map_congr_left fun l hl => by
                obtain ⟨cs, rfl, _, _⟩ := all l hl
                rfl
            _ = l0 :: ls := List.map_id _
        rw [this] at e1
        exact e1
      have h2 := firstO_none (row i l e1').2 k y e2
      exact ⟨_, h2⟩
  · cases h
theorem form_false {d : PyData} (hno : ¬ ∃ w r, d = .tuple (.str w :: r)) : hasForm d = false := by
  unfold hasForm
  split
  · rename_i w r
    exact absurd ⟨w, r, rfl⟩ hno
  · rfl
theorem good_of : ∀ (n : Nat) (d : PyData) (p : Pth), ffF n d p = none → bd n d = true → Gd n d
  | 0, d, p, h, _ => by cases h
  | n + 1, d, p, h, hb => by
    have ih := good_of n
    unfold ffF at h
    cases hf : hasForm d with
    | false => rw [hf] at h; simp at h
    | true =>
      rw [hf] at h
      have h : firstO (fun i (kx : Str × PyData) => tfR (ffF n) kx.1 kx.2 (p ++ [(i : Int)])) 1 ((kindsOf (bodyT d).1 (bodyT d).2).zip (bodyT d).2) = none := by simpa using h
      have hd : ∃ w r, d = .tuple (.str w :: r) := by
        refine Classical.byContradiction fun hno => ?_
        have hf0 : hasForm d = false := form_false hno
        rw [hf0] at hf
        cases hf
      obtain ⟨w, r, rfl⟩ := hd
      have h : firstO (fun i (kx : Str × PyData) => tfR (ffF n) kx.1 kx.2 (p ++ [(i : Int)])) 1 ((kindsOf w r).zip r) = none := h
      obtain ⟨hl, hbs⟩ := bd_tup hb
      rw [List.length_cons] at hl
      have hbr : ∀ x ∈ r, bd n x = true := fun x hx => hbs x (List.mem_cons_of_mem _ hx)
      have hn := firstO_none h
      by_cases hr : w = "row"
      · subst hr
        refine ⟨_, r, rfl, by omega, fun z => absurd z (by decide +kernel), fun z => absurd z (by decide +kernel), fun z => absurd z (by decide +kernel), fun s hs => ?_⟩
        unfold subs at hs
        rw [if_neg (by decide +kernel)] at hs
        obtain ⟨i, hi, _⟩ := mem_flat hs
        have lw : low "row" = 1 := by decide +kernel
        rw [lw] at hi
        have hi : r[i]? = some s.2 := hi
        have kk : kindsOf "row" r = List.replicate r.length ("part" : Str) := by unfold kindsOf; rw [if_pos rfl]
        rw [kk] at h
        rw [zip_part] at h
        have := firstO_none h i s.2 hi
        exact ih _ _ this (hbr _ (List.mem_of_getElem? hi))
      · cases hw : wanted w with
        | none =>
          have hf2 : hasForm (.tuple (.str w :: r)) = false := by
            unfold hasForm
            dsimp only
            rw [if_neg hr, hw]
          rw [hf2] at hf
          cases hf
        | some ks =>
          obtain ⟨_, hk, _⟩ := wanted_knd hw
          have hf2 : hasForm (.tuple (.str w :: r)) = decide (r.length = ks.length) := by
            unfold hasForm
            dsimp only
            rw [if_neg hr, hw]
          rw [hf2] at hf
          have hlk : r.length = ks.length := of_decide_eq_true hf
          have kk : kindsOf w r = ks := by unfold kindsOf; rw [if_neg hr, hw]; rfl
          rw [kk] at h hn
          have sign1 : w = "sign" → r.length = 1 := fun z => by
            subst z
            have e : wanted "sign" = some [("sign" : Str)] := by decide +kernel
            rw [e] at hw
            have e2 := Option.some.inj hw
            rw [hlk, ← e2]
            rfl
          cases hk with
          | part e h1 h2 h3 =>
            refine ⟨w, r, rfl, by omega, fun z => absurd z h1, sign1, fun z => absurd z h2, fun s hs => ?_⟩
            unfold subs at hs
            rw [if_neg h2] at hs
            obtain ⟨i, hi, _⟩ := mem_flat hs
            have lw : low w = 1 := by unfold low; rw [if_neg h1]
            rw [lw] at hi
            have hi : r[i]? = some s.2 := hi
            rw [e, ← hlk, zip_part] at h
            have := firstO_none h i s.2 hi
            exact ih _ _ this (hbr _ (List.mem_of_getElem? hi))
          | base hk1 e h1 h2 h3 =>
            refine ⟨w, r, rfl, by omega, fun z => absurd z h1, sign1, fun z => absurd z h2, fun s hs => ?_⟩
            unfold subs at hs
            rw [if_neg h2] at hs
            obtain ⟨i, hi, _⟩ := mem_flat hs
            have lw : low w = 1 := by unfold low; rw [if_neg h1]
            rw [lw] at hi
            have hi : r[i]? = some s.2 := hi
            have hil : i < r.length := (List.getElem?_eq_some_iff.mp hi).1
            obtain ⟨kd, hkd⟩ : ∃ kd, ks[i]? = some kd := ⟨ks[i], List.getElem?_eq_getElem (by omega)⟩
            have hz := hn i (kd, s.2) (by rw [List.getElem?_zip_eq_some]; exact ⟨hkd, hi⟩)
            have hkd2 : kd = "base" ∨ kd = "part" := by
              have hm := List.mem_of_getElem? hkd
              rw [e] at hm
              rcases List.mem_cons.mp hm with z | z
              · exact .inl z
              · exact .inr (List.eq_of_mem_replicate z)
            have : ∃ q, ffF n s.2 q = none := by
              unfold tfR at hz
              dsimp only at hz
              rcases hkd2 with z | z
              · subst z
                rw [if_neg (by decide +kernel), if_neg (by decide +kernel)] at hz
                by_cases hbb : baseBad s.2 = true
                · rw [if_pos ⟨rfl, hbb⟩] at hz; cases hz
                · rw [if_neg (fun y => hbb y.2)] at hz; exact ⟨_, hz⟩
              · subst z
                rw [if_neg (by decide +kernel), if_neg (by decide +kernel), if_neg (fun z => absurd z.1 (by decide +kernel))] at hz
                exact ⟨_, hz⟩
            obtain ⟨q, hq⟩ := this
            exact ih _ _ hq (hbr _ (List.mem_of_getElem? hi))
          | sign hk1 e h1 h2 h3 =>
            refine ⟨w, r, rfl, by omega, fun _ => by omega, sign1, fun z => absurd z h2, fun s hs => ?_⟩
            unfold subs at hs
            rw [if_neg h2] at hs
            obtain ⟨i, hi, _⟩ := mem_flat hs
            have lw : low w = 2 := by unfold low; rw [if_pos h1]
            rw [lw] at hi
            have hi : r[i + 1]? = some s.2 := by
              have : (r.drop 1)[i]? = some s.2 := hi
              rw [List.getElem?_drop, Nat.add_comm] at this
              exact this
            have hil : i + 1 < r.length := (List.getElem?_eq_some_iff.mp hi).1
            obtain ⟨kd, hkd⟩ : ∃ kd, ks[i + 1]? = some kd := ⟨ks[i + 1], List.getElem?_eq_getElem (by omega)⟩
            have hz := hn (i + 1) (kd, s.2) (by rw [List.getElem?_zip_eq_some]; exact ⟨hkd, hi⟩)
            have hkd2 : kd = "part" := by
              rw [e, List.getElem?_cons_succ] at hkd
              exact List.eq_of_mem_replicate (List.mem_of_getElem? hkd)
            subst hkd2
            unfold tfR at hz
            dsimp only at hz
            rw [if_neg (by decide +kernel), if_neg (by decide +kernel), if_neg (fun z => absurd z.1 (by decide +kernel))] at hz
            exact ih _ _ hz (hbr _ (List.mem_of_getElem? hi))
          | rows hk1 e h1 h2 h3 =>
            subst e
            obtain ⟨x, rfl⟩ : ∃ x, r = [x] := by
              match r, hlk with
              | [x], _ => exact ⟨x, rfl⟩
            have hz := hn 0 (("rows" : Str), x) rfl
            unfold tfR at hz
            dsimp only at hz
            rw [if_neg (by decide +kernel), if_pos rfl] at hz
            obtain ⟨rows, c, e1, e2, e3, e4, e5⟩ := rows_good hz
            subst e1
            have hbx := hbr _ List.mem_cons_self
            cases n with
            | zero => unfold bd at hbx; cases hbx
            | succ n =>
              obtain ⟨hl1, hb1⟩ := bd_tup hbx
              rw [List.length_map] at hl1
              have hcl : c ≤ 200 := by
                cases rows with
                | nil => simp at e2
                | cons l ls =>
                  have hb2 := hb1 (.tuple l) (by simp)
                  cases n with
                  | zero => unfold bd at hb2; cases hb2
                  | succ n =>
                    have := (bd_tup hb2).1
                    rw [e4 l List.mem_cons_self] at this
                    exact this
              refine ⟨w, _, rfl, by simp, fun z => absurd z h1, sign1, fun _ => ⟨rows, c, rfl, e2, hl1, e3, hcl, e4⟩, fun s hs => ?_⟩
              unfold subs at hs
              rw [if_pos h2] at hs
              obtain ⟨i, k, l, a1, a2, _⟩ := mem_cells hs
              obtain ⟨q, hq⟩ := e5 i k l s.2 a1 a2
              refine ih _ _ hq ?_
              have hbl := hb1 l (List.mem_of_getElem? a1)
              cases n with
              | zero => unfold bd at hbl; cases hbl
              | succ n => exact bd_mono (by omega) (bd_items hbl s.2 (List.mem_of_getElem? a2))
end V1
set_option Elab.async false
set_option linter.all false
set_option maxRecDepth 100000
set_option maxHeartbeats 4000000
/-! k03: what the readings of the faults share. -/
namespace V1
open PySem PySem.Spec PyProof.Rows L2
theorem pe_gc {X : Cx} {x : Str} {v : V} {pos : Pos} (hg : Gl X x) (h : ∃ u, X.mg x = some u ∧ RelV v u) (hdb : (x == ("__debug__" : Str)) = false := by decide) : PE X (.Name x pos) (tC v) := by
  obtain ⟨u, h1, h2⟩ := h
  exact pe_glob hg h1 h2 hdb
theorem not_t {b : Bool} (h : (!b) = true) : b = false := by cases b <;> simp_all
theorem not_f {b : Bool} (h : (!b) = false) : b = true := by cases b <;> simp_all
def optS : Option Str → PyData
  | some w => .str w
  | none => .none
def inO (o : Option Str) (ws : List Str) : Bool := match o with
  | some w => decide (w ∈ ws)
  | none => false
theorem wordO_opt (d : PyData) : wordO d = optS (wordD d) := by
  unfold wordO optS
  cases wordD d <;> rfl
theorem baseBad_inO (d : PyData) : baseBad d = inO (wordD d) noBases := by
  unfold baseBad inO
  cases wordD d <;> rfl
def optP : Option Pth → PyData
  | some p => tI p
  | none => .none
theorem optP_ne (o : Option Pth) : optP o ≠ mark := by
  cases o with
  | none => intro z; cases z
  | some p => intro z; cases z
theorem nomk_c {d : PyData} {r : List PyData} (h : d.hasDict = false) (hr : nomk r = true) : nomk (d :: r) = true := by
  cases d with
  | dict k => simp [PyData.hasDict] at h
  | _ => exact hr
theorem nomk_s {d : PyData} {r : List PyData} (h : d ≠ mark) (hs : ∀ k, d ≠ .dict k) (hr : nomk r = true) : nomk (d :: r) = true := by
  cases d with
  | dict k => exact absurd rfl (hs k)
  | _ => exact hr
section
variable {L : Rl} {Γ : List (Option PyData)} {t : TA} {te ta tb : TE} {tt tu : TT}
theorem eg_notO {o : Option Pth} (h : EvD L te Γ (optP o)) : EvD L (tOp (fun x y H Q => y = V.non ∧ Q (.bl (!decide (x = .non))) H) te (tC .non)) Γ (.bool o.isSome) := fun A σ H hi he hg Q q => h A σ H hi he hg _ fun x d H1 r1 hx e => by
  subst e
  refine ⟨rfl, ?_⟩
  cases o with
  | none =>
    have h2 := hx.ne (optP_ne none)
    cases h2
    exact q _ _ H1 r1 (.inr (.bl _)) rfl
  | some p =>
    obtain ⟨a, xs, rfl, _, _⟩ := hx.tuple
    exact q _ _ H1 r1 (.inr (.bl _)) rfl
theorem cs_lenStr {z : Str} (h : z.cps.size ≤ 100) : CaS L (fun xs H Q => ∃ z, xs = [V.str z] ∧ z.length ≤ sizeLine ∧ Q (.int z.length) H) [.str z] (.int (z.cps.size : Int)) := fun A H vs hi hg hl hv Q q => by
  obtain ⟨v, rfl, hx⟩ := one_of hl hv
  obtain rfl := hx.str
  exact ⟨z, rfl, Nat.le_trans h (by decide), q _ H (Rl.refl hg) (.inr (.int _))⟩
/-- a text, or None, in a tuple of texts -/
theorem eg_inO {o : Option Str} {ws : List Str} (ha : EvD L ta Γ (optS o)) (hb : EvD L tb Γ (.tuple (ws.map .str))) : EvD L (tOp (rIn L.K false) ta tb) Γ (.bool (inO o ws)) := by
  cases o with
  | some w => exact eg_inS ha hb
  | none =>
    refine eg_op ha hb fun A H x y hi hg hx hy Q q => ?_
    have hx2 := hx.ne (by intro z; cases z)
    cases hx2
    obtain ⟨p, xs, rfl, e, r⟩ := hy.tuple
    have ex := r.strs
    subst ex
    refine ⟨p, _, rfl, .inr e.sq, rfl, flat_strs ws, ?_⟩
    show Q (.bl (inV .non (ws.map V.str))) H
    have e0 : inV .non (ws.map V.str) = false := by
      unfold inV
      induction ws with
      | nil => rfl
      | cons w r ih =>
        rw [List.map_cons, List.any_cons]
        have h1 : eqV (.str w) .non = false := rfl
        rw [h1, Bool.false_or]
        exact List.any_eq_false.mpr fun z hz => by
          obtain ⟨y, _, rfl⟩ := List.mem_map.mp hz
          intro h; cases h
    rw [e0]
    exact q _ _ H (Rl.refl hg) (.inr (.bl _)) rfl
theorem et_orB {k k2 : Bool} (h : EtD L tt Γ k) (h2 : k = false → EtD L tu Γ k2) : EtD L (tOr tt tu) Γ (k || k2) := by
  cases k with
  | true => exact et_or1 h
  | false => exact et_or0 h (h2 rfl)
end
theorem firstO_step {α : Type} {f : Nat → α → Option Pth} {xs : List α} {i0 i : Nat} {x : α} (h : xs[i]? = some x) : firstO f (i0 + i) (xs.drop i) = (match f (i0 + i) x with | some p => some p | none => firstO f (i0 + (i + 1)) (xs.drop (i + 1))) := by
  have hl := (List.getElem?_eq_some_iff.mp h).1
  have hd : xs.drop i = x :: xs.drop (i + 1) := by
    rw [List.drop_eq_getElem_cons hl]
    congr 1
    exact (List.getElem?_eq_some_iff.mp h).2
  rw [hd]
  rfl
theorem atI_nat {α : Type} {xs : List α} {i : Nat} {x : α} {j : Int} (h : xs[i]? = some x) (hj : j = (i : Int)) : atI xs j = some x := by
  have hl := (List.getElem?_eq_some_iff.mp h).1
  subst hj
  unfold atI ixN
  rw [if_pos (by omega), if_pos (by omega)]
  show xs[((i : Nat) : Int).toNat]? = _
  rw [Int.toNat_natCast]
  exact h
theorem form_shape {d : PyData} (h : hasForm d = true) : ∃ w r, d = .tuple (.str w :: r) := Classical.byContradiction fun z => by
  rw [form_false z] at h
  cases h
theorem wordO_eq (d : PyData) : wordO d = (match wordD d with | some w => .str w | none => .none) := rfl
theorem dec_cast (a b : Nat) : decide ((a : Int) ≤ (b : Int)) = decide (a ≤ b) := by
  by_cases h : a ≤ b
  · rw [decide_eq_true h]; exact decide_eq_true (by omega)
  · rw [decide_eq_false h]; exact decide_eq_false (by omega)
theorem kinds_len {w : Str} {r : List PyData} (h : hasForm (.tuple (.str w :: r)) = true) : (kindsOf w r).length = r.length := by
  unfold kindsOf
  by_cases hr : w = "row"
  · rw [if_pos hr, List.length_replicate]
  · rw [if_neg hr]
    unfold hasForm at h
    dsimp only at h
    rw [if_neg hr] at h
    cases hw : wanted w with
    | none => rw [hw] at h; cases h
    | some ks =>
      rw [hw] at h
      exact (of_decide_eq_true h).symm
theorem rfR_other {g : PyData → Pth → Option Pth} {d : PyData} {p : Pth} (h : ¬ ∃ l0 ls, d = .tuple (l0 :: ls)) : rfR g d p = some p := by
  unfold rfR
  split
  · rename_i l0 ls
    exact absurd ⟨l0, ls, rfl⟩ h
  · rfl
structure DP where
  d : PyData
  p : Pth
structure KDP where
  k : Str
  d : PyData
  p : Pth
end V1
set_option Elab.async false
set_option linter.all false
set_option maxRecDepth 100000
set_option maxHeartbeats 4000000
/-! Comprehensions over longer walks. -/
namespace V1
open PySem PySem.Spec PyProof.Rows L2
section
variable {L : Rl} {A : Addr → Prop} {H H' H1 : Hp} {v : V} {d : PyData} {σ : L2.St} {Γ : List (Option PyData)} {n a b c : Nat} {te ta tb tl : TE} {t : TA} {tt tu : TT} {P P1 P2 : PyData → Prop}
theorem eg_lcGFW {wi : TI} {g : TG} {js vs : List Nat} {PI1 : List PyData → Prop} {Pt : List PyData → Nat → PyData → Prop} (hw : WkG L a wi Γ PI1) (hj : ∀ j ∈ js, j ∈ vs) (hlen : ∀ items, PI1 items → items.length ≤ b ∧ b ≤ 100000)
    (hb : ∀ items, PI1 items → ∀ (i : Nat) d, items[i]? = some d → ∃ Γ', TgG L g js d (wipeD Γ vs) Γ' ∧ EvG L c te Γ' (fun r => r ≠ mark ∧ Pt items i r)) :
    EvF L (a + b * c) (tLc wi g tYes te vs) Γ (fun r => ∃ items rs, PI1 items ∧ r = .list rs ∧ rs.length = items.length ∧ ∀ (i : Nat) d, rs[i]? = some d → Pt items i d) := fun A σ H hi he hg Q q => hw A σ H hi he (L.gle (Nat.le_add_right _ _) hg) _ fun J H1 items r1 hp jk D hD => by
  have hD0 : H D = none := L.free r1 hD
  obtain ⟨hl, hl2⟩ := hlen items hp
  have g1 : L.G (b * c) H1 := Rl.gR hg r1
  -- the walk's word
  refine ⟨fun i m H2 => m = items.length - i ∧ i ≤ items.length ∧ L.R (a + i * c) H H2 ∧ Kp A H1 H2 ∧ ∃ acc rs, H2 D = some (.lst acc) ∧ DvAll L.K (fun b => A b ∨ b = D) H2 acc rs ∧ rs.length = i ∧ ∀ (j : Nat) d, rs[j]? = some d → Pt items j d, ⟨items.length, ?_⟩, ?_⟩
  · refine ⟨by omega, Nat.zero_le _, ?_, fun b o _ e k => by rw [upd_ne (ne_of_none e hD)]; exact e, [], [], upd_same, .nil, rfl, fun j d e => by simp at e⟩
    have e0 : a + 0 * c = a := by rw [Nat.zero_mul, Nat.add_zero]
    rw [e0]
    exact L.fresh r1 hD0
  · rintro i m H2 ⟨rfl, hle, r2, k2, acc, rs, eD, dv, hrl, hpt⟩
    have naD : ∀ b, A b → H2 b ≠ none := fun b z => hi.r r2 b z
    by_cases hlt : i < items.length
    · refine .inr ⟨jk.go i H2 k2 hlt, fun H3 => i + 1 ≤ items.length ∧ L.R (a + (i + 1) * c) H H3 ∧ Kp A H1 H3 ∧ ∃ acc rs, H3 D = some (.lst acc) ∧ DvAll L.K (fun b => A b ∨ b = D) H3 acc rs ∧ rs.length = i + 1 ∧ ∀ (j : Nat) d, rs[j]? = some d → Pt items j d,
        fun H3 h3 => ⟨items.length - (i + 1), by omega, rfl, h3⟩, fun x H3 y => ?_⟩
      obtain ⟨d, hd, sm, hdv⟩ := jk.yld i H2 x H3 k2 naD y hlt
      obtain ⟨Γ', htg, hev⟩ := hb items hp i d hd
      have innA' : ∀ b, (A b ∨ b = D) → H2 b ≠ none := fun b z => z.elim (naD b) fun e => by rw [e, eD]; simp
      have dx : Dv L.K (fun b => A b ∨ b = D) H3 x d := hdv _ innA' fun b o na e _ z => z.elim na (ne_of_none e hD)
      -- the names, away from the new list
      have ev2 : EnvOk L (fun b => A b ∨ b = D) (wipe σ vs) H3 (wipeD Γ vs) := by
        have h0 : EnvOk L (fun b => A b ∨ b = D) (wipe σ vs) (upd H1 D (.lst [])) (wipeD Γ vs) := ((he.r r1).wipe vs).avoid hD
        refine ⟨h0.1, fun j d' e => ?_⟩
        obtain ⟨v, e1, e2⟩ := h0.2 j d' e
        refine ⟨v, e1, e2.imp (fun z => z) fun z => z.map fun b o na eb kd => ⟨na, sm _ _ (k2 b o (fun w => na (.inl w)) ?_ kd)⟩⟩
        rwa [upd_ne (fun w => na (.inr w))] at eb
      refine htg (fun b => A b ∨ b = D) x (wipe σ vs) H3 dx ev2 _ fun σ2 e3 w3 => ⟨?_, ?_⟩
      · rw [w3 vs hj, wipe_wipe vs fun v hv => hv]
      · show te σ2 H3 _
        have g0 : L.G (c + 0) H2 := by
          refine Rl.gR (a := a + i * c) ?_ r2
          refine L.gle ?_ hg
          have h1 : (i + 1) * c ≤ b * c := Nat.mul_le_mul_right _ (by omega)
          have h2 : (i + 1) * c = i * c + c := Nat.succ_mul _ _
          omega
        have r3 : L.R 0 H2 H3 := L.same (L.g0 g0) sm
        have g3 : L.G c H3 := Rl.gR (a := 0) (by rw [Nat.zero_add]; exact g0) r3
        refine hev (fun b => A b ∨ b = D) σ2 H3 (fun b z y => innA' b z (L.free r3 y)) e3 g3 _ fun y dy H4 r4 hy pw => ?_
        obtain ⟨hmk, hpt4⟩ := pw
        have eD4 : H4 D = some (.lst acc) := L.keep r4 (sm _ _ eD) (fun kvs z => by cases z)
        refine ⟨acc, eD4, Nat.lt_of_le_of_lt (show acc.length ≤ 100000 by rw [dv.length, hrl]; omega) (by decide), hlt, ?_, ?_, acc ++ [y], rs ++ [dy], upd_same, ?_, by rw [List.length_append, hrl]; rfl, fun j d' e => ?_⟩
        · have hh : L.R (a + i * c + 0 + c) H H4 := L.tr (L.tr r2 r3) r4
          have e5 : a + (i + 1) * c = a + i * c + 0 + c := by rw [Nat.succ_mul]; omega
          rw [e5]
          exact L.fresh hh hD0
        · intro b o na e k
          have ne : b ≠ D := ne_of_none e hD
          rw [upd_ne ne]
          exact L.keep r4 (sm _ _ (k2 b o na e k)) k
        · have dv4 : DvAll L.K (fun b => A b ∨ b = D) H4 acc rs := (dv.map (fun b o na e k => ⟨na, sm _ _ e⟩) : DvAll L.K (fun b => A b ∨ b = D) H3 acc rs).r r4
          exact (dv4.app (.cons (hy.ne hmk) .nil)).off
        · by_cases hj2 : j < rs.length
          · rw [List.getElem?_append_left hj2] at e
            exact hpt j d' e
          · rw [List.getElem?_append_right (by omega)] at e
            have hj3 : j - rs.length = 0 := by
              have := (List.getElem?_eq_some_iff.mp e).1
              simp at this
              omega
            rw [hj3] at e
            simp at e
            subst e
            have : j = i := by omega
            subst this
            exact hpt4
    · have e : i = items.length := by omega
      subst e
      refine .inl ⟨jk.stop H2 k2, ?_⟩
      have nD : ¬ A D := hi.no hD0
      refine q D (.list rs) H2 (L.rle ?_ r2) hD0 (.inr (.lst nD eD (dv.map fun b o na e _ => ⟨fun z => na (.inl z), e⟩))) ⟨items, rs, hp, rfl, hrl, hpt⟩
      have := Nat.mul_le_mul_right c hl
      omega
theorem eg_lcGW {wi : TI} {g : TG} {js vs : List Nat} {PI1 : List PyData → Prop} {Pt : List PyData → Nat → PyData → Prop} (hw : WkG L a wi Γ PI1) (hj : ∀ j ∈ js, j ∈ vs) (hlen : ∀ items, PI1 items → items.length ≤ b ∧ b ≤ 100000)
    (hb : ∀ items, PI1 items → ∀ (i : Nat) d, items[i]? = some d → ∃ Γ', TgG L g js d (wipeD Γ vs) Γ' ∧ EvG L c te Γ' (fun r => r ≠ mark ∧ Pt items i r)) :
    EvG L (a + b * c) (tLc wi g tYes te vs) Γ (fun r => ∃ items rs, PI1 items ∧ r = .list rs ∧ rs.length = items.length ∧ ∀ (i : Nat) d, rs[i]? = some d → Pt items i d) := (eg_lcGFW hw hj hlen hb).eg
/-- each item comes to one thing -/
theorem eg_lcFW {wi : TI} {g : TG} {js vs : List Nat} {items rs : List PyData} (hw : WkD L wi Γ items) (hj : ∀ j ∈ js, j ∈ vs) (hlen : items.length ≤ 100000) (hr : rs.length = items.length)
    (hb : ∀ (i : Nat) d r, items[i]? = some d → rs[i]? = some r → r ≠ mark ∧ ∃ Γ', TgG L g js d (wipeD Γ vs) Γ' ∧ EvD L te Γ' r) : EvF L 0 (tLc wi g tYes te vs) Γ (fun x => x = .list rs) := by
  have h := eg_lcGFW (a := 0) (b := items.length) (c := 0) (te := te) (Pt := fun its i r => rs[i]? = some r) hw hj (fun its e => by rw [e]; exact ⟨Nat.le_refl _, hlen⟩) (fun its e i d hd => by
    subst e
    have hi : i < rs.length := by rw [hr]; exact (List.getElem?_eq_some_iff.mp hd).1
    obtain ⟨nm, Γ', h1, h2⟩ := hb i d rs[i] hd (List.getElem?_eq_getElem hi)
    refine ⟨Γ', h1, EvG.mono h2 (Nat.le_refl _) fun r e => ?_⟩
    rw [e]
    exact ⟨nm, List.getElem?_eq_getElem hi⟩)
  intro A σ H hi he hg Q q
  refine h A σ H hi he (L.gle (Nat.le_of_eq (by simp)) hg) Q fun p r H' rr hp hv ⟨its, rs', e1, e2, e3, e4⟩ => q p r H' (L.rle (Nat.le_of_eq (by simp)) rr) hp hv ?_
  rw [e2]
  congr 1
  subst e1
  refine List.ext_getElem? fun i => ?_
  by_cases hi : i < rs'.length
  · have z := e4 i rs'[i] (List.getElem?_eq_getElem hi)
    rw [z, List.getElem?_eq_getElem hi]
  · rw [List.getElem?_eq_none (by omega), List.getElem?_eq_none (by omega)]
theorem eg_lcW {wi : TI} {g : TG} {js vs : List Nat} {items rs : List PyData} (hw : WkD L wi Γ items) (hj : ∀ j ∈ js, j ∈ vs) (hlen : items.length ≤ 100000) (hr : rs.length = items.length)
    (hb : ∀ (i : Nat) d r, items[i]? = some d → rs[i]? = some r → r ≠ mark ∧ ∃ Γ', TgG L g js d (wipeD Γ vs) Γ' ∧ EvD L te Γ' r) : EvD L (tLc wi g tYes te vs) Γ (.list rs) := (eg_lcFW hw hj hlen hr hb).eg
end
end V1
set_option Elab.async false
set_option linter.all false
set_option maxRecDepth 100000
set_option maxHeartbeats 4000000
/-! k03: the ways down, the walk. -/
namespace V1
open PySem PySem.Spec PyProof.Rows L2
theorem mapIdx_rng {α β : Type} (l : List α) (g : Nat → β) : l.mapIdx (fun k _ => g k) = (List.range l.length).map g := by
  refine List.ext_getElem? fun i => ?_
  rw [List.getElem?_mapIdx, List.getElem?_map]
  by_cases h : i < l.length
  · rw [List.getElem?_eq_getElem h, List.getElem?_range h]
    rfl
  · rw [List.getElem?_eq_none (by omega), List.getElem?_eq_none (by rw [List.length_range]; omega)]
    rfl
theorem map_mapIdx {α β γ : Type} (l : List α) (f : Nat → α → β) (g : β → γ) : (l.mapIdx f).map g = l.mapIdx fun i x => g (f i x) := by
  refine List.ext_getElem? fun i => ?_
  rw [List.getElem?_map, List.getElem?_mapIdx, List.getElem?_mapIdx]
  cases l[i]? <;> rfl
theorem map_flatten {β γ : Type} (l : List (List β)) (g : β → γ) : l.flatten.map g = (l.map fun x => x.map g).flatten := by
  rw [List.map_flatten]
theorem table_ways (rows : List (List PyData)) (c : Nat) (h : ∀ l ∈ rows, l.length = c) : ∀ (i0 : Nat), (((rows.map PyData.tuple).mapIdx fun i l => (itemsT l).mapIdx fun k _ => tI [1, ((i0 + i : Nat) : Int), (k : Int)]).flatten) = (List.range' i0 rows.length).flatMap fun i => (List.range c).map fun (k : Nat) => tI [1, ((i : Nat) : Int), (k : Int)] := by
  induction rows with
  | nil => intro i0; rfl
  | cons l ls ih =>
    intro i0
    have h1 := ih (fun x hx => h x (List.mem_cons_of_mem _ hx)) (i0 + 1)
    rw [List.map_cons, List.mapIdx_cons, List.flatten_cons, List.length_cons, List.range'_succ, List.flatMap_cons, ← h1]
    congr 1
    · show (l.mapIdx fun k _ => tI [1, ((i0 + 0 : Nat) : Int), (k : Int)]) = _
      rw [mapIdx_rng, h l List.mem_cons_self]
      rfl
    · have e : (fun (i : Nat) (l : PyData) => (itemsT l).mapIdx fun k _ => tI [1, ((i0 + (i + 1) : Nat) : Int), (k : Int)]) = fun i l => (itemsT l).mapIdx fun k _ => tI [1, ((i0 + 1 + i : Nat) : Int), (k : Int)] := by
        funext i l
        rw [show i0 + (i + 1) = i0 + 1 + i by omega]
      rw [e]
/-- the shape of a good formula, one level -/
structure Shp (w : Str) (r : List PyData) : Prop where
  len : r.length ≤ 200
  sg : w ∈ sgn4 → 1 ≤ r.length
  sign : w = "sign" → r.length = 1
  tab : w = "table" → ∃ (rows : List (List PyData)) (c : Nat), r = [.tuple (rows.map .tuple)] ∧ 1 ≤ rows.length ∧ rows.length ≤ 200 ∧ 1 ≤ c ∧ c ≤ 200 ∧ ∀ l ∈ rows, l.length = c
theorem Gd.shp {n : Nat} {d : PyData} (h : Gd (n + 1) d) : ∃ w r, d = .tuple (.str w :: r) ∧ Shp w r ∧ ∀ s ∈ subs w r, Gd n s.2 := by
  obtain ⟨w, r, e, h1, h2, h3, h4, h5⟩ := h
  exact ⟨w, r, e, ⟨h1, h2, h3, h4⟩, h5⟩
theorem ways_subs {w : Str} {r : List PyData} (h : Shp w r) : waysD w r = (subs w r).map fun s => tI s.1 := by
  unfold waysD subs
  by_cases hw : w = "table"
  · rw [if_pos hw, if_pos hw]
    obtain ⟨rows, c, rfl, h1, _, h3, _, hc⟩ := h.tab hw
    cases rows with
    | nil => simp at h1
    | cons l ls =>
      show flatR (fun _ => rngD 0 l.length) cellD ((ls.map PyData.tuple).length + 1) = (cellsOf (.tuple l :: ls.map .tuple)).map fun s => tI s.1
      have e1 : (cellsOf (.tuple l :: ls.map .tuple)).map (fun s => tI s.1) = (((l :: ls).map PyData.tuple).mapIdx fun i l => (itemsT l).mapIdx fun k _ => tI [1, ((0 + i : Nat) : Int), (k : Int)]).flatten := by
        unfold cellsOf
        rw [map_flatten, map_mapIdx]
        have e : (fun (i : Nat) (x : PyData) => ((itemsT x).mapIdx fun k c => (([1, (i : Int), (k : Int)] : Pth), c)).map fun s => tI s.1) = fun i x => (itemsT x).mapIdx fun k _ => tI [1, ((0 + i : Nat) : Int), (k : Int)] := by
          funext i x
          rw [map_mapIdx, Nat.zero_add]
        rw [e]
        rfl
      rw [e1, table_ways (l :: ls) c hc 0]
      unfold flatR rowR
      rw [List.length_map, List.length_cons, hc l List.mem_cons_self, List.range_eq_range']
      congr 1
      funext i
      rw [rng_len]
      refine List.map_congr_left fun k _ => ?_
      unfold cellD tI
      rw [List.map_cons, List.map_cons, List.map_cons, List.map_nil, Int.zero_add, Int.zero_add]
  · rw [if_neg hw, if_neg hw, map_mapIdx]
    show rngL _ _ = (r.drop (low w - 1)).mapIdx fun i x => tI [((low w + i : Nat) : Int)]
    rw [mapIdx_rng, List.length_drop]
    have el : (if w ∈ (["sign", "under", "upper", "limits"] : List Str) then (2 : Int) else 1) = ((low w : Nat) : Int) := by
      unfold low
      by_cases z : w ∈ sgn4
      · rw [if_pos z, if_pos z]; rfl
      · rw [if_neg z, if_neg z]; rfl
    rw [el]
    unfold rngL
    have lw : 1 ≤ low w := by unfold low; split <;> omega
    have en : (((r.length + 1 : Nat) : Int) - ((low w : Nat) : Int)).toNat = r.length - (low w - 1) := by omega
    rw [en]
    refine List.map_congr_left fun k _ => ?_
    unfold tI
    rw [List.map_cons, List.map_nil, show ((low w + k : Nat) : Int) = (low w : Int) + (k : Int) by omega]
theorem sub_at {w : Str} {r : List PyData} (h : Shp w r) {s : Pth × PyData} (hs : s ∈ subs w r) : ∃ i way, s.1 = i :: way ∧ atP (.tuple (.str w :: r)) s.1 = some s.2 ∧ s.1.length ≤ 3 := by
  unfold subs at hs
  by_cases hw : w = "table"
  · rw [if_pos hw] at hs
    obtain ⟨rows, c, rfl, _⟩ := h.tab hw
    obtain ⟨i, k, l, h1, h2, e⟩ := mem_cells hs
    have hl : ∃ cs, l = .tuple cs := by
      obtain ⟨cs, _, rfl⟩ := List.mem_map.mp (List.mem_of_getElem? h1)
      exact ⟨cs, rfl⟩
    obtain ⟨cs, rfl⟩ := hl
    refine ⟨_, _, e, ?_, by rw [e]; simp⟩
    rw [e]
    show (atI (PyData.str w :: [PyData.tuple (rows.map .tuple)]) 1).bind _ = _
    rw [atI_one]
    show (atI (rows.map PyData.tuple) ((i : Nat) : Int)).bind _ = _
    rw [atI_nat h1 rfl]
    show (atI cs ((k : Nat) : Int)).bind _ = _
    rw [atI_nat (xs := cs) h2 rfl]
    cases s.2 <;> rfl
  · rw [if_neg hw] at hs
    obtain ⟨i, hi, e⟩ := mem_flat hs
    refine ⟨_, _, e, ?_, by rw [e]; simp⟩
    rw [e]
    show (atI (PyData.str w :: r) ((low w + i : Nat) : Int)).bind _ = _
    have lw : 1 ≤ low w := by unfold low; split <;> omega
    have h1 : (PyData.str w :: r)[low w + i]? = some s.2 := by
      rw [List.getElem?_drop] at hi
      rw [show low w + i = (low w - 1 + i) + 1 by omega, List.getElem?_cons_succ]
      exact hi
    rw [atI_nat h1 rfl]
    cases s.2 <;> rfl
theorem bd_str {n : Nat} {w : Str} {r : List PyData} (h : bd (n + 1) (.tuple (.str w :: r)) = true) : ∀ s ∈ subs w r, bd n s.2 = true := by
  intro s hs
  obtain ⟨_, hb⟩ := bd_tup h
  have hr : ∀ x ∈ r, bd n x = true := fun x hx => hb x (List.mem_cons_of_mem _ hx)
  unfold subs at hs
  by_cases hw : w = "table"
  · rw [if_pos hw] at hs
    cases r with
    | nil => simp at hs
    | cons x r =>
      cases x with
      | tuple rows =>
        have hs : s ∈ cellsOf rows := hs
        obtain ⟨i, k, l, h1, h2, _⟩ := mem_cells hs
        have hx := hr _ List.mem_cons_self
        cases n with
        | zero => unfold bd at hx; cases hx
        | succ n =>
          have hl := (bd_tup hx).2 l (List.mem_of_getElem? h1)
          cases n with
          | zero => unfold bd at hl; cases hl
          | succ n => exact bd_mono (by omega) (bd_items hl s.2 (List.mem_of_getElem? h2))
      | _ => simp at hs
  · rw [if_neg hw] at hs
    obtain ⟨i, hi, _⟩ := mem_flat hs
    exact hr _ (List.mem_of_mem_drop (List.mem_of_getElem? hi))
def levAt (w : Str) (lev : Int) (s : Pth) : Int := if lowB w (s.headD 0) then lev + 1 else lev
def walkF : Nat → Pth → PyData → Int → List PyData
  | 0, _, _, _ => []
  | n + 1, p, d, lev => .tuple [tI p, d, .int lev] :: ((subs (bodyT d).1 (bodyT d).2).map fun s => walkF n (p ++ s.1) s.2 (levAt (bodyT d).1 lev s.1)).flatten
theorem walk_len : ∀ (n : Nat) (p : Pth) (d : PyData) (lev : Int), (walkF n p d lev).length = W n d
  | 0, _, _, _ => rfl
  | n + 1, p, d, lev => by
    unfold walkF W
    rw [List.length_cons, List.length_flatten, List.map_map, Nat.add_comm]
    congr 2
    exact List.map_congr_left fun s _ => walk_len n _ _ _
theorem sum_take_le (l : List Nat) : ∀ i, (l.take i).sum ≤ l.sum := by
  induction l with
  | nil => intro i; simp
  | cons a r ih =>
    intro i
    cases i with
    | zero => simp
    | succ i =>
      rw [List.take_succ_cons, List.sum_cons, List.sum_cons]
      have := ih i
      omega
theorem sum_mem_le {l : List Nat} {a : Nat} (h : a ∈ l) : a ≤ l.sum := by
  induction l with
  | nil => simp at h
  | cons b r ih =>
    rw [List.sum_cons]
    rcases List.mem_cons.mp h with rfl | h
    · omega
    · have := ih h
      omega
theorem W_sub {n : Nat} {w : Str} {r : List PyData} {s : Pth × PyData} (hs : s ∈ subs w r) : W n s.2 < W (n + 1) (.tuple (.str w :: r)) := by
  have h1 : W n s.2 ≤ ((subs w r).map fun s => W n s.2).sum := sum_mem_le (List.mem_map.mpr ⟨s, hs, rfl⟩)
  show _ < 1 + ((subs w r).map fun s => W n s.2).sum
  omega
theorem nomk_t {p : Pth} {r : List PyData} (hr : nomk r = true) : nomk (tI p :: r) = true := hr
structure PDL where
  p : Pth
  d : PyData
  lev : Int
theorem ways_ok {w : Str} {r : List PyData} (h : Shp w r) : (w = "table" → ∃ rows first fr, r = .tuple (.tuple first :: rows) :: fr ∧ rows.length ≤ 900 ∧ first.length ≤ 900) ∧ r.length ≤ 900 := by
  refine ⟨fun hw => ?_, by have := h.len; omega⟩
  obtain ⟨rows, c, rfl, h1, h2, h3, h4, hc⟩ := h.tab hw
  cases rows with
  | nil => simp at h1
  | cons l ls => exact ⟨ls.map .tuple, l, [], rfl, by rw [List.length_map]; rw [List.length_cons] at h2; omega, by rw [hc l List.mem_cons_self]; omega⟩
theorem maxI_maxN (l : List Nat) : maxI 0 (l.map fun (n : Nat) => (n : Int)) = ((maxN l : Nat) : Int) := by
  have key : ∀ (l : List Nat) (a : Nat), (l.map fun (n : Nat) => (n : Int)).foldl max (a : Int) = ((max a (maxN l) : Nat) : Int) := by
    intro l
    induction l with
    | nil => intro a; show (a : Int) = _; unfold maxN; simp
    | cons b r ih =>
      intro a
      rw [List.map_cons, List.foldl_cons]
      have e : max (a : Int) (b : Int) = ((max a b : Nat) : Int) := by omega
      rw [e, ih]
      show _ = ((max a (max b (maxN r)) : Nat) : Int)
      omega
  cases l with
  | nil => rfl
  | cons a r =>
    show (r.map fun (n : Nat) => (n : Int)).foldl max (a : Int) = _
    rw [key]
    rfl
end V1
set_option Elab.async false
set_option linter.all false
set_option maxRecDepth 100000
set_option maxHeartbeats 4000000
namespace V1
open PySem PySem.Spec PyProof.Rows L2
variable {P : Program} {w : World} {K : PySem.W.Frag} {mg : Str → Option Value} {base : Heap}

def sp_walk_from (K : PySem.W.Frag) (n : Nat) : Sp := spR K (fun a : PDL => [tI a.p, a.d, .int a.lev]) (fun a => Gd n a.d ∧ bd n a.d = true ∧ W n a.d ≤ 90000 ∧ a.p.length + 4 * n ≤ 1000) fun a => .list (walkF n a.p a.d a.lev)
def sp_depth_of (K : PySem.W.Frag) (n : Nat) : Sp := spR K (fun d : PyData => [d]) (fun d => Gd n d ∧ bd n d = true) fun d => .int ((Dp1 n d : Nat) : Int)

abbrev s_walk_from : Stmt := top 6
abbrev n_walk_from : List Str := ["path", "formula", "level", "found", "way", "part"]
theorem sc_walk_from : FnScope n_walk_from ["path", "formula", "level"] (defScope s_walk_from) := ⟨rfl, rfl, rfl, by decide +kernel, rfl, by decide +kernel, by decide +kernel⟩

theorem ok_walk_from {f : Addr} {fd : FuncData} (T : Bt K mg) (C : Cst K w mg) (D : Df K mg "walk_from" s_walk_from ["path", "formula", "level"] f fd)
    {f_ways_down : Addr} {d_ways_down : FuncData} (h_ways_down : Cal P w K mg base "ways_down" s_ways_down ["formula"] 1 (sp_ways_down K) f_ways_down d_ways_down)
    {f_thing_at : Addr} {d_thing_at : FuncData} (h_thing_at : Cal P w K mg base "thing_at" s_thing_at ["value", "path"] 1 (sp_thing_at K) f_thing_at d_thing_at)
    {n : Nat} (h_walk_from : Cal P w K mg base "walk_from" s_walk_from ["path", "formula", "level"] (1 + n) (sp_walk_from K n) f fd)
    {f_level_below : Addr} {d_level_below : FuncData} (h_level_below : Cal P w K mg base "level_below" s_level_below ["formula", "level", "way"] 1 (sp_level_below K) f_level_below d_level_below) : Cal P w K mg base "walk_from" s_walk_from ["path", "formula", "level"] (1 + n + 1) (sp_walk_from K (n + 1)) f fd := by
  refine ok_R D sc_walk_from (fun _ => rfl) fun cdv A outer s H E hgd hr => ⟨_, (pss_cons (ps_set (i := 3) sc_walk_from.nd rfl (Or.inl rfl) (pe_lst (pa_cons (pe_tup (pa_cons (pv 0) (pa_cons (pv 1) (pa_cons (pv 2) pa_nil)))) pa_nil)))
        (pss_cons (ps_for PassesOwn.never rfl (pi_list (pe_fn (E := E0) h_ways_down.G hgd (hr.mono (by omega)) (by rfl) h_ways_down.gm h_ways_down.kp h_ways_down.b (pa_cons (pv 1) pa_nil))) (pg_name (i := 4) sc_walk_from.nd rfl (Or.inl rfl))
        (pss_cons (ps_set (i := 5) sc_walk_from.nd rfl (Or.inl rfl) (pe_fn (E := E0) h_thing_at.G hgd (hr.mono (by omega)) (by rfl) h_thing_at.gm h_thing_at.kp h_thing_at.b (pa_cons (pv 1) (pa_cons (pv 4) pa_nil))))
        (pss_one (ps_expr (pe_bm PySem.F.plainAttrs_list PySem.F.slot_list_extend PySem.F.type_list_extend mt_extend (pv 3) (pa_cons (pe_fn (E := E0) h_walk_from.G hgd (hr.mono (by omega)) (by rfl) h_walk_from.gm h_walk_from.kp h_walk_from.b (pa_cons (pe_op op_catA (pv 0) (pv 4)) (pa_cons (pv 5) (pa_cons (pe_fn (E := E0) h_level_below.G hgd (hr.mono (by omega)) (by rfl) h_level_below.gm h_level_below.kp h_level_below.b (pa_cons (pv 1) (pa_cons (pv 2) (pa_cons (pv 4) pa_nil)))) pa_nil)))) pa_nil))))))
        (pss_one (ps_ret (pv 3))))), ?_⟩
  rintro ⟨p, d, lev⟩ ⟨hG, hb, hW, hp⟩
  have hG : Gd (n + 1) d := hG
  have hb : bd (n + 1) d = true := hb
  have hW : W (n + 1) d ≤ 90000 := hW
  have hp : p.length + 4 * (n + 1) ≤ 1000 := hp
  obtain ⟨w, r, rfl, hS, hsub⟩ := hG.shp
  have hnd := bd_nd hb
  show SG (pureL K) 0 _ [some (tI p), some (.tuple (.str w :: r)), some (.int lev), none, none, none] _ (fun x => x = .list (walkF (n + 1) p (.tuple (.str w :: r)) lev))
  generalize hss : subs w r = ss at hsub
  have hwl : (.list (waysD w r) : PyData) = .list (ss.map fun s => tI s.1) := by rw [ways_subs hS, hss]
  let acc : Nat → List PyData := fun i => .tuple [tI p, .tuple (.str w :: r), .int lev] :: ((ss.take i).map fun s => walkF n (p ++ s.1) s.2 (levAt w lev s.1)).flatten
  have ev : walkF (n + 1) p (.tuple (.str w :: r)) lev = acc ss.length := by
    show PyData.tuple [tI p, .tuple (.str w :: r), .int lev] :: ((subs w r).map fun s => walkF n (p ++ s.1) s.2 (levAt w lev s.1)).flatten = _
    rw [hss]
    show _ = PyData.tuple [tI p, .tuple (.str w :: r), .int lev] :: ((ss.take ss.length).map fun s => walkF n (p ++ s.1) s.2 (levAt w lev s.1)).flatten
    rw [List.take_length]
  have hWs : ((ss.map fun s => W n s.2).sum) ≤ 90000 := by
    have e : W (n + 1) (.tuple (.str w :: r)) = 1 + ((subs w r).map fun s => W n s.2).sum := rfl
    rw [e, hss] at hW
    omega
  have alen : ∀ i, (acc i).length ≤ 100000 := fun i => by
    show (((ss.take i).map fun s => walkF n (p ++ s.1) s.2 (levAt w lev s.1)).flatten).length + 1 ≤ _
    rw [List.length_flatten, List.map_map]
    have e : (ss.take i).map (List.length ∘ fun s => walkF n (p ++ s.1) s.2 (levAt w lev s.1)) = (ss.map fun s => W n s.2).take i := by
      rw [← List.map_take]
      exact List.map_congr_left fun s _ => walk_len n _ _ _
    rw [e]
    have := sum_take_le (ss.map fun s => W n s.2) i
    omega
  rw [ev]
  refine sg_growE (j := 3) (js := [4]) (items := ss.map fun s => tI s.1) (ds0 := [.tuple [tI p, .tuple (.str w :: r), .int lev]]) (acc := acc) (fun i G => ∃ a b, G = [some (tI p), some (.tuple (.str w :: r)), some (.int lev), none, a, b]) (show 3 < 6 by decide) (by decide) (evl_lst (ea_cons (eg_tup (ea_cons (eg_var rfl) (ea_cons (eg_var rfl) (ea_cons (eg_var rfl) ea_nil)))) ea_nil)) (by show _ = acc 0; simp [acc]) alen ?_ ⟨_, _, rfl⟩ ?_ ?_
  · refine wk_list ((eg_callR (L := pureL K) (⟨w, r⟩ : WY) (ea_cons (eg_var rfl) ea_nil) (ways_ok hS)).to ?_)
    exact hwl
  · rintro i e G he ⟨a, b, rfl⟩
    obtain ⟨s, hs, hsm, rfl⟩ := map_at (enc := fun s : Pth × PyData => tI s.1) he
    have hsm' : s ∈ subs w r := by rw [hss]; exact hsm
    obtain ⟨i0, way, es, hat, hl3⟩ := sub_at hS hsm'
    have hbs := bd_str hb s hsm'
    have hWsub := W_sub (n := n) hsm'
    refine ⟨_, fun G => G = [some (tI p), some (.tuple (.str w :: r)), some (.int lev), none, some (tI s.1), some s.2], tg_name, fun v0 => ?_, ?_⟩
    · exact fun A σ H hi he2 hg hsj D q => eg_callR (L := pureL K) (⟨.tuple (.str w :: r), s.1, s.2⟩ : AP) (ea_cons (eg_var rfl) (ea_cons (eg_var rfl) ea_nil)) ⟨hnd, hat⟩ (nomk_c hnd rfl) A σ H hi he2 hg _ fun v d H1 r1 hv ed => by
        have ed' : d = s.2 := ed
        subst ed'
        exact q _ H1 _ r1 ((he2.r r1).set hv 5) (by rw [List.getElem?_set_ne (by decide)]; exact hsj) rfl
    · rintro G rfl
      refine ⟨walkF n (p ++ s.1) s.2 (levAt w lev s.1), ?_, ?_, ?_, ⟨_, _, rfl⟩⟩
      · refine eg_callR (L := pureL K) (⟨p ++ s.1, s.2, levAt w lev s.1⟩ : PDL) (ea_cons ((eg_catA (L := pureL K) (eg_var rfl) (eg_var rfl) (by rw [List.length_map, List.length_map]; omega)).to (by unfold tI; rw [List.map_append])) (ea_cons (eg_var rfl) (ea_cons ?_ ea_nil))) ⟨hsub s hsm, hbs, by show W n s.2 ≤ 90000; omega, by show (p ++ s.1).length + 4 * n ≤ 1000; rw [List.length_append]; omega⟩ (nomk_t (nomk_c (bd_nd hbs) rfl))
        refine (eg_callR (L := pureL K) (⟨w, r, lev, i0, way⟩ : LB) (ea_cons (eg_var rfl) (ea_cons (eg_var rfl) (ea_cons ((eg_var rfl : EvD (pureL K) (tVar 4) _ (tI s.1)).to (by rw [es])) ea_nil))) trivial (nomk_c hnd rfl)).to ?_
        show PyData.int (if lowB w i0 then lev + 1 else lev) = .int (levAt w lev s.1)
        unfold levAt
        rw [es]
        rfl
      · rw [walk_len]
        omega
      · show PyData.tuple [tI p, .tuple (.str w :: r), .int lev] :: ((ss.take (i + 1)).map fun s => walkF n (p ++ s.1) s.2 (levAt w lev s.1)).flatten = _
        rw [take_next hs, List.map_append, List.flatten_append]
        simp [acc]
  · rintro G ⟨a, b, rfl⟩
    rw [List.length_map]
    exact sg_ret (eg_var rfl) rfl

abbrev s_walk : Stmt := top 7
abbrev n_walk : List Str := ["formula"]
theorem sc_walk : FnScope n_walk ["formula"] (defScope s_walk) := ⟨rfl, rfl, rfl, by decide +kernel, rfl, by decide +kernel, by decide +kernel⟩
def sp_walk (K : PySem.W.Frag) : Sp := spR K (fun d : PyData => [d]) (fun d => Gd 40 d ∧ bd 40 d = true ∧ W 40 d ≤ 90000) fun d => .list (walkF 40 [] d 0)
theorem ok_walk {f : Addr} {fd : FuncData} (T : Bt K mg) (C : Cst K w mg) (D : Df K mg "walk" s_walk ["formula"] f fd)
    {f_walk_from : Addr} {d_walk_from : FuncData} (h_walk_from : Cal P w K mg base "walk_from" s_walk_from ["path", "formula", "level"] (41) (sp_walk_from K 40) f_walk_from d_walk_from) : Cal P w K mg base "walk" s_walk ["formula"] (42) (sp_walk K) f fd := by
  refine ok_R D sc_walk (fun _ => rfl) fun cdv A outer s H E hgd hr => ⟨_, (pss_one (ps_ret (pe_fn (E := E0) h_walk_from.G hgd (hr.mono (by decide)) (by rfl) h_walk_from.gm h_walk_from.kp h_walk_from.b (pa_cons (pe_tup pa_nil) (pa_cons (pv 0) (pa_cons pe_int pa_nil)))))), ?_⟩
  rintro d ⟨h1, h2, h3⟩
  show SG (pureL K) 0 _ [some d] _ _
  exact sg_ret (eg_callR (L := pureL K) (⟨[], d, 0⟩ : PDL) (ea_cons (eg_tup ea_nil) (ea_cons (eg_var rfl) (ea_cons eg_int ea_nil))) ⟨h1, h2, h3, (show 0 + 4 * 40 ≤ 1000 by decide)⟩ (nomk_t (nomk_c (bd_nd h2) rfl))) rfl
end V1
set_option Elab.async false
set_option linter.all false
set_option maxRecDepth 100000
set_option maxHeartbeats 4000000
/-! A comprehension with a test, told for each item; targets of three. -/
namespace V1
open PySem PySem.Spec PyProof.Rows L2
def fil (keep : Nat → Bool) (res : Nat → PyData) (n : Nat) : List PyData := ((List.range n).filter keep).map res
theorem fil_succ (keep : Nat → Bool) (res : Nat → PyData) (n : Nat) : fil keep res (n + 1) = fil keep res n ++ (if keep n then [res n] else []) := by
  unfold fil
  rw [List.range_succ, List.filter_append, List.map_append]
  congr 1
  cases h : keep n <;> simp [List.filter, h]
theorem fil_len (keep : Nat → Bool) (res : Nat → PyData) (n : Nat) : (fil keep res n).length ≤ n := by
  unfold fil
  rw [List.length_map]
  exact Nat.le_trans (List.length_filter_le _ _) (by rw [List.length_range]; exact Nat.le_refl _)
section
variable {L : Rl} {Γ : List (Option PyData)} {te : TE} {tt : TT}
theorem eg_lcTD {wi : TI} {g : TG} {js vs : List Nat} {items : List PyData} {keep : Nat → Bool} {res : Nat → PyData} (hw : WkD L wi Γ items) (hj : ∀ j ∈ js, j ∈ vs) (hlen : items.length ≤ 100000)
    (hb : ∀ (i : Nat) d, items[i]? = some d → ∃ Γ', TgG L g js d (wipeD Γ vs) Γ' ∧ EtD L tt Γ' (keep i) ∧ (keep i = true → EvD L te Γ' (res i) ∧ res i ≠ mark)) :
    EvD L (tLc wi g tt te vs) Γ (.list (fil keep res items.length)) := fun A σ H hi he hg Q q => hw A σ H hi he hg _ fun J H1 its r1 hp jk D hD => by
  subst hp
  have hD0 : H D = none := L.free r1 hD
  have g1 : L.G 0 H1 := Rl.gR (b := 0) hg r1
  refine ⟨fun i m H2 => m = its.length - i ∧ i ≤ its.length ∧ L.R 0 H H2 ∧ Kp A H1 H2 ∧ ∃ acc, H2 D = some (.lst acc) ∧ DvAll L.K (fun b => A b ∨ b = D) H2 acc (fil keep res i), ⟨its.length, ?_⟩, ?_⟩
  · exact ⟨by omega, Nat.zero_le _, L.fresh r1 hD0, fun b o _ e k => by rw [upd_ne (ne_of_none e hD)]; exact e, [], upd_same, .nil⟩
  · rintro i m H2 ⟨rfl, hle, r2, k2, acc, eD, dv⟩
    have naD : ∀ b, A b → H2 b ≠ none := fun b z => hi.r r2 b z
    by_cases hlt : i < its.length
    · refine .inr ⟨jk.go i H2 k2 hlt, fun H3 => i + 1 ≤ its.length ∧ L.R 0 H H3 ∧ Kp A H1 H3 ∧ ∃ acc, H3 D = some (.lst acc) ∧ DvAll L.K (fun b => A b ∨ b = D) H3 acc (fil keep res (i + 1)),
        fun H3 h3 => ⟨its.length - (i + 1), by omega, rfl, h3⟩, fun x H3 y => ?_⟩
      obtain ⟨d, hd, sm, hdv⟩ := jk.yld i H2 x H3 k2 naD y hlt
      obtain ⟨Γ', htg, htt, hev⟩ := hb i d hd
      have innA' : ∀ b, (A b ∨ b = D) → H2 b ≠ none := fun b z => z.elim (naD b) fun e => by rw [e, eD]; simp
      have dx : Dv L.K (fun b => A b ∨ b = D) H3 x d := hdv _ innA' fun b o na e _ z => z.elim na (ne_of_none e hD)
      have ev2 : EnvOk L (fun b => A b ∨ b = D) (wipe σ vs) H3 (wipeD Γ vs) := by
        have h0 : EnvOk L (fun b => A b ∨ b = D) (wipe σ vs) (upd H1 D (.lst [])) (wipeD Γ vs) := ((he.r r1).wipe vs).avoid hD
        refine ⟨h0.1, fun j d' e => ?_⟩
        obtain ⟨v, e1, e2⟩ := h0.2 j d' e
        refine ⟨v, e1, e2.imp (fun z => z) fun z => z.map fun b o na eb kd => ⟨na, sm _ _ (k2 b o (fun w => na (.inl w)) ?_ kd)⟩⟩
        rwa [upd_ne (fun w => na (.inr w))] at eb
      refine htg (fun b => A b ∨ b = D) x (wipe σ vs) H3 dx ev2 _ fun σ2 e3 w3 => ⟨?_, ?_⟩
      · rw [w3 vs hj, wipe_wipe vs fun v hv => hv]
      · have g2 : L.G 0 H2 := Rl.gR (b := 0) hg r2
        have r3 : L.R 0 H2 H3 := L.same g2 sm
        have g3 : L.G 0 H3 := Rl.gR (b := 0) g2 r3
        have inn3 : Inn (fun b => A b ∨ b = D) H3 := fun b z y => innA' b z (L.free r3 y)
        refine htt (fun b => A b ∨ b = D) σ2 H3 inn3 e3 g3 _ fun H4 r4 => ?_
        have r34 : L.R 0 H2 H4 := L.tr (a := 0) (b := 0) r3 r4
        have k4 : Kp A H1 H4 := fun b o na e k => L.keep r34 (k2 b o na e k) k
        have eD4 : H4 D = some (.lst acc) := L.keep r34 eD (fun kvs z => by cases z)
        rw [fil_succ]
        have hal : acc.length ≤ 100000 := by
          rw [dv.length]
          have := fil_len keep res i
          omega
        cases hk : keep i with
        | false =>
          show i + 1 ≤ its.length ∧ _
          refine ⟨hlt, L.tr (a := 0) (b := 0) r2 r34, k4, acc, eD4, ?_⟩
          have e : (if false = true then [res i] else []) = ([] : List PyData) := rfl
          rw [e, List.append_nil]
          exact dv.r r34
        | true =>
          obtain ⟨hev1, hmk⟩ := hev hk
          show te σ2 H4 _
          refine hev1 (fun b => A b ∨ b = D) σ2 H4 (inn3.r r4) (e3.r r4) (Rl.gR (b := 0) g3 r4) _ fun y dy H5 r5 hy pw => ?_
          have pw' : dy = res i := pw
          subst pw'
          have eD5 : H5 D = some (.lst acc) := L.keep r5 eD4 (fun kvs z => by cases z)
          have r25 : L.R 0 H2 H5 := L.tr (a := 0) (b := 0) r34 r5
          refine ⟨acc, eD5, Nat.lt_of_le_of_lt hal (by decide), hlt, L.fresh (L.tr (a := 0) (b := 0) r2 r25) hD0, ?_, acc ++ [y], upd_same, ?_⟩
          · intro b o na e k
            have ne : b ≠ D := ne_of_none e hD
            rw [upd_ne ne]
            exact L.keep r25 (k2 b o na e k) k
          · exact ((dv.r r25).app (.cons (hy.ne hmk) .nil)).off
    · have e : i = its.length := by omega
      subst e
      refine .inl ⟨jk.stop H2 k2, ?_⟩
      have nD : ¬ A D := hi.no hD0
      exact q (.ref D) _ H2 r2 (.inr (.lst nD eD (dv.map fun b o na e _ => ⟨fun z => na (.inl z), e⟩))) rfl
theorem tg_three {i j k : Nat} {d1 d2 d3 : PyData} : TgG L (gTup L.K 3 (gCons (gName i) (gCons (gName j) (gCons (gName k) gNil)))) [i, j, k] (.tuple [d1, d2, d3]) Γ (((Γ.set i (some d1)).set j (some d2)).set k (some d3)) := fun A x σ H hx he Q q => by
  obtain ⟨p, xs, rfl, e, r⟩ := Dq.tuple (L := L) (.inr hx)
  cases r with
  | cons r1 r =>
    cases r with
    | cons r2 r =>
      cases r with
      | cons r3 r =>
        cases r
        refine ⟨p, _, rfl, e.sq, rfl, _, _, rfl, _, _, rfl, _, _, rfl, rfl, ?_⟩
        refine q _ (((he.set (.inr r1) i).set (.inr r2) j).set (.inr r3) k) fun vs hv => ?_
        rw [wipe_set (hv k (by simp)), wipe_set (hv j (by simp)), wipe_set (hv i (by simp))]
end
end V1
set_option Elab.async false
set_option linter.all false
set_option maxRecDepth 100000
set_option maxHeartbeats 4000000
/-! k03: what the law's own looks share. -/
namespace V1
open PySem PySem.Spec PyProof.Rows L2
/-! ### a dict made here that is read alone -/
def sdL (K : PySem.W.Frag) (p : Addr) (kvs : List (Key × V)) : Rl where
  K := K
  G := fun _ H => H p = some (.dK kvs)
  R := fun _ H H' => Same H H'
  M := fun v => v = .ref p
  gle := fun _ h => h
  rle := fun _ r => r
  gr := fun g r => r _ _ g
  tr := fun a b => a.trans b
  same := fun _ s => s
  fresh := fun s h b o e => by rw [upd_ne (ne_of_none e h)]; exact s b o e
  keep := fun s e _ => s _ _ e
  free := fun s e => Same.free s e
  mref := fun h => ⟨p, h⟩
section
variable {K : PySem.W.Frag} {Γ : List (Option PyData)} {p : Addr} {kvs : List (Key × V)} {i j : Nat} {te : TE}
theorem dq_markS {A : Addr → Prop} {H : Hp} {v : V} (h : Dq (sdL K p kvs) A H v mark) : v = .ref p := by
  rcases h with ⟨_, h⟩ | h
  · exact h
  · cases h
theorem et_dIn {w : Str} (h : EvD (sdL K p kvs) te Γ (.str w)) (e : Γ[j]? = some (some mark)) : EtD (sdL K p kvs) (tB (tDIn te (tVar j))) Γ (valV kvs (.inr w)).isSome := fun A σ H hi he hg Q q => h A σ H hi he hg _ fun x d H1 r1 hx ed => by
  subst ed
  obtain rfl := hx.str
  have he1 := he.r r1
  obtain ⟨v, hv, dv⟩ := he1.2 j _ e
  have ev := dq_markS dv
  subst ev
  have hP : H1 p = some (.dK kvs) := r1 _ _ hg
  exact ⟨_, hv, p, _, rfl, DGet.k (k := .inr w) hP, _, rfl, q _ r1⟩
theorem et_dNotIn {w : Str} (h : EvD (sdL K p kvs) te Γ (.str w)) (e : Γ[j]? = some (some mark)) : EtD (sdL K p kvs) (tB (tDNotIn te (tVar j))) Γ (!(valV kvs (.inr w)).isSome) := fun A σ H hi he hg Q q => h A σ H hi he hg _ fun x d H1 r1 hx ed => by
  subst ed
  obtain rfl := hx.str
  have he1 := he.r r1
  obtain ⟨v, hv, dv⟩ := he1.2 j _ e
  have ev := dq_markS dv
  subst ev
  have hP : H1 p = some (.dK kvs) := r1 _ _ hg
  exact ⟨_, hv, p, _, rfl, DGet.k (k := .inr w) hP, _, rfl, q _ r1⟩
theorem eg_dGet {w : Str} {n : Int} (h : EvD (sdL K p kvs) te Γ (.str w)) (e : Γ[j]? = some (some mark)) (hv : valV kvs (.inr w) = some (.int n)) : EvD (sdL K p kvs) (tDGet (tVar j) te) Γ (.int n) := fun A σ H hi he hg Q q => by
  obtain ⟨v, hv1, dv⟩ := he.2 j _ e
  have ev := dq_markS dv
  subst ev
  refine ⟨_, hv1, ?_⟩
  refine h A σ H hi he hg _ fun x d H1 r1 hx ed => ?_
  subst ed
  obtain rfl := hx.str
  have hP : H1 p = some (.dK kvs) := r1 _ _ hg
  exact ⟨p, .int n, rfl, by rw [← hv]; exact DGet.k (k := .inr w) hP, q _ _ H1 r1 (.inr (.int _)) rfl⟩
end
section
variable {L : Rl} {Γ : List (Option PyData)} {t : TA} {te ta tb : TE} {tt tu : TT}
theorem eg_orC {a b : Bool} (ha : EvD L ta Γ (.bool a)) (hb : a = false → EvD L tb Γ (.bool b)) : EvD L (tOrV ta tb) Γ (.bool (a || b)) := fun A σ H hi he hg Q q => ha A σ H hi he hg _ fun x d H1 r1 hx p => by
  subst p
  obtain rfl := hx.bool
  refine ⟨a, rfl, ?_⟩
  cases a with
  | false => exact hb rfl A σ H1 (hi.r r1) (he.r r1) (Rl.gR (b := 0) hg r1) _ fun y d H2 r2 hy p => q y d H2 (L.tr (a := 0) (b := 0) r1 r2) hy p
  | true => exact q _ _ H1 r1 (.inr (.bl true)) rfl
theorem eg_notInS {w : Str} {ws : List Str} (ha : EvD L ta Γ (.str w)) (hb : EvD L tb Γ (.tuple (ws.map .str))) : EvD L (tOp (rIn L.K true) ta tb) Γ (.bool (!decide (w ∈ ws))) := eg_op ha hb fun A H x y hi hg hx hy Q q => by
  obtain rfl := hx.str
  obtain ⟨p, xs, rfl, e, r⟩ := hy.tuple
  have ex := r.strs
  subst ex
  refine ⟨p, _, rfl, .inr e.sq, rfl, flat_strs ws, ?_⟩
  show Q (.bl (!inV (.str w) (ws.map V.str))) H
  rw [inV_str]
  exact q _ _ H (Rl.refl hg) (.inr (.bl _)) rfl
/-- a tuple of texts, written -/
theorem eg_strs1 {a : Str} : EvD L (tTup (tCons (tC (.str a)) tNil)) Γ (.tuple (([a] : List Str).map .str)) := eg_tup (ea_cons eg_str ea_nil)
theorem eg_strs3 {a b c : Str} : EvD L (tTup (tCons (tC (.str a)) (tCons (tC (.str b)) (tCons (tC (.str c)) tNil)))) Γ (.tuple (([a, b, c] : List Str).map .str)) := eg_tup (ea_cons eg_str (ea_cons eg_str (ea_cons eg_str ea_nil)))
theorem eg_strs4 {a b c e : Str} : EvD L (tTup (tCons (tC (.str a)) (tCons (tC (.str b)) (tCons (tC (.str c)) (tCons (tC (.str e)) tNil))))) Γ (.tuple (([a, b, c, e] : List Str).map .str)) := eg_tup (ea_cons eg_str (ea_cons eg_str (ea_cons eg_str (ea_cons eg_str ea_nil))))
theorem eg_notInSign {c : Nat} {z : Str} (ha : EvD L ta Γ (.str ⟨#[c]⟩)) (hb : EvD L tb Γ (.str z)) : EvD L (tOp (fun x y H Q => ∃ (c : Nat) (z : Str), x = V.str ⟨#[c]⟩ ∧ y = .str z ∧ Q (.bl (!decide (c ∈ z.cps.toList))) H) ta tb) Γ (.bool (!decide (c ∈ z.cps.toList))) := eg_op ha hb fun A H x y hi hg hx hy Q q => by
  obtain rfl := hx.str
  obtain rfl := hy.str
  exact ⟨c, z, rfl, rfl, q _ _ H (Rl.refl hg) (.inr (.bl _)) rfl⟩
theorem eg_listRg2 {i j : Int} (ha : EvD L ta Γ (.int i)) (hb : EvD L tb Γ (.int j)) (h : RgOk i j) : EvD L (tLstRg (tRg2 ta tb)) Γ (.list (rngD i (j - i).toNat)) := fun A σ H hi he hg Q q => ha A σ H hi he hg _ fun x d1 H1 r1 hx e1 => hb A σ H1 (hi.r r1) (he.r r1) (Rl.gR (b := 0) hg r1) _ fun y d2 H2 r2 hy e2 => by
  subst e1 e2
  obtain rfl := hx.int
  obtain rfl := hy.int
  have r12 := L.tr (a := 0) (b := 0) r1 r2
  refine ⟨i, j, rfl, rfl, h, fun p hp => ?_⟩
  have g2 : L.G 0 H2 := Rl.gR (b := 0) hg r12
  have rr := Rl.newR (o := .lst (rgV i j)) g2 hp
  refine q _ _ _ (L.tr (a := 0) (b := 0) r12 rr) (.inr (.lst ((hi.r r12).no hp) upd_same ?_)) rfl
  have e : rngD i (j - i).toNat = ((List.range (j - i).toNat).map fun (n : Nat) => i + (n : Int)).map .int := by unfold rngD; rw [List.map_map]; rfl
  have e2 : rgV i j = ((List.range (j - i).toNat).map fun (n : Nat) => i + (n : Int)).map V.int := by unfold rgV; rw [List.map_map]; rfl
  rw [e, e2]
  exact DvAll.ofInts _
theorem eg_maxL {ns : List Int} {m : Int} (h : EvD L te Γ (lI ns)) (hm : m ∈ ns) (hle : ∀ y ∈ ns, y ≤ m) : EvD L (tCB (rMax L.K) (tCons te tNil)) Γ (.int m) := fun A σ H hi he hg Q q => h A σ H hi he hg _ fun v d1 H1 r1 hv e => by
  subst e
  obtain ⟨p, xs, rfl, na, e, r⟩ := hv.list
  rw [r.ints] at e
  refine ⟨p, ns, rfl, SqL.of e, List.length_pos_iff.mpr (List.ne_nil_of_mem hm), fun m' h1 h2 => ?_⟩
  have e2 : m' = m := by
    have a1 := hle m' h1
    have a2 := h2 m hm
    omega
  subst e2
  exact q _ _ H1 r1 (.inr (.int _)) rfl
theorem eg_neNilD {l : List PyData} (h : EvD L te Γ (.list l)) (hs : SeqAt.shaped (.list l) = true) : EvD L (tOp (rNeD L.K) te (tLst tNil)) Γ (.bool (!l.isEmpty)) := (eg_neD h (eg_lst ea_nil) (by intro z; cases z) (by intro z; cases z) hs (by decide)).to (by rw [eqv_nil])
theorem eg_eqNilD {l : List PyData} (h : EvD L te Γ (.list l)) (hs : SeqAt.shaped (.list l) = true) : EvD L (tOp (rEqD L.K) te (tLst tNil)) Γ (.bool l.isEmpty) := (eg_eqD h (eg_lst ea_nil) (by intro z; cases z) (by intro z; cases z) hs (by decide)).to (by rw [eqv_nil])
theorem eg_eqTup0 {l : List PyData} (h : EvD L te Γ (.tuple l)) (hs : SeqAt.shaped (.tuple l) = true) : EvD L (tOp (rEqD L.K) te (tTup tNil)) Γ (.bool l.isEmpty) := (eg_eqD h (eg_tup ea_nil) (by intro z; cases z) (by intro z; cases z) hs (by decide)).to (by rw [eqv_tup0])
theorem eg_neTup0 {l : List PyData} (h : EvD L te Γ (.tuple l)) (hs : SeqAt.shaped (.tuple l) = true) : EvD L (tOp (rNeD L.K) te (tTup tNil)) Γ (.bool (!l.isEmpty)) := (eg_neD h (eg_tup ea_nil) (by intro z; cases z) (by intro z; cases z) hs (by decide)).to (by rw [eqv_tup0])
end
theorem tI_lay (p : Pth) : (tI p).canLay0 = true := by
  unfold tI
  simp only [PyData.canLay0]
  exact canlay_ints p
theorem tI_depth (p : Pth) : (tI p).depth ≤ 1 := by
  unfold tI
  simp only [PyData.depth, depth_ints]
  omega
theorem tIs_shaped (l : List Pth) : SeqAt.shaped (.list (l.map tI)) = true := by
  unfold SeqAt.shaped
  rw [Bool.and_eq_true]
  refine ⟨?_, decide_eq_true ?_⟩
  · simp only [PyData.canLay0]
    refine lay_all fun d hd => ?_
    obtain ⟨p, _, rfl⟩ := List.mem_map.mp hd
    exact tI_lay p
  · simp only [PyData.depth]
    have : PyData.depthAll (l.map tI) ≤ 1 := depth_all fun d hd => by
      obtain ⟨p, _, rfl⟩ := List.mem_map.mp hd
      exact tI_depth p
    omega
theorem tI_shaped (p : Pth) : SeqAt.shaped (tI p) = true := by
  unfold SeqAt.shaped
  rw [Bool.and_eq_true]
  have := tI_depth p
  exact ⟨tI_lay p, decide_eq_true (by omega)⟩
/-! ### how many faults -/
theorem bulk_mem {ds : List PyData} {x : PyData} (h : x ∈ ds) : x.bulk + 1 ≤ PyData.bulkAll ds := by
  induction ds with
  | nil => simp at h
  | cons y r ih =>
    simp only [PyData.bulkAll]
    rcases List.mem_cons.mp h with rfl | h
    · omega
    · have := ih h
      omega
theorem gather_len {stop : Nat → PyData → Option Pth} {f : Nat → PyData → List Pth} : ∀ (xs : List PyData) (i : Nat), (∀ j, ∀ x ∈ xs, (f j x).length ≤ x.bulk + 1) → (gather stop f i xs).length ≤ PyData.bulkAll xs + 1
  | [], i, _ => by unfold gather; simp
  | x :: xs, i, h => by
    unfold gather
    have ih := gather_len (stop := stop) xs (i + 1) fun j y hy => h j y (List.mem_cons_of_mem _ hy)
    have h1 := h i x List.mem_cons_self
    simp only [PyData.bulkAll]
    cases stop i x with
    | some q => simp
    | none =>
      rw [List.length_append]
      omega
theorem gather_nostop {f : Nat → PyData → List Pth} : ∀ (xs : List PyData) (i : Nat), (∀ j, ∀ x ∈ xs, (f j x).length ≤ x.bulk + 1) → (gather (fun _ _ => none) f i xs).length ≤ PyData.bulkAll xs
  | [], i, _ => by unfold gather; simp
  | x :: xs, i, h => by
    unfold gather
    have ih := gather_nostop xs (i + 1) fun j y hy => h j y (List.mem_cons_of_mem _ hy)
    have h1 := h i x List.mem_cons_self
    simp only [PyData.bulkAll]
    rw [List.length_append]
    omega
theorem bulk_items (l : PyData) : PyData.bulkAll (itemsT l) ≤ l.bulk + 1 := by
  cases l with
  | tuple ds => show PyData.bulkAll ds ≤ _; simp only [PyData.bulk]; omega
  | _ => simp [itemsT, PyData.bulkAll]
theorem table_len {g : PyData → Pth → List Pth} (hg : ∀ d p, (g d p).length ≤ d.bulk + 1) (x : PyData) (p : Pth) : (tableFl g x p).length ≤ x.bulk + 1 := by
  unfold tableFl
  split
  · rename_i l0 ls
    refine Nat.le_trans (gather_len _ _ fun j l hl => ?_) (by simp only [PyData.bulk]; omega)
    refine Nat.le_trans (gather_nostop _ _ fun k c hc => hg _ _) (bulk_items l)
  · simp
theorem bulk_drop (r : List PyData) : ∀ k, PyData.bulkAll (r.drop k) ≤ PyData.bulkAll r := by
  induction r with
  | nil => intro k; simp
  | cons x r ih =>
    intro k
    cases k with
    | zero => exact Nat.le_refl _
    | succ k =>
      have := ih k
      simp only [List.drop_succ_cons, PyData.bulkAll]
      omega
theorem fl_len : ∀ (n : Nat) (d : PyData) (p : Pth), (flF n d p).length ≤ d.bulk + 1
  | 0, d, p => by unfold flF; simp
  | n + 1, d, p => by
    unfold flF
    split
    · rename_i w r
      split
      · simp
      · split
        · simp
        · split
          · simp
          · split
            · refine Nat.le_trans (table_len (fl_len n) _ _) ?_
              cases r with
              | nil => simp [PyData.bulk, PyData.bulkAll]
              | cons x r =>
                show x.bulk + 1 ≤ _
                simp only [PyData.bulk, PyData.bulkAll]
                omega
            · refine Nat.le_trans (gather_len _ _ fun j x hx => fl_len n _ _) ?_
              have := bulk_drop r (low w - 1)
              simp only [PyData.bulk, PyData.bulkAll]
              omega
    · simp
theorem gather_step {α : Type} {stop : Nat → α → Option Pth} {f : Nat → α → List Pth} {xs : List α} {i0 i : Nat} {x : α} (h : xs[i]? = some x) : gather stop f (i0 + i) (xs.drop i) = (match stop (i0 + i) x with | some q => [q] | none => f (i0 + i) x ++ gather stop f (i0 + (i + 1)) (xs.drop (i + 1))) := by
  have hl := (List.getElem?_eq_some_iff.mp h).1
  have hd : xs.drop i = x :: xs.drop (i + 1) := by
    rw [List.drop_eq_getElem_cons hl]
    congr 1
    exact (List.getElem?_eq_some_iff.mp h).2
  rw [hd]
  rfl
end V1
set_option Elab.async false
set_option linter.all false
set_option maxRecDepth 100000
set_option maxHeartbeats 4000000
namespace V1
open PySem PySem.Spec PyProof.Rows L2
theorem enum_at {ds : List PyData} {i : Nat} {d : PyData} (h : (ds.mapIdx fun i d => PyData.tuple [.int (i : Nat), d])[i]? = some d) : ∃ x, ds[i]? = some x ∧ d = .tuple [.int (i : Nat), x] := by
  rw [List.getElem?_mapIdx] at h
  cases hx : ds[i]? with
  | none => rw [hx] at h; cases h
  | some x =>
    rw [hx] at h
    exact ⟨x, rfl, (Option.some.inj h).symm⟩
def ownD (w : Str) (r : List PyData) : List PyData := (r.drop (low w - 1)).mapIdx fun i x => .tuple [tI [((low w + i : Nat) : Int)], x]
theorem eg_low {L : Rl} {Γ : List (Option PyData)} {te : TE} {w : Str} {ws : List Str} {tb : TE} (hw : EvD L te Γ (.str w)) (hb : EvD L tb Γ (.tuple (ws.map .str))) (hl : (if w ∈ ws then 2 else 1) = low w) : EvD L (tIf (tTest (tOp (rIn L.K false) te tb)) (tC (.int 2)) (tC (.int 1))) Γ (.int ((low w : Nat) : Int)) := by
  refine eg_if (et_test (eg_inS hw hb)) (fun z => ?_) fun z => ?_
  · rw [← hl, if_pos (of_decide_eq_true z)]
    exact eg_int
  · rw [← hl, if_neg (of_decide_eq_false z)]
    exact eg_int
theorem low_pos (w : Str) : 1 ≤ low w ∧ low w ≤ 2 := by unfold low; split <;> omega


theorem bulkAll_sum (ds : List PyData) : PyData.bulkAll ds = (ds.map fun d => d.bulk + 1).sum := by
  induction ds with
  | nil => rfl
  | cons x r ih =>
    rw [List.map_cons, List.sum_cons, ← ih]
    simp only [PyData.bulkAll]
theorem map_sum_le {α : Type} {l : List α} {f g : α → Nat} (h : ∀ x ∈ l, f x ≤ g x) : (l.map f).sum ≤ (l.map g).sum := by
  induction l with
  | nil => exact Nat.le_refl _
  | cons x r ih =>
    rw [List.map_cons, List.map_cons, List.sum_cons, List.sum_cons]
    have h1 := h x List.mem_cons_self
    have h2 := ih fun y hy => h y (List.mem_cons_of_mem _ hy)
    omega
theorem mapIdx_sum {α : Type} (l : List α) (g : α → Nat) (f : Nat → α → Pth × PyData) (hf : ∀ i x, (f i x).2.bulk + 1 = g x) : ((l.mapIdx f).map fun s => s.2.bulk + 1).sum = (l.map g).sum := by
  rw [map_mapIdx]
  congr 1
  refine List.ext_getElem? fun i => ?_
  rw [List.getElem?_mapIdx, List.getElem?_map]
  cases l[i]? with
  | none => rfl
  | some x => exact congrArg some (hf i x)
theorem cells_sum : ∀ (rows : List PyData) (h : Nat → PyData → List (Pth × PyData)), (∀ i l, ((h i l).map fun s => s.2.bulk + 1).sum ≤ l.bulk + 1) → ((rows.mapIdx h).flatten.map fun s => s.2.bulk + 1).sum ≤ PyData.bulkAll rows
  | [], h, _ => by simp [PyData.bulkAll]
  | l :: ls, h, hh => by
    rw [List.mapIdx_cons, List.flatten_cons, List.map_append, List.sum_append]
    have h1 := hh 0 l
    have h2 := cells_sum ls (fun i => h (i + 1)) fun i l => hh (i + 1) l
    simp only [PyData.bulkAll]
    omega
theorem subs_bulk (w : Str) (r : List PyData) : ((subs w r).map fun s => s.2.bulk + 1).sum ≤ PyData.bulkAll r := by
  unfold subs
  by_cases hw : w = "table"
  · rw [if_pos hw]
    cases r with
    | nil => simp
    | cons x r =>
      cases x with
      | tuple rows =>
        show ((cellsOf rows).map fun s => s.2.bulk + 1).sum ≤ _
        unfold cellsOf
        refine Nat.le_trans (cells_sum rows _ fun i l => ?_) (by simp only [PyData.bulkAll, PyData.bulk]; omega)
        rw [mapIdx_sum _ (fun c => c.bulk + 1) _ (fun _ _ => rfl), ← bulkAll_sum]
        exact bulk_items l
      | _ => simp
  · rw [if_neg hw, mapIdx_sum _ (fun c => c.bulk + 1) _ (fun _ _ => rfl), ← bulkAll_sum]
    exact bulk_drop r _
theorem body_bulk (d : PyData) : PyData.bulkAll (bodyT d).2 ≤ d.bulk := by
  unfold bodyT
  split
  · simp only [PyData.bulk, PyData.bulkAll]
    omega
  · simp [PyData.bulkAll]
theorem W_le : ∀ (n : Nat) (d : PyData), W n d ≤ d.bulk + 1
  | 0, d => Nat.zero_le _
  | n + 1, d => by
    unfold W
    have h1 := map_sum_le (l := subs (bodyT d).1 (bodyT d).2) (f := fun s => W n s.2) (g := fun s => s.2.bulk + 1) fun s _ => W_le n s.2
    have h2 := subs_bulk (bodyT d).1 (bodyT d).2
    have h3 := body_bulk d
    omega
/-- what may be judged -/
def incD (w : Str) (s : Pth) : Int := if w = "table" then 0 else if (decide (w ∈ (["over", "under", "upper", "limits"] : List Str)) || (decide (w ∈ scripts) && decide (1 < s.headD 0))) = true then 1 else 0
def partsD (w : Str) (r : List PyData) : List PyData := (subs w r).map fun s => .tuple [tI s.1, s.2, .int (incD w s.1)]
theorem flat_step {α : Type} {l : List (List α)} {i : Nat} {x : List α} (h : l[i]? = some x) : (l.drop i).flatten = x ++ (l.drop (i + 1)).flatten := by
  have hl := (List.getElem?_eq_some_iff.mp h).1
  have hd : l.drop i = x :: l.drop (i + 1) := by
    rw [List.drop_eq_getElem_cons hl]
    congr 1
    exact (List.getElem?_eq_some_iff.mp h).2
  rw [hd, List.flatten_cons]
theorem subs_len {w : Str} {r : List PyData} (hS : Shp w r) : (subs w r).length ≤ 40000 := by
  unfold subs
  by_cases hw : w = "table"
  · rw [if_pos hw]
    obtain ⟨rows, c, rfl, _, h2, _, h4, hc⟩ := hS.tab hw
    show (cellsOf (rows.map .tuple)).length ≤ _
    unfold cellsOf
    rw [List.length_flatten]
    have key : ∀ (l : List Nat) (m : Nat), (∀ x ∈ l, x ≤ m) → l.sum ≤ l.length * m := by
      intro l m
      induction l with
      | nil => intro _; simp
      | cons a r ih =>
        intro h
        rw [List.sum_cons, List.length_cons, Nat.succ_mul]
        have h1 := h a List.mem_cons_self
        have h2 := ih fun x hx => h x (List.mem_cons_of_mem _ hx)
        omega
    refine Nat.le_trans (key _ 200 fun x hx => ?_) ?_
    · obtain ⟨y, hy, rfl⟩ := List.mem_map.mp hx
      obtain ⟨i, hi⟩ := List.getElem?_of_mem hy
      rw [List.getElem?_mapIdx] at hi
      cases hq : (rows.map PyData.tuple)[i]? with
      | none => rw [hq] at hi; cases hi
      | some l =>
        rw [hq] at hi
        have e := Option.some.inj hi
        rw [← e, List.length_mapIdx]
        obtain ⟨cs, hcs, rfl⟩ := List.mem_map.mp (List.mem_of_getElem? hq)
        show cs.length ≤ 200
        rw [hc cs hcs]
        exact h4
    · rw [List.length_map, List.length_mapIdx, List.length_map]
      omega
  · rw [if_neg hw, List.length_mapIdx, List.length_drop]
    have := hS.len
    omega
theorem sum_cast (l : List Nat) : (l.map fun (n : Nat) => (n : Int)).sum = ((l.sum : Nat) : Int) := by
  induction l with
  | nil => rfl
  | cons a r ih => rw [List.map_cons, List.sum_cons, List.sum_cons, ih]; omega
theorem maxN_mem (l : List Nat) : maxN l = 0 ∨ maxN l ∈ l := by
  induction l with
  | nil => exact .inl rfl
  | cons a r ih =>
    have e : maxN (a :: r) = max a (maxN r) := rfl
    rw [e]
    by_cases h : maxN r ≤ a
    · rw [Nat.max_eq_left h]
      exact .inr List.mem_cons_self
    · rw [Nat.max_eq_right (by omega)]
      rcases ih with z | z
      · omega
      · exact .inr (List.mem_cons_of_mem _ z)
theorem maxN_le {l : List Nat} {a : Nat} (h : a ∈ l) : a ≤ maxN l := by
  induction l with
  | nil => simp at h
  | cons b r ih =>
    have e : maxN (b :: r) = max b (maxN r) := rfl
    rw [e]
    rcases List.mem_cons.mp h with rfl | h
    · omega
    · have := ih h
      omega
variable {P : Program} {w : World} {K : PySem.W.Frag} {mg : Str → Option Value} {base : Heap}
abbrev s_law_parts : Stmt := top 20
abbrev n_law_parts : List Str := ["formula_here", "word", "found", "row", "line", "first", "deeper", "scripts", "places", "column", "cell", "place"]
theorem sc_law_parts : FnScope n_law_parts ["formula_here"] (defScope s_law_parts) := ⟨rfl, rfl, rfl, by decide +kernel, rfl, by decide +kernel, by decide +kernel⟩
def sp_law_parts (K : PySem.W.Frag) : Sp := spR K (fun a : WY => [.tuple (.str a.w :: a.r)]) (fun a => Shp a.w a.r ∧ (PyData.tuple (.str a.w :: a.r)).hasDict = false) fun a => .list (partsD a.w a.r)
theorem ok_law_parts {f : Addr} {fd : FuncData} (T : Bt K mg) (C : Cst K w mg) (D : Df K mg "_law_parts" s_law_parts ["formula_here"] f fd) : Cal P w K mg base "_law_parts" s_law_parts ["formula_here"] 1 (sp_law_parts K) f fd := by
  refine ok_R D sc_law_parts (fun _ => rfl) fun cdv A outer s H E hgd hr => ⟨_, (pss_cons (ps_set (i := 1) sc_law_parts.nd rfl (Or.inl rfl) (pe_ix (ix_tupK (K := K) rfl) (pv 0) pe_int (fun _ _ => rfl)))
        (pss_cons (ps_if (pt_cmpR op_eq (pv 1) pe_str (nomark _)) (pss_one (ps_ret (pe_lst pa_nil))) pss_nil)
        (pss_cons (ps_if (pt_cmpR op_eq (pv 1) pe_str (nomark _)) (pss_cons (ps_set (i := 2) sc_law_parts.nd rfl (Or.inl rfl) (pe_lst pa_nil))
        (pss_cons (ps_for PassesOwn.never rfl (pi_enumP false (by rfl) T.enumerate (pa_cons (pe_ix (ix_tupK (K := K) rfl) (pv 0) pe_int (fun _ _ => rfl)) pa_nil)) (pg_tup rfl (pgs_cons (pg_name (i := 3) sc_law_parts.nd rfl (Or.inr rfl)) (pgs_cons (pg_name (i := 4) sc_law_parts.nd rfl (Or.inl rfl)) pgs_nil)))
        (pss_one (ps_set (i := 2) sc_law_parts.nd rfl (Or.inl rfl) (pe_op op_cat (pv 2) (pe_lc (own := [("column", 9), ("cell", 10)]) (g := gTup K 2 (gCons (gName 9) (gCons (gName 10) gNil))) (tt := tYes) rfl sc_law_parts.nd (pi_enumP false (by rfl) T.enumerate (pa_cons (pv 4) pa_nil)) (blkOk_by (own := [("column", 9), ("cell", 10)]) (N := n_law_parts) (sc := defScope s_law_parts) (by decide +kernel)) (fun _ _ _ _ _ => (pg_tup rfl (pgs_cons (pg_name (i := 9) sc_law_parts.nd rfl (Or.inl rfl)) (pgs_cons (pg_name (i := 10) sc_law_parts.nd rfl (Or.inl rfl)) pgs_nil)))) (fun _ _ _ _ _ => pts_nil) (fun _ _ _ _ _ => (pe_tup (pa_cons (pe_tup (pa_cons pe_int (pa_cons (pv 3) (pa_cons (pv 9) pa_nil)))) (pa_cons (pv 10) (pa_cons pe_int pa_nil))))))))))
        (pss_one (ps_ret (pv 2))))) pss_nil)
        (pss_cons (ps_set (i := 5) sc_law_parts.nd rfl (Or.inl rfl) (pe_ifExp (pt_cmpR op_in_seq (pv 1) (pe_tup (pa_cons pe_str (pa_cons pe_str (pa_cons pe_str pa_nil)))) (by rfl)) pe_int pe_int))
        (pss_cons (ps_set (i := 6) sc_law_parts.nd rfl (Or.inr rfl) (pe_cmpR op_in_seq (pv 1) (pe_tup (pa_cons pe_str (pa_cons pe_str (pa_cons pe_str (pa_cons pe_str pa_nil))))) (by rfl)))
        (pss_cons (ps_set (i := 7) sc_law_parts.nd rfl (Or.inr rfl) (pe_cmpR op_in_seq (pv 1) (pe_tup (pa_cons pe_str (pa_cons pe_str (pa_cons pe_str pa_nil)))) (by rfl)))
        (pss_cons (ps_set (i := 8) sc_law_parts.nd rfl (Or.inl rfl) (pe_listRg rfl (by rfl) T.list (prg_2 (by rfl) T.range (pv 5) (pe_callB call_len_seq (by rfl) T.len PySem.boot_len (pa_cons (pv 0) pa_nil)))))
        (pss_one (ps_ret (pe_lc (own := [("place", 11)]) (g := gName 11) (tt := tYes) rfl sc_law_parts.nd (pi_list (pv 8)) (blkOk_by (own := [("place", 11)]) (N := n_law_parts) (sc := defScope s_law_parts) (by decide +kernel)) (fun _ _ _ _ _ => (pg_name (i := 11) sc_law_parts.nd rfl (Or.inl rfl))) (fun _ _ _ _ _ => pts_nil) (fun _ _ _ _ _ => (pe_tup (pa_cons (pe_tup (pa_cons (pv 11) pa_nil)) (pa_cons (pe_ix (ix_tupK (K := K) rfl) (pv 0) (pv 11) (fun _ _ => rfl)) (pa_cons (pe_callTy call_int1 (by rfl) T.int (by decide +kernel) (pa_cons (pe_or (pv 6) (pe_one (pe_and (pv 7) (pe_one (pe_cmpR op_gt (pv 11) pe_int (nomark _)))))) pa_nil)) pa_nil))))))))))))))), ?_⟩
  rintro ⟨w, r⟩ ⟨hS, hd⟩
  have hS : Shp w r := hS
  have hd : (PyData.tuple (.str w :: r)).hasDict = false := hd
  show SG (pureL K) 0 _ [some (.tuple (.str w :: r)), none, none, none, none, none, none, none, none, none, none, none] _ (fun x => x = .list (partsD w r))
  have hl := hS.len
  refine sq_asg (d := .str w) (eg_ixT (L := pureL K) (eg_var rfl) eg_int (atI_zero _ _)) ?_
  show SG (pureL K) 0 _ [some (.tuple (.str w :: r)), some (.str w), none, none, none, none, none, none, none, none, none, none] _ _
  refine sq_if (et_test (eg_eqS (eg_var rfl) eg_str)) (fun hk => ?_) fun hk => ?_
  · have ew : w = "sign" := of_decide_eq_true hk
    subst ew
    have h1 := hS.sign rfl
    refine sg_retq (d := .list []) (eg_lst ea_nil) ?_
    obtain ⟨x, rfl⟩ : ∃ x, r = [x] := by
      match r, h1 with
      | [x], _ => exact ⟨x, rfl⟩
    unfold partsD subs
    rw [if_neg (by decide +kernel)]
    have lw : low "sign" = 2 := by decide +kernel
    rw [lw]
    rfl
  have nsign : ¬ w = "sign" := of_decide_eq_false hk
  refine sq_next (sq_if (et_test (eg_eqS (eg_var rfl) eg_str)) (fun hk => ?_) fun hk => ?_)
  · have ew : w = "table" := of_decide_eq_true hk
    subst ew
    obtain ⟨rows, c, rfl, r1, r2, c1, c2, hc⟩ := hS.tab rfl
    have sl := subs_len hS
    let F : Nat → PyData → List PyData := fun i l => (itemsT l).mapIdx fun k y => .tuple [tI [1, (i : Int), (k : Int)], y, .int 0]
    have ev : partsD "table" [.tuple (rows.map .tuple)] = ((rows.map PyData.tuple).mapIdx F).flatten := by
      unfold partsD subs
      rw [if_pos rfl]
      show (cellsOf (rows.map .tuple)).map _ = _
      unfold cellsOf
      rw [map_flatten, map_mapIdx]
      congr 2
      funext i x
      rw [map_mapIdx]
      congr 1
    have evl : (((rows.map PyData.tuple).mapIdx F).flatten).length ≤ 40000 := by
      rw [← ev]
      unfold partsD
      rw [List.length_map]
      exact sl
    rw [ev]
    generalize hT : ((rows.map PyData.tuple).mapIdx F) = T at evl
    refine sq_as (sq_asg (i := 2) (d := .list []) (eg_lst ea_nil) ?_)
    show SG (pureL K) 0 _ [some (.tuple [.str "table", .tuple (rows.map .tuple)]), some (.str "table"), some (.list []), none, none, none, none, none, none, none, none, none] _ _
    refine sq_as (sg_seq (N1 := fun G => ∃ a b, G = [some (.tuple [.str "table", .tuple (rows.map .tuple)]), some (.str "table"), some (.list T.flatten), a, b, none, none, none, none, none, none, none]) (sg_for (js := [3, 4]) (fun i G => ∃ fnd, (∃ a b, G = [some (.tuple [.str "table", .tuple (rows.map .tuple)]), some (.str "table"), some (.list fnd), a, b, none, none, none, none, none, none, none]) ∧ fnd ++ (T.drop i).flatten = T.flatten) (wk_enum (k := false) (ds := rows.map .tuple) (ea_cons (eg_ixT (L := pureL K) (eg_var rfl) eg_int (atI_one _ _ _)) ea_nil)) ⟨[], ⟨_, _, rfl⟩, rfl⟩ ?_ ?_) ?_)
    · rintro i e G he ⟨fnd, ⟨a, b, rfl⟩, hI⟩
      obtain ⟨l, hx, rfl⟩ := enum_at he
      obtain ⟨cs, hcs, rfl⟩ := List.mem_map.mp (List.mem_of_getElem? hx)
      have hcl := hc cs hcs
      have hTi : T[i]? = some (F i (.tuple cs)) := by rw [← hT, List.getElem?_mapIdx, hx]; rfl
      rw [flat_step hTi] at hI
      have hlen : fnd.length + (F i (.tuple cs)).length ≤ 40000 := by
        have := congrArg List.length hI
        rw [List.length_append, List.length_append] at this
        omega
      refine ⟨_, tg_two, ?_⟩
      show SG (pureL K) 0 _ [some (.tuple [.str "table", .tuple (rows.map .tuple)]), some (.str "table"), some (.list fnd), some (.int (i : Nat)), some (.tuple cs), none, none, none, none, none, none, none] _ _
      refine sg_asg (d := .list (fnd ++ F i (.tuple cs))) (eg_cat (eg_var (i := 2) rfl) (eg_lc (js := [9, 10]) (items := cs.mapIdx fun k y => PyData.tuple [.int (k : Nat), y]) (wk_enum (k := false) (ds := cs) (ea_cons (eg_var (i := 4) rfl) ea_nil)) (by simp) (by rw [List.length_mapIdx]; omega) (by show (cs.mapIdx _).length = _; rw [List.length_mapIdx, List.length_mapIdx]) ?_) (by omega)) ⟨_, ⟨_, _, rfl⟩, by rw [List.append_assoc]; exact hI⟩
      intro k e y he hy
      obtain ⟨x, hx2, rfl⟩ := enum_at he
      have hy2 : (cs.mapIdx fun k y => PyData.tuple [tI [1, (i : Int), (k : Int)], y, .int 0])[k]? = some y := hy
      rw [List.getElem?_mapIdx, hx2] at hy2
      have ey := (Option.some.inj hy2).symm
      subst ey
      have hxd : x.hasDict = false := by
        have h1 := hd_tup hd (.tuple (rows.map .tuple)) (by simp)
        have h2 := hd_tup h1 (.tuple cs) (List.mem_map.mpr ⟨cs, hcs, rfl⟩)
        exact hd_tup h2 x (List.mem_of_getElem? hx2)
      exact ⟨(by intro z; cases z), _, tg_two, (eg_tup (ea_cons (eg_tup (ea_cons eg_int (ea_cons (eg_var (i := 3) rfl) (ea_cons (eg_var (i := 9) rfl) ea_nil)))) (ea_cons (eg_var (i := 10) rfl) (ea_cons eg_int ea_nil))) (nomk_c rfl (nomk_c hxd rfl))).to rfl⟩
    · rintro G ⟨fnd, ⟨a, b, rfl⟩, hI⟩
      have hlen : ((rows.map PyData.tuple).mapIdx fun i d => PyData.tuple [.int (i : Nat), d]).length = T.length := by rw [List.length_mapIdx, ← hT, List.length_mapIdx]
      rw [hlen, List.drop_length] at hI
      have hI2 : fnd = T.flatten := by
        have : fnd ++ [] = T.flatten := hI
        rwa [List.append_nil] at this
      subst hI2
      exact ⟨_, _, rfl⟩
    · rintro G ⟨a, b, rfl⟩
      exact sg_retq (eg_var rfl) rfl
  have ntab : ¬ w = "table" := of_decide_eq_false hk
  have lw := low_pos w
  have low3 : (if w ∈ (["under", "upper", "limits"] : List Str) then 2 else 1) = low w := by
    unfold low
    by_cases z : w ∈ (["under", "upper", "limits"] : List Str)
    · rw [if_pos z, if_pos (List.mem_cons_of_mem _ z)]
    · rw [if_neg z, if_neg (fun y => (List.mem_cons.mp y).elim nsign z)]
  have hlw : low w - 1 ≤ r.length := by
    by_cases z : w ∈ sgn4
    · have := hS.sg z
      omega
    · have : low w = 1 := by unfold low; rw [if_neg z]
      omega
  refine sq_next (sq_asg (eg_low (w := w) (ws := ["under", "upper", "limits"]) (eg_var (i := 1) rfl) eg_strs3 low3) ?_)
  refine sq_asg (d := .bool (decide (w ∈ (["over", "under", "upper", "limits"] : List Str)))) (eg_inS (ws := ["over", "under", "upper", "limits"]) (eg_var (i := 1) rfl) eg_strs4) ?_
  refine sq_asg (d := .bool (decide (w ∈ scripts))) (eg_inS (ws := scripts) (eg_var (i := 1) rfl) eg_strs3) ?_
  refine sq_asg (eg_listRg2 (L := pureL K) (eg_var (i := 5) rfl) ((eg_cb (L := pureL K) (ea_cons (eg_var (i := 0) rfl) ea_nil) cs_lenT).to (d' := .int ((r.length + 1 : Nat) : Int)) (by rw [List.length_cons])) (RgOk.of_le (by omega) (by omega) (by omega) (by omega))) ?_
  have ne : (((r.length + 1 : Nat) : Int) - ((low w : Nat) : Int)).toNat = r.length - (low w - 1) := by omega
  rw [ne]
  show SG (pureL K) 0 _ [some (.tuple (.str w :: r)), some (.str w), none, none, none, some (.int ((low w : Nat) : Int)), some (.bool (decide (w ∈ (["over", "under", "upper", "limits"] : List Str)))), some (.bool (decide (w ∈ scripts))), some (.list (rngD ((low w : Nat) : Int) (r.length - (low w - 1)))), none, none, none] _ _
  have ep : partsD w r = (r.drop (low w - 1)).mapIdx fun i x => .tuple [tI [((low w + i : Nat) : Int)], x, .int (incD w [((low w + i : Nat) : Int)])] := by
    unfold partsD subs
    rw [if_neg ntab, map_mapIdx]
  refine sg_ret (d := .list (partsD w r)) (eg_lc (js := [11]) (items := rngD ((low w : Nat) : Int) (r.length - (low w - 1))) (wk_list (eg_var (i := 8) rfl)) (by simp) (by unfold rngD; rw [List.length_map, List.length_range]; omega) (by rw [ep, List.length_mapIdx, List.length_drop]; unfold rngD; rw [List.length_map, List.length_range]) ?_) rfl
  intro i d x hd2 hx
  obtain ⟨rfl, hil⟩ := rng_atL hd2
  rw [ep, List.getElem?_mapIdx, List.getElem?_drop] at hx
  have hri : r[low w - 1 + i]? = some r[low w - 1 + i] := List.getElem?_eq_getElem (by omega)
  rw [hri] at hx
  have ex := (Option.some.inj hx).symm
  subst ex
  have hxd : (r[low w - 1 + i]).hasDict = false := hd_tup hd _ (List.mem_cons_of_mem _ (List.getElem_mem _))
  refine ⟨(by intro z; cases z), _, tg_name, (eg_tup (ea_cons (eg_tup (ea_cons (eg_var (i := 11) rfl) ea_nil)) (ea_cons (eg_ixT (eg_var (i := 0) rfl) (eg_var (i := 11) rfl) (atI_nat (i := low w + i) (x := r[low w - 1 + i]) ?_ (by omega))) (ea_cons (eg_cb (ea_cons (eg_orC (eg_var (i := 6) rfl) fun _ => eg_andC (eg_var (i := 7) rfl) fun _ => eg_gt (eg_var (i := 11) rfl) eg_int) ea_nil) cs_intB) ea_nil))) (nomk_c rfl (nomk_c hxd rfl))).to ?_⟩
  · rw [show low w + i = (low w - 1 + i) + 1 by omega, List.getElem?_cons_succ]
    exact hri
  · unfold incD
    rw [if_neg ntab]
    rfl


end V1
set_option Elab.async false
set_option linter.all false
set_option maxRecDepth 100000
set_option maxHeartbeats 4000000
/-! k03: what is drawn may be judged. -/
namespace V1
open PySem PySem.Spec PyProof.Rows L2
def leafB (d : PyData) : Bool := d.canLay0 && (decide (d.depth ≤ 8) && (!d.hasDict && (shortS d && (d.showable && d.leavesShort 100))))
/-- so deep, so wide -/
def bw (k : Nat) : Nat → PyData → Bool
  | 0, _ => false
  | n + 1, .tuple ds => decide (ds.length ≤ k) && ds.all (bw k n)
  | _ + 1, d => leafB d
theorem bw_tup {k n : Nat} {ds : List PyData} (h : bw k (n + 1) (.tuple ds) = true) : ds.length ≤ k ∧ ∀ d ∈ ds, bw k n d = true := by
  unfold bw at h
  rw [Bool.and_eq_true] at h
  exact ⟨of_decide_eq_true h.1, List.all_eq_true.mp h.2⟩
theorem bw_mk {k n : Nat} {ds : List PyData} (h1 : ds.length ≤ k) (h2 : ∀ d ∈ ds, bw k n d = true) : bw k (n + 1) (.tuple ds) = true := by
  unfold bw
  rw [Bool.and_eq_true]
  exact ⟨decide_eq_true h1, List.all_eq_true.mpr h2⟩
theorem bw_mono {k k' : Nat} (hk : k ≤ k') : ∀ {n m : Nat} {d : PyData}, n ≤ m → bw k n d = true → bw k' m d = true
  | 0, m, d, _, h => by unfold bw at h; cases h
  | n + 1, 0, d, h, _ => by omega
  | n + 1, m + 1, d, h, hb => by
    cases d with
    | tuple ds =>
      obtain ⟨h1, h2⟩ := bw_tup hb
      exact bw_mk (by omega) fun x hx => bw_mono hk (by omega) (h2 x hx)
    | none => exact hb
    | bool b => exact hb
    | int b => exact hb
    | str b => exact hb
    | list b => exact hb
    | dict b => exact hb
theorem bw_bd {k : Nat} (hk : k ≤ 200) : ∀ {n : Nat} {d : PyData}, bw k n d = true → bd n d = true
  | 0, d, h => by unfold bw at h; cases h
  | n + 1, d, hb => by
    cases d with
    | tuple ds =>
      obtain ⟨h1, h2⟩ := bw_tup hb
      unfold bd
      rw [Bool.and_eq_true]
      exact ⟨decide_eq_true (by omega), List.all_eq_true.mpr fun x hx => bw_bd hk (h2 x hx)⟩
    | none => exact hb
    | bool b => exact hb
    | int b => exact hb
    | str b => exact hb
    | list b => exact hb
    | dict b => exact hb
abbrev words13 : List Str := ["sign", "row", "over", "high", "low", "root", "fence", "bar", "both", "under", "upper", "limits", "table"]
theorem word_of_shape {w : Str} {s p : Nat} (h : shapeOk w s p = true) : w ∈ words13 ∧ w ≠ "table" ∧ s ≤ 1 := by
  unfold shapeOk at h
  simp only [Bool.or_eq_true, Bool.and_eq_true, beq_iff_eq] at h
  rcases h with ((((((h | h) | h) | h) | h) | h) | h)
  · obtain ⟨rfl, h⟩ := h
    exact ⟨by decide +kernel, by decide +kernel, by omega⟩
  · obtain ⟨rfl, h⟩ := h
    exact ⟨by decide +kernel, by decide +kernel, by omega⟩
  · obtain ⟨(rfl | rfl) | rfl, h⟩ := h <;> exact ⟨by decide +kernel, by decide +kernel, by omega⟩
  · obtain ⟨(rfl | rfl) | rfl, h⟩ := h <;> exact ⟨by decide +kernel, by decide +kernel, by omega⟩
  · obtain ⟨rfl, h⟩ := h
    exact ⟨by decide +kernel, by decide +kernel, by omega⟩
  · obtain ⟨rfl | rfl, h⟩ := h <;> exact ⟨by decide +kernel, by decide +kernel, by omega⟩
  · obtain ⟨rfl, h⟩ := h
    exact ⟨by decide +kernel, by decide +kernel, by omega⟩
theorem shape_sg {w : Str} {s p : Nat} (h : shapeOk w s p = true) : (w ∈ sgn4 → s = 1) ∧ (w ∉ sgn4 → s = 0) ∧ (w = "sign" → p = 0) := by
  unfold shapeOk at h
  simp only [Bool.or_eq_true, Bool.and_eq_true, beq_iff_eq] at h
  rcases h with ((((((h | h) | h) | h) | h) | h) | h)
  · obtain ⟨rfl, h⟩ := h
    exact ⟨fun _ => h.1, fun z => absurd (by decide +kernel) z, fun _ => h.2⟩
  · obtain ⟨rfl, h⟩ := h
    exact ⟨fun z => absurd z (by decide +kernel), fun _ => h.1, fun z => absurd z (by decide +kernel)⟩
  · obtain ⟨(rfl | rfl) | rfl, h⟩ := h <;> exact ⟨fun z => absurd z (by decide +kernel), fun _ => h.1, fun z => absurd z (by decide +kernel)⟩
  · obtain ⟨(rfl | rfl) | rfl, h⟩ := h <;> exact ⟨fun z => absurd z (by decide +kernel), fun _ => h.1, fun z => absurd z (by decide +kernel)⟩
  · obtain ⟨rfl, h⟩ := h
    exact ⟨fun z => absurd z (by decide +kernel), fun _ => h.1, fun z => absurd z (by decide +kernel)⟩
  · obtain ⟨rfl | rfl, h⟩ := h <;> exact ⟨fun _ => h.1, fun z => absurd (by decide +kernel) z, fun z => absurd z (by decide +kernel)⟩
  · obtain ⟨rfl, h⟩ := h
    exact ⟨fun _ => h.1, fun z => absurd (by decide +kernel) z, fun z => absurd z (by decide +kernel)⟩
theorem leaf_words : ∀ w ∈ words13, leafB (.str w) = true := by decide +kernel
theorem leaf_signs : ∀ w ∈ signs3, leafB (.str w) = true := by decide +kernel
theorem bw_leaf {k n : Nat} {w : Str} (h : leafB (.str w) = true) : bw k (n + 1) (.str w) = true := h
theorem fd_bw {n : Nat} {d : PyData} (h : Fd n d) : bw 10 (2 * n + 1) d = true := by
  induction h with
  | @nd n w sg ds h1 h2 h3 h4 h5 ih =>
    obtain ⟨hw, _, hs⟩ := word_of_shape h1
    refine bw_mk (by rw [List.length_cons, List.length_append, List.length_map]; omega) fun d hd => ?_
    rcases List.mem_cons.mp hd with rfl | hd
    · exact bw_leaf (leaf_words w hw)
    · rcases List.mem_append.mp hd with hd | hd
      · obtain ⟨s, hs2, rfl⟩ := List.mem_map.mp hd
        exact bw_leaf (leaf_signs s (h2 s hs2))
      · exact bw_mono (Nat.le_refl _) (by omega) (ih d hd)
  | @tb n rows c h1 h2 h3 h4 h5 h6 ih =>
    refine bw_mk (by simp) fun d hd => ?_
    rcases List.mem_cons.mp hd with rfl | hd
    · exact bw_leaf (leaf_words _ (by decide +kernel))
    · have hd := List.mem_singleton.mp hd
      subst hd
      show bw 10 (2 * n + 3 + 1) _ = true
      refine bw_mk (k := 10) (n := 2 * n + 3) (ds := rows.map PyData.tuple) (by rw [List.length_map]; omega) fun d hd => ?_
      obtain ⟨r, hr, rfl⟩ := List.mem_map.mp hd
      exact bw_mk (n := 2 * n + 2) (by have := h5 r hr; omega) fun d hd => bw_mono (Nat.le_refl _) (by omega) (ih r hr d hd)
theorem bulk_app (a b : List PyData) : PyData.bulkAll (a ++ b) = PyData.bulkAll a + PyData.bulkAll b := by
  rw [bulkAll_sum, bulkAll_sum, bulkAll_sum, List.map_append, List.sum_append]
theorem bulk_le {ds : List PyData} {b : Nat} (h : ∀ d ∈ ds, d.bulk ≤ b) : PyData.bulkAll ds ≤ ds.length * (b + 1) := by
  induction ds with
  | nil => simp [PyData.bulkAll]
  | cons x r ih =>
    simp only [PyData.bulkAll, List.length_cons]
    have h1 := h x List.mem_cons_self
    have h2 := ih fun d hd => h d (List.mem_cons_of_mem _ hd)
    rw [Nat.succ_mul]
    omega
def bb : Nat → Nat
  | 0 => 0
  | n + 1 => 3 * bb n + 14
theorem bulk_words : ∀ w ∈ words13, (PyData.str w).bulk ≤ 6 := by decide +kernel
theorem bulk_signs : ∀ w ∈ signs3, (PyData.str w).bulk ≤ 3 := by decide +kernel
theorem fd_bulk {n : Nat} {d : PyData} (h : Fd n d) : d.bulk ≤ bb n := by
  induction h with
  | @nd n w sg ds h1 h2 h3 h4 h5 ih =>
    obtain ⟨hw, _, hs⟩ := word_of_shape h1
    have a1 := bulk_le (ds := ds) (b := bb n) ih
    have a2 : PyData.bulkAll (sg.map PyData.str) ≤ (sg.map PyData.str).length * (3 + 1) := bulk_le fun d hd => by
      obtain ⟨s, hs3, rfl⟩ := List.mem_map.mp hd
      exact bulk_signs s (h2 s hs3)
    have a0 := bulk_words w hw
    rw [List.length_map] at a2
    have a3 : ds.length * (bb n + 1) ≤ 3 * (bb n + 1) := Nat.mul_le_mul_right _ h3
    show _ ≤ 3 * bb n + 14
    have e : (PyData.tuple (.str w :: (sg.map .str ++ ds))).bulk = (PyData.str w).bulk + 1 + PyData.bulkAll (sg.map .str ++ ds) := by simp only [PyData.bulk, PyData.bulkAll]
    rw [e, bulk_app]
    omega
  | @tb n rows c h1 h2 h3 h4 h5 h6 ih =>
    have a1 : PyData.bulkAll (rows.map PyData.tuple) ≤ (rows.map PyData.tuple).length * (3 * (bb n + 1) + 1) := bulk_le fun d hd => by
      obtain ⟨r, hr, rfl⟩ := List.mem_map.mp hd
      have b1 := bulk_le (ds := r) (b := bb n) (ih r hr)
      have b2 : r.length * (bb n + 1) ≤ 3 * (bb n + 1) := Nat.mul_le_mul_right _ (by have := h5 r hr; omega)
      simp only [PyData.bulk]
      omega
    rw [List.length_map] at a1
    have a2 : rows.length * (3 * (bb n + 1) + 1) ≤ 3 * (3 * (bb n + 1) + 1) := Nat.mul_le_mul_right _ h2
    show _ ≤ 3 * (3 * bb n + 14) + 14
    have a0 := bulk_words "table" (by decide +kernel)
    have e : (PyData.tuple [.str "table", .tuple (rows.map .tuple)]).bulk = (PyData.str "table").bulk + 1 + (PyData.bulkAll (rows.map PyData.tuple) + 1) := by simp only [PyData.bulk, PyData.bulkAll, Nat.add_zero]
    rw [e]
    omega
theorem Gd.mono : ∀ {n m : Nat} {d : PyData}, n ≤ m → Gd n d → Gd m d
  | 0, m, d, _, h => h.elim
  | n + 1, 0, d, h, _ => by omega
  | n + 1, m + 1, d, h, hg => by
    obtain ⟨w, r, e, h1, h2, h3, h4, h5⟩ := hg
    exact ⟨w, r, e, h1, h2, h3, h4, fun s hs => Gd.mono (by omega) (h5 s hs)⟩
theorem subs_tab {rows : List (List PyData)} {s : Pth × PyData} (hs : s ∈ subs "table" [.tuple (rows.map .tuple)]) : ∃ r ∈ rows, s.2 ∈ r := by
  unfold subs at hs
  rw [if_pos rfl] at hs
  obtain ⟨i, k, l, h1, h2, _⟩ := mem_cells hs
  obtain ⟨cs, hcs, rfl⟩ := List.mem_map.mp (List.mem_of_getElem? h1)
  exact ⟨cs, hcs, List.mem_of_getElem? h2⟩
theorem fd_gd {n : Nat} {d : PyData} (h : Fd n d) : Gd n d := by
  induction h with
  | @nd n w sg ds h1 h2 h3 h4 h5 ih =>
    obtain ⟨hw, htab, hs⟩ := word_of_shape h1
    obtain ⟨s1, s2, s3⟩ := shape_sg h1
    refine ⟨w, _, rfl, by rw [List.length_append, List.length_map]; omega, fun z => by rw [List.length_append, List.length_map, s1 z]; omega, fun z => ?_, fun z => absurd z htab, fun s hs => ?_⟩
    · have e1 := s1 (by rw [z]; decide +kernel)
      have e2 := s3 z
      rw [List.length_append, List.length_map]
      omega
    · unfold subs at hs
      rw [if_neg htab] at hs
      obtain ⟨i, hi, _⟩ := mem_flat hs
      have hm := List.mem_of_getElem? hi
      refine ih s.2 ?_
      by_cases z : w ∈ sgn4
      · have lw : low w = 2 := by unfold low; rw [if_pos z]
        rw [lw] at hm
        obtain ⟨x, rfl⟩ : ∃ x, sg = [x] := by
          match sg, s1 z with
          | [x], _ => exact ⟨x, rfl⟩
        exact hm
      · have e0 : sg = [] := List.length_eq_zero_iff.mp (s2 z)
        subst e0
        exact List.mem_of_mem_drop hm
  | @tb n rows c h1 h2 h3 h4 h5 h6 ih =>
    refine ⟨"table", _, rfl, by simp, fun z => absurd z (by decide +kernel), fun z => absurd z (by decide +kernel), fun _ => ⟨rows, c, rfl, h1, by omega, h3, by omega, h5⟩, fun s hs => ?_⟩
    obtain ⟨r, hr, hx⟩ := subs_tab hs
    exact Gd.mono (by omega) (ih r hr s.2 hx)
/-- what the law draws as a whole -/
structure Wh (d : PyData) : Prop where
  bw : bw 10 20 d = true
  gd : Gd 40 d
  bulk : d.bulk ≤ 16000
theorem fd_wh {d : PyData} (h : Fd 7 d) : Wh d := ⟨bw_mono (Nat.le_refl _) (by decide) (fd_bw h), Gd.mono (by decide) (fd_gd h), Nat.le_trans (fd_bulk h) (by decide)⟩
inductive Bo : PyData → Prop
  | mk {rows : List (List PyData)} {c : Nat} : 1 ≤ rows.length → rows.length ≤ 4 → 1 ≤ c → c ≤ 4 → (∀ r ∈ rows, r.length = c) → (∀ r ∈ rows, ∀ d ∈ r, ∃ s ∈ signs3, d = .tuple [.str "sign", .str s]) → Bo (.tuple [.str "table", .tuple (rows.map .tuple)])
theorem sign_fd {s : Str} (hs : s ∈ signs3) : Fd 1 (.tuple [.str "sign", .str s]) := .nd (n := 0) (w := "sign") (sg := [s]) (ds := []) rfl (fun z hz => by rw [List.mem_singleton.mp hz]; exact hs) (by decide) (fun z => absurd z (by decide)) fun d hd => by simp at hd
theorem bo_wh {d : PyData} (h : Bo d) : Wh d := by
  cases h with
  | @mk rows c h1 h2 h3 h4 h5 h6 =>
    refine ⟨?_, ?_, ?_⟩
    · refine bw_mono (n := 6) (Nat.le_refl _) (by decide) (bw_mk (by simp) fun d hd => ?_)
      rcases List.mem_cons.mp hd with rfl | hd
      · exact bw_leaf (leaf_words _ (by decide +kernel))
      · have hd := List.mem_singleton.mp hd
        subst hd
        refine bw_mk (n := 4) (by rw [List.length_map]; omega) fun d hd => ?_
        obtain ⟨r, hr, rfl⟩ := List.mem_map.mp hd
        refine bw_mk (n := 3) (by have := h5 r hr; omega) fun d hd => ?_
        obtain ⟨s, hs, rfl⟩ := h6 r hr d hd
        exact fd_bw (sign_fd hs)
    · refine Gd.mono (n := 2) (by decide) ⟨"table", _, rfl, by simp, fun z => absurd z (by decide +kernel), fun z => absurd z (by decide +kernel), fun _ => ⟨rows, c, rfl, h1, by omega, h3, by omega, h5⟩, fun s hs => ?_⟩
      obtain ⟨r, hr, hx⟩ := subs_tab hs
      obtain ⟨z, hz, e⟩ := h6 r hr s.2 hx
      rw [e]
      exact fd_gd (sign_fd hz)
    · have a1 : PyData.bulkAll (rows.map PyData.tuple) ≤ (rows.map PyData.tuple).length * (4 * (14 + 1) + 1) := bulk_le fun d hd => by
        obtain ⟨r, hr, rfl⟩ := List.mem_map.mp hd
        have b1 := bulk_le (ds := r) (b := 14) fun d hd => by
          obtain ⟨s, hs, rfl⟩ := h6 r hr d hd
          exact fd_bulk (sign_fd hs)
        have b2 : r.length * (14 + 1) ≤ 4 * (14 + 1) := Nat.mul_le_mul_right _ (by have := h5 r hr; omega)
        simp only [PyData.bulk]
        omega
      rw [List.length_map] at a1
      have a2 : rows.length * (4 * (14 + 1) + 1) ≤ 4 * (4 * (14 + 1) + 1) := Nat.mul_le_mul_right _ h2
      have a0 := bulk_words "table" (by decide +kernel)
      have e : (PyData.tuple [.str "table", .tuple (rows.map .tuple)]).bulk = (PyData.str "table").bulk + 1 + (PyData.bulkAll (rows.map PyData.tuple) + 1) := by simp only [PyData.bulk, PyData.bulkAll, Nat.add_zero]
      rw [e]
      omega
/-! ### what is bent -/
theorem cut_at {ds : List PyData} {i : Nat} (h : i < ds.length) : cutD ds none (some (i : Int)) = ds.take i ∧ cutD ds (some ((i : Int) + 1)) none = ds.drop (i + 1) ∧ cutD ds (some (i : Int)) (some ((i : Int) + 1)) = [ds[i]] := by
  have e : ∀ (n d : Nat) (j : Nat), j ≤ n → HT.sIx n d (some (j : Int)) = j := fun n d j hj => by
    show (if ((j : Nat) : Int) < 0 then (((j : Nat) : Int) + (n : Int)).toNat else min ((j : Nat) : Int).toNat n) = j
    rw [if_neg (by omega)]
    omega
  have e1 : ((i : Nat) : Int) + 1 = ((i + 1 : Nat) : Int) := by omega
  have n0 : ∀ n : Nat, HT.sIx n 0 none = 0 := fun _ => rfl
  have nn : ∀ n : Nat, HT.sIx n n none = n := fun _ => rfl
  refine ⟨?_, ?_, ?_⟩
  · unfold cutD
    rw [n0, e _ _ i (by omega)]
    simp
  · unfold cutD
    rw [e1, e _ _ (i + 1) (by omega), nn]
    exact List.take_of_length_le (by rw [List.length_drop]; omega)
  · unfold cutD
    rw [e1, e _ _ i (by omega), e _ _ (i + 1) (by omega), Nat.add_sub_cancel_left, List.drop_eq_getElem_cons h]
    rfl
theorem split_at {ds : List PyData} {i : Nat} (h : i < ds.length) : PyData.bulkAll ds = PyData.bulkAll (ds.take i) + (ds[i].bulk + 1) + PyData.bulkAll (ds.drop (i + 1)) := by
  have e : ds = ds.take i ++ (ds[i] :: ds.drop (i + 1)) := by
    rw [← List.drop_eq_getElem_cons h, List.take_append_drop]
  have h2 := congrArg PyData.bulkAll e
  rw [bulk_app] at h2
  simp only [PyData.bulkAll] at h2
  omega
structure BT where
  k : Nat
  d : PyData
def costB : Nat → Nat
  | 0 => 0
  | n + 1 => 4 + costB n
theorem et_andG {L : Rl} {Γ : List (Option PyData)} {tt tu : TT} {a : Nat} {k : Bool} {P : Bool → Prop} (h : EtD L tt Γ k) (h1 : k = true → EtG L a tu Γ P) (h2 : k = false → P false) : EtG L a (tAnd tt tu) Γ P := fun A σ H hi he hg Q q => h A σ H hi he (L.g0 hg) _ fun H1 r1 => by
  cases k with
  | false => exact q false H1 (L.rle (Nat.zero_le _) r1) (h2 rfl)
  | true => exact h1 rfl A σ H1 (hi.r r1) (he.r r1) (Rl.gR (a := 0) (by rw [Nat.zero_add]; exact hg) r1) Q fun k H2 r2 p => q k H2 (L.rle (Nat.le_of_eq (Nat.zero_add _)) (L.tr r1 r2)) p
end V1
set_option Elab.async false
set_option linter.all false
set_option maxRecDepth 100000
set_option maxHeartbeats 4000000
namespace V1
open PySem PySem.Spec PyProof.Rows L2
section
variable {L : Rl}
theorem os_catA {ds es : List PyData} (hl : ds.length + es.length ≤ 100000) : OpS L (rCatA L.K) (.tuple ds) (.tuple es) (fun x => x = .tuple (ds ++ es)) := fun A H x y hi hg hx hy Q q => by
  obtain ⟨p, xs, rfl, e, r⟩ := hx.tuple
  obtain ⟨p2, ys, rfl, e2, r2⟩ := hy.tuple
  refine ⟨p, p2, xs, ys, rfl, rfl, e.sq, e2.sq, Nat.le_trans (by rw [r.length, r2.length]; exact hl) (by decide), fun z => ?_, fun _ z => ?_, fun _ _ l hl2 => ?_⟩
  · have e3 : ds = [] := List.length_eq_zero_iff.mp (by rw [← r.length, z]; rfl)
    subst e3
    exact q _ _ H (Rl.refl hg) (dv_tup0 e2 r2) (by rw [List.nil_append])
  · have e3 : es = [] := List.length_eq_zero_iff.mp (by rw [← r2.length, z]; rfl)
    subst e3
    exact q _ _ H (Rl.refl hg) (dv_tup0 e r) (by rw [List.append_nil])
  · have rr := Rl.newR (o := .tup (xs ++ ys)) hg hl2
    exact q _ _ _ rr (.inr (.tup (hi.no hl2) upd_same ((r.app r2).r rr))) rfl
end
end V1
set_option Elab.async false
set_option linter.all false
set_option maxRecDepth 100000
set_option maxHeartbeats 4000000
/-! k04: the rows of the walk. -/
namespace V1
open PySem PySem.Spec PyProof.Rows L2
structure Rw where
  p : Pth
  d : PyData
  l : Int
def Rw.enc (r : Rw) : PyData := .tuple [tI r.p, r.d, .int r.l]
def walkR : Nat → Pth → PyData → Int → List Rw
  | 0, _, _, _ => []
  | n + 1, p, d, lev => ⟨p, d, lev⟩ :: ((subs (bodyT d).1 (bodyT d).2).map fun s => walkR n (p ++ s.1) s.2 (levAt (bodyT d).1 lev s.1)).flatten
theorem walk_enc : ∀ (n : Nat) (p : Pth) (d : PyData) (lev : Int), walkF n p d lev = (walkR n p d lev).map Rw.enc
  | 0, _, _, _ => rfl
  | n + 1, p, d, lev => by
    unfold walkF walkR
    rw [List.map_cons, List.map_flatten, List.map_map]
    congr 2
    exact List.map_congr_left fun s _ => walk_enc n _ _ _
theorem walkR_len (n : Nat) (p : Pth) (d : PyData) (lev : Int) : (walkR n p d lev).length = W n d := by
  rw [← walk_len n p d lev, walk_enc, List.length_map]
theorem lev_inc {w : Str} {r : List PyData} {s : Pth × PyData} (hs : s ∈ subs w r) (lev : Int) : levAt w lev s.1 = lev + incD w s.1 := by
  have hh : w ≠ "table" → ((low w : Nat) : Int) ≤ s.1.headD 0 := fun ht => by
    unfold subs at hs
    rw [if_neg ht] at hs
    obtain ⟨i, hi, e⟩ := List.mem_mapIdx.mp hs
    rw [← e]
    show _ ≤ ((low w + i : Nat) : Int)
    omega
  unfold levAt incD lowB
  generalize s.1.headD 0 = h at hh
  by_cases ht : w = "table"
  · subst ht
    rw [if_pos rfl]
    have e1 : decide (("table" : Str) = "over") = false := by decide
    have e2 : decide (("table" : Str) ∈ withScripts) = false := by decide
    rw [e1, e2]
    simp
  · rw [if_neg ht]
    have hh := hh ht
    by_cases h0 : w = "over"
    · subst h0
      have e1 : decide (("over" : Str) = "over") = true := by decide
      have e2 : decide (("over" : Str) ∈ (["over", "under", "upper", "limits"] : List Str)) = true := by decide
      rw [e1, e2]
      simp
    · by_cases h1 : w ∈ (["under", "upper", "limits"] : List Str)
      · have hl : low w = 2 := by
          have : w ∈ sgn4 := List.mem_cons_of_mem _ h1
          unfold low
          rw [if_pos this]
        rw [hl] at hh
        have e1 : decide (w ∈ withScripts) = true := decide_eq_true (by
          have : ∀ z ∈ (["under", "upper", "limits"] : List Str), z ∈ withScripts := by decide
          exact this w h1)
        have e2 : decide (w ∈ (["over", "under", "upper", "limits"] : List Str)) = true := decide_eq_true (List.mem_cons_of_mem _ h1)
        have e3 : decide (1 < h) = true := decide_eq_true (by omega)
        rw [e1, e2, e3]
        simp
      · have e0 : decide (w = "over") = false := decide_eq_false h0
        have e2 : decide (w ∈ (["over", "under", "upper", "limits"] : List Str)) = false := decide_eq_false fun z => by
          rcases List.mem_cons.mp z with z | z
          · exact h0 z
          · exact h1 z
        have e1 : decide (w ∈ withScripts) = decide (w ∈ scripts) := by
          have a : ∀ z ∈ withScripts, z ∈ scripts ∨ z ∈ (["under", "upper", "limits"] : List Str) := by decide
          have b : ∀ z ∈ scripts, z ∈ withScripts := by decide
          by_cases hs : w ∈ scripts
          · rw [decide_eq_true hs, decide_eq_true (b w hs)]
          · rw [decide_eq_false hs, decide_eq_false fun z => (a w z).elim hs h1]
        rw [e0, e1, e2, Bool.false_or]
        by_cases hb : (decide (w ∈ scripts) && decide (1 < h)) = true
        · rw [if_pos hb, if_pos hb]
        · rw [if_neg hb, if_neg hb]
          omega
end V1
set_option Elab.async false
set_option linter.all false
set_option maxRecDepth 100000
set_option maxHeartbeats 4000000
namespace V1
open PySem PySem.Spec PyProof.Rows L2
variable {P : Program} {w : World} {K : PySem.W.Frag} {mg : Str → Option Value} {base : Heap}

abbrev s_law_levels : Stmt := top 21
abbrev n_law_levels : List Str := ["formula_here", "level", "path", "found", "step", "part", "deeper"]
theorem sc_law_levels : FnScope n_law_levels ["formula_here", "level", "path"] (defScope s_law_levels) := ⟨rfl, rfl, rfl, by decide +kernel, rfl, by decide +kernel, by decide +kernel⟩
def sp_law_levels (K : PySem.W.Frag) (n : Nat) : Sp := spR K (fun a : PDL => [a.d, .int a.lev, tI a.p]) (fun a => Gd n a.d ∧ bd n a.d = true ∧ W n a.d ≤ 90000 ∧ a.p.length + 4 * n ≤ 1000) fun a => .list (walkF n a.p a.d a.lev)
theorem ok_law_levels {f : Addr} {fd : FuncData} (T : Bt K mg) (C : Cst K w mg) (D : Df K mg "_law_levels" s_law_levels ["formula_here", "level", "path"] f fd)
    {f_law_parts : Addr} {d_law_parts : FuncData} (h_law_parts : Cal P w K mg base "_law_parts" s_law_parts ["formula_here"] 1 (sp_law_parts K) f_law_parts d_law_parts)
    {n : Nat} (h_law_levels : Cal P w K mg base "_law_levels" s_law_levels ["formula_here", "level", "path"] (1 + n) (sp_law_levels K n) f fd) : Cal P w K mg base "_law_levels" s_law_levels ["formula_here", "level", "path"] (1 + n + 1) (sp_law_levels K (n + 1)) f fd := by
  refine ok_R D sc_law_levels (fun _ => rfl) fun cdv A outer s H E hgd hr => ⟨_, (pss_cons (ps_set (i := 3) sc_law_levels.nd rfl (Or.inl rfl) (pe_lst (pa_cons (pe_tup (pa_cons (pv 2) (pa_cons (pv 0) (pa_cons (pv 1) pa_nil)))) pa_nil)))
        (pss_cons (ps_for PassesOwn.never rfl (pi_list (pe_fn (E := E0) h_law_parts.G hgd (hr.mono (by omega)) (by rfl) h_law_parts.gm h_law_parts.kp h_law_parts.b (pa_cons (pv 0) pa_nil))) (pg_tup rfl (pgs_cons (pg_name (i := 4) sc_law_levels.nd rfl (Or.inl rfl)) (pgs_cons (pg_name (i := 5) sc_law_levels.nd rfl (Or.inl rfl)) (pgs_cons (pg_name (i := 6) sc_law_levels.nd rfl (Or.inl rfl)) pgs_nil))))
        (pss_one (ps_set (i := 3) sc_law_levels.nd rfl (Or.inl rfl) (pe_op op_cat (pv 3) (pe_fn (E := E0) h_law_levels.G hgd (hr.mono (by omega)) (by rfl) h_law_levels.gm h_law_levels.kp h_law_levels.b (pa_cons (pv 5) (pa_cons (pe_op op_add (pv 1) (pv 6)) (pa_cons (pe_op op_catA (pv 2) (pv 4)) pa_nil))))))))
        (pss_one (ps_ret (pv 3))))), ?_⟩
  rintro ⟨p, d, lev⟩ ⟨hG, hb, hW, hp⟩
  have hG : Gd (n + 1) d := hG
  have hb : bd (n + 1) d = true := hb
  have hW : W (n + 1) d ≤ 90000 := hW
  have hp : p.length + 4 * (n + 1) ≤ 1000 := hp
  obtain ⟨w, r, rfl, hS, hsub⟩ := hG.shp
  have hnd := bd_nd hb
  show SG (pureL K) 0 _ [some (.tuple (.str w :: r)), some (.int lev), some (tI p), none, none, none, none] _ (fun x => x = .list (walkF (n + 1) p (.tuple (.str w :: r)) lev))
  generalize hss : subs w r = ss at hsub
  have hpd : partsD w r = ss.map fun s => .tuple [tI s.1, s.2, .int (incD w s.1)] := by rw [← hss]; rfl
  let acc : Nat → List PyData := fun i => .tuple [tI p, .tuple (.str w :: r), .int lev] :: ((ss.take i).map fun s => walkF n (p ++ s.1) s.2 (levAt w lev s.1)).flatten
  have ev : walkF (n + 1) p (.tuple (.str w :: r)) lev = acc ss.length := by
    show PyData.tuple [tI p, .tuple (.str w :: r), .int lev] :: ((subs w r).map fun s => walkF n (p ++ s.1) s.2 (levAt w lev s.1)).flatten = _
    rw [hss]
    show _ = PyData.tuple [tI p, .tuple (.str w :: r), .int lev] :: ((ss.take ss.length).map fun s => walkF n (p ++ s.1) s.2 (levAt w lev s.1)).flatten
    rw [List.take_length]
  have hWs : ((ss.map fun s => W n s.2).sum) ≤ 90000 := by
    have e : W (n + 1) (.tuple (.str w :: r)) = 1 + ((subs w r).map fun s => W n s.2).sum := rfl
    rw [e, hss] at hW
    omega
  have alen : ∀ i, (acc i).length ≤ 100000 := fun i => by
    show (((ss.take i).map fun s => walkF n (p ++ s.1) s.2 (levAt w lev s.1)).flatten).length + 1 ≤ _
    rw [List.length_flatten, List.map_map]
    have e : (ss.take i).map (List.length ∘ fun s => walkF n (p ++ s.1) s.2 (levAt w lev s.1)) = (ss.map fun s => W n s.2).take i := by
      rw [← List.map_take]
      exact List.map_congr_left fun s _ => walk_len n _ _ _
    rw [e]
    have := sum_take_le (ss.map fun s => W n s.2) i
    omega
  have astep : ∀ i s, ss[i]? = some s → acc (i + 1) = acc i ++ walkF n (p ++ s.1) s.2 (levAt w lev s.1) := fun i s h => by
    show _ :: _ = (_ :: _) ++ _
    rw [List.take_add_one, h, List.map_append, List.flatten_append]
    simp
  rw [ev]
  refine sq_asg (d := .list [.tuple [tI p, .tuple (.str w :: r), .int lev]]) (eg_lst (ea_cons (eg_tup (ea_cons (eg_var rfl) (ea_cons (eg_var rfl) (ea_cons (eg_var rfl) ea_nil)))) ea_nil)) ?_
  refine sg_seq (N1 := fun G => ∃ a b c, G = [some (.tuple (.str w :: r)), some (.int lev), some (tI p), some (.list (acc ss.length)), a, b, c]) (sg_for (js := [4, 5, 6]) (items := ss.map fun s => .tuple [tI s.1, s.2, .int (incD w s.1)]) (fun i G => ∃ a b c, G = [some (.tuple (.str w :: r)), some (.int lev), some (tI p), some (.list (acc i)), a, b, c]) (wk_list ((eg_callR (L := pureL K) (⟨w, r⟩ : WY) (ea_cons (eg_var rfl) ea_nil) ⟨hS, hnd⟩ (nomk_c hnd rfl)).to (by show PyData.list (partsD w r) = _; rw [hpd]))) ⟨none, none, none, rfl⟩ ?_ ?_) ?_
  · rintro i e G he ⟨a, b, c, rfl⟩
    obtain ⟨s, hs, hsm, rfl⟩ := map_at (enc := fun s : Pth × PyData => PyData.tuple [tI s.1, s.2, .int (incD w s.1)]) he
    have hsm' : s ∈ subs w r := by rw [hss]; exact hsm
    obtain ⟨i0, way, es, hat, hl3⟩ := sub_at hS hsm'
    have hbs := bd_str hb s hsm'
    have hWsub := W_sub (n := n) hsm'
    refine ⟨_, tg_three, ?_⟩
    refine sg_asg (i := 3) (d := .list (acc (i + 1))) ?_ ⟨_, _, _, rfl⟩
    rw [astep i s hs]
    refine eg_cat (L := pureL K) (eg_var rfl) (eg_callR (L := pureL K) (⟨p ++ s.1, s.2, levAt w lev s.1⟩ : PDL) (ea_cons (eg_var rfl) (ea_cons ((eg_add (L := pureL K) (eg_var rfl) (eg_var rfl)).to (by rw [lev_inc hsm' lev])) (ea_cons ((eg_catA (L := pureL K) (eg_var rfl) (eg_var rfl) (by rw [List.length_map, List.length_map]; omega)).to (by unfold tI; rw [List.map_append])) ea_nil))) ⟨hsub s hsm, hbs, by show W n s.2 ≤ 90000; omega, by show (p ++ s.1).length + 4 * n ≤ 1000; rw [List.length_append]; omega⟩ (nomk_c (bd_nd hbs) rfl)) ?_
    have := alen (i + 1)
    rw [astep i s hs, List.length_append] at this
    exact this
  · rintro G ⟨a, b, c, rfl⟩
    exact ⟨_, _, _, by rw [List.length_map]⟩
  · rintro G ⟨a, b, c, rfl⟩
    exact sg_ret (eg_var rfl) rfl

end V1
set_option Elab.async false
set_option linter.all false
set_option maxRecDepth 100000
set_option maxHeartbeats 4000000
/-! k04: what stands at a row, and a thing put there. -/
namespace V1
open PySem PySem.Spec PyProof.Rows L2
theorem walkR_row : ∀ (n : Nat) (p : Pth) (d : PyData) (lev : Int), Gd n d → bd n d = true → ∀ x ∈ walkR n p d lev, ∃ m, m ≤ n ∧ Gd m x.d ∧ bd m x.d = true
  | 0, _, _, _, _, _, x, hx => by simp [walkR] at hx
  | n + 1, p, d, lev, hG, hb, x, hx => by
    obtain ⟨w, r, rfl, hS, hsub⟩ := hG.shp
    rcases List.mem_cons.mp (show x ∈ (⟨p, .tuple (.str w :: r), lev⟩ : Rw) :: ((subs w r).map fun s => walkR n (p ++ s.1) s.2 (levAt w lev s.1)).flatten from hx) with rfl | hx
    · exact ⟨n + 1, Nat.le_refl _, hG, hb⟩
    · obtain ⟨l, hl, hx⟩ := List.mem_flatten.mp hx
      obtain ⟨s, hs, rfl⟩ := List.mem_map.mp hl
      obtain ⟨m, h1, h2⟩ := walkR_row n _ _ _ (hsub s hs) (bd_str hb s hs) x hx
      exact ⟨m, by omega, h2⟩
/-- a path of tuples all the way -/
def OkP : PyData → Pth → Prop
  | _, [] => True
  | .tuple ds, i :: q => ∃ k : Nat, i = (k : Int) ∧ ∃ e, ds[k]? = some e ∧ OkP e q
  | _, _ :: _ => False
def putT : PyData → Pth → PyData → PyData
  | _, [], x => x
  | .tuple ds, i :: q, x => .tuple (ds.take i.toNat ++ [putT (ds.getD i.toNat .none) q x] ++ ds.drop (i.toNat + 1))
  | d, _ :: _, _ => d
theorem okP_app : ∀ {p q : Pth} {d e : PyData}, OkP d p → atP d p = some e → OkP e q → OkP d (p ++ q)
  | [], q, d, e, _, h, k => by
    have e1 : d = e := by simpa [atP] using h
    rw [e1]
    exact k
  | i :: p, q, .tuple ds, e, ⟨k, hk, y, hy, ho⟩, h, kq => by
    refine ⟨k, hk, y, hy, okP_app ho ?_ kq⟩
    subst hk
    simpa [atP, atI_nat hy] using h
theorem nomk_d2 {d : PyData} {p : Pth} (h : d.hasDict = false) : nomk [tI p, d] = true := by
  cases d with
  | dict k => simp [PyData.hasDict] at h
  | _ => rfl
end V1
set_option Elab.async false
set_option linter.all false
set_option maxRecDepth 100000
set_option maxHeartbeats 4000000
namespace V1
open PySem PySem.Spec PyProof.Rows L2
variable {P : Program} {w : World} {K : PySem.W.Frag} {mg : Str → Option Value} {base : Heap}

abbrev s_paths_of : Stmt := top 8
abbrev n_paths_of : List Str := ["formula", "triple"]
theorem sc_paths_of : FnScope n_paths_of ["formula"] (defScope s_paths_of) := ⟨rfl, rfl, rfl, by decide +kernel, rfl, by decide +kernel, by decide +kernel⟩
def sp_paths_of (K : PySem.W.Frag) : Sp := spR K (fun d : PyData => [d]) (fun d => Gd 40 d ∧ bd 40 d = true ∧ W 40 d ≤ 90000) fun d => .tuple ((walkR 40 [] d 0).map fun r => tI r.p)
theorem ok_paths_of {f : Addr} {fd : FuncData} (T : Bt K mg) (C : Cst K w mg) (D : Df K mg "paths_of" s_paths_of ["formula"] f fd)
    {f_walk : Addr} {d_walk : FuncData} (h_walk : Cal P w K mg base "walk" s_walk ["formula"] (42) (sp_walk K) f_walk d_walk) : Cal P w K mg base "paths_of" s_paths_of ["formula"] (43) (sp_paths_of K) f fd := by
  refine ok_R D sc_paths_of (fun _ => rfl) fun cdv A outer s H E hgd hr => ⟨_, (pss_one (ps_ret (pe_callTy call_tuple_of (by rfl) T.tuple (by decide +kernel) (pa_cons (pe_lc (own := [("triple", 1)]) (g := gName 1) (tt := tYes) rfl sc_paths_of.nd (pi_list (pe_fn (E := E0) h_walk.G hgd (hr.mono (by decide)) (by rfl) h_walk.gm h_walk.kp h_walk.b (pa_cons (pv 0) pa_nil))) (blkOk_by (own := [("triple", 1)]) (N := n_paths_of) (sc := defScope s_paths_of) (by decide +kernel)) (fun _ _ _ _ _ => (pg_name (i := 1) sc_paths_of.nd rfl (Or.inl rfl))) (fun _ _ _ _ _ => pts_nil) (fun _ _ _ _ _ => (pe_ix (ix_tupK (K := K) rfl) (pv 1) pe_int (fun _ _ => rfl)))) pa_nil)))), ?_⟩
  rintro d ⟨h1, h2, h3⟩
  show SG (pureL K) 0 _ [some d, none] _ _
  refine sg_ret (d := .tuple ((walkR 40 [] d 0).map fun r => tI r.p)) (eg_cb (ea_cons (eg_lcW (js := [1]) (items := (walkR 40 [] d 0).map Rw.enc) (wk_list ((eg_callR (L := pureL K) d (ea_cons (eg_var rfl) ea_nil) ⟨h1, h2, h3⟩ (hd_nomk (bd_nd h2))).to (by rw [walk_enc]))) (by simp) (by rw [List.length_map, walkR_len]; omega) (by rw [List.length_map, List.length_map]) ?_) ea_nil) cs_tuple) rfl
  intro i e x he hx
  obtain ⟨s, hs, hsm, rfl⟩ := map_at (enc := Rw.enc) he
  rw [List.getElem?_map, hs] at hx
  have ex := (Option.some.inj hx).symm
  subst ex
  exact ⟨(by intro z; cases z), _, tg_name, eg_ixT (L := pureL K) (ds := [tI s.p, s.d, .int s.l]) (eg_var rfl) eg_int (atI_zero _ _)⟩
end V1
set_option Elab.async false
set_option linter.all false
set_option maxRecDepth 100000
set_option maxHeartbeats 4000000
namespace V1
open PySem PySem.Spec PyProof.Rows L2
variable {P : Program} {w : World} {K : PySem.W.Frag} {mg : Str → Option Value} {base : Heap}

abbrev s_put_thing : Stmt := top 9
abbrev n_put_thing : List Str := ["value", "path", "thing", "place"]
theorem sc_put_thing : FnScope n_put_thing ["value", "path", "thing"] (defScope s_put_thing) := ⟨rfl, rfl, rfl, by decide +kernel, rfl, by decide +kernel, by decide +kernel⟩
structure PT where
  d : PyData
  p : Pth
  x : PyData
theorem len_bulk : ∀ (ds : List PyData), ds.length ≤ PyData.bulkAll ds
  | [] => Nat.le_refl _
  | x :: ds => by
    simp only [PyData.bulkAll, List.length_cons]
    have := len_bulk ds
    omega
def PT.ok (n : Nat) (a : PT) : Prop := (a.d.hasDict = false ∧ a.d.bulk ≤ 90000) ∧ OkP a.d a.p ∧ a.p.length < n ∧ a.p.length ≤ 900 ∧ a.x.hasDict = false
theorem PT.nd {n : Nat} {a : PT} (h : a.ok n) : nomk [a.d, tI a.p, a.x] = true := by
  obtain ⟨⟨h1, _⟩, _, _, _, hx⟩ := h
  cases hd : a.d with
  | dict k => rw [hd] at h1; simp [PyData.hasDict] at h1
  | _ =>
    cases hx2 : a.x with
    | dict k => rw [hx2] at hx; simp [PyData.hasDict] at hx
    | _ => rfl
theorem PT.step {n : Nat} {ds : List PyData} {k : Nat} {q : Pth} {x e : PyData} (h : PT.ok (n + 1) ⟨.tuple ds, (k : Int) :: q, x⟩) (he : ds[k]? = some e) : PT.ok n ⟨e, q, x⟩ ∧ ds.length ≤ 90000 := by
  obtain ⟨⟨hd, hb⟩, ⟨k2, hk, e2, he2, ho⟩, hl, hl9, hx⟩ := h
  have hk2 : k2 = k := by omega
  subst hk2
  rw [he] at he2
  have := Option.some.inj he2
  subst this
  have hb : (PyData.tuple ds).bulk ≤ 90000 := hb
  have hb2 : (PyData.tuple ds).bulk = PyData.bulkAll ds := by simp only [PyData.bulk]
  have hm := bulk_mem (List.mem_of_getElem? he)
  have hlb := len_bulk ds
  refine ⟨⟨⟨hd_tup hd e (List.mem_of_getElem? he), by show e.bulk ≤ 90000; omega⟩, ho, ?_, ?_, hx⟩, by omega⟩
  · have : q.length + 1 < n + 1 := hl
    show q.length < n
    omega
  · have : q.length + 1 ≤ 900 := hl9
    show q.length ≤ 900
    omega
theorem putT_nm {n : Nat} {a : PT} (h : a.ok n) : nomk [putT a.d a.p a.x] = true := by
  obtain ⟨d, p, x⟩ := a
  obtain ⟨_, ho, _, _, hx⟩ := h
  cases p with
  | nil =>
    have e : putT d [] x = x := by cases d <;> rfl
    show nomk [putT d [] x] = true
    rw [e]
    exact hd_nomk hx
  | cons i q =>
    cases d with
    | tuple ds => rfl
    | _ => exact ho.elim
def sp_put_thing (K : PySem.W.Frag) (n : Nat) : Sp := spR K (fun a : PT => [a.d, tI a.p, a.x]) (PT.ok n) fun a => putT a.d a.p a.x
theorem ok_put_thing {f : Addr} {fd : FuncData} (T : Bt K mg) (C : Cst K w mg) (D : Df K mg "put_thing" s_put_thing ["value", "path", "thing"] f fd)
    {n : Nat} (h_put_thing : Cal P w K mg base "put_thing" s_put_thing ["value", "path", "thing"] (0 + n) (sp_put_thing K n) f fd) : Cal P w K mg base "put_thing" s_put_thing ["value", "path", "thing"] (0 + n + 1) (sp_put_thing K (n + 1)) f fd := by
  refine ok_R D sc_put_thing (fun _ => rfl) fun cdv A outer s H E hgd hr => ⟨_, (pss_cons (ps_if (pt_cmpR (op_eqD hr.units) (pv 1) (pe_tup pa_nil) (nomark _)) (pss_one (ps_ret (pv 2))) pss_nil)
        (pss_cons (ps_set (i := 3) sc_put_thing.nd rfl (Or.inl rfl) (pe_ix (ix_tupK (K := K) rfl) (pv 1) pe_int (fun _ _ => rfl)))
        (pss_one (ps_ret (pe_op op_catA (pe_op op_catA (pe_slice sl_tupA (pv 0) po_none (po_some (pv 3))) (pe_tup (pa_cons (pe_fn (E := E0) h_put_thing.G hgd (hr.mono (by omega)) (by rfl) h_put_thing.gm h_put_thing.kp h_put_thing.b (pa_cons (pe_ix (ix_tupK (K := K) rfl) (pv 0) (pv 3) (fun _ _ => rfl)) (pa_cons (pe_slice sl_tupA (pv 1) (po_some pe_int) po_none) (pa_cons (pv 2) pa_nil)))) pa_nil))) (pe_slice sl_tupA (pv 0) (po_some (pe_op op_add (pv 3) pe_int)) po_none)))))), ?_⟩
  rintro ⟨d, p, x⟩ hok
  show SG (pureL K) 0 _ [some d, some (tI p), some x, none] _ (fun y => y = putT d p x)
  cases p with
  | nil =>
    refine sq_if (k := true) (et_test ((eg_eqTup0 (L := pureL K) (eg_var (i := 1) rfl) (tI_shaped [])).to (by rfl))) (fun _ => sg_retq (eg_var (i := 2) rfl) ?_) fun z => by cases z
    cases d <;> rfl
  | cons i q =>
    refine sq_if (k := false) (et_test ((eg_eqTup0 (L := pureL K) (eg_var (i := 1) rfl) (tI_shaped (i :: q))).to (by rfl))) (fun z => by cases z) fun _ => ?_
    cases d with
    | tuple ds =>
      obtain ⟨_, ⟨k, hk, e, he, ho⟩, _⟩ := id hok
      have hk : i = (k : Int) := hk
      subst hk
      obtain ⟨ok2, hl2⟩ := PT.step hok he
      have hkl : k < ds.length := (List.getElem?_eq_some_iff.mp he).1
      obtain ⟨c1, c2, _⟩ := cut_at hkl
      have cq : cutD (q.map PyData.int |>.cons (.int (k : Int))) (some 1) none = q.map .int := by
        unfold cutD
        show ((PyData.int (k : Int) :: q.map PyData.int).drop (HT.sIx _ 0 (some ((1 : Nat) : Int)))).take (_ - HT.sIx _ 0 (some ((1 : Nat) : Int))) = _
        rw [HT.sIx_nat, HT.sIx_none]
        have e1 : min 1 (PyData.int (k : Int) :: q.map PyData.int).length = 1 := by rw [List.length_cons]; omega
        rw [e1, List.drop_succ_cons, List.drop_zero, List.length_cons, Nat.add_sub_cancel, List.take_length]
      refine sq_asg (d := .int (k : Int)) (eg_ixT (L := pureL K) (ds := (((k : Int) :: q : Pth).map PyData.int)) (eg_var rfl) eg_int (atI_zero _ _)) ?_
      have hge : ds.getD k .none = e := by rw [List.getD_eq_getElem?_getD, he]; rfl
      have hput : putT (.tuple ds) ((k : Int) :: q) x = .tuple (ds.take k ++ [putT e q x] ++ ds.drop (k + 1)) := by
        show PyData.tuple (ds.take ((k : Int)).toNat ++ [putT (ds.getD ((k : Int)).toNat .none) q x] ++ ds.drop (((k : Int)).toNat + 1)) = _
        rw [Int.toNat_natCast, hge]
      rw [hput]
      refine sg_ret (d := .tuple (ds.take k ++ [putT e q x] ++ ds.drop (k + 1))) (eg_catA (L := pureL K) (eg_catA (L := pureL K) ((eg_slA (L := pureL K) (ds := ds) (eg_var (i := 0) rfl) eo_none (eo_some (eg_var (i := 3) rfl))).to (by rw [c1])) (eg_tup (ea_cons (eg_callR (L := pureL K) (⟨e, q, x⟩ : PT) (ea_cons (eg_ixT (L := pureL K) (eg_var (i := 0) rfl) (eg_var (i := 3) rfl) (atI_nat he rfl)) (ea_cons ((eg_slA (L := pureL K) (ds := ((k : Int) :: q : Pth).map PyData.int) (eg_var (i := 1) rfl) (eo_some (eg_int (i := 1))) eo_none).to (by show PyData.tuple (cutD _ _ _) = tI q; unfold tI; exact congrArg PyData.tuple cq)) (ea_cons (eg_var (i := 2) rfl) ea_nil))) ok2 (PT.nd ok2)) ea_nil) (putT_nm ok2)) ?_) ((eg_slA (L := pureL K) (ds := ds) (eg_var (i := 0) rfl) (eo_some (eg_add (eg_var (i := 3) rfl) eg_int)) eo_none).to (by rw [c2])) ?_) rfl
      · rw [List.length_take]
        show _ + 1 ≤ _
        omega
      · rw [List.length_append, List.length_take, List.length_drop]
        show _ + 1 + _ ≤ _
        omega
    | _ => exact hok.2.1.elim

end V1
set_option Elab.async false
set_option linter.all false
set_option maxRecDepth 100000
set_option maxHeartbeats 4000000
/-! xs.extend of a list or of a tuple. -/
namespace V1
open PySem PySem.Spec PyProof.Rows L2
theorem ext_tup (l : Addr) (items : Array Value) (n : Nat) (b : Addr) (items2 : Array Value) (n2 : Nat) (dd : Option Addr) (sl : Array (Option Value)) (hs0 : (!items.isEmpty && Builtin.List.listTooLong (items.size + items2.size)) = false) (hs1 : items.size ≤ sizeLine) (hs2 : items.size + items2.size ≤ sizeLine + 1) :
    Meets (Builtin.«list.extend» ⟨[.ref l, .ref b], []⟩) (fun _ R s => s.heap.get? l = some { cls := .type "list", data := .seq items n } ∧
      s.heap.get? b = some { cls := .type "tuple", dict := dd, data := .seq items2 n2, slots := sl } ∧ R (.ok (.ret Value.none)) { s with heap := s.heap.update l (Obj.mapSeq fun x => x ++ items2), toks := s.toks }) :=
  .of_wp fun prog w A R s h => by
    obtain ⟨hp, g, d, tk, os⟩ := s
    obtain ⟨hl, hb, h⟩ := h
    have f1 := AutoSeq1.idx_int
    have f2 := AutoSeq1.sub_tuple_tuple
    have f3 := AutoSeq1.sub_list_list
    have f4 := AutoSeq1.sub_tuple_list
    have f5 := AutoSeq1.sub_list_tuple
    have hs0' : ¬ (!items.isEmpty && Builtin.List.listTooLong (items.size + items2.size)) = true := by rw [hs0]; exact Bool.false_ne_true
    have hzz : (items ++ items2).size ≤ sizeLine + 1 := by
      rw [Array.size_append]
      exact hs2
    wp_walk using (wpAny_updateSeq hl rfl (hz := hs1) (_hz' := hzz)), wpAny_loadPart' hl, wpAny_loadPart' hb
    exact ⟨_, rfl, h⟩
def rExtendA (K : PySem.W.Frag) : V → List V → Hp → VK → Prop := fun x vs H Q => ∃ l b xs zs, x = .ref l ∧ vs = [.ref b] ∧ H l = some (.lst xs) ∧ (H b = some (.lst zs) ∨ SqT K H b zs) ∧ xs.length + zs.length ≤ sizeLine ∧ Q .non (upd H l (.lst (xs ++ zs)))
theorem mt_extendA {X : Cx} : MtM X "list.extend" (rExtendA X.K) := by
  intro pins s σ H x vs v us Q I rx rv h
  obtain ⟨l, b, xs, zs, rfl, rfl, hH, hB, hz, q⟩ := h
  rcases hB with hB | hB
  · exact mt_extend pins s σ H _ _ v us Q I rx rv ⟨l, b, xs, zs, rfl, rfl, hH, hB, hz, q⟩
  cases rx
  obtain ⟨u, rfl, ru⟩ := rv.one
  cases ru
  obtain ⟨z, its, n, r, hl, e⟩ := I.lstM hH
  obtain ⟨its2, r2, ⟨⟨cls, dd, data, sl⟩, ho, hc, n2, hd⟩, hz2⟩ := I.tuple hB
  simp only at hc hd
  subst hc hd
  have hl2 : its2.length = zs.length := r2.length.symm
  have hsz : its.toArray.size + its2.toArray.size ≤ sizeLine := by
    rw [List.size_toArray, List.size_toArray]
    omega
  have hlong : (!its.toArray.isEmpty && Builtin.List.listTooLong (its.toArray.size + its2.toArray.size)) = false := by rw [notLongL hsz, Bool.and_false]
  refine call_meets F.slot_list_extend ⟨_, e, rfl⟩ F.entry_list_extend (F.args_list_extend_2 _ _) (ext_tup l its.toArray n b its2.toArray n2 dd sl hlong (by rw [List.size_toArray]; omega) (by omega)) ⟨e, ho, ?_⟩
  refine ⟨.non, _, I.lset (its' := its ++ its2) hH e (by simp) (r.append r2) ?_, rfl, q⟩
  rw [List.length_append]
  omega
section
variable {L : Rl} {Γ : List (Option PyData)} {t : TA} {te te2 : TE} {B u : TS} {j : Nat} {N : List (Option PyData) → Prop} {Rt : PyData → Prop}
theorem sg_growA {wi : TI} {g : TG} {js : List Nat} {items ds0 : List PyData} {acc : Nat → List PyData} (I : Nat → List (Option PyData) → Prop) (hj : j < Γ.length) (hjs : j ∉ js) (h1 : EvL L te Γ ds0) (ha0 : acc 0 = ds0) (hlen : ∀ i, (acc i).length ≤ 100000)
    (hw : WkD L wi (Γ.set j none) items) (h0 : I 0 (Γ.set j none))
    (hb : ∀ (i : Nat) d Γi, items[i]? = some d → I i Γi → ∃ Γ' N1, TgG L g js d Γi Γ' ∧ (∀ v0, SK L j v0 0 B Γ' N1) ∧ ∀ G, N1 G → ∃ es, (EvD L te2 G (.list es) ∨ EvD L te2 G (.tuple es)) ∧ es.length ≤ 100000 ∧ acc (i + 1) = acc i ++ es ∧ I (i + 1) G)
    (hN : ∀ Γe, I items.length Γe → SG L 0 u (Γe.set j (some (.list (acc items.length)))) N Rt) :
    SG L 0 (tSeq (tAsg te (gName j)) (tSeq (tFor wi g (tSeq B (tDrop (tBM L.K "list" (rExtendA L.K) (tVar j) (tCons te2 tNil))))) u)) Γ N Rt := fun A σ H hi he hg D q1 q2 => h1 A σ H hi he hg _ fun p xs0 H1 r1 hp0 eP dv0 => by
  have nAp : ¬ A p := fun z => hi p z hp0
  have g1 : L.G 0 H1 := Rl.gR (b := 0) hg r1
  have hi1 : Inn (fun b => A b ∨ b = p) H1 := fun b z y => z.elim (fun z => (hi.r r1) b z y) fun z => by rw [z, eP] at y; cases y
  have sj : (σ.set j (some (V.ref p)))[j]? = some (some (V.ref p)) := List.getElem?_set_self (by rw [he.1]; exact hj)
  have he1 : EnvOk L (fun b => A b ∨ b = p) (σ.set j (some (V.ref p))) H1 (Γ.set j none) := by
    refine ⟨by rw [List.length_set, List.length_set]; exact he.1, fun i d e => ?_⟩
    by_cases hij : j = i
    · subst hij
      rw [List.getElem?_set_self hj] at e
      cases e
    · rw [List.getElem?_set_ne hij] at e
      obtain ⟨v, e1, e2⟩ := he.2 i d e
      refine ⟨v, by rw [List.getElem?_set_ne hij]; exact e1, e2.imp (fun z => z) fun z => z.map fun b o na eb k => ⟨fun w => w.elim na (ne_of_none eb hp0), L.keep r1 eb k⟩⟩
  refine hw (fun b => A b ∨ b = p) _ H1 hi1 he1 g1 _ fun J H2 its r2 hits jk => ?_
  subst hits
  have eP2 : H2 p = some (.lst xs0) := L.keep r2 eP (fun kvs z => by cases z)
  refine ⟨fun i m σ3 H3 => m = its.length - i ∧ i ≤ its.length ∧ L.R 0 H H3 ∧ Kp (fun b => A b ∨ b = p) H2 H3 ∧ σ3[j]? = some (some (V.ref p)) ∧ (∃ xs, H3 p = some (.lst xs) ∧ DvAll L.K (fun b => A b ∨ b = p) H3 xs (acc i)) ∧ ∃ Γi, EnvOk L (fun b => A b ∨ b = p) σ3 H3 Γi ∧ I i Γi, ⟨its.length, ?_⟩, ?_⟩
  · exact ⟨by omega, Nat.zero_le _, L.tr (a := 0) (b := 0) r1 r2, fun b o _ e _ => e, sj, ⟨xs0, eP2, by rw [ha0]; exact dv0.r r2⟩, _, he1.r r2, h0⟩
  · rintro i m σ3 H3 ⟨rfl, hle, r3, k3, s3, ⟨xs, eP3, dv3⟩, Γi, e3, p3⟩
    have g3 : L.G 0 H3 := Rl.gR (b := 0) hg r3
    have hi3 : Inn (fun b => A b ∨ b = p) H3 := fun b z y => z.elim (fun z => (hi.r r3) b z y) fun z => by rw [z, eP3] at y; cases y
    by_cases hlt : i < its.length
    · refine .inr ⟨jk.go i H3 k3 hlt, fun σ4 H4 => i + 1 ≤ its.length ∧ L.R 0 H H4 ∧ Kp (fun b => A b ∨ b = p) H2 H4 ∧ σ4[j]? = some (some (V.ref p)) ∧ (∃ xs, H4 p = some (.lst xs) ∧ DvAll L.K (fun b => A b ∨ b = p) H4 xs (acc (i + 1))) ∧ ∃ Γi, EnvOk L (fun b => A b ∨ b = p) σ4 H4 Γi ∧ I (i + 1) Γi, fun σ4 H4 h4 => ⟨its.length - (i + 1), by omega, rfl, h4⟩, fun x H4 y => ?_⟩
      obtain ⟨d, hd, sm, hdv⟩ := jk.yld i H3 x H4 k3 hi3 y hlt
      obtain ⟨Γ', N1, htg, hB, hes⟩ := hb i d Γi hd p3
      have r34 : L.R 0 H3 H4 := L.same g3 sm
      have dx : Dv L.K (fun b => A b ∨ b = p) H4 x d := hdv _ hi3 fun b o na e _ => na
      refine htg _ x σ3 H4 dx (e3.r r34) _ fun σ5 e5 w5 => ?_
      have s5 : σ5[j]? = some (some (V.ref p)) := by
        have hw5 := w5 js fun k hk => hk
        rw [← wipe_get hjs, hw5, wipe_get hjs]
        exact s3
      have g4 : L.G 0 H4 := Rl.gR (b := 0) g3 r34
      refine hB (V.ref p) _ σ5 H4 (hi3.r r34) e5 g4 s5 { nx := _, rt := _, bk := _, ct := _ } fun σ6 H6 Γ6 r6 e6 s6 p6 => ?_
      obtain ⟨es, he2, hl2, hacc, hI⟩ := hes Γ6 p6
      have r36 : L.R 0 H3 H6 := L.tr (a := 0) (b := 0) r34 r6
      have eP6 : H6 p = some (.lst xs) := L.keep r36 eP3 (fun kvs z => by cases z)
      refine ⟨V.ref p, s6, .inl ⟨rfl, xs, SqL.of eP6⟩, ?_⟩
      rcases he2 with he2 | he2
      · refine he2 _ σ6 H6 (hi3.r r36) e6 (Rl.gR (b := 0) g3 r36) _ fun v d7 H7 r7 hv7 ed => ?_
        subst ed
        obtain ⟨b7, zs, rfl, nb7, eb7, dz⟩ := hv7.list
        replace eb7 : H7 b7 = some (.lst zs) ∨ SqT L.K H7 b7 zs := .inl eb7
        have r37 : L.R 0 H3 H7 := L.tr (a := 0) (b := 0) r36 r7
        have eP7 : H7 p = some (.lst xs) := L.keep r37 eP3 (fun kvs z => by cases z)
        have dv7 := dv3.r r37
        refine ⟨p, b7, xs, zs, rfl, rfl, eP7, eb7, ?_, ?_⟩
        · rw [dv7.length, dz.length]
          exact Nat.le_trans (Nat.add_le_add (hlen i) hl2) (by decide)
        · refine ⟨hlt, L.fresh (L.tr (a := 0) (b := 0) r3 r37) hp0, fun b o na e k => ?_, s6, ⟨xs ++ zs, upd_same, ?_⟩, Γ6, (e6.r r7).off, hI⟩
          · rw [upd_ne (fun z => na (.inr z))]
            exact L.keep r37 (k3 b o na e k) k
          · rw [hacc]
            exact (dv7.app dz).off
      · refine he2 _ σ6 H6 (hi3.r r36) e6 (Rl.gR (b := 0) g3 r36) _ fun v d7 H7 r7 hv7 ed => ?_
        subst ed
        obtain ⟨b7, zs, rfl, eb7, dz⟩ := hv7.tuple
        replace eb7 : H7 b7 = some (.lst zs) ∨ SqT L.K H7 b7 zs := .inr eb7.sq
        have r37 : L.R 0 H3 H7 := L.tr (a := 0) (b := 0) r36 r7
        have eP7 : H7 p = some (.lst xs) := L.keep r37 eP3 (fun kvs z => by cases z)
        have dv7 := dv3.r r37
        refine ⟨p, b7, xs, zs, rfl, rfl, eP7, eb7, ?_, ?_⟩
        · rw [dv7.length, dz.length]
          exact Nat.le_trans (Nat.add_le_add (hlen i) hl2) (by decide)
        · refine ⟨hlt, L.fresh (L.tr (a := 0) (b := 0) r3 r37) hp0, fun b o na e k => ?_, s6, ⟨xs ++ zs, upd_same, ?_⟩, Γ6, (e6.r r7).off, hI⟩
          · rw [upd_ne (fun z => na (.inr z))]
            exact L.keep r37 (k3 b o na e k) k
          · rw [hacc]
            exact (dv7.app dz).off
    · have e : i = its.length := by omega
      subst e
      refine .inl ⟨jk.stop H3 k3, ?_⟩
      have e4 : EnvOk L A σ3 H3 Γi := e3.less fun b z => .inl z
      have dA : DvAll L.K A H3 xs (acc its.length) := dv3.map fun b o na e k => ⟨fun z => na (.inl z), e⟩
      have hlj : j < σ3.length := (List.getElem?_eq_some_iff.mp s3).1
      have e5 : EnvOk L A σ3 H3 (Γi.set j (some (.list (acc its.length)))) := by
        have h5 := e4.set (d := .list (acc its.length)) (v := V.ref p) (.inr (.lst nAp eP3 dA)) j
        have hs : σ3.set j (some (V.ref p)) = σ3 := by
          refine List.ext_getElem? fun i => ?_
          by_cases hij : j = i
          · subst hij
            rw [List.getElem?_set_self hlj, s3]
          · rw [List.getElem?_set_ne hij]
        rwa [hs] at h5
      exact hN Γi p3 A σ3 H3 (hi.r r3) e5 g3 D (fun σ6 H6 G6 r6 e6 p6 => q1 σ6 H6 G6 (L.tr (a := 0) (b := 0) r3 r6) e6 p6) fun v d H6 r6 e6 p6 => q2 v d H6 (L.tr (a := 0) (b := 0) r3 r6) e6 p6
end
end V1
set_option Elab.async false
set_option linter.all false
set_option maxRecDepth 100000
set_option maxHeartbeats 4000000
/-! k42: plain forms, by data. -/
namespace V1
open PySem PySem.Spec PyProof.Rows L2
def openR (x : PyData) : List PyData := if (bodyT x).1 = "row" then (bodyT x).2 else [x]
def mkR (l : List PyData) : PyData := if l.length = 1 then l.headD .none else .tuple (.str "row" :: l)
/-- the plain form -/
def PF : Nat → PyData → PyData
  | 0, d => d
  | n + 1, d =>
    if (bodyT d).1 = "table" then .tuple [.str "table", .tuple ((itemsT ((bodyT d).2.headD .none)).map fun l => .tuple ((itemsT l).map (PF n)))]
    else if (bodyT d).1 = "row" then mkR (((bodyT d).2.map (PF n)).flatMap openR)
    else .tuple (.str (bodyT d).1 :: ((bodyT d).2.take (low (bodyT d).1 - 1) ++ ((bodyT d).2.drop (low (bodyT d).1 - 1)).map (PF n)))
/-- a formula, so deep, whose rows are as told -/
def Gq (q : List PyData → Prop) : Nat → PyData → Prop
  | 0, _ => False
  | n + 1, d => (∃ (w : Str) (r : List PyData), w ≠ "table" ∧ d = .tuple (.str w :: r) ∧ Shp w r ∧ (w = "row" → q r) ∧ ∀ x ∈ r.drop (low w - 1), Gq q n x) ∨
      ∃ (rows : List (List PyData)) (c : Nat), d = .tuple [.str "table", .tuple (rows.map .tuple)] ∧ 1 ≤ rows.length ∧ rows.length ≤ 200 ∧ 1 ≤ c ∧ c ≤ 200 ∧ (∀ l ∈ rows, l.length = c) ∧ ∀ l ∈ rows, ∀ x ∈ l, Gq q n x
abbrev Gr : Nat → PyData → Prop := Gq fun r => 1 ≤ r.length
abbrev Pl : Nat → PyData → Prop := Gq fun r => 2 ≤ r.length ∧ ∀ x ∈ r, (bodyT x).1 ≠ "row"
theorem Gq.mono {q : List PyData → Prop} : ∀ {n m : Nat} {d : PyData}, n ≤ m → Gq q n d → Gq q m d
  | 0, _, _, _, h => h.elim
  | n + 1, 0, _, h, _ => by omega
  | n + 1, m + 1, d, hm, h => by
    rcases h with ⟨w, r, h1, h2, h3, h4, h5⟩ | ⟨rows, c, h1, h2, h3, h4, h5, h6, h7⟩
    · exact .inl ⟨w, r, h1, h2, h3, h4, fun x hx => Gq.mono (by omega) (h5 x hx)⟩
    · exact .inr ⟨rows, c, h1, h2, h3, h4, h5, h6, fun l hl x hx => Gq.mono (by omega) (h7 l hl x hx)⟩
theorem Gq.imp {q q' : List PyData → Prop} (f : ∀ r, q r → q' r) : ∀ {n : Nat} {d : PyData}, Gq q n d → Gq q' n d
  | 0, _, h => h.elim
  | n + 1, d, h => by
    rcases h with ⟨w, r, h1, h2, h3, h4, h5⟩ | ⟨rows, c, h1, h2, h3, h4, h5, h6, h7⟩
    · exact .inl ⟨w, r, h1, h2, h3, fun e => f _ (h4 e), fun x hx => Gq.imp f (h5 x hx)⟩
    · exact .inr ⟨rows, c, h1, h2, h3, h4, h5, h6, fun l hl x hx => Gq.imp f (h7 l hl x hx)⟩
theorem Pl.gr {n : Nat} {d : PyData} (h : Pl n d) : Gr n d := Gq.imp (fun r h => by omega) h
theorem subs_nt {w : Str} {r : List PyData} (h : w ≠ "table") {s : Pth × PyData} (hs : s ∈ subs w r) : s.2 ∈ r.drop (low w - 1) := by
  unfold subs at hs
  rw [if_neg h] at hs
  obtain ⟨i, hi, _⟩ := mem_flat hs
  exact List.mem_of_getElem? hi
theorem Gq.gd {q : List PyData → Prop} : ∀ {n : Nat} {d : PyData}, Gq q n d → Gd n d
  | 0, _, h => h.elim
  | n + 1, d, h => by
    rcases h with ⟨w, r, h1, h2, h3, h4, h5⟩ | ⟨rows, c, h1, h2, h3, h4, h5, h6, h7⟩
    · exact ⟨w, r, h2, h3.len, h3.sg, h3.sign, h3.tab, fun s hs => Gq.gd (h5 s.2 (subs_nt h1 hs))⟩
    · refine ⟨"table", _, h1, by simp, fun z => absurd z (by decide +kernel), fun z => absurd z (by decide +kernel), fun _ => ⟨rows, c, rfl, h2, h3, h4, h5, h6⟩, fun s hs => ?_⟩
      obtain ⟨l, hl, hx⟩ := subs_tab hs
      exact Gq.gd (h7 l hl s.2 hx)
theorem low_row : low "row" = 1 := by decide +kernel
theorem body_tup (w : Str) (r : List PyData) : bodyT (.tuple (.str w :: r)) = (w, r) := rfl
/-- what is plain is its own plain form -/
theorem pl_pf : ∀ {n : Nat} {d : PyData}, Pl n d → PF n d = d
  | 0, _, h => h.elim
  | n + 1, d, h => by
    rcases h with ⟨w, r, h1, rfl, h3, h4, h5⟩ | ⟨rows, c, rfl, h2, h3, h4, h5, h6, h7⟩
    · unfold PF
      rw [body_tup]
      dsimp only
      rw [if_neg h1]
      have hm : ∀ l : List PyData, (∀ x ∈ l, Pl n x) → l.map (PF n) = l := fun l hl => by
        have e : l.map (PF n) = l.map id := List.map_congr_left fun x hx => pl_pf (hl x hx)
        rw [e, List.map_id]
      by_cases hw : w = "row"
      · rw [if_pos hw]
        subst hw
        rw [low_row] at h5
        rw [hm r fun x hx => h5 x hx]
        obtain ⟨h6, h7⟩ := h4 rfl
        have e : r.flatMap openR = r := by
          have h8 : ∀ l : List PyData, (∀ x ∈ l, (bodyT x).1 ≠ "row") → l.flatMap openR = l := fun l => by
            induction l with
            | nil => intro _; rfl
            | cons y l ih =>
              intro hl
              rw [List.flatMap_cons, ih fun x hx => hl x (List.mem_cons_of_mem _ hx)]
              unfold openR
              rw [if_neg (hl y List.mem_cons_self)]
              rfl
          exact h8 r h7
        rw [e]
        unfold mkR
        rw [if_neg (by omega)]
      · rw [if_neg hw, hm _ h5, List.take_append_drop]
    · unfold PF
      rw [body_tup]
      dsimp only
      rw [if_pos rfl]
      show PyData.tuple [.str "table", .tuple ((rows.map PyData.tuple).map fun l => .tuple ((itemsT l).map (PF n)))] = _
      rw [List.map_map]
      have e : rows.map ((fun l => PyData.tuple ((itemsT l).map (PF n))) ∘ PyData.tuple) = rows.map PyData.tuple := List.map_congr_left fun l hl => by
        show PyData.tuple (l.map (PF n)) = .tuple l
        have e : l.map (PF n) = l.map id := List.map_congr_left fun x hx => pl_pf (h7 l hl x hx)
        rw [e, List.map_id]
      rw [e]
theorem open_not {x : PyData} (h : (bodyT x).1 ≠ "row") : openR x = [x] := by unfold openR; rw [if_neg h]
theorem open_row (l : List PyData) : openR (.tuple (.str "row" :: l)) = l := by unfold openR; rw [body_tup, if_pos rfl]
/-- things opened, put in a row again, opened -/
theorem open_mk {l : List PyData} (h : ∀ x ∈ l, (bodyT x).1 ≠ "row") : openR (mkR l) = l := by
  unfold mkR
  by_cases h1 : l.length = 1
  · rw [if_pos h1]
    match l, h1 with
    | [x], _ => exact open_not (h x List.mem_cons_self)
  · rw [if_neg h1]
    exact open_row l
/-- what a thing so plain opens to: no rows -/
theorem pl_open {n : Nat} {x : PyData} (h : Pl n x) : (∀ y ∈ openR x, Pl n y ∧ (bodyT y).1 ≠ "row") ∧ mkR (openR x) = x ∧ 1 ≤ (openR x).length := by
  by_cases hw : (bodyT x).1 = "row"
  · cases n with
    | zero => exact h.elim
    | succ n =>
      rcases h with ⟨w, r, h1, rfl, h3, h4, h5⟩ | ⟨rows, c, rfl, _⟩
      · have hw : w = "row" := hw
        subst hw
        rw [low_row] at h5
        obtain ⟨h6, h7⟩ := h4 rfl
        rw [open_row]
        refine ⟨fun y hy => ⟨Gq.mono (Nat.le_succ n) (h5 y hy), h7 y hy⟩, ?_, by omega⟩
        unfold mkR
        rw [if_neg (by omega)]
      · exact absurd (show ("table" : Str) = "row" from hw) (by decide +kernel)
  · rw [open_not hw]
    refine ⟨fun y hy => ?_, rfl, Nat.le_refl _⟩
    rw [List.mem_singleton.mp hy]
    exact ⟨h, hw⟩
end V1
set_option Elab.async false
set_option linter.all false
set_option maxRecDepth 100000
set_option maxHeartbeats 4000000
/-! k42: plain forms: what they hold, how great they are. -/
namespace V1
open PySem PySem.Spec PyProof.Rows L2
theorem body_row {x : PyData} (h : (bodyT x).1 = "row") : x = .tuple (.str "row" :: (bodyT x).2) := by
  unfold bodyT at h ⊢
  split
  · rename_i w r
    have e : w = "row" := h
    rw [e]
  · rename_i h2
    split at h
    · rename_i w r
      exact absurd rfl (h2 w r)
    · exact absurd h (by decide +kernel)
theorem mkR_mem {l : List PyData} {Q : PyData → Prop} (h1 : l.length = 1 → ∀ y ∈ l, Q y) (h2 : l.length ≠ 1 → Q (.tuple (.str "row" :: l))) : Q (mkR l) := by
  unfold mkR
  by_cases h : l.length = 1
  · rw [if_pos h]
    match l, h with
    | [x], h => exact h1 h x List.mem_cons_self
  · rw [if_neg h]
    exact h2 h
theorem pf_row (n : Nat) (r : List PyData) : PF (n + 1) (.tuple (.str "row" :: r)) = mkR ((r.map (PF n)).flatMap openR) := by
  show (if ("row" : Str) = "table" then _ else if ("row" : Str) = "row" then _ else _) = _
  rw [if_neg (by decide +kernel), if_pos rfl]
  rfl
theorem pf_nt {n : Nat} {w : Str} {r : List PyData} (h1 : w ≠ "table") (h2 : w ≠ "row") : PF (n + 1) (.tuple (.str w :: r)) = .tuple (.str w :: (r.take (low w - 1) ++ (r.drop (low w - 1)).map (PF n))) := by
  show (if w = "table" then _ else if w = "row" then _ else _) = _
  rw [if_neg h1, if_neg h2]
  rfl
theorem pf_tb (n : Nat) (rows : List (List PyData)) : PF (n + 1) (.tuple [.str "table", .tuple (rows.map .tuple)]) = .tuple [.str "table", .tuple ((rows.map fun l => l.map (PF n)).map .tuple)] := by
  show (if ("table" : Str) = "table" then PyData.tuple [.str "table", .tuple ((rows.map PyData.tuple).map fun l => .tuple ((itemsT l).map (PF n)))] else _) = _
  rw [if_pos rfl, List.map_map, List.map_map]
  rfl
theorem open_dict {x : PyData} (h : x.hasDict = false) : ∀ y ∈ openR x, y.hasDict = false := fun y hy => by
  by_cases hw : (bodyT x).1 = "row"
  · have e := body_row hw
    generalize (bodyT x).2 = l at e
    subst e
    rw [open_row] at hy
    exact hd_tup h y (List.mem_cons_of_mem _ hy)
  · rw [open_not hw] at hy
    rw [List.mem_singleton.mp hy]
    exact h
theorem nd_tup {ds : List PyData} (h : ∀ d ∈ ds, d.hasDict = false) : (PyData.tuple ds).hasDict = false := by
  simpa only [PyData.hasDict] using dict_all h
theorem nd_str (s : Str) : (PyData.str s).hasDict = false := by simp only [PyData.hasDict]
theorem nd_cons {x : PyData} {ds : List PyData} (h : x.hasDict = false) (h2 : ∀ d ∈ ds, d.hasDict = false) : ∀ d ∈ x :: ds, d.hasDict = false := fun d hd => by
  rcases List.mem_cons.mp hd with rfl | hd
  · exact h
  · exact h2 d hd
theorem pf_nd {q : List PyData → Prop} : ∀ {n : Nat} {d : PyData}, Gq q n d → d.hasDict = false → (PF n d).hasDict = false
  | 0, _, h, _ => h.elim
  | n + 1, d, h, hd => by
    rcases h with ⟨w, r, h1, rfl, h3, h4, h5⟩ | ⟨rows, c, rfl, h2, h3, h4, h5, h6, h7⟩
    · have hr : ∀ x ∈ r, x.hasDict = false := fun x hx => hd_tup hd x (List.mem_cons_of_mem _ hx)
      by_cases hw : w = "row"
      · subst hw
        rw [low_row] at h5
        rw [pf_row]
        have hl : ∀ y ∈ (r.map (PF n)).flatMap openR, y.hasDict = false := fun y hy => by
          obtain ⟨x, hx, hy⟩ := List.mem_flatMap.mp hy
          obtain ⟨z, hz, rfl⟩ := List.mem_map.mp hx
          exact open_dict (pf_nd (h5 z hz) (hr z hz)) y hy
        exact mkR_mem (fun _ => hl) fun _ => nd_tup (nd_cons (nd_str _) hl)
      · rw [pf_nt h1 hw]
        refine nd_tup (nd_cons (nd_str _) fun x hx => ?_)
        rcases List.mem_append.mp hx with hx | hx
        · exact hr x (List.mem_of_mem_take hx)
        · obtain ⟨z, hz, rfl⟩ := List.mem_map.mp hx
          exact pf_nd (h5 z hz) (hr z (List.mem_of_mem_drop hz))
    · rw [pf_tb]
      refine nd_tup (nd_cons (nd_str _) fun x hx => ?_)
      rw [List.mem_singleton.mp hx]
      refine nd_tup fun y hy => ?_
      obtain ⟨l', hl', rfl⟩ := List.mem_map.mp hy
      obtain ⟨l, hl, rfl⟩ := List.mem_map.mp hl'
      refine nd_tup fun z hz => ?_
      obtain ⟨x', hx', rfl⟩ := List.mem_map.mp hz
      have e1 := hd_tup hd (.tuple (rows.map .tuple)) (List.mem_cons_of_mem _ List.mem_cons_self)
      have e2 := hd_tup e1 (.tuple l) (List.mem_map.mpr ⟨l, hl, rfl⟩)
      exact pf_nd (h7 l hl x' hx') (hd_tup e2 x' hx')
theorem bulk_tup (ds : List PyData) : (PyData.tuple ds).bulk = PyData.bulkAll ds := by simp only [PyData.bulk]
theorem bulk_cons (x : PyData) (ds : List PyData) : PyData.bulkAll (x :: ds) = x.bulk + 1 + PyData.bulkAll ds := by simp only [PyData.bulkAll]
theorem bulk_map {f : PyData → PyData} : ∀ {l : List PyData}, (∀ x ∈ l, (f x).bulk ≤ x.bulk) → PyData.bulkAll (l.map f) ≤ PyData.bulkAll l
  | [], _ => Nat.le_refl _
  | x :: l, h => by
    rw [List.map_cons, bulk_cons, bulk_cons]
    have h1 := h x List.mem_cons_self
    have h2 := bulk_map (l := l) fun y hy => h y (List.mem_cons_of_mem _ hy)
    omega
theorem open_bulk (x : PyData) : PyData.bulkAll (openR x) ≤ x.bulk + 1 := by
  by_cases hw : (bodyT x).1 = "row"
  · have e := body_row hw
    generalize (bodyT x).2 = l at e
    subst e
    rw [open_row, bulk_tup, bulk_cons]
    omega
  · rw [open_not hw, bulk_cons]
    simp [PyData.bulkAll]
theorem flat_bulk : ∀ (l : List PyData), PyData.bulkAll (l.flatMap openR) ≤ PyData.bulkAll l
  | [] => Nat.le_refl _
  | x :: l => by
    rw [List.flatMap_cons, bulk_app, bulk_cons]
    have h1 := open_bulk x
    have h2 := flat_bulk l
    omega
theorem pf_bulk {q : List PyData → Prop} : ∀ {n : Nat} {d : PyData}, Gq q n d → (PF n d).bulk ≤ d.bulk
  | 0, _, h => h.elim
  | n + 1, d, h => by
    rcases h with ⟨w, r, h1, rfl, h3, h4, h5⟩ | ⟨rows, c, rfl, h2, h3, h4, h5, h6, h7⟩
    · by_cases hw : w = "row"
      · subst hw
        rw [low_row] at h5
        rw [pf_row, bulk_tup, bulk_cons]
        have hb : PyData.bulkAll ((r.map (PF n)).flatMap openR) ≤ PyData.bulkAll r := Nat.le_trans (flat_bulk _) (bulk_map fun x hx => pf_bulk (h5 x hx))
        refine mkR_mem (Q := fun y => y.bulk ≤ _) (fun hl y hy => ?_) fun _ => ?_
        · have := bulk_mem hy
          omega
        · rw [bulk_tup, bulk_cons]
          omega
      · rw [pf_nt h1 hw, bulk_tup, bulk_tup, bulk_cons, bulk_cons, bulk_app]
        have h6 := bulk_map (f := PF n) (l := r.drop (low w - 1)) fun x hx => pf_bulk (h5 x hx)
        have h7 : PyData.bulkAll r = PyData.bulkAll (r.take (low w - 1)) + PyData.bulkAll (r.drop (low w - 1)) := by
          rw [← bulk_app, List.take_append_drop]
        omega
    · rw [pf_tb, bulk_tup, bulk_tup, bulk_cons, bulk_cons, bulk_cons, bulk_cons, bulk_tup, bulk_tup]
      have h8 : PyData.bulkAll ((rows.map fun l => l.map (PF n)).map .tuple) ≤ PyData.bulkAll (rows.map .tuple) := by
        rw [List.map_map]
        have e : ∀ ls : List (List PyData), (∀ l ∈ ls, ∀ x ∈ l, Gq q n x) → PyData.bulkAll (ls.map (PyData.tuple ∘ fun l => l.map (PF n))) ≤ PyData.bulkAll (ls.map .tuple) := fun ls => by
          induction ls with
          | nil => intro _; exact Nat.le_refl _
          | cons l ls ih =>
            intro hls
            rw [List.map_cons, List.map_cons, bulk_cons, bulk_cons]
            show (PyData.tuple (l.map (PF n))).bulk + 1 + _ ≤ _
            rw [bulk_tup, bulk_tup]
            have a1 := bulk_map (f := PF n) (l := l) fun x hx => pf_bulk (hls l List.mem_cons_self x hx)
            have a2 := ih fun l' hl' => hls l' (List.mem_cons_of_mem _ hl')
            omega
        exact e rows h7
      omega
/-- more steps change nothing -/
theorem pf_eq {q : List PyData → Prop} : ∀ {n m : Nat} {d : PyData}, Gq q n d → n ≤ m → PF (m + 1) d = PF m d
  | 0, _, _, h, _ => h.elim
  | n + 1, 0, _, _, h => by omega
  | n + 1, m + 1, d, h, hm => by
    have mm : ∀ l : List PyData, (∀ x ∈ l, Gq q n x) → l.map (PF (m + 1)) = l.map (PF m) := fun l hl => List.map_congr_left fun x hx => pf_eq (hl x hx) (by omega)
    rcases h with ⟨w, r, h1, rfl, h3, h4, h5⟩ | ⟨rows, c, rfl, h2, h3, h4, h5, h6, h7⟩
    · by_cases hw : w = "row"
      · subst hw
        rw [low_row] at h5
        rw [pf_row, pf_row, mm r h5]
      · rw [pf_nt h1 hw, pf_nt h1 hw, mm _ h5]
    · rw [pf_tb, pf_tb]
      have e : rows.map (fun l => l.map (PF (m + 1))) = rows.map fun l => l.map (PF m) := List.map_congr_left fun l hl => mm l (h7 l hl)
      rw [e]
end V1
set_option Elab.async false
set_option linter.all false
set_option maxRecDepth 100000
set_option maxHeartbeats 4000000
/-! k42: plain forms of what is drawn. -/
namespace V1
open PySem PySem.Spec PyProof.Rows L2
theorem shape_row {s p : Nat} (h : shapeOk "row" s p = true) : s = 0 ∧ 1 ≤ p := by
  unfold shapeOk at h
  have a1 : (("row" : Str) == "sign") = false := by decide +kernel
  have a3 : (("row" : Str) == "over") = false := by decide +kernel
  have a4 : (("row" : Str) == "high") = false := by decide +kernel
  have a5 : (("row" : Str) == "low") = false := by decide +kernel
  have a6 : (("row" : Str) == "root") = false := by decide +kernel
  have a7 : (("row" : Str) == "fence") = false := by decide +kernel
  have a8 : (("row" : Str) == "bar") = false := by decide +kernel
  have a9 : (("row" : Str) == "both") = false := by decide +kernel
  have b1 : (("row" : Str) == "under") = false := by decide +kernel
  have b2 : (("row" : Str) == "upper") = false := by decide +kernel
  have b3 : (("row" : Str) == "limits") = false := by decide +kernel
  have a2 : (("row" : Str) == "row") = true := by decide +kernel
  simp only [a1, a2, a3, a4, a5, a6, a7, a8, a9, b1, b2, b3, Bool.false_and, Bool.true_and, Bool.false_or, Bool.or_false, Bool.and_eq_true, beq_iff_eq, decide_eq_true_eq] at h
  exact h
/-- what stands ahead of a drawn thing's parts -/
theorem fd_cut {w : Str} {sg : List Str} {ds : List PyData} (h : shapeOk w sg.length ds.length = true) : (sg.map PyData.str ++ ds).take (low w - 1) = sg.map .str ∧ (sg.map PyData.str ++ ds).drop (low w - 1) = ds := by
  obtain ⟨s1, s2, _⟩ := shape_sg h
  have e : low w - 1 = (sg.map PyData.str).length := by
    rw [List.length_map]
    unfold low
    by_cases z : w ∈ sgn4
    · rw [if_pos z, s1 z]
    · rw [if_neg z, s2 z]
  rw [e]
  exact ⟨List.take_left, List.drop_left⟩
theorem fd_gr {n : Nat} {d : PyData} (h : Fd n d) : Gr n d := by
  have hg := fd_gd h
  induction h with
  | @nd n w sg ds h1 h2 h3 h4 h5 ih =>
    obtain ⟨hw, htab, hs⟩ := word_of_shape h1
    obtain ⟨w', r', e, hS, _⟩ := hg.shp
    cases e
    refine .inl ⟨w, _, htab, rfl, hS, fun e => ?_, fun x hx => ?_⟩
    · subst e
      obtain ⟨z1, z2⟩ := shape_row h1
      rw [List.length_append]
      omega
    · rw [(fd_cut h1).2] at hx
      exact ih x hx (fd_gd (h5 x hx))
  | @tb n rows c h1 h2 h3 h4 h5 h6 ih =>
    exact .inr ⟨rows, c, rfl, h1, by omega, h3, by omega, h5, fun l hl x hx => Gq.mono (Nat.le_succ n) (ih l hl x hx (fd_gd (h6 l hl x hx)))⟩
theorem flat_len {b : Nat} : ∀ {l : List PyData}, (∀ x ∈ l, (openR x).length ≤ b) → (l.flatMap openR).length ≤ l.length * b
  | [], _ => by simp
  | x :: l, h => by
    rw [List.flatMap_cons, List.length_append, List.length_cons, Nat.succ_mul]
    have h1 := h x List.mem_cons_self
    have h2 := flat_len (l := l) fun y hy => h y (List.mem_cons_of_mem _ hy)
    omega
theorem bd_cons {k : Nat} {x : PyData} {ds : List PyData} (h0 : bd k x = true) (h1 : ds.length + 1 ≤ 200) (h2 : ∀ d ∈ ds, bd k d = true) : bd (k + 1) (.tuple (x :: ds)) = true := by
  unfold bd
  rw [Bool.and_eq_true]
  refine ⟨decide_eq_true (by rw [List.length_cons]; exact h1), List.all_eq_true.mpr fun y hy => ?_⟩
  rcases List.mem_cons.mp hy with rfl | hy
  · exact h0
  · exact h2 y hy
theorem bd_list {k : Nat} {ds : List PyData} (h1 : ds.length ≤ 200) (h2 : ∀ d ∈ ds, bd k d = true) : bd (k + 1) (.tuple ds) = true := by
  unfold bd
  rw [Bool.and_eq_true]
  exact ⟨decide_eq_true h1, List.all_eq_true.mpr h2⟩
theorem open_bd {k : Nat} {x : PyData} (h : bd k x = true) : ∀ y ∈ openR x, bd k y = true := fun y hy => by
  by_cases hw : (bodyT x).1 = "row"
  · have e := body_row hw
    generalize (bodyT x).2 = l at e
    subst e
    rw [open_row] at hy
    cases k with
    | zero => cases h
    | succ k => exact bd_mono (Nat.le_succ k) ((bd_tup h).2 y (List.mem_cons_of_mem _ hy))
  · rw [open_not hw] at hy
    rw [List.mem_singleton.mp hy]
    exact h
/-- the plain form of what is drawn -/
theorem fd_pf {n : Nat} {d : PyData} (h : Fd n d) : n ≤ 4 → ∀ m, n ≤ m → Pl m (PF m d) ∧ (openR (PF m d)).length ≤ 3 ^ n ∧ ∀ k, bd k d = true → bd k (PF m d) = true := by
  induction h with
  | @nd n w sg ds h1 h2 h3 h4 h5 ih =>
    intro hn m hm
    obtain ⟨m, rfl⟩ : ∃ j, m = j + 1 := ⟨m - 1, by omega⟩
    obtain ⟨hw0, htab, hs⟩ := word_of_shape h1
    obtain ⟨c1, c2⟩ := fd_cut h1
    have p1 : 1 ≤ 3 ^ (n + 1) := Nat.one_le_pow _ _ (by decide)
    have p2 : 3 ^ (n + 1) ≤ 81 := Nat.le_trans (Nat.pow_le_pow_right (by decide) hn) (by decide)
    have I := fun x hx => ih x hx (by omega) m (by omega)
    by_cases hw : w = "row"
    · subst hw
      obtain ⟨z1, z2⟩ := shape_row h1
      have e0 : sg = [] := List.length_eq_zero_iff.mp z1
      subst e0
      have e1 : (([] : List Str).map PyData.str ++ ds) = ds := rfl
      rw [e1, pf_row]
      generalize hl : (ds.map (PF m)).flatMap openR = l
      have hm1 : ∀ y ∈ l, ∃ x ∈ ds, y ∈ openR (PF m x) := fun y hy => by
        rw [← hl] at hy
        obtain ⟨x, hx, hy⟩ := List.mem_flatMap.mp hy
        obtain ⟨z, hz, rfl⟩ := List.mem_map.mp hx
        exact ⟨z, hz, hy⟩
      have hy1 : ∀ y ∈ l, Pl m y ∧ (bodyT y).1 ≠ "row" := fun y hy => by
        obtain ⟨x, hx, hy⟩ := hm1 y hy
        exact (pl_open (I x hx).1).1 y hy
      have hl3 : l.length ≤ 3 ^ (n + 1) := by
        have a1 : l.length ≤ (ds.map (PF m)).length * 3 ^ n := by
          rw [← hl]
          exact flat_len fun y hy => by
            obtain ⟨x, hx, rfl⟩ := List.mem_map.mp hy
            exact (I x hx).2.1
        rw [List.length_map] at a1
        have a2 : ds.length * 3 ^ n ≤ 3 * 3 ^ n := Nat.mul_le_mul_right _ h3
        rw [Nat.pow_succ]
        omega
      have hl1 : 1 ≤ l.length := by
        match ds, z2, hl, I with
        | x :: r, _, hl, I =>
          rw [← hl, List.map_cons, List.flatMap_cons, List.length_append]
          have := (pl_open (I x List.mem_cons_self).1).2.2
          omega
      refine ⟨?_, by rw [open_mk fun y hy => (hy1 y hy).2]; exact hl3, fun k hk => ?_⟩
      · refine mkR_mem (fun hl y hy => Gq.mono (Nat.le_succ m) (hy1 y hy).1) fun hne => ?_
        refine .inl ⟨"row", l, by decide +kernel, rfl, ⟨by omega, fun z => absurd z (by decide +kernel), fun z => absurd z (by decide +kernel), fun z => absurd z (by decide +kernel)⟩, fun _ => ⟨by omega, fun x hx => (hy1 x hx).2⟩, fun x hx => ?_⟩
        rw [low_row] at hx
        exact (hy1 x hx).1
      · cases k with
        | zero => cases hk
        | succ k =>
          have hk2 := (bd_tup hk).2
          have hb : ∀ y ∈ l, bd k y = true := fun y hy => by
            obtain ⟨x, hx, hy⟩ := hm1 y hy
            exact open_bd ((I x hx).2.2 k (hk2 x (List.mem_cons_of_mem _ hx))) y hy
          exact mkR_mem (fun _ y hy => bd_mono (Nat.le_succ k) (hb y hy)) fun _ => bd_cons (hk2 _ List.mem_cons_self) (by omega) hb
    · rw [pf_nt htab hw, c1, c2]
      obtain ⟨w', r', e, hS, _⟩ := (fd_gd (.nd h1 h2 h3 h4 h5)).shp
      cases e
      have hlen : (sg.map PyData.str ++ ds.map (PF m)).length = (sg.map PyData.str ++ ds).length := by rw [List.length_append, List.length_append, List.length_map, List.length_map]
      have hdrop : (sg.map PyData.str ++ ds.map (PF m)).drop (low w - 1) = ds.map (PF m) := (fd_cut (ds := ds.map (PF m)) (by rw [List.length_map]; exact h1)).2
      refine ⟨.inl ⟨w, _, htab, rfl, ⟨by rw [hlen]; exact hS.len, by rw [hlen]; exact hS.sg, by rw [hlen]; exact hS.sign, fun z => absurd z htab⟩, fun z => absurd z hw, fun x hx => ?_⟩, ?_, fun k hk => ?_⟩
      · rw [hdrop] at hx
        obtain ⟨y, hy, rfl⟩ := List.mem_map.mp hx
        exact (I y hy).1
      · rw [open_not (x := .tuple (.str w :: (sg.map PyData.str ++ ds.map (PF m)))) hw]
        exact p1
      · cases k with
        | zero => cases hk
        | succ k =>
          obtain ⟨hk1, hk2⟩ := bd_tup hk
          refine bd_cons (hk2 _ List.mem_cons_self) (by rw [hlen]; exact hk1) fun y hy => ?_
          rcases List.mem_append.mp hy with hy | hy
          · exact hk2 y (List.mem_cons_of_mem _ (List.mem_append_left _ hy))
          · obtain ⟨x, hx, rfl⟩ := List.mem_map.mp hy
            exact (I x hx).2.2 k (hk2 x (List.mem_cons_of_mem _ (List.mem_append_right _ hx)))
  | @tb n rows c h1 h2 h3 h4 h5 h6 ih =>
    intro hn m hm
    obtain ⟨m, rfl⟩ : ∃ j, m = j + 1 := ⟨m - 1, by omega⟩
    have p1 : 1 ≤ 3 ^ (n + 2) := Nat.one_le_pow _ _ (by decide)
    have I := fun l hl x hx => ih l hl x hx (by omega) m (by omega)
    rw [pf_tb]
    have hlen : ∀ l ∈ rows.map (fun l => l.map (PF m)), l.length = c := fun l hl => by
      obtain ⟨l', hl', rfl⟩ := List.mem_map.mp hl
      rw [List.length_map]
      exact h5 l' hl'
    refine ⟨.inr ⟨_, c, rfl, by rw [List.length_map]; exact h1, by rw [List.length_map]; omega, h3, by omega, hlen, fun l hl x hx => ?_⟩, ?_, fun k hk => ?_⟩
    · obtain ⟨l', hl', rfl⟩ := List.mem_map.mp hl
      obtain ⟨y, hy, rfl⟩ := List.mem_map.mp hx
      exact (I l' hl' y hy).1
    · rw [open_not (x := .tuple [.str "table", .tuple ((rows.map fun l => l.map (PF m)).map .tuple)]) (show ("table" : Str) ≠ "row" by decide +kernel)]
      exact p1
    · cases k with
      | zero => cases hk
      | succ k =>
        obtain ⟨_, hk2⟩ := bd_tup hk
        refine bd_cons (hk2 _ List.mem_cons_self) (show 1 + 1 ≤ 200 by decide) fun y hy => ?_
        rw [List.mem_singleton.mp hy]
        have hk3 := hk2 _ (List.mem_cons_of_mem _ List.mem_cons_self)
        cases k with
        | zero => cases hk3
        | succ k =>
          obtain ⟨hk4, hk5⟩ := bd_tup hk3
          refine bd_list (by rw [List.length_map, List.length_map]; rw [List.length_map] at hk4; exact hk4) fun z hz => ?_
          obtain ⟨l', hl', rfl⟩ := List.mem_map.mp hz
          obtain ⟨l, hl, rfl⟩ := List.mem_map.mp hl'
          have hk6 := hk5 (.tuple l) (List.mem_map.mpr ⟨l, hl, rfl⟩)
          cases k with
          | zero => cases hk6
          | succ k =>
            obtain ⟨hk7, hk8⟩ := bd_tup hk6
            refine bd_list (by rw [List.length_map]; exact hk7) fun u hu => ?_
            obtain ⟨x, hx, rfl⟩ := List.mem_map.mp hu
            exact (I l hl x hx).2.2 k (hk8 x hx)
/-- rows around it, rows in it: one plain form -/
theorem nest1 {d : PyData} (h : Fd 4 d) : PF 40 (.tuple [.str "row", d]) = PF 40 d := by
  have e : PF 40 (.tuple [.str "row", d]) = mkR (openR (PF 39 d)) := by
    rw [pf_row 39 [d]]
    show mkR ([PF 39 d].flatMap openR) = _
    rw [List.flatMap_cons, List.flatMap_nil, List.append_nil]
  rw [e, (pl_open (fd_pf h (by decide) 39 (by decide)).1).2.1]
  exact (pf_eq (fd_gr h) (by decide)).symm
theorem nest2 {r a b : List PyData} (h : Fd 4 (.tuple (.str "row" :: r))) (hr : r = a ++ b) : PF 40 (.tuple [.str "row", .tuple (.str "row" :: a), .tuple (.str "row" :: b)]) = PF 40 (.tuple (.str "row" :: r)) := by
  have hy : ∀ y ∈ (r.map (PF 38)).flatMap openR, (bodyT y).1 ≠ "row" := fun y hy => by
    obtain ⟨x, hx, hyx⟩ := List.mem_flatMap.mp hy
    obtain ⟨z, hz, rfl⟩ := List.mem_map.mp hx
    cases h with
    | @nd n w sg ds h1 h2 h3 h4 h5 =>
      obtain ⟨z1, z2⟩ := shape_row h1
      have e0 : sg = [] := List.length_eq_zero_iff.mp z1
      subst e0
      exact ((pl_open (fd_pf (h5 z hz) (by decide) 38 (by decide)).1).1 y hyx).2
  have e1 : PF 40 (.tuple [.str "row", .tuple (.str "row" :: a), .tuple (.str "row" :: b)]) = mkR (openR (PF 39 (.tuple (.str "row" :: a))) ++ openR (PF 39 (.tuple (.str "row" :: b)))) := by
    rw [pf_row 39]
    show mkR ([PF 39 (.tuple (.str "row" :: a)), PF 39 (.tuple (.str "row" :: b))].flatMap openR) = _
    rw [List.flatMap_cons, List.flatMap_cons, List.flatMap_nil, List.append_nil]
  have e2 : (r.map (PF 38)).flatMap openR = (a.map (PF 38)).flatMap openR ++ (b.map (PF 38)).flatMap openR := by rw [hr, List.map_append, List.flatMap_append]
  rw [e2] at hy
  rw [e1, pf_row 38 a, pf_row 38 b, open_mk fun y h => hy y (List.mem_append_left _ h), open_mk fun y h => hy y (List.mem_append_right _ h), ← e2, ← pf_row 38 r]
  exact (pf_eq (fd_gr h) (by decide)).symm
theorem nest_ne {d : PyData} (h : Pl 40 d) : (∀ x, d ≠ .tuple [.str "row", x]) ∧ ∀ a r, d ≠ .tuple (.str "row" :: .tuple (.str "row" :: a) :: r) := by
  rcases h with ⟨w, r, h1, rfl, h3, h4, h5⟩ | ⟨rows, c, rfl, _⟩
  · refine ⟨fun x e => ?_, fun a r' e => ?_⟩
    · cases e
      have h6 := (h4 rfl).1
      have : [x].length = 1 := rfl
      omega
    · cases e
      exact (h4 rfl).2 _ List.mem_cons_self rfl
  · refine ⟨fun x e => ?_, fun a r' e => ?_⟩
    · have e1 := congrArg bodyT e
      have e2 : ("table" : Str) = "row" := congrArg Prod.fst e1
      exact absurd e2 (by decide +kernel)
    · have e1 := congrArg bodyT e
      have e2 : ("table" : Str) = "row" := congrArg Prod.fst e1
      exact absurd e2 (by decide +kernel)
/-- each row of the walk stands at its path -/
theorem atP_app : ∀ {p q : Pth} {d e : PyData}, atP d p = some e → atP d (p ++ q) = atP e q
  | [], q, d, e, h => by
    have e1 : d = e := by simpa [atP] using h
    rw [e1]
    rfl
  | i :: p, q, d, e, h => by
    obtain ⟨ds, y, rfl, h1, h2⟩ := atP_cons h
    show (atI ds i).bind (fun x => atP x (p ++ q)) = _
    rw [h1]
    exact atP_app h2
theorem walk_at : ∀ (n : Nat) (p : Pth) (d : PyData) (lev : Int), Gd n d → ∀ x ∈ walkR n p d lev, ∃ q, x.p = p ++ q ∧ atP d q = some x.d
  | 0, _, _, _, h, _, _ => h.elim
  | n + 1, p, d, lev, hG, x, hx => by
    obtain ⟨w, r, rfl, hS, hsub⟩ := hG.shp
    rcases List.mem_cons.mp (show x ∈ (⟨p, .tuple (.str w :: r), lev⟩ : Rw) :: ((subs w r).map fun s => walkR n (p ++ s.1) s.2 (levAt w lev s.1)).flatten from hx) with rfl | hx
    · exact ⟨[], by simp, rfl⟩
    · obtain ⟨l, hl, hx⟩ := List.mem_flatten.mp hx
      obtain ⟨s, hs, rfl⟩ := List.mem_map.mp hl
      obtain ⟨q, e1, e2⟩ := walk_at n _ _ _ (hsub s hs) x hx
      obtain ⟨_, _, _, ha, _⟩ := sub_at hS hs
      exact ⟨s.1 ++ q, by rw [e1, List.append_assoc], by rw [atP_app ha]; exact e2⟩
def tabRow (r : Rw) : Option Pth := if (bodyT r.d).1 = "table" then some r.p else none
end V1
set_option Elab.async false
set_option linter.all false
set_option maxRecDepth 100000
set_option maxHeartbeats 4000000
/-! k42: what the readings share. -/
namespace V1
open PySem PySem.Spec PyProof.Rows L2
section
variable {L : Rl} {Γ : List (Option PyData)} {t : TA} {te ta tb : TE} {tt tu : TT}
theorem eg_neS {i j : Str} (ha : EvD L ta Γ (.str i)) (hb : EvD L tb Γ (.str j)) : EvD L (tOp rNe ta tb) Γ (.bool (!decide (i = j))) := eg_op ha hb fun A H x y hi hg hx hy Q q => by
  obtain rfl := hx.str
  obtain rfl := hy.str
  refine ⟨rfl, ?_⟩
  have e : decide (V.str i = V.str j) = decide (i = j) := by
    by_cases z : i = j
    · rw [z]; simp
    · rw [decide_eq_false z]; exact decide_eq_false fun y => z (by injection y)
  rw [e]
  exact q _ _ H (Rl.refl hg) (.inr (.bl _)) rfl
end
theorem set_cut {α : Type} {l : List α} {k : Nat} {e : α} (h : k < l.length) : l.take k ++ [e] ++ l.drop (k + 1) = l.set k e := by
  rw [List.set_eq_take_append_cons_drop, if_pos h]
  simp
/-- a list whose first so many things are made over -/
def upto {α : Type} (f : α → α) (i : Nat) (l : List α) : List α := (l.take i).map f ++ l.drop i
theorem upto_zero {α : Type} (f : α → α) (l : List α) : upto f 0 l = l := by simp [upto]
theorem upto_all {α : Type} (f : α → α) (l : List α) : upto f l.length l = l.map f := by simp [upto]
theorem upto_len {α : Type} (f : α → α) (i : Nat) (l : List α) : (upto f i l).length = l.length := by
  unfold upto
  rw [List.length_append, List.length_map, List.length_take, List.length_drop]
  omega
theorem upto_at {α : Type} {f : α → α} {i : Nat} {l : List α} {x : α} (h : l[i]? = some x) : (upto f i l)[i]? = some x := by
  have hl := (List.getElem?_eq_some_iff.mp h).1
  unfold upto
  rw [List.getElem?_append_right (by rw [List.length_map, List.length_take]; omega), List.length_map, List.length_take, List.getElem?_drop]
  rw [show i + (i - min i l.length) = i by omega]
  exact h
theorem upto_set {α : Type} {f : α → α} {i : Nat} {l : List α} {x : α} (h : l[i]? = some x) : (upto f i l).set i (f x) = upto f (i + 1) l := by
  have hl := (List.getElem?_eq_some_iff.mp h).1
  refine List.ext_getElem? fun j => ?_
  by_cases hj : i = j
  · subst hj
    rw [List.getElem?_set_self (by rw [upto_len]; exact hl)]
    unfold upto
    rw [List.getElem?_append_left (by rw [List.length_map, List.length_take]; omega), List.getElem?_map, List.getElem?_take_of_lt (by omega), h]
    rfl
  · rw [List.getElem?_set_ne hj]
    unfold upto
    by_cases h2 : j < i
    · rw [List.getElem?_append_left (by rw [List.length_map, List.length_take]; omega), List.getElem?_append_left (by rw [List.length_map, List.length_take]; omega), List.getElem?_map, List.getElem?_map, List.getElem?_take_of_lt h2, List.getElem?_take_of_lt (by omega)]
    · rw [List.getElem?_append_right (by rw [List.length_map, List.length_take]; omega), List.getElem?_append_right (by rw [List.length_map, List.length_take]; omega), List.length_map, List.length_map, List.length_take, List.length_take, List.getElem?_drop, List.getElem?_drop]
      congr 1
      omega
theorem upto_mem {α : Type} {f : α → α} {i : Nat} {l : List α} {Q : α → Prop} (h1 : ∀ x ∈ l, Q x) (h2 : ∀ x ∈ l, Q (f x)) : ∀ x ∈ upto f i l, Q x := fun x hx => by
  rcases List.mem_append.mp hx with hx | hx
  · obtain ⟨y, hy, rfl⟩ := List.mem_map.mp hx
    exact h2 y (List.mem_of_mem_take hy)
  · exact h1 x (List.mem_of_mem_drop hx)
theorem upto_bulk {f : PyData → PyData} {i : Nat} {l : List PyData} (h : ∀ x ∈ l, (f x).bulk ≤ x.bulk) : PyData.bulkAll (upto f i l) ≤ PyData.bulkAll l := by
  unfold upto
  rw [bulk_app]
  have h1 := bulk_map (f := f) (l := l.take i) fun x hx => h x (List.mem_of_mem_take hx)
  have h2 : PyData.bulkAll l = PyData.bulkAll (l.take i) + PyData.bulkAll (l.drop i) := by rw [← bulk_app, List.take_append_drop]
  omega
/-- rows of things, one behind another: the first so many are made over -/
def uptoR (f : PyData → PyData) (c : Nat) : Nat → List (List PyData) → List (List PyData)
  | _, [] => []
  | i, l :: ls => upto f i l :: uptoR f c (i - c) ls
theorem uptoR_zero (f : PyData → PyData) (c : Nat) : ∀ ls : List (List PyData), uptoR f c 0 ls = ls
  | [] => rfl
  | l :: ls => by
    unfold uptoR
    rw [upto_zero, Nat.zero_sub, uptoR_zero f c ls]
theorem uptoR_all (f : PyData → PyData) (c : Nat) : ∀ (ls : List (List PyData)) (i : Nat), (∀ l ∈ ls, l.length = c) → ls.length * c ≤ i → uptoR f c i ls = ls.map fun l => l.map f
  | [], _, _, _ => rfl
  | l :: ls, i, h, hi => by
    have hl := h l List.mem_cons_self
    rw [List.length_cons, Nat.succ_mul] at hi
    unfold uptoR
    rw [uptoR_all f c ls (i - c) (fun x hx => h x (List.mem_cons_of_mem _ hx)) (by omega), List.map_cons]
    congr 1
    unfold upto
    rw [List.take_of_length_le (by omega), List.drop_of_length_le (by omega), List.append_nil]
theorem uptoR_len (f : PyData → PyData) (c : Nat) : ∀ (ls : List (List PyData)) (i : Nat), (uptoR f c i ls).length = ls.length
  | [], _ => rfl
  | l :: ls, i => by
    unfold uptoR
    rw [List.length_cons, List.length_cons, uptoR_len f c ls]
theorem uptoR_mem {f : PyData → PyData} {c : Nat} {Q : PyData → Prop} : ∀ {ls : List (List PyData)} {i : Nat}, (∀ l ∈ ls, ∀ x ∈ l, Q x ∧ Q (f x)) → ∀ l ∈ uptoR f c i ls, ∀ x ∈ l, Q x
  | [], _, _, l, hl => by cases hl
  | l0 :: ls, i, h, l, hl => by
    unfold uptoR at hl
    rcases List.mem_cons.mp hl with rfl | hl
    · exact upto_mem (fun x hx => (h l0 List.mem_cons_self x hx).1) fun x hx => (h l0 List.mem_cons_self x hx).2
    · exact uptoR_mem (fun l' hl' => h l' (List.mem_cons_of_mem _ hl')) l hl
theorem uptoR_bulk {f : PyData → PyData} {c : Nat} : ∀ {ls : List (List PyData)} {i : Nat}, (∀ l ∈ ls, ∀ x ∈ l, (f x).bulk ≤ x.bulk) → PyData.bulkAll ((uptoR f c i ls).map .tuple) ≤ PyData.bulkAll (ls.map .tuple)
  | [], _, _ => Nat.le_refl _
  | l :: ls, i, h => by
    unfold uptoR
    rw [List.map_cons, List.map_cons, bulk_cons, bulk_cons, bulk_tup, bulk_tup]
    have h1 := upto_bulk (i := i) (h l List.mem_cons_self)
    have h2 := uptoR_bulk (c := c) (i := i - c) fun l' hl' => h l' (List.mem_cons_of_mem _ hl')
    omega
/-- the thing with a number, told by row and column -/
theorem cell_at {c : Nat} : ∀ {rows : List (List PyData)} {i0 i : Nat} {s : Pth × PyData}, (∀ l ∈ rows, l.length = c) → (((rows.map PyData.tuple).mapIdx fun a l => (itemsT l).mapIdx fun b x => (([1, ((i0 + a : Nat) : Int), (b : Int)] : Pth), x)).flatten)[i]? = some s →
    ∃ (a b : Nat) (l : List PyData), s.1 = [1, ((i0 + a : Nat) : Int), (b : Int)] ∧ rows[a]? = some l ∧ l[b]? = some s.2 ∧ i = a * c + b ∧ b < c
  | [], i0, i, s, _, h => by simp at h
  | l :: ls, i0, i, s, hc, h => by
    have hl := hc l List.mem_cons_self
    rw [List.map_cons, List.mapIdx_cons, List.flatten_cons] at h
    have hlen : ((itemsT (PyData.tuple l)).mapIdx fun b x => (([1, ((i0 + 0 : Nat) : Int), (b : Int)] : Pth), x)).length = c := by
      rw [List.length_mapIdx]
      exact hl
    by_cases hi : i < c
    · rw [List.getElem?_append_left (by omega), List.getElem?_mapIdx] at h
      cases hx : (itemsT (PyData.tuple l))[i]? with
      | none => rw [hx] at h; cases h
      | some x =>
        rw [hx] at h
        have e := Option.some.inj h
        refine ⟨0, i, l, by rw [← e], rfl, by rw [← e]; exact hx, by omega, hi⟩
    · rw [List.getElem?_append_right (by omega), hlen] at h
      have e : (fun (a : Nat) (l : PyData) => (itemsT l).mapIdx fun b x => (([1, ((i0 + (a + 1) : Nat) : Int), (b : Int)] : Pth), x)) = fun a l => (itemsT l).mapIdx fun b x => (([1, ((i0 + 1 + a : Nat) : Int), (b : Int)] : Pth), x) := by
        funext a l
        rw [show i0 + (a + 1) = i0 + 1 + a by omega]
      rw [e] at h
      obtain ⟨a, b, l', e1, e2, e3, e4, e5⟩ := cell_at (rows := ls) (i0 := i0 + 1) (fun x hx => hc x (List.mem_cons_of_mem _ hx)) h
      refine ⟨a + 1, b, l', ?_, by simpa using e2, e3, ?_, e5⟩
      · rw [e1, show i0 + 1 + a = i0 + (a + 1) by omega]
      · rw [Nat.succ_mul]
        omega
theorem uptoR_at {f : PyData → PyData} {c : Nat} : ∀ {rows : List (List PyData)} {a b i : Nat} {l : List PyData} {x : PyData}, (∀ l ∈ rows, l.length = c) → rows[a]? = some l → l[b]? = some x → i = a * c + b → b < c →
    ∃ l2, (uptoR f c i rows)[a]? = some l2 ∧ l2[b]? = some x ∧ (uptoR f c i rows).set a (l2.set b (f x)) = uptoR f c (i + 1) rows
  | [], a, b, i, l, x, _, h, _, _, _ => by simp at h
  | l0 :: ls, 0, b, i, l, x, hc, h, hx, hi, hb => by
    have e : l0 = l := by simpa using h
    subst e
    have hi : i = b := by omega
    subst hi
    refine ⟨upto f i l0, rfl, upto_at hx, ?_⟩
    unfold uptoR
    rw [List.set_cons_zero, upto_set hx]
    congr 1
    rw [show i - c = 0 by omega, show i + 1 - c = 0 by omega]
  | l0 :: ls, a + 1, b, i, l, x, hc, h, hx, hi, hb => by
    have hl0 := hc l0 List.mem_cons_self
    rw [Nat.succ_mul] at hi
    obtain ⟨l2, e1, e2, e3⟩ := uptoR_at (f := f) (i := i - c) (fun z hz => hc z (List.mem_cons_of_mem _ hz)) (by simpa using h) hx (by omega) hb
    refine ⟨l2, by unfold uptoR; simpa using e1, e2, ?_⟩
    unfold uptoR
    rw [List.set_cons_succ, e3, show i - c + 1 = i + 1 - c by omega]
    congr 1
    unfold upto
    rw [List.take_of_length_le (by omega), List.drop_of_length_le (by omega), List.take_of_length_le (by omega), List.drop_of_length_le (by omega)]
end V1
set_option Elab.async false
set_option linter.all false
set_option maxRecDepth 100000
set_option maxHeartbeats 4000000
/-! k42: what the readings share. -/
namespace V1
open PySem PySem.Spec PyProof.Rows L2
theorem put_nil (y z : PyData) : putT y [] z = z := by cases y <;> rfl
theorem put_cons {ds : List PyData} {k : Nat} {e x : PyData} {q : Pth} (he : ds[k]? = some e) : putT (.tuple ds) ((k : Int) :: q) x = .tuple (ds.set k (putT e q x)) := by
  have hl := (List.getElem?_eq_some_iff.mp he).1
  show PyData.tuple (ds.take ((k : Int)).toNat ++ [putT (ds.getD ((k : Int)).toNat .none) q x] ++ ds.drop (((k : Int)).toNat + 1)) = _
  have hg : ds.getD k .none = e := by rw [List.getD_eq_getElem?_getD, he]; rfl
  rw [Int.toNat_natCast, hg, set_cut hl]
theorem at_cons {ds : List PyData} {k : Nat} {e : PyData} {q : Pth} (he : ds[k]? = some e) : atP (.tuple ds) ((k : Int) :: q) = atP e q := by
  show (atI ds ((k : Nat) : Int)).bind _ = _
  rw [atI_nat he rfl]
  rfl
theorem at_nil (y : PyData) : atP y [] = some y := by cases y <;> rfl
def isF (y : PyData) : Prop := ∃ (w : Str) (r : List PyData), y = .tuple (.str w :: r)
/-- a word ahead; a row holds no rows -/
def Hd (x : PyData) : Prop := isF x ∧ ((bodyT x).1 = "row" → 1 ≤ (bodyT x).2.length ∧ ∀ y ∈ (bodyT x).2, isF y ∧ (bodyT y).1 ≠ "row")
theorem hd_open {x : PyData} (h : Hd x) : 1 ≤ (openR x).length ∧ ∀ y ∈ openR x, isF y ∧ (bodyT y).1 ≠ "row" := by
  unfold openR
  by_cases hw : (bodyT x).1 = "row"
  · rw [if_pos hw]
    exact h.2 hw
  · rw [if_neg hw]
    refine ⟨Nat.le_refl _, fun y hy => ?_⟩
    rw [List.mem_singleton.mp hy]
    exact ⟨h.1, hw⟩
theorem flat_hd {l : List PyData} (h : ∀ x ∈ l, Hd x) (hl : 1 ≤ l.length) : 1 ≤ (l.flatMap openR).length ∧ ∀ y ∈ l.flatMap openR, isF y ∧ (bodyT y).1 ≠ "row" := by
  constructor
  · match l, hl with
    | x :: r, _ =>
      rw [List.flatMap_cons, List.length_append]
      have := (hd_open (h x List.mem_cons_self)).1
      omega
  · intro y hy
    obtain ⟨x, hx, hy⟩ := List.mem_flatMap.mp hy
    exact (hd_open (h x hx)).2 y hy
theorem pf_hd : ∀ {n : Nat} {d : PyData}, Gr n d → Hd (PF n d)
  | 0, _, h => h.elim
  | n + 1, d, h => by
    rcases h with ⟨w, r, h1, rfl, h3, h4, h5⟩ | ⟨rows, c, rfl, h2, h3, h4, h5, h6, h7⟩
    · by_cases hw : w = "row"
      · subst hw
        rw [low_row] at h5
        rw [pf_row]
        obtain ⟨f1, f2⟩ := flat_hd (l := r.map (PF n)) (fun y hy => by
          obtain ⟨x, hx, rfl⟩ := List.mem_map.mp hy
          exact pf_hd (h5 x hx)) (by rw [List.length_map]; exact h4 rfl)
        exact mkR_mem (Q := Hd) (fun _ y hy => ⟨(f2 y hy).1, fun z => absurd z (f2 y hy).2⟩) fun _ => ⟨⟨_, _, rfl⟩, fun _ => ⟨f1, f2⟩⟩
      · rw [pf_nt h1 hw]
        exact ⟨⟨_, _, rfl⟩, fun z => absurd z hw⟩
    · rw [pf_tb]
      exact ⟨⟨_, _, rfl⟩, fun z => absurd (show ("table" : Str) = "row" from z) (by decide +kernel)⟩
theorem cells_eq (rows : List (List PyData)) : subs "table" [.tuple (rows.map .tuple)] = ((rows.map PyData.tuple).mapIdx fun a l => (itemsT l).mapIdx fun b x => (([1, ((0 + a : Nat) : Int), (b : Int)] : Pth), x)).flatten := by
  unfold subs
  rw [if_pos rfl]
  show cellsOf (rows.map .tuple) = _
  unfold cellsOf
  simp only [Nat.zero_add]
/-- eqv to a text, to a tuple -/
theorem eqv_str {x : PyData} {s : Str} (h : PyData.eqv x (.str s) = true) : x = .str s := by
  cases x with
  | str y =>
    have e : y = s := by simpa [PyData.eqv] using h
    rw [e]
  | _ => simp [PyData.eqv] at h
theorem eqv_tup {x : PyData} {es : List PyData} (h : PyData.eqv x (.tuple es) = true) : ∃ ds, x = .tuple ds ∧ PyData.eqvAll ds es = true := by
  cases x with
  | tuple ds => exact ⟨ds, rfl, by simpa [PyData.eqv] using h⟩
  | _ => simp [PyData.eqv] at h
theorem eqvAll_cons {ds es : List PyData} {e : PyData} (h : PyData.eqvAll ds (e :: es) = true) : ∃ d r, ds = d :: r ∧ PyData.eqv d e = true ∧ PyData.eqvAll r es = true := by
  cases ds with
  | nil => simp [PyData.eqvAll] at h
  | cons d r =>
    rw [PyData.eqvAll, Bool.and_eq_true] at h
    exact ⟨d, r, rfl, h.1, h.2⟩
theorem eqvAll_nil {ds : List PyData} (h : PyData.eqvAll ds [] = true) : ds = [] := by
  cases ds with
  | nil => rfl
  | cons d r => simp [PyData.eqvAll] at h
theorem nest_eqv {d : PyData} (h : Pl 40 d) : (∀ x, PyData.eqv d (.tuple [.str "row", x]) = false) ∧ ∀ a r, PyData.eqv d (.tuple (.str "row" :: .tuple (.str "row" :: a) :: r)) = false := by
  obtain ⟨n1, n2⟩ := nest_ne h
  refine ⟨fun x => ?_, fun a r => ?_⟩
  · cases hq : PyData.eqv d (.tuple [.str "row", x]) with
    | false => rfl
    | true =>
      obtain ⟨ds, rfl, h1⟩ := eqv_tup hq
      obtain ⟨y, r, rfl, h2, h3⟩ := eqvAll_cons h1
      obtain ⟨z, r2, rfl, h4, h5⟩ := eqvAll_cons h3
      have e1 := eqv_str h2
      have e2 := eqvAll_nil h5
      subst e1 e2
      exact absurd rfl (n1 z)
  · cases hq : PyData.eqv d (.tuple (.str "row" :: .tuple (.str "row" :: a) :: r)) with
    | false => rfl
    | true =>
      obtain ⟨ds, rfl, h1⟩ := eqv_tup hq
      obtain ⟨y, r', rfl, h2, h3⟩ := eqvAll_cons h1
      obtain ⟨z, r2, rfl, h4, h5⟩ := eqvAll_cons h3
      obtain ⟨es, rfl, h6⟩ := eqv_tup h4
      obtain ⟨u, r3, rfl, h7, h8⟩ := eqvAll_cons h6
      have e1 := eqv_str h2
      have e2 := eqv_str h7
      subst e1 e2
      exact absurd rfl (n2 _ _)
end V1
set_option Elab.async false
set_option linter.all false
set_option maxRecDepth 100000
set_option maxHeartbeats 4000000
namespace V1
open PySem PySem.Spec PyProof.Rows L2
variable {P : Program} {w : World} {K : PySem.W.Frag} {mg : Str → Option Value} {base : Heap}

def sp_plain (K : PySem.W.Frag) (n : Nat) : Sp := spR K (fun d : PyData => [d]) (fun d => Gr n d ∧ d.hasDict = false ∧ d.bulk ≤ 16000) fun d => PF n d
theorem cells_len {c : Nat} : ∀ {rows : List (List PyData)}, (∀ l ∈ rows, l.length = c) → ∀ i0 : Nat, rows.length * c ≤ (((rows.map PyData.tuple).mapIdx fun a l => (itemsT l).mapIdx fun b x => (([1, ((i0 + a : Nat) : Int), (b : Int)] : Pth), x)).flatten).length
  | [], _, _ => by simp
  | l :: ls, h, i0 => by
    rw [List.map_cons, List.mapIdx_cons, List.flatten_cons, List.length_append, List.length_cons, Nat.succ_mul, List.length_mapIdx]
    have a1 : (itemsT (PyData.tuple l)).length = c := h l List.mem_cons_self
    have a2 := cells_len (fun x hx => h x (List.mem_cons_of_mem _ hx)) (i0 + 1)
    have e : (fun (a : Nat) (l : PyData) => (itemsT l).mapIdx fun b x => (([1, ((i0 + (a + 1) : Nat) : Int), (b : Int)] : Pth), x)) = fun a l => (itemsT l).mapIdx fun b x => (([1, ((i0 + 1 + a : Nat) : Int), (b : Int)] : Pth), x) := by
      funext a l
      rw [show i0 + (a + 1) = i0 + 1 + a by omega]
    rw [e]
    omega
theorem cut_one (x : PyData) (r : List PyData) : cutD (x :: r) (some ((1 : Nat) : Int)) none = r := by
  unfold cutD
  rw [HT.sIx_nat, HT.sIx_none, List.length_cons]
  rw [show min 1 (r.length + 1) = 1 by omega, List.drop_succ_cons, List.drop_zero, Nat.add_sub_cancel, List.take_length]

abbrev s_plain : Stmt := top 11
abbrev n_plain : List Str := ["formula", "way", "parts", "part", "own"]
theorem sc_plain : FnScope n_plain ["formula"] (defScope s_plain) := ⟨rfl, rfl, rfl, by decide +kernel, rfl, by decide +kernel, by decide +kernel⟩

theorem ok_plain {f : Addr} {fd : FuncData} (T : Bt K mg) (C : Cst K w mg) (D : Df K mg "plain" s_plain ["formula"] f fd)
    {n : Nat}
    {f_ways_down : Addr} {d_ways_down : FuncData} (h_ways_down : Cal P w K mg base "ways_down" s_ways_down ["formula"] 1 (sp_ways_down K) f_ways_down d_ways_down)
    {f_put_thing : Addr} {d_put_thing : FuncData} (h_put_thing : Cal P w K mg base "put_thing" s_put_thing ["value", "path", "thing"] (4) (sp_put_thing K 4) f_put_thing d_put_thing)
    {f_plain : Addr} {d_plain : FuncData} (h_plain : Cal P w K mg base "plain" s_plain ["formula"] ((5+n)) (sp_plain K n) f_plain d_plain)
    {f_thing_at : Addr} {d_thing_at : FuncData} (h_thing_at : Cal P w K mg base "thing_at" s_thing_at ["value", "path"] 1 (sp_thing_at K) f_thing_at d_thing_at) : Cal P w K mg base "plain" s_plain ["formula"] (5 + n + 1) (sp_plain K (n + 1)) f fd := by
  refine ok_R D sc_plain (fun _ => rfl) fun cdv A outer s H E hgd hr => ⟨_, (pss_cons (ps_if (pt_cmpR op_ne (pe_ix (ix_tupK (K := K) rfl) (pv 0) pe_int (fun _ _ => rfl)) pe_str (nomark _)) (pss_cons (ps_for PassesOwn.never rfl (pi_list (pe_fn (E := E0) h_ways_down.G hgd (hr.mono (by omega)) (by rfl) h_ways_down.gm h_ways_down.kp h_ways_down.b (pa_cons (pv 0) pa_nil))) (pg_name (i := 1) sc_plain.nd rfl (Or.inl rfl))
        (pss_one (ps_set (i := 0) sc_plain.nd rfl (Or.inl rfl) (pe_fn (E := E0) h_put_thing.G hgd (hr.mono (by omega)) (by rfl) h_put_thing.gm h_put_thing.kp h_put_thing.b (pa_cons (pv 0) (pa_cons (pv 1) (pa_cons (pe_fn (E := E0) h_plain.G hgd (hr.mono (by omega)) (by rfl) h_plain.gm h_plain.kp h_plain.b (pa_cons (pe_fn (E := E0) h_thing_at.G hgd (hr.mono (by omega)) (by rfl) h_thing_at.gm h_thing_at.kp h_thing_at.b (pa_cons (pv 0) (pa_cons (pv 1) pa_nil))) pa_nil)) pa_nil)))))))
        (pss_one (ps_ret (pv 0)))) pss_nil)
        (pss_cons (ps_set (i := 2) sc_plain.nd rfl (Or.inl rfl) (pe_lst pa_nil))
        (pss_cons (ps_for PassesOwn.never rfl (pi_list (pe_lc (own := [("own", 4)]) (g := gName 4) (tt := tYes) rfl sc_plain.nd (pi_tup (pe_slice sl_tupA (pv 0) (po_some pe_int) po_none)) (blkOk_by (own := [("own", 4)]) (N := n_plain) (sc := defScope s_plain) (by decide +kernel)) (fun _ _ _ _ _ => (pg_name (i := 4) sc_plain.nd rfl (Or.inl rfl))) (fun _ _ _ _ _ => pts_nil) (fun _ _ _ _ _ => (pe_fn (E := E0) h_plain.G hgd (hr.mono (by omega)) (by rfl) h_plain.gm h_plain.kp h_plain.b (pa_cons (pv 4) pa_nil))))) (pg_name (i := 3) sc_plain.nd rfl (Or.inl rfl))
        (pss_one (ps_expr (pe_bm PySem.F.plainAttrs_list PySem.F.slot_list_extend PySem.F.type_list_extend mt_extendA (pv 2) (pa_cons (pe_ifExp (pt_cmpR op_eq (pe_ix (ix_tupK (K := K) rfl) (pv 3) pe_int (fun _ _ => rfl)) pe_str (nomark _)) (pe_slice sl_tupA (pv 3) (po_some pe_int) po_none) (pe_lst (pa_cons (pv 3) pa_nil))) pa_nil)))))
        (pss_one (ps_ret (pe_ifExp (pt_cmpR op_gt (pe_callB call_len_seq (by rfl) T.len PySem.boot_len (pa_cons (pv 2) pa_nil)) pe_int (nomark _)) (pe_op op_catA (pe_tup (pa_cons pe_str pa_nil)) (pe_callTy call_tuple_of (by rfl) T.tuple (by decide +kernel) (pa_cons (pv 2) pa_nil))) (pe_ix (ix_listK (K := K) rfl) (pv 2) pe_int (fun _ _ => rfl)))))))), ?_⟩
  rintro d ⟨hG, hnd, hbk⟩
  have hbk : d.bulk ≤ 16000 := hbk
  rcases (show Gr (n + 1) d from hG) with ⟨w, r, h1, rfl, hS, h4, h5⟩ | ⟨rows, c, rfl, h2, h3, h4, h5, h6, h7⟩
  · have word : ∀ {Γ : List (Option PyData)}, Γ[0]? = some (some (.tuple (.str w :: r))) → EvD (pureL K) (tOp (rIxT K) (tVar 0) (tC (.int 0))) Γ (.str w) := fun e => eg_ixT (L := pureL K) (eg_var e) eg_int (atI_zero _ _)
    have hr : ∀ x ∈ r, x.hasDict = false := fun x hx => hd_tup hnd x (List.mem_cons_of_mem _ hx)
    have hb2 : PyData.bulkAll r ≤ 16000 := by
      rw [bulk_tup, bulk_cons] at hbk
      omega
    have hrl := len_bulk r
    have hpart : ∀ x ∈ r.drop (low w - 1), x.hasDict = false ∧ x.bulk ≤ 16000 := fun x hx => ⟨hr x (List.mem_of_mem_drop hx), by have := bulk_mem (List.mem_of_mem_drop hx); omega⟩
    show SG (pureL K) 0 _ [some (.tuple (.str w :: r)), none, none, none, none] _ (fun x => x = PF (n + 1) (.tuple (.str w :: r)))
    refine sq_if (et_test (eg_neS (word rfl) eg_str)) (fun hk => ?_) fun hk => ?_
    · have hw : w ≠ "row" := of_decide_eq_false (not_t hk)
      have lw : 1 ≤ low w ∧ low w ≤ 2 := low_pos w
      rw [pf_nt h1 hw]
      generalize hps : r.drop (low w - 1) = ps at h5 hpart
      generalize hta : r.take (low w - 1) = ta
      have hlt : ta.length = low w - 1 := by
        rw [← hta, List.length_take]
        unfold low
        by_cases z : w ∈ sgn4
        · rw [if_pos z]
          have := hS.sg z
          omega
        · rw [if_neg z]
          omega
      have hrr : r = ta ++ ps := by rw [← hta, ← hps, List.take_append_drop]
      let st : Nat → PyData := fun i => .tuple (.str w :: (ta ++ upto (PF n) i ps))
      have hfb : ∀ x ∈ ps, (PF n x).bulk ≤ x.bulk := fun x hx => pf_bulk (h5 x hx)
      have st_nd : ∀ i, (st i).hasDict = false := fun i => nd_tup (nd_cons (nd_str _) fun x hx => by
        rcases List.mem_append.mp hx with hx | hx
        · exact hr x (by rw [hrr]; exact List.mem_append_left _ hx)
        · exact upto_mem (Q := fun x => x.hasDict = false) (fun x hx => (hpart x hx).1) (fun x hx => pf_nd (h5 x hx) (hpart x hx).1) x hx)
      have st_bk : ∀ i, (st i).bulk ≤ 90000 := fun i => by
        show (PyData.tuple (.str w :: (ta ++ upto (PF n) i ps))).bulk ≤ _
        rw [bulk_tup, bulk_cons, bulk_app]
        have a1 := upto_bulk (i := i) hfb
        have a2 : PyData.bulkAll r = PyData.bulkAll ta + PyData.bulkAll ps := by rw [hrr, bulk_app]
        rw [bulk_tup, bulk_cons] at hbk
        omega
      have st0 : (.tuple (.str w :: r) : PyData) = st 0 := by
        show _ = PyData.tuple (.str w :: (ta ++ upto (PF n) 0 ps))
        rw [upto_zero, ← hrr]
      have hways : (.list (waysD w r) : PyData) = .list (((ps.mapIdx fun i x => (([((low w + i : Nat) : Int)] : Pth), x)) : List (Pth × PyData)).map fun s => tI s.1) := by
        rw [ways_subs hS]
        unfold subs
        rw [if_neg h1, hps]
      refine sq_as (sg_seq (N1 := fun G => ∃ x, G = [some (st ps.length), x, none, none, none]) (sg_for (js := [1]) (items := ((ps.mapIdx fun i x => (([((low w + i : Nat) : Int)] : Pth), x)) : List (Pth × PyData)).map fun s => tI s.1) (fun i G => ∃ x, G = [some (st i), x, none, none, none]) (wk_list ((eg_callR (L := pureL K) (⟨w, r⟩ : WY) (ea_cons (eg_var rfl) ea_nil) (ways_ok hS)).to hways)) ⟨none, by rw [st0]⟩ ?_ ?_) ?_)
      · rintro i e G he ⟨x0, rfl⟩
        obtain ⟨s, hs, hsm, rfl⟩ := map_at (enc := fun s : Pth × PyData => tI s.1) he
        rw [List.getElem?_mapIdx] at hs
        cases hx : ps[i]? with
        | none => rw [hx] at hs; cases hs
        | some x =>
          rw [hx] at hs
          have es := (Option.some.inj hs).symm
          subst es
          have hxm := List.mem_of_getElem? hx
          obtain ⟨p1, p2⟩ := hpart x hxm
          have hil := (List.getElem?_eq_some_iff.mp hx).1
          have hat : (PyData.str w :: (ta ++ upto (PF n) i ps))[low w + i]? = some x := by
            rw [show low w + i = (low w - 1 + i) + 1 by omega, List.getElem?_cons_succ, List.getElem?_append_right (by omega), hlt, show low w - 1 + i - (low w - 1) = i by omega]
            exact upto_at hx
          have hlen := (List.getElem?_eq_some_iff.mp hat).1
          have e2 : atP (st i) [((low w + i : Nat) : Int)] = some x := by
            show (atI (PyData.str w :: (ta ++ upto (PF n) i ps)) ((low w + i : Nat) : Int)).bind _ = _
            rw [atI_nat hat rfl]
            cases x <;> rfl
          refine ⟨_, tg_name, sg_asg (i := 0) (d := st (i + 1)) ?_ ⟨_, rfl⟩⟩
          have c1 := eg_callR (L := pureL K) (Γ := [some (st i), some (tI [((low w + i : Nat) : Int)]), none, none, none]) (E := E0) (args := fun d : PyData => [d]) (ok := fun d => Gr n d ∧ d.hasDict = false ∧ d.bulk ≤ 16000) (val := fun d => PF n d) x (ea_cons (eg_callR (L := pureL K) (E := E0) (args := fun a : AP => [a.d, tI a.p]) (ok := fun a => a.d.hasDict = false ∧ atP a.d a.p = some a.x) (val := fun a => a.x) (⟨st i, [((low w + i : Nat) : Int)], x⟩ : AP) (ea_cons (eg_var (i := 0) rfl) (ea_cons (eg_var (i := 1) rfl) ea_nil)) ⟨st_nd i, e2⟩ rfl) ea_nil) ⟨h5 x hxm, p1, p2⟩ (hd_nomk p1)
          have hok : PT.ok 4 ⟨st i, [((low w + i : Nat) : Int)], PF n x⟩ := ⟨⟨st_nd i, st_bk i⟩, ⟨low w + i, rfl, x, hat, trivial⟩, (show 1 < 4 by decide), (show 1 ≤ 900 by decide), pf_nd (h5 x hxm) p1⟩
          refine (eg_callR (L := pureL K) (⟨st i, [((low w + i : Nat) : Int)], PF n x⟩ : PT) (ea_cons (eg_var (i := 0) rfl) (ea_cons (eg_var (i := 1) rfl) (ea_cons c1 ea_nil))) hok (PT.nd hok)).to ?_
          show putT (.tuple (.str w :: (ta ++ upto (PF n) i ps))) [((low w + i : Nat) : Int)] (PF n x) = .tuple (.str w :: (ta ++ upto (PF n) (i + 1) ps))
          show PyData.tuple (_ ++ [putT _ [] (PF n x)] ++ _) = _
          have hp0 : ∀ y z : PyData, putT y [] z = z := fun y z => by cases y <;> rfl
          rw [hp0]
          have hn : (((low w + i : Nat) : Int)).toNat = low w + i := Int.toNat_natCast _
          rw [hn, set_cut hlen, show low w + i = (low w - 1 + i) + 1 by omega, List.set_cons_succ, List.set_append_right _ _ (by omega), hlt, show low w - 1 + i - (low w - 1) = i by omega, upto_set hx]
      · rintro G ⟨x0, rfl⟩
        exact ⟨x0, by rw [List.length_map, List.length_mapIdx]⟩
      · rintro G ⟨x0, rfl⟩
        refine sg_retq (eg_var (i := 0) rfl) ?_
        show PyData.tuple (.str w :: (ta ++ upto (PF n) ps.length ps)) = _
        rw [upto_all]
    · have hw : w = "row" := of_decide_eq_true (not_f hk)
      subst hw
      rw [low_row] at h5 hpart
      have h5 : ∀ x ∈ r, Gr n x := h5
      have hpart : ∀ x ∈ r, x.hasDict = false ∧ x.bulk ≤ 16000 := hpart
      have hr1 : 1 ≤ r.length := h4 rfl
      refine sq_next ?_
      rw [pf_row]
      have hcut : cutD (PyData.str "row" :: r) (some ((1 : Nat) : Int)) none = r := cut_one _ _
      let acc : Nat → List PyData := fun i => ((r.take i).map (PF n)).flatMap openR
      have fb : PyData.bulkAll ((r.map (PF n)).flatMap openR) ≤ 16000 := Nat.le_trans (flat_bulk _) (Nat.le_trans (bulk_map (f := PF n) fun x hx => pf_bulk (h5 x hx)) hb2)
      have alen : ∀ i, (acc i).length ≤ 100000 := fun i => by
        have a1 := len_bulk (acc i)
        have a2 : PyData.bulkAll (acc i) ≤ PyData.bulkAll (r.take i) := Nat.le_trans (flat_bulk _) (bulk_map (f := PF n) fun x hx => pf_bulk (h5 x (List.mem_of_mem_take hx)))
        have a3 : PyData.bulkAll r = PyData.bulkAll (r.take i) + PyData.bulkAll (r.drop i) := by rw [← bulk_app, List.take_append_drop]
        omega
      have xnd : ∀ x ∈ r, (PF n x).hasDict = false := fun x hx => pf_nd (h5 x hx) (hpart x hx).1
      show SG (pureL K) 0 _ [some (.tuple (.str "row" :: r)), none, none, none, none] _ _
      refine sg_growA (B := tNext) (Γ := [some (.tuple (.str "row" :: r)), none, none, none, none]) (j := 2) (js := [3]) (items := r.map (PF n)) (ds0 := []) (acc := acc) (fun i G => ∃ a b, G = [some (.tuple (.str "row" :: r)), none, none, a, b]) (show 2 < 5 by decide) (by decide) (evl_lst ea_nil) (by simp [acc]) alen ?_ ⟨none, none, rfl⟩ ?_ ?_
      · refine wk_list (eg_lcW (js := [4]) (items := r) (wk_tup ((eg_slA (L := pureL K) (eg_var (i := 0) rfl) (eo_some (eg_int (i := ((1 : Nat) : Int)))) eo_none).to (by rw [hcut]))) (by simp) (by omega) (by rw [List.length_map]) ?_)
        intro i d x hd hx
        rw [List.getElem?_map, hd] at hx
        have ex := (Option.some.inj hx).symm
        subst ex
        have hm := List.mem_of_getElem? hd
        exact ⟨hd_ne (xnd d hm), _, tg_name, eg_callR (L := pureL K) d (ea_cons (eg_var (i := 4) rfl) ea_nil) ⟨h5 d hm, (hpart d hm).1, (hpart d hm).2⟩ (hd_nomk (hpart d hm).1)⟩
      · rintro i e G he ⟨a, b, rfl⟩
        obtain ⟨x, hx, hxm, rfl⟩ := map_at (enc := PF n) he
        refine ⟨_, fun G => ∃ b, G = [some (.tuple (.str "row" :: r)), none, none, some (PF n x), b], tg_name, fun v0 => ?_, ?_⟩
        · exact fun A σ H hi he2 hg hsj D q => q σ H _ (Rl.refl hg) he2 hsj ⟨_, rfl⟩
        · rintro G ⟨b, rfl⟩
          refine ⟨openR (PF n x), ?_, ?_, ?_, ⟨_, _, rfl⟩⟩
          · obtain ⟨w', r', ew⟩ := (pf_hd (h5 x hxm)).1
            rw [ew]
            have hix : EvD (pureL K) (tOp (rIxT K) (tVar 3) (tC (.int 0))) [some (.tuple (.str "row" :: r)), none, none, some (.tuple (.str w' :: r')), b] (.str w') := eg_ixT (L := pureL K) (eg_var rfl) eg_int (atI_zero _ _)
            by_cases hw' : w' = "row"
            · subst hw'
              rw [open_row]
              exact .inr (eg_if (et_test (eg_eqS hix eg_str)) (fun _ => (eg_slA (L := pureL K) (eg_var (i := 3) rfl) (eo_some (eg_int (i := ((1 : Nat) : Int)))) eo_none).to (by rw [cut_one])) fun z => absurd rfl (of_decide_eq_false z))
            · rw [open_not (x := .tuple (.str w' :: r')) hw']
              exact .inl (eg_if (et_test (eg_eqS hix eg_str)) (fun z => absurd (of_decide_eq_true z) hw') fun _ => eg_lst (ea_cons (eg_var (i := 3) rfl) ea_nil))
          · have a1 := len_bulk (openR (PF n x))
            have a2 := open_bulk (PF n x)
            have a3 := pf_bulk (h5 x hxm)
            have a4 := (hpart x hxm).2
            omega
          · show ((r.take (i + 1)).map (PF n)).flatMap openR = ((r.take i).map (PF n)).flatMap openR ++ openR (PF n x)
            rw [take_next hx, List.map_append, List.flatMap_append]
            simp
      · rintro G ⟨a, b, rfl⟩
        rw [List.length_map]
        have hacc : acc r.length = (r.map (PF n)).flatMap openR := by
          show ((r.take r.length).map (PF n)).flatMap openR = _
          rw [List.take_length]
        show SG (pureL K) 0 _ [some (.tuple (.str "row" :: r)), none, some (.list (acc r.length)), a, b] _ _
        rw [hacc]
        obtain ⟨f1, _⟩ := flat_hd (l := r.map (PF n)) (fun y hy => by
          obtain ⟨x, hx, rfl⟩ := List.mem_map.mp hy
          exact pf_hd (h5 x hx)) (by rw [List.length_map]; exact hr1)
        have hal2 : ((r.map (PF n)).flatMap openR).length ≤ 16000 := Nat.le_trans (len_bulk _) fb
        generalize (r.map (PF n)).flatMap openR = l at f1 hal2
        refine sg_ret (d := mkR l) (eg_if (et_test (eg_gt (eg_cb (ea_cons (eg_var (i := 2) rfl) ea_nil) cs_lenL) eg_int)) (fun h => ?_) fun h => ?_) rfl
        · have h2 : (1 : Int) < (l.length : Int) := of_decide_eq_true h
          unfold mkR
          rw [if_neg (by omega)]
          exact eg_catA (L := pureL K) (eg_tup (ea_cons eg_str ea_nil)) (eg_cb (ea_cons (eg_var (i := 2) rfl) ea_nil) cs_tuple) (by show 1 + l.length ≤ 100000; have := hal2; omega)
        · have h2 : ¬ (1 : Int) < (l.length : Int) := of_decide_eq_false h
          unfold mkR
          rw [if_pos (by omega)]
          match l, f1 with
          | y :: l', _ => exact eg_ixL (L := pureL K) (eg_var (i := 2) rfl) eg_int (atI_zero _ _)
  · have word : ∀ {Γ : List (Option PyData)} {y : PyData}, Γ[0]? = some (some (.tuple [.str "table", y])) → EvD (pureL K) (tOp (rIxT K) (tVar 0) (tC (.int 0))) Γ (.str "table") := fun e => eg_ixT (L := pureL K) (eg_var e) eg_int (atI_zero _ _)
    have hT := hd_tup hnd (.tuple (rows.map .tuple)) (List.mem_cons_of_mem _ List.mem_cons_self)
    have hnd2 : ∀ l ∈ rows, ∀ x ∈ l, x.hasDict = false := fun l hl x hx => hd_tup (hd_tup hT (.tuple l) (List.mem_map.mpr ⟨l, hl, rfl⟩)) x hx
    have hbk0 := hbk
    rw [bulk_tup, bulk_cons, bulk_cons, bulk_tup] at hbk
    have hbk2 : ∀ l ∈ rows, ∀ x ∈ l, x.bulk ≤ 16000 := fun l hl x hx => by
      have a1 := bulk_mem (List.mem_map.mpr ⟨l, hl, rfl⟩ : PyData.tuple l ∈ rows.map .tuple)
      have a2 := bulk_mem hx
      rw [bulk_tup] at a1
      omega
    have hS : Shp "table" [.tuple (rows.map .tuple)] := ⟨(by simp), fun z => absurd z (by decide +kernel), fun z => absurd z (by decide +kernel), fun _ => ⟨rows, c, rfl, h2, h3, h4, h5, h6⟩⟩
    have hsl := subs_len hS
    show SG (pureL K) 0 _ [some (.tuple [.str "table", .tuple (rows.map .tuple)]), none, none, none, none] _ (fun x => x = PF (n + 1) (.tuple [.str "table", .tuple (rows.map .tuple)]))
    refine sq_if (k := true) (et_is (et_test (eg_neS (word (y := .tuple (rows.map .tuple)) rfl) eg_str)) (by decide +kernel)) (fun _ => ?_) fun z => by cases z
    rw [pf_tb]
    let st : Nat → PyData := fun i => .tuple [.str "table", .tuple ((uptoR (PF n) c i rows).map .tuple)]
    have st_nd : ∀ i, (st i).hasDict = false := fun i => nd_tup (nd_cons (nd_str _) fun x hx => by
      rw [List.mem_singleton.mp hx]
      refine nd_tup fun y hy => ?_
      obtain ⟨l, hl, rfl⟩ := List.mem_map.mp hy
      exact nd_tup fun z hz => uptoR_mem (Q := fun z => z.hasDict = false) (fun l hl x hx => ⟨hnd2 l hl x hx, pf_nd (h7 l hl x hx) (hnd2 l hl x hx)⟩) l hl z hz)
    have st_bk : ∀ i, (st i).bulk ≤ 90000 := fun i => by
      show (PyData.tuple [.str "table", .tuple ((uptoR (PF n) c i rows).map .tuple)]).bulk ≤ _
      rw [bulk_tup, bulk_cons, bulk_cons, bulk_tup]
      have a1 := uptoR_bulk (f := PF n) (c := c) (i := i) fun l hl x hx => pf_bulk (h7 l hl x hx)
      omega
    have st0 : (.tuple [.str "table", .tuple (rows.map .tuple)] : PyData) = st 0 := by
      show _ = PyData.tuple [.str "table", .tuple ((uptoR (PF n) c 0 rows).map .tuple)]
      rw [uptoR_zero]
    generalize hss : subs "table" [.tuple (rows.map .tuple)] = ss at hsl
    have hways : (.list (waysD "table" [.tuple (rows.map .tuple)]) : PyData) = .list (ss.map fun s => tI s.1) := by rw [ways_subs hS, hss]
    have hssl : rows.length * c ≤ ss.length := by
      rw [← hss, cells_eq]
      exact cells_len h6 0
    refine sq_as (sg_seq (N1 := fun G => ∃ x, G = [some (st ss.length), x, none, none, none]) (sg_for (js := [1]) (items := ss.map fun s => tI s.1) (fun i G => ∃ x, G = [some (st i), x, none, none, none]) (wk_list ((eg_callR (L := pureL K) (⟨"table", [.tuple (rows.map .tuple)]⟩ : WY) (ea_cons (eg_var rfl) ea_nil) (ways_ok hS)).to hways)) ⟨none, by rw [st0]⟩ ?_ ?_) ?_)
    · rintro i e G he ⟨x0, rfl⟩
      obtain ⟨s, hs, hsm, rfl⟩ := map_at (enc := fun s : Pth × PyData => tI s.1) he
      rw [← hss, cells_eq] at hs
      obtain ⟨a, b, l, es, ha, hb, hi, hbc⟩ := cell_at h6 hs
      rw [Nat.zero_add] at es
      obtain ⟨l2, u1, u2, u3⟩ := uptoR_at (f := PF n) h6 ha hb hi hbc
      have hlm := List.mem_of_getElem? ha
      have hxm := List.mem_of_getElem? hb
      obtain ⟨p, x⟩ := s
      have es : p = [1, (a : Int), (b : Int)] := es
      subst es
      have q1 : ([PyData.str "table", .tuple ((uptoR (PF n) c i rows).map .tuple)] : List PyData)[1]? = some (.tuple ((uptoR (PF n) c i rows).map .tuple)) := rfl
      have q2 : ((uptoR (PF n) c i rows).map PyData.tuple)[a]? = some (.tuple l2) := by rw [List.getElem?_map, u1]; rfl
      have u2 : l2[b]? = some x := u2
      have e2 : atP (st i) [1, (a : Int), (b : Int)] = some x := by
        show atP (.tuple [.str "table", .tuple ((uptoR (PF n) c i rows).map .tuple)]) (((1 : Nat) : Int) :: _) = _
        rw [at_cons q1, at_cons q2, at_cons u2, at_nil]
      have p1 := hnd2 l hlm x hxm
      have p2 := hbk2 l hlm x hxm
      have p3 := h7 l hlm x hxm
      refine ⟨_, tg_name, sg_asg (i := 0) (d := st (i + 1)) ?_ ⟨_, rfl⟩⟩
      have c1 := eg_callR (L := pureL K) (Γ := [some (st i), some (tI [1, (a : Int), (b : Int)]), none, none, none]) (E := E0) (args := fun d : PyData => [d]) (ok := fun d => Gr n d ∧ d.hasDict = false ∧ d.bulk ≤ 16000) (val := fun d => PF n d) x (ea_cons (eg_callR (L := pureL K) (E := E0) (args := fun a : AP => [a.d, tI a.p]) (ok := fun a => a.d.hasDict = false ∧ atP a.d a.p = some a.x) (val := fun a => a.x) (⟨st i, [1, (a : Int), (b : Int)], x⟩ : AP) (ea_cons (eg_var (i := 0) rfl) (ea_cons (eg_var (i := 1) rfl) ea_nil)) ⟨st_nd i, e2⟩ rfl) ea_nil) ⟨p3, p1, p2⟩ (hd_nomk p1)
      have hok : PT.ok 4 ⟨st i, [1, (a : Int), (b : Int)], PF n x⟩ := ⟨⟨st_nd i, st_bk i⟩, ⟨1, rfl, _, q1, a, rfl, _, q2, b, rfl, x, u2, trivial⟩, (show 3 < 4 by decide), (show 3 ≤ 900 by decide), pf_nd p3 p1⟩
      refine (eg_callR (L := pureL K) (⟨st i, [1, (a : Int), (b : Int)], PF n x⟩ : PT) (ea_cons (eg_var (i := 0) rfl) (ea_cons (eg_var (i := 1) rfl) (ea_cons c1 ea_nil))) hok (PT.nd hok)).to ?_
      show putT (.tuple [.str "table", .tuple ((uptoR (PF n) c i rows).map .tuple)]) (((1 : Nat) : Int) :: _) (PF n x) = .tuple [.str "table", .tuple ((uptoR (PF n) c (i + 1) rows).map .tuple)]
      rw [put_cons q1, put_cons q2, put_cons u2, put_nil, ← List.map_set, u3]
      rfl
    · rintro G ⟨x0, rfl⟩
      exact ⟨x0, by rw [List.length_map]⟩
    · rintro G ⟨x0, rfl⟩
      refine sg_retq (eg_var (i := 0) rfl) ?_
      show PyData.tuple [.str "table", .tuple ((uptoR (PF n) c ss.length rows).map .tuple)] = _
      rw [uptoR_all (PF n) c rows ss.length h6 hssl]

end V1
set_option Elab.async false
set_option linter.all false
set_option maxRecDepth 100000
set_option maxHeartbeats 4000000
/-! Calls by keywords alone. -/
namespace V1
open PySem PySem.Spec PyProof.Rows L2
def g2 {α : Type} : List α → List α → List α
  | [], [a, b] => [a, b]
  | _, _ => []
def g2r {α : Type} : List α → List α → List α
  | [], [a, b] => [b, a]
  | _, _ => []
def g1 {α : Type} : List α → List α → List α
  | [], [a] => [a]
  | _, _ => []
theorem vals_nil {us : List Value} (h : Vals [] us) : us = [] := by cases h; rfl
theorem rel_g2 {vs : List V} {us : List Value} {zs : List V} {ws : List Value} (h1 : Vals vs us) (h2 : Vals zs ws) : Vals (g2 vs zs) (g2 us ws) := by
  cases h1 with
  | nil =>
    cases h2 with
    | nil => exact .nil
    | cons a h2 =>
      cases h2 with
      | nil => exact .nil
      | cons b h2 =>
        cases h2 with
        | nil => exact .cons a (.cons b .nil)
        | cons c h2 => exact .nil
  | cons a h1 => exact .nil
theorem rel_g2r {vs : List V} {us : List Value} {zs : List V} {ws : List Value} (h1 : Vals vs us) (h2 : Vals zs ws) : Vals (g2r vs zs) (g2r us ws) := by
  cases h1 with
  | nil =>
    cases h2 with
    | nil => exact .nil
    | cons a h2 =>
      cases h2 with
      | nil => exact .nil
      | cons b h2 =>
        cases h2 with
        | nil => exact .cons b (.cons a .nil)
        | cons c h2 => exact .nil
  | cons a h1 => exact .nil
theorem rel_g1 {vs : List V} {us : List Value} {zs : List V} {ws : List Value} (h1 : Vals vs us) (h2 : Vals zs ws) : Vals (g1 vs zs) (g1 us ws) := by
  cases h1 with
  | nil =>
    cases h2 with
    | nil => exact .nil
    | cons a h2 =>
      cases h2 with
      | nil => exact .cons a .nil
      | cons b h2 => exact .nil
  | cons a h1 => exact .nil
theorem g2_some {α : Type} : ∀ {us ws : List α}, (g2 us ws).length = 2 → us = [] ∧ ∃ a b, ws = [a, b]
  | [], [], h => by cases h
  | [], [_], h => by cases h
  | [], [a, b], _ => ⟨rfl, a, b, rfl⟩
  | [], _ :: _ :: _ :: _, h => by cases h
  | _ :: _, _, h => by cases h
theorem g2r_some {α : Type} : ∀ {us ws : List α}, (g2r us ws).length = 2 → us = [] ∧ ∃ a b, ws = [a, b]
  | [], [], h => by cases h
  | [], [_], h => by cases h
  | [], [a, b], _ => ⟨rfl, a, b, rfl⟩
  | [], _ :: _ :: _ :: _, h => by cases h
  | _ :: _, _, h => by cases h
theorem g1_some {α : Type} : ∀ {us ws : List α}, (g1 us ws).length = 1 → us = [] ∧ ∃ a, ws = [a]
  | [], [], h => by cases h
  | [], [a], _ => ⟨rfl, a, rfl⟩
  | [], _ :: _ :: _, h => by cases h
  | _ :: _, _, h => by cases h
theorem kbin2 {K : PySem.W.Frag} {fd : FuncData} {ps ks : List Str} (hp : ps.length = 2) (h : ∀ u v : Value, bindArgs fd ⟨[], ks.zip [u, v]⟩ = pure (ps.zip [u, v])) : KBinds K fd ps ks g2 g2 := ⟨fun s us ws _ hl => by
  obtain ⟨rfl, u, v, rfl⟩ := g2_some (hl.trans hp)
  exact .of_eq (h u v), rel_g2⟩
theorem kbin2r {K : PySem.W.Frag} {fd : FuncData} {ps ks : List Str} (hp : ps.length = 2) (h : ∀ u v : Value, bindArgs fd ⟨[], ks.zip [u, v]⟩ = pure (ps.zip [v, u])) : KBinds K fd ps ks g2r g2r := ⟨fun s us ws _ hl => by
  obtain ⟨rfl, u, v, rfl⟩ := g2r_some (hl.trans hp)
  exact .of_eq (h u v), rel_g2r⟩
theorem kbin1 {K : PySem.W.Frag} {fd : FuncData} {ps ks : List Str} (hp : ps.length = 1) (h : ∀ u : Value, bindArgs fd ⟨[], ks.zip [u]⟩ = pure (ps.zip [u])) : KBinds K fd ps ks g1 g1 := ⟨fun s us ws _ hl => by
  obtain ⟨rfl, u, rfl⟩ := g1_some (hl.trans hp)
  exact .of_eq (h u), rel_g1⟩
theorem gk2 {d1 d2 : PyData} (zs : List V) (h : zs.length = [d1, d2].length) : (g2 [] zs).length = [d1, d2].length ∧ ∀ (i : Nat) d, [d1, d2][i]? = some d → ∃ j : Nat, [d1, d2][j]? = some d ∧ (g2 [] zs)[i]? = zs[j]? := by
  match zs, h with
  | [a, b], _ => exact ⟨rfl, fun i d e => ⟨i, e, rfl⟩⟩
theorem gk2r {d1 d2 : PyData} (zs : List V) (h : zs.length = [d2, d1].length) : (g2r [] zs).length = [d1, d2].length ∧ ∀ (i : Nat) d, [d1, d2][i]? = some d → ∃ j : Nat, [d2, d1][j]? = some d ∧ (g2r [] zs)[i]? = zs[j]? := by
  match zs, h with
  | [a, b], _ =>
    refine ⟨rfl, fun i d e => ?_⟩
    match i, e with
    | 0, e => exact ⟨1, e, rfl⟩
    | 1, e => exact ⟨0, e, rfl⟩
    | i + 2, e => cases e
theorem gk1 {d1 : PyData} (zs : List V) (h : zs.length = [d1].length) : (g1 [] zs).length = [d1].length ∧ ∀ (i : Nat) d, [d1][i]? = some d → ∃ j : Nat, [d1][j]? = some d ∧ (g1 [] zs)[i]? = zs[j]? := by
  match zs, h with
  | [a], _ => exact ⟨rfl, fun i d e => ⟨i, e, rfl⟩⟩

/-! a row at rows: its numbers by steps, its value -/
end V1
set_option Elab.async false
set_option linter.all false
set_option maxRecDepth 100000
set_option maxHeartbeats 4000000
namespace V1
open PySem PySem.Spec PyProof.Rows L2
variable {P : Program} {w : World} {K : PySem.W.Frag} {mg : Str → Option Value} {base : Heap}

abbrev s_is_plain : Stmt := top 12
abbrev n_is_plain : List Str := ["formula"]
theorem sc_is_plain : FnScope n_is_plain ["formula"] (defScope s_is_plain) := ⟨rfl, rfl, rfl, by decide +kernel, rfl, by decide +kernel, by decide +kernel⟩
def sp_is_plain (K : PySem.W.Frag) : Sp := spR K (fun d : PyData => [d]) (fun d => Gr 40 d ∧ d.hasDict = false ∧ d.bulk ≤ 16000 ∧ SeqAt.shaped d = true ∧ SeqAt.shaped (PF 40 d) = true) fun d => .bool (PyData.eqv (PF 40 d) d)
theorem ok_is_plain {f : Addr} {fd : FuncData} (T : Bt K mg) (C : Cst K w mg) (D : Df K mg "is_plain" s_is_plain ["formula"] f fd)
    {f_plain : Addr} {d_plain : FuncData} (h_plain : Cal P w K mg base "plain" s_plain ["formula"] (45) (sp_plain K 40) f_plain d_plain) : Cal P w K mg base "is_plain" s_is_plain ["formula"] 46 (sp_is_plain K) f fd := by
  refine ok_R D sc_is_plain (fun _ => rfl) fun cdv A outer s H E hgd hr => ⟨_, (pss_one (ps_ret (pe_cmpR (op_eqD hr.units) (pe_fn (E := E0) h_plain.G hgd (hr.mono (by decide)) (by rfl) h_plain.gm h_plain.kp h_plain.b (pa_cons (pv 0) pa_nil)) (pv 0) (nomark _)))), ?_⟩
  rintro d ⟨h1, h2, h3, h4, h5⟩
  show SG (pureL K) 0 _ [some d] _ _
  exact sg_ret (eg_eqD (L := pureL K) (eg_callR (L := pureL K) d (ea_cons (eg_var (i := 0) rfl) ea_nil) ⟨h1, h2, h3⟩ (hd_nomk h2)) (eg_var (i := 0) rfl) (hd_ne (pf_nd h1 h2)) (hd_ne h2) h5 h4) rfl

theorem fs_hit {xs : List Rw} {i : Nat} {x : Rw} {p : Pth} (h : xs[i]? = some x) (h0 : (xs.take i).findSome? tabRow = none) (hx : tabRow x = some p) : xs.findSome? tabRow = some p := by
  have hl := (List.getElem?_eq_some_iff.mp h).1
  have e : xs = xs.take i ++ (x :: xs.drop (i + 1)) := by
    have e1 : xs[i] = x := (List.getElem?_eq_some_iff.mp h).2
    rw [← e1, ← List.drop_eq_getElem_cons hl, List.take_append_drop]
  rw [e, List.findSome?_append, h0, List.findSome?_cons, hx]
  rfl
theorem fs_miss {xs : List Rw} {i : Nat} {x : Rw} (h : xs[i]? = some x) (h0 : (xs.take i).findSome? tabRow = none) (hx : tabRow x = none) : (xs.take (i + 1)).findSome? tabRow = none := by
  rw [take_next h, List.findSome?_append, h0, List.findSome?_cons, hx]
  rfl
theorem row_form {d : PyData} (h1 : Gd 40 d) (h2 : bd 40 d = true) {x : Rw} (hx : x ∈ walkR 40 [] d 0) : ∃ (w : Str) (r : List PyData), x.d = .tuple (.str w :: r) ∧ tabRow x = if w = "table" then some x.p else none := by
  obtain ⟨m, _, hm, _⟩ := walkR_row 40 [] d 0 h1 h2 x hx
  cases m with
  | zero => exact hm.elim
  | succ m =>
    obtain ⟨w, r, e, _⟩ := hm.shp
    refine ⟨w, r, e, ?_⟩
    unfold tabRow
    rw [e]
    rfl

abbrev s_table_path : Stmt := top 13
abbrev n_table_path : List Str := ["formula", "path"]
theorem sc_table_path : FnScope n_table_path ["formula"] (defScope s_table_path) := ⟨rfl, rfl, rfl, by decide +kernel, rfl, by decide +kernel, by decide +kernel⟩
def sp_table_path (K : PySem.W.Frag) : Sp := spR K (fun d : PyData => [d]) (fun d => Gd 40 d ∧ bd 40 d = true ∧ W 40 d ≤ 90000) fun d => optP ((walkR 40 [] d 0).findSome? tabRow)
theorem ok_table_path {f : Addr} {fd : FuncData} (T : Bt K mg) (C : Cst K w mg) (D : Df K mg "table_path" s_table_path ["formula"] f fd)
    {f_paths_of : Addr} {d_paths_of : FuncData} (h_paths_of : Cal P w K mg base "paths_of" s_paths_of ["formula"] (43) (sp_paths_of K) f_paths_of d_paths_of)
    {f_thing_at : Addr} {d_thing_at : FuncData} (h_thing_at : Cal P w K mg base "thing_at" s_thing_at ["value", "path"] 1 (sp_thing_at K) f_thing_at d_thing_at) : Cal P w K mg base "table_path" s_table_path ["formula"] 44 (sp_table_path K) f fd := by
  refine ok_R D sc_table_path (fun _ => rfl) fun cdv A outer s H E hgd hr => ⟨_, (pss_cons (ps_for PassesOwn.never rfl (pi_tup (pe_fn (E := E0) h_paths_of.G hgd (hr.mono (by decide)) (by rfl) h_paths_of.gm h_paths_of.kp h_paths_of.b (pa_cons (pv 0) pa_nil))) (pg_name (i := 1) sc_table_path.nd rfl (Or.inl rfl))
        (pss_one (ps_if (pt_cmpR op_eq (pe_ix (ix_tupK (K := K) rfl) (pe_fn (E := E0) h_thing_at.G hgd (hr.mono (by decide)) (by rfl) h_thing_at.gm h_thing_at.kp h_thing_at.b (pa_cons (pv 0) (pa_cons (pv 1) pa_nil))) pe_int (fun _ _ => rfl)) pe_str (nomark _)) (pss_one (ps_ret (pv 1))) pss_nil)))
        (pss_one (ps_ret pe_non))), ?_⟩
  rintro d ⟨h1, h2, h3⟩
  have hnd := bd_nd h2
  show SG (pureL K) 0 _ [some d, none] _ (fun x => x = optP ((walkR 40 [] d 0).findSome? tabRow))
  refine sg_seq (N1 := fun G => (∃ x, G = [some d, x]) ∧ (walkR 40 [] d 0).findSome? tabRow = none) (sg_for (js := [1]) (items := (walkR 40 [] d 0).map fun r : Rw => tI r.p) (fun i G => (∃ x, G = [some d, x]) ∧ ((walkR 40 [] d 0).take i).findSome? tabRow = none) (wk_tup (eg_callR (L := pureL K) d (ea_cons (eg_var (i := 0) rfl) ea_nil) ⟨h1, h2, h3⟩ (hd_nomk hnd))) ⟨⟨none, rfl⟩, rfl⟩ ?_ ?_) ?_
  · rintro i e G he ⟨⟨x0, rfl⟩, h0⟩
    obtain ⟨x, hx, hxm, rfl⟩ := map_at (enc := fun r : Rw => tI r.p) he
    obtain ⟨w, r, ew, et⟩ := row_form h1 h2 hxm
    obtain ⟨q, eq1, eq2⟩ := walk_at 40 [] d 0 h1 x hxm
    have eq3 : atP d x.p = some x.d := by rw [eq1]; exact eq2
    refine ⟨_, tg_name, ?_⟩
    have c1 : EvD (pureL K) (tOp (rIxT K) (tCall (sp_thing_at K) [] E0 (tCons (tVar 0) (tCons (tVar 1) tNil))) (tC (.int 0))) [some d, some (tI x.p)] (.str w) := eg_ixT (L := pureL K) ((eg_callR (L := pureL K) (⟨d, x.p, x.d⟩ : AP) (ea_cons (eg_var (i := 0) rfl) (ea_cons (eg_var (i := 1) rfl) ea_nil)) ⟨hnd, eq3⟩ (nomk_c hnd rfl)).to ew) eg_int (atI_zero _ _)
    by_cases hw : w = "table"
    · rw [if_pos hw] at et
      exact sg_if (k := true) (et_is (et_test (eg_eqS c1 eg_str)) (decide_eq_true hw)) (fun _ => sg_ret (eg_var (i := 1) rfl) (by rw [fs_hit hx h0 et]; rfl)) fun z => by cases z
    · rw [if_neg hw] at et
      exact sg_if_no (et_is (et_test (eg_eqS c1 eg_str)) (decide_eq_false hw)) (sg_next ⟨⟨_, rfl⟩, fs_miss hx h0 et⟩)
  · rintro G ⟨⟨x0, rfl⟩, h0⟩
    rw [List.length_map, List.take_length] at h0
    exact ⟨⟨x0, rfl⟩, h0⟩
  · rintro G ⟨⟨x0, rfl⟩, h0⟩
    exact sg_ret eg_non (by rw [h0]; rfl)

def sp_law_plain (K : PySem.W.Frag) (n : Nat) : Sp := spR K (fun d : PyData => [d]) (fun d => Gr n d ∧ d.hasDict = false ∧ d.bulk ≤ 16000) fun d => PF n d
theorem cs_listT {L : Rl} {ds : List PyData} : CaS L (fun xs H Q => ∃ p ys, xs = [V.ref p] ∧ (SqL L.K H p ys ∨ SqT L.K H p ys) ∧ ∀ l, H l = none → Q (.ref l) (upd H l (.lst ys))) [.tuple ds] (.list ds) := fun A H vs hi hg hl h Q q => by
  obtain ⟨v, rfl, hv⟩ := one_of hl h
  obtain ⟨p, xs, rfl, e, r⟩ := hv.tuple
  refine ⟨p, xs, rfl, .inr e.sq, fun l hl2 => ?_⟩
  have rr := Rl.newR (o := .lst xs) hg hl2
  exact q _ _ rr (.inr (.lst (hi.no hl2) upd_same (r.r rr)))
theorem cut_hi {w : PyData} {r : List PyData} {k : Nat} (hk : k ≤ r.length + 1) : cutD (w :: r) none (some (k : Int)) = (w :: r).take k := by
  unfold cutD
  rw [HT.sIx_nat, HT.sIx_none, List.length_cons, Nat.sub_zero, List.drop_zero, Nat.min_eq_left hk]
theorem cut_lo {w : PyData} {r : List PyData} {k : Nat} (h1 : 1 ≤ k) (hk : k ≤ r.length + 1) : cutD (w :: r) (some (k : Int)) none = r.drop (k - 1) := by
  unfold cutD
  rw [HT.sIx_nat, HT.sIx_none, List.length_cons, Nat.min_eq_left hk]
  obtain ⟨j, rfl⟩ : ∃ j, k = j + 1 := ⟨k - 1, by omega⟩
  rw [List.drop_succ_cons, Nat.add_sub_cancel]
  exact List.take_of_length_le (by rw [List.length_drop]; omega)
theorem pi_tupK {X : Cx} {K : PySem.W.Frag} {tg l : Expr} {tl : TE} (h : X.K = K) (hl : PE X l tl) : PI X tg l (iTup K tl) := h ▸ pi_tup hl
theorem pi_listK {X : Cx} {K : PySem.W.Frag} {tg l : Expr} {tl : TE} (h : X.K = K) (hl : PE X l tl) : PI X tg l (iList K tl) := h ▸ pi_list hl

abbrev s_law_plain : Stmt := top 22
abbrev n_law_plain : List Str := ["formula_so", "word", "first", "parts", "found", "part", "line", "cell"]
theorem sc_law_plain : FnScope n_law_plain ["formula_so"] (defScope s_law_plain) := ⟨rfl, rfl, rfl, by decide +kernel, rfl, by decide +kernel, by decide +kernel⟩

theorem ok_law_plain {f : Addr} {fd : FuncData} (T : Bt K mg) (C : Cst K w mg) (D : Df K mg "_law_plain" s_law_plain ["formula_so"] f fd)
    {n : Nat} (h_law_plain : Cal P w K mg base "_law_plain" s_law_plain ["formula_so"] (0 + n) (sp_law_plain K n) f fd) : Cal P w K mg base "_law_plain" s_law_plain ["formula_so"] (0 + n + 1) (sp_law_plain K (n + 1)) f fd := by
  refine ok_R D sc_law_plain (fun _ => rfl) fun cdv A outer s H E hgd hr => ⟨_, (pss_cons (ps_set (i := 1) sc_law_plain.nd rfl (Or.inl rfl) (pe_ix (ix_tupK (K := K) rfl) (pv 0) pe_int (fun _ _ => rfl)))
        (pss_cons (ps_if (pt_cmpR op_eq (pv 1) pe_str (nomark _)) (pss_one (ps_ret (pe_tup (pa_cons (pv 1) (pa_cons (pe_callTy call_tuple_of (by rfl) T.tuple (by decide +kernel) (pa_cons (pe_lc (own := [("line", 6)]) (g := gName 6) (tt := tYes) rfl sc_law_plain.nd (pi_tup (pe_ix (ix_tupK (K := K) rfl) (pv 0) pe_int (fun _ _ => rfl))) (blkOk_by (own := [("line", 6)]) (N := n_law_plain) (sc := defScope s_law_plain) (by decide +kernel)) (fun _ _ _ _ _ => (pg_name (i := 6) sc_law_plain.nd rfl (Or.inl rfl))) (fun _ _ _ _ _ => pts_nil) (fun _ _ _ _ _ => (pe_callTy (call_tupleK (K := K) rfl) (by rfl) T.tuple (by decide +kernel) (pa_cons (pe_lc (own := [("cell", 7)]) (g := gName 7) (tt := tYes) rfl sc_law_plain.nd (pi_tupK (K := K) rfl (pv 6)) (blkOk_by (own := [("cell", 7)]) (N := n_law_plain) rfl) (fun _ _ _ _ _ => (pg_name (i := 7) sc_law_plain.nd rfl (Or.inl rfl))) (fun _ _ _ _ _ => pts_nil) (fun _ _ _ _ _ => (pe_fn (E := E0) h_law_plain.G hgd (hr.mono (by omega)) (by rfl) h_law_plain.gm h_law_plain.kp h_law_plain.b (pa_cons (pv 7) pa_nil)))) pa_nil)))) pa_nil)) pa_nil))))) pss_nil)
        (pss_cons (ps_set (i := 2) sc_law_plain.nd rfl (Or.inl rfl) (pe_ifExp (pt_cmpR op_in_seq (pv 1) (pe_tup (pa_cons pe_str (pa_cons pe_str (pa_cons pe_str (pa_cons pe_str pa_nil))))) (by rfl)) pe_int pe_int))
        (pss_cons (ps_setLc (i := 3) (own := [("part", 5)]) (g := gName 5) (tt := tYes) rfl sc_law_plain.nd rfl rfl (sw_true rfl rfl rfl (by decide +kernel)) (pi_tup (pe_slice sl_tupA (pv 0) (po_some (pv 2)) po_none)) (blkOk_by (own := [("part", 5)]) (N := n_law_plain) (sc := defScope s_law_plain) (by decide +kernel)) (fun _ _ _ _ _ => (pg_name (i := 5) sc_law_plain.nd rfl (Or.inl rfl))) (fun _ _ _ _ _ => pts_nil) (fun _ _ _ _ _ => (pe_fn (E := E0) h_law_plain.G hgd (hr.mono (by omega)) (by rfl) h_law_plain.gm h_law_plain.kp h_law_plain.b (pa_cons (pv 5) pa_nil))))
        (pss_cons (ps_if (pt_cmpR op_ne (pv 1) pe_str (nomark _)) (pss_one (ps_ret (pe_op op_catA (pe_slice sl_tupA (pv 0) po_none (po_some (pv 2))) (pe_callTy call_tuple_of (by rfl) T.tuple (by decide +kernel) (pa_cons (pv 3) pa_nil))))) pss_nil)
        (pss_cons (ps_set (i := 4) sc_law_plain.nd rfl (Or.inl rfl) (pe_lst pa_nil))
        (pss_cons (ps_for PassesOwn.never rfl (pi_list (pv 3)) (pg_name (i := 5) sc_law_plain.nd rfl (Or.inl rfl))
        (pss_one (ps_set (i := 4) sc_law_plain.nd rfl (Or.inl rfl) (pe_op op_cat (pv 4) (pe_ifExp (pt_cmpR op_eq (pe_ix (ix_tupK (K := K) rfl) (pv 5) pe_int (fun _ _ => rfl)) pe_str (nomark _)) (pe_callTy call_list_of (by rfl) T.list (by decide +kernel) (pa_cons (pe_slice sl_tupA (pv 5) (po_some pe_int) po_none) pa_nil)) (pe_lst (pa_cons (pv 5) pa_nil)))))))
        (pss_one (ps_ret (pe_ifExp (pt_cmpR op_eq (pe_callB call_len_seq (by rfl) T.len PySem.boot_len (pa_cons (pv 4) pa_nil)) pe_int (nomark _)) (pe_ix (ix_listK (K := K) rfl) (pv 4) pe_int (fun _ _ => rfl)) (pe_op op_catA (pe_tup (pa_cons pe_str pa_nil)) (pe_callTy call_tuple_of (by rfl) T.tuple (by decide +kernel) (pa_cons (pv 4) pa_nil))))))))))))), ?_⟩
  rintro d ⟨hG, hnd, hbk⟩
  have hbk : d.bulk ≤ 16000 := hbk
  rcases (show Gr (n + 1) d from hG) with ⟨w, r, h1, rfl, hS, h4, h5⟩ | ⟨rows, c, rfl, h2, h3, h4, h5, h6, h7⟩
  · have hr : ∀ x ∈ r, x.hasDict = false := fun x hx => hd_tup hnd x (List.mem_cons_of_mem _ hx)
    have hb2 : PyData.bulkAll r ≤ 16000 := by
      rw [bulk_tup, bulk_cons] at hbk
      omega
    have hrl := len_bulk r
    have hpart : ∀ x ∈ r.drop (low w - 1), x.hasDict = false ∧ x.bulk ≤ 16000 := fun x hx => ⟨hr x (List.mem_of_mem_drop hx), by have := bulk_mem (List.mem_of_mem_drop hx); omega⟩
    have lw : 1 ≤ low w ∧ low w ≤ 2 := low_pos w
    have hlr : low w ≤ r.length + 1 := by
      unfold low
      by_cases z : w ∈ sgn4
      · rw [if_pos z]
        have := hS.sg z
        omega
      · rw [if_neg z]
        omega
    show SG (pureL K) 0 _ [some (.tuple (.str w :: r)), none, none, none, none, none, none, none] _ (fun x => x = PF (n + 1) (.tuple (.str w :: r)))
    refine sq_asg (d := .str w) (eg_ixT (L := pureL K) (eg_var rfl) eg_int (atI_zero _ _)) ?_
    refine sq_if_no (et_is (et_test (eg_eqS (eg_var rfl) eg_str)) (decide_eq_false h1)) ?_
    refine sq_asg (d := .int ((low w : Nat) : Int)) (eg_if (et_test (eg_inS (ws := sgn4) (eg_var rfl) eg_strs4)) (fun z => ?_) fun z => ?_) ?_
    · have e : low w = 2 := by unfold low; rw [if_pos (of_decide_eq_true z)]
      rw [e]
      exact eg_int
    · have e : low w = 1 := by unfold low; rw [if_neg (of_decide_eq_false z)]
      rw [e]
      exact eg_int
    show SG (pureL K) 0 _ [some (.tuple (.str w :: r)), some (.str w), some (.int ((low w : Nat) : Int)), none, none, none, none, none] _ _
    refine sq_asg (d := .list ((r.drop (low w - 1)).map (PF n))) (eg_lcW (js := [5]) (items := r.drop (low w - 1)) (wk_tup ((eg_slA (L := pureL K) (eg_var (i := 0) rfl) (eo_some (eg_var (i := 2) rfl)) eo_none).to (by rw [cut_lo lw.1 hlr]))) (by simp) (by rw [List.length_drop]; omega) (by rw [List.length_map]) ?_) ?_
    · intro i d x hd hx
      rw [List.getElem?_map, hd] at hx
      have ex := (Option.some.inj hx).symm
      subst ex
      have hm := List.mem_of_getElem? hd
      obtain ⟨p1, p2⟩ := hpart d hm
      exact ⟨hd_ne (pf_nd (h5 d hm) p1), _, tg_name, eg_callR (L := pureL K) d (ea_cons (eg_var (i := 5) rfl) ea_nil) ⟨h5 d hm, p1, p2⟩ (hd_nomk p1)⟩
    show SG (pureL K) 0 _ [some (.tuple (.str w :: r)), some (.str w), some (.int ((low w : Nat) : Int)), some (.list ((r.drop (low w - 1)).map (PF n))), none, none, none, none] _ _
    by_cases hw : w = "row"
    · subst hw
      rw [low_row] at h5 hpart
      have h5 : ∀ x ∈ r, Gr n x := h5
      have hr1 : 1 ≤ r.length := h4 rfl
      refine sq_if_no (et_is (et_test (eg_neS (eg_var (i := 1) rfl) eg_str)) (by decide +kernel)) ?_
      rw [pf_row]
      have e0 : r.drop (low "row" - 1) = r := by rw [low_row]; rfl
      rw [e0]
      let acc : Nat → List PyData := fun i => ((r.take i).map (PF n)).flatMap openR
      have fb : PyData.bulkAll ((r.map (PF n)).flatMap openR) ≤ 16000 := Nat.le_trans (flat_bulk _) (Nat.le_trans (bulk_map (f := PF n) fun x hx => pf_bulk (h5 x hx)) hb2)
      have alen : ∀ i, (acc i).length ≤ 16000 := fun i => by
        have a1 := len_bulk (acc i)
        have a2 : PyData.bulkAll (acc i) ≤ PyData.bulkAll (r.take i) := Nat.le_trans (flat_bulk _) (bulk_map (f := PF n) fun x hx => pf_bulk (h5 x (List.mem_of_mem_take hx)))
        have a3 : PyData.bulkAll r = PyData.bulkAll (r.take i) + PyData.bulkAll (r.drop i) := by rw [← bulk_app, List.take_append_drop]
        omega
      have astep : ∀ i x, r[i]? = some x → acc (i + 1) = acc i ++ openR (PF n x) := fun i x hx => by
        show ((r.take (i + 1)).map (PF n)).flatMap openR = ((r.take i).map (PF n)).flatMap openR ++ openR (PF n x)
        rw [take_next hx, List.map_append, List.flatMap_append]
        simp
      refine sq_asg (d := .list []) (eg_lst ea_nil) ?_
      refine sg_seq (N1 := fun G => ∃ a, G = [some (.tuple (.str "row" :: r)), some (.str "row"), some (.int ((low "row" : Nat) : Int)), some (.list (r.map (PF n))), some (.list (acc r.length)), a, none, none]) (sg_for (js := [5]) (items := r.map (PF n)) (fun i G => ∃ a, G = [some (.tuple (.str "row" :: r)), some (.str "row"), some (.int ((low "row" : Nat) : Int)), some (.list (r.map (PF n))), some (.list (acc i)), a, none, none]) (wk_list (eg_var (i := 3) rfl)) ⟨none, rfl⟩ ?_ ?_) ?_
      · rintro i e G he ⟨a, rfl⟩
        obtain ⟨x, hx, hxm, rfl⟩ := map_at (enc := PF n) he
        refine ⟨_, tg_name, ?_⟩
        refine sg_asg (i := 4) (d := .list (acc (i + 1))) ?_ ⟨_, rfl⟩
        rw [astep i x hx]
        refine eg_cat (L := pureL K) (eg_var (i := 4) rfl) ?_ (by have := alen i; have a1 := len_bulk (openR (PF n x)); have a2 := open_bulk (PF n x); have a3 := pf_bulk (h5 x hxm); have a4 := (hpart x hxm).2; omega)
        obtain ⟨w', r', ew⟩ := (pf_hd (h5 x hxm)).1
        rw [ew]
        have hix : EvD (pureL K) (tOp (rIxT K) (tVar 5) (tC (.int 0))) [some (.tuple (.str "row" :: r)), some (.str "row"), some (.int ((low "row" : Nat) : Int)), some (.list (r.map (PF n))), some (.list (acc i)), some (.tuple (.str w' :: r')), none, none] (.str w') := eg_ixT (L := pureL K) (eg_var rfl) eg_int (atI_zero _ _)
        by_cases hw' : w' = "row"
        · subst hw'
          rw [open_row]
          exact eg_if (et_test (eg_eqS hix eg_str)) (fun _ => eg_cb (L := pureL K) (ds := [.tuple r']) (ea_cons ((eg_slA (L := pureL K) (eg_var (i := 5) rfl) (eo_some (eg_int (i := ((1 : Nat) : Int)))) eo_none).to (by rw [cut_one])) ea_nil) cs_listT) fun z => absurd rfl (of_decide_eq_false z)
        · rw [open_not (x := .tuple (.str w' :: r')) hw']
          exact eg_if (et_test (eg_eqS hix eg_str)) (fun z => absurd (of_decide_eq_true z) hw') fun _ => eg_lst (ea_cons (eg_var (i := 5) rfl) ea_nil)
      · rintro G ⟨a, rfl⟩
        exact ⟨a, by rw [List.length_map]⟩
      · rintro G ⟨a, rfl⟩
        have hacc : acc r.length = (r.map (PF n)).flatMap openR := by
          show ((r.take r.length).map (PF n)).flatMap openR = _
          rw [List.take_length]
        rw [hacc]
        obtain ⟨f1, _⟩ := flat_hd (l := r.map (PF n)) (fun y hy => by
          obtain ⟨x, hx, rfl⟩ := List.mem_map.mp hy
          exact pf_hd (h5 x hx)) (by rw [List.length_map]; exact hr1)
        have hal2 : ((r.map (PF n)).flatMap openR).length ≤ 16000 := Nat.le_trans (len_bulk _) fb
        generalize (r.map (PF n)).flatMap openR = l at f1 hal2
        refine sg_ret (d := mkR l) (eg_if (et_test (eg_eqI (eg_cb (ea_cons (eg_var (i := 4) rfl) ea_nil) cs_lenL) eg_int)) (fun h => ?_) fun h => ?_) rfl
        · have h2 : (l.length : Int) = 1 := of_decide_eq_true h
          unfold mkR
          rw [if_pos (by omega)]
          match l, f1 with
          | y :: l', _ => exact eg_ixL (L := pureL K) (eg_var (i := 4) rfl) eg_int (atI_zero _ _)
        · have h2 : ¬ (l.length : Int) = 1 := of_decide_eq_false h
          unfold mkR
          rw [if_neg (by omega)]
          exact eg_catA (L := pureL K) (eg_tup (ea_cons eg_str ea_nil)) (eg_cb (ea_cons (eg_var (i := 4) rfl) ea_nil) cs_tuple) (by show 1 + l.length ≤ 100000; have := hal2; omega)
    · refine sq_if (k := true) (et_is (et_test (eg_neS (eg_var (i := 1) rfl) eg_str)) (by rw [decide_eq_false hw]; rfl)) (fun _ => ?_) fun z => by cases z
      rw [pf_nt h1 hw]
      refine sg_retq (d := .tuple ((.str w :: r).take (low w) ++ (r.drop (low w - 1)).map (PF n))) (eg_catA (L := pureL K) ((eg_slA (L := pureL K) (eg_var (i := 0) rfl) eo_none (eo_some (eg_var (i := 2) rfl))).to (by rw [cut_hi hlr])) (eg_cb (ea_cons (eg_var (i := 3) rfl) ea_nil) cs_tuple) ?_) ?_
      · rw [List.length_take, List.length_map, List.length_drop, List.length_cons]
        omega
      · obtain ⟨j, hj⟩ : ∃ j, low w = j + 1 := ⟨low w - 1, by omega⟩
        rw [hj, List.take_succ_cons]
        rfl
  · have hT := hd_tup hnd (.tuple (rows.map .tuple)) (List.mem_cons_of_mem _ List.mem_cons_self)
    have hnd2 : ∀ l ∈ rows, ∀ x ∈ l, x.hasDict = false := fun l hl x hx => hd_tup (hd_tup hT (.tuple l) (List.mem_map.mpr ⟨l, hl, rfl⟩)) x hx
    rw [bulk_tup, bulk_cons, bulk_cons, bulk_tup] at hbk
    have hbk2 : ∀ l ∈ rows, ∀ x ∈ l, x.bulk ≤ 16000 := fun l hl x hx => by
      have a1 := bulk_mem (List.mem_map.mpr ⟨l, hl, rfl⟩ : PyData.tuple l ∈ rows.map .tuple)
      have a2 := bulk_mem hx
      rw [bulk_tup] at a1
      omega
    show SG (pureL K) 0 _ [some (.tuple [.str "table", .tuple (rows.map .tuple)]), none, none, none, none, none, none, none] _ (fun x => x = PF (n + 1) (.tuple [.str "table", .tuple (rows.map .tuple)]))
    refine sq_asg (d := .str "table") (eg_ixT (L := pureL K) (eg_var rfl) eg_int (atI_zero _ _)) ?_
    refine sq_if (k := true) (et_is (et_test (eg_eqS (eg_var (i := 1) rfl) eg_str)) (by decide +kernel)) (fun _ => ?_) fun z => by cases z
    rw [pf_tb]
    refine sg_retq (eg_tup (ea_cons (eg_var (i := 1) rfl) (ea_cons (eg_cb (L := pureL K) (ds := [.list ((rows.map fun l => l.map (PF n)).map .tuple)]) (ea_cons (eg_lcW (js := [6]) (items := rows.map .tuple) (wk_tup (eg_ixT (L := pureL K) (eg_var (i := 0) rfl) eg_int (atI_one _ _ _))) (by simp) (by rw [List.length_map]; omega) (by rw [List.length_map, List.length_map, List.length_map]) ?_) ea_nil) cs_tuple) ea_nil))) rfl
    intro i d x hd hx
    obtain ⟨l, hl, hlm, rfl⟩ := map_at (enc := PyData.tuple) hd
    rw [List.getElem?_map, List.getElem?_map, hl] at hx
    have ex := (Option.some.inj hx).symm
    subst ex
    refine ⟨(by intro z; cases z), _, tg_name, eg_cb (L := pureL K) (ds := [.list (l.map (PF n))]) (ea_cons (eg_lcW (js := [7]) (items := l) (wk_tup (eg_var (i := 6) rfl)) (by simp) (by rw [h6 l hlm]; omega) (by rw [List.length_map]) ?_) ea_nil) cs_tuple⟩
    intro k d x hd hx
    rw [List.getElem?_map, hd] at hx
    have ex := (Option.some.inj hx).symm
    subst ex
    have hm := List.mem_of_getElem? hd
    have p1 := hnd2 l hlm d hm
    have p2 := hbk2 l hlm d hm
    have p3 := h7 l hlm d hm
    exact ⟨hd_ne (pf_nd p3 p1), _, tg_name, eg_callR (L := pureL K) d (ea_cons (eg_var (i := 7) rfl) ea_nil) ⟨p3, p1, p2⟩ (hd_nomk p1)⟩

/-- what is drawn around a formula, or in a row -/
def Nst (d x : PyData) : Prop := x = .tuple [.str "row", d] ∨ ∃ r a b, d = .tuple (.str "row" :: r) ∧ r = a ++ b ∧ a ≠ [] ∧ b ≠ [] ∧ x = .tuple [.str "row", .tuple (.str "row" :: a), .tuple (.str "row" :: b)]
theorem cut_mid {w : PyData} {r : List PyData} {k : Nat} (h1 : 1 ≤ k) (hk : k ≤ r.length + 1) : cutD (w :: r) (some ((1 : Nat) : Int)) (some (k : Int)) = r.take (k - 1) := by
  unfold cutD
  rw [HT.sIx_nat, HT.sIx_nat, List.length_cons, Nat.min_eq_left hk, show min 1 (r.length + 1) = 1 by omega, List.drop_succ_cons, List.drop_zero]

abbrev s_law_nested : Stmt := top 23
abbrev n_law_nested : List Str := ["m", "formula_so", "word", "spot"]
theorem sc_law_nested : FnScope n_law_nested ["m", "formula_so"] (defScope s_law_nested) := ⟨rfl, rfl, rfl, by decide +kernel, rfl, by decide +kernel, by decide +kernel⟩
def sp_law_nested (K : PySem.W.Frag) : Sp := spM K 1 (fun d : PyData => [mark, d]) (fun d => Fd 4 d) Nst
theorem ok_law_nested {f : Addr} {fd : FuncData} (T : Bt K mg) (C : Cst K w mg) (D : Df K mg "_law_nested" s_law_nested ["m", "formula_so"] f fd)
    {f_law_draw : Addr} {d_law_draw : FuncData} (h_law_draw : Cal P w K mg base "_law_draw" s_law_draw ["m", "bound"] 1 (sp_law_draw K) f_law_draw d_law_draw) : Cal P w K mg base "_law_nested" s_law_nested ["m", "formula_so"] 2 (sp_law_nested K) f fd := by
  refine ok_A D sc_law_nested (fun _ => rfl) fun cdv A outer s H E hgd hr => ⟨_, (pss_cons (ps_set (i := 2) sc_law_nested.nd rfl (Or.inl rfl) (pe_ix (ix_tupK (K := K) rfl) (pv 1) pe_int (fun _ _ => rfl)))
        (pss_cons (ps_if (PW.pt (pw_and (pt_cmpR op_eq (pv 2) pe_str (nomark _)) (pw_and1 (pt_cmpR op_gt (pe_callB call_len_seq (by rfl) T.len PySem.boot_len (pa_cons (pv 1) pa_nil)) pe_int (nomark _))))) (pss_cons (ps_set (i := 3) sc_law_nested.nd rfl (Or.inl rfl) (pe_op op_add pe_int (pe_fn (E := E0) h_law_draw.G hgd (hr.mono (by decide)) (by rfl) h_law_draw.gm h_law_draw.kp h_law_draw.b (pa_cons (pv 0) (pa_cons (pe_op op_sub (pe_callB call_len_seq (by rfl) T.len PySem.boot_len (pa_cons (pv 1) pa_nil)) pe_int) pa_nil)))))
        (pss_one (ps_ret (pe_tup (pa_cons pe_str (pa_cons (pe_op op_catA (pe_tup (pa_cons pe_str pa_nil)) (pe_slice sl_tupA (pv 1) (po_some pe_int) (po_some (pv 3)))) (pa_cons (pe_op op_catA (pe_tup (pa_cons pe_str pa_nil)) (pe_slice sl_tupA (pv 1) (po_some (pv 3)) po_none)) pa_nil))))))) pss_nil)
        (pss_one (ps_ret (pe_tup (pa_cons pe_str (pa_cons (pv 1) pa_nil))))))), ?_⟩
  rintro L rfl hS d hF
  have hF : Fd 4 d := hF
  obtain ⟨w, r, rfl⟩ := hF.word
  have hnd := bd_nd (bd_mono (m := 20) (by decide) (bw_bd (by decide) (fd_bw hF)))
  have hb := Nat.le_trans (fd_bulk hF) (show bb 4 ≤ 560 by decide)
  rw [bulk_tup, bulk_cons] at hb
  have hrl := len_bulk r
  show SG L 1 _ [some mark, some (.tuple (.str w :: r)), none, none] _ _
  refine sq_asg (d := .str w) (eg_ixT (eg_var (i := 1) rfl) eg_int (atI_zero _ _)) ?_
  show SG L 1 _ [some mark, some (.tuple (.str w :: r)), some (.str w), none] _ _
  refine sq_if (k := (decide (w = "row") && decide (2 < r.length + 1))) (et_andC (et_test (eg_eqS (eg_var (i := 2) rfl) eg_str)) fun _ => et_test ((eg_gt (eg_cb (ea_cons (eg_var (i := 1) rfl) ea_nil) cs_lenT) eg_int).to (by
    congr 1
    rw [List.length_cons]
    by_cases z : 2 < r.length + 1
    · rw [decide_eq_true z]
      exact decide_eq_true (by omega)
    · rw [decide_eq_false z]
      exact decide_eq_false (by omega)))) (fun h => ?_) fun h => ?_
  · obtain ⟨e1, e2⟩ := Bool.and_eq_true_iff.mp h
    have ew : w = "row" := of_decide_eq_true e1
    have hl : 2 < r.length + 1 := of_decide_eq_true e2
    subst ew
    have hb0 : 0 < r.length - 1 ∧ r.length - 1 < 2 ^ 30 := ⟨by omega, Nat.lt_of_le_of_lt (show r.length - 1 ≤ 600 by omega) (by decide)⟩
    refine sq_as (SG.mono (a := 1 + 0) (sq_asgG (P := fun d => ∃ z : Int, (2 ≤ z ∧ z < (r.length : Int) + 1) ∧ d = .int z) (EvG.mono (a := 0 + 1) (eg_addG (P1 := fun j => j = 2) (P2 := fun y => 0 ≤ y ∧ y < (r.length : Int) - 1) eg_intG (EvG.mono (eg_callM hS (r.length - 1 : Nat) (ea_cons (eg_var (i := 0) rfl) (ea_cons ((eg_sub (eg_cb (ea_cons (eg_var (i := 1) rfl) ea_nil) cs_lenT) eg_int).to (by
      congr 1
      rw [List.length_cons]
      omega)) ea_nil)) hb0) (Nat.le_refl _) fun d ⟨y, h1, e⟩ => ⟨(y : Int), ⟨Int.natCast_nonneg y, by omega⟩, e⟩)) (by omega) ?_) ?_) (by omega) (fun _ h => h) fun _ h => h)
    · rintro d ⟨i, ⟨x, y, rfl, ⟨hy, hy0⟩, rfl⟩, rfl⟩
      exact ⟨2 + y, ⟨by omega, by omega⟩, rfl⟩
    · rintro d ⟨z, ⟨hz1, hz2⟩, rfl⟩
      obtain ⟨k, rfl⟩ : ∃ k : Nat, z = (k : Int) := ⟨z.toNat, by omega⟩
      have k1 : 2 ≤ k := by omega
      have k2 : k < r.length + 1 := by omega
      show SG L 0 _ [some mark, some (.tuple (.str "row" :: r)), some (.str "row"), some (.int (k : Int))] _ _
      refine sg_retq (d := .tuple [.str "row", .tuple (.str "row" :: r.take (k - 1)), .tuple (.str "row" :: r.drop (k - 1))]) (eg_tup (ea_cons eg_str (ea_cons ?_ (ea_cons ?_ ea_nil)))) (.inr ⟨r, _, _, rfl, (List.take_append_drop _ _).symm, ?_, ?_, rfl⟩)
      · exact eg_catA (eg_tup (ea_cons eg_str ea_nil)) ((eg_slA (eg_var (i := 1) rfl) (eo_some (eg_int (i := ((1 : Nat) : Int)))) (eo_some (eg_var (i := 3) rfl))).to (by rw [cut_mid (by omega) (by omega)])) (by rw [List.length_take]; show 1 + _ ≤ _; omega)
      · exact eg_catA (eg_tup (ea_cons eg_str ea_nil)) ((eg_slA (eg_var (i := 1) rfl) (eo_some (eg_var (i := 3) rfl)) eo_none).to (by rw [cut_lo (by omega) (by omega)])) (by rw [List.length_drop]; show 1 + _ ≤ _; omega)
      · intro z
        have := congrArg List.length z
        rw [List.length_take] at this
        have : min (k - 1) r.length = 0 := this
        omega
      · intro z
        have := congrArg List.length z
        rw [List.length_drop] at this
        have : r.length - (k - 1) = 0 := this
        omega
  · refine sq_next ?_
    exact SG.mono (a := 0) (sg_ret (d := .tuple [.str "row", .tuple (.str w :: r)]) (eg_tup (ea_cons eg_str (ea_cons (eg_var (i := 1) rfl) ea_nil))) (.inl rfl)) (by omega) (fun _ h => h) fun _ h => h

end V1
set_option Elab.async false
set_option linter.all false
set_option maxRecDepth 100000
set_option maxHeartbeats 4000000
/-! k42: what the law's turn shares. -/
namespace V1
open PySem PySem.Spec PyProof.Rows L2
/-- may be shown: no wide leaves -/
structure Shb (b k : Nat) (d : PyData) : Prop where
  s : d.showable = true
  nd : d.hasDict = false
  dp : d.depth ≤ k
  sh : d.leavesShort 100 = true
  bk : d.bulk ≤ b
theorem shb_all {b k m : Nat} {ds : List PyData} (h : ∀ d ∈ ds, Shb b k d) (hl : ds.length ≤ m) : PyData.showableAll ds = true ∧ PyData.hasDictAll ds = false ∧ PyData.depthAll ds ≤ k ∧ PyData.leavesShortAll 100 ds = true ∧ PyData.bulkAll ds ≤ m * (b + 1) :=
  ⟨showable_all fun d hd => (h d hd).s, dict_all fun d hd => (h d hd).nd, depth_all fun d hd => (h d hd).dp, short_all fun d hd => (h d hd).sh, Nat.le_trans (bulk_le fun d hd => (h d hd).bk) (Nat.mul_le_mul_right _ hl)⟩
theorem shb_lst {b k m : Nat} {ds : List PyData} (h : ∀ d ∈ ds, Shb b k d) (hl : ds.length ≤ m) : Shb (m * (b + 1)) (k + 1) (.list ds) := by
  obtain ⟨a1, a2, a3, a4, a5⟩ := shb_all h hl
  exact ⟨by simpa only [PyData.showable] using a1, by simpa only [PyData.hasDict] using a2, by simp only [PyData.depth]; omega, by simpa only [PyData.leavesShort] using a4, by simpa only [PyData.bulk] using a5⟩
theorem Shb.mono {b k b' k' : Nat} {d : PyData} (h : Shb b k d) (hb : b ≤ b') (hk : k ≤ k') : Shb b' k' d := ⟨h.s, h.nd, Nat.le_trans h.dp hk, h.sh, Nat.le_trans h.bk hb⟩
theorem Shb.sha {b k : Nat} {d : PyData} (h : Shb b k d) (hb : b ≤ 80000) (hk : k ≤ 60) : ShA d := by
  refine ⟨h.s, h.nd, Nat.le_trans h.dp hk, ?_⟩
  have h1 := PyData.shown_le_bulk 100 (by decide) d h.sh
  have h2 : (100 + 2) * d.bulk ≤ 102 * 80000 := Nat.mul_le_mul (by decide) (Nat.le_trans h.bk hb)
  rw [sizeLine_eq]
  omega
theorem Shn.sha {b k : Nat} {d : PyData} (h : Shn b k d) (hb : b ≤ 8000) (hk : k ≤ 60) : ShA d := ⟨h.s, h.nd, Nat.le_trans h.dp hk, h.fits hb⟩
theorem bd_shb {n b : Nat} {d : PyData} (h : bd n d = true) (hb : d.bulk ≤ b) : Shb b (n + 8) d := by
  obtain ⟨_, a2, a3, _, a5, a6⟩ := bd_all n d h
  exact ⟨a5, a2, a3, a6, hb⟩
theorem bool_shb (k : Bool) : Shb 0 0 (.bool k) := by
  refine ⟨by simp only [PyData.showable], by simp only [PyData.hasDict], by simp only [PyData.depth]; omega, ?_, by simp only [PyData.bulk]; omega⟩
  cases k <;> decide
theorem none_sha : ShA .none := by
  refine ⟨by simp only [PyData.showable], by simp only [PyData.hasDict], by simp only [PyData.depth]; omega, ?_⟩
  rw [sizeLine_eq]
  decide
theorem at_small : ∀ {q : Pth} {d e : PyData}, atP d q = some e → q.length ≤ d.bulk ∧ ∀ i ∈ q, i.natAbs ≤ d.bulk
  | [], d, e, _ => ⟨Nat.zero_le _, fun i hi => by simp at hi⟩
  | i :: q, d, e, h => by
    obtain ⟨ds, y, rfl, h1, h2⟩ := atP_cons h
    obtain ⟨a1, a2⟩ := at_small h2
    have hy : y ∈ ds := by
      unfold atI at h1
      cases hx : ixN ds.length i with
      | none => rw [hx] at h1; cases h1
      | some j =>
        rw [hx] at h1
        exact List.mem_of_getElem? h1
    have hb := bulk_mem hy
    have hl := len_bulk ds
    rw [bulk_tup]
    have hi : i.natAbs ≤ ds.length := by
      unfold atI ixN at h1
      split at h1
      · split at h1
        · omega
        · cases h1
      · split at h1
        · omega
        · cases h1
    refine ⟨by rw [List.length_cons]; omega, fun k hk => ?_⟩
    rcases List.mem_cons.mp hk with rfl | hk
    · omega
    · have := a2 k hk
      omega
theorem path_sha {q : Pth} {d e : PyData} (h : atP d q = some e) (hb : d.bulk ≤ 4000) : ShA (tI q) := by
  obtain ⟨h1, h2⟩ := at_small h
  have hs := shn_tup (b := 0) (k := 0) (m := 4000) (ds := q.map PyData.int) (fun x hx => by
    obtain ⟨i, hi, rfl⟩ := List.mem_map.mp hx
    have h3 := h2 i hi
    exact shn_int (Nat.lt_of_le_of_lt (show i.natAbs ≤ 4000 by omega) (Nat.lt_of_lt_of_le (by decide : 4000 < 2 ^ 20) (Nat.pow_le_pow_right (by decide) (show 20 ≤ 1900 by decide))))) (by rw [List.length_map]; omega)
  exact hs.sha (by decide) (by decide)
/-- the comprehension's paths are those of the rows with a table -/
theorem fil_rows {rows : List Rw} {keep : Nat → Bool} {res : Nat → PyData} (h1 : ∀ i x, rows[i]? = some x → keep i = (tabRow x).isSome) (h2 : ∀ i x, rows[i]? = some x → res i = tI x.p) : fil keep res rows.length = (rows.filterMap tabRow).map tI := by
  have key : ∀ i, i ≤ rows.length → fil keep res i = ((rows.take i).filterMap tabRow).map tI := by
    intro i
    induction i with
    | zero => intro _; rfl
    | succ i ih =>
      intro hi
      have hx : rows[i]? = some rows[i] := List.getElem?_eq_getElem (by omega)
      rw [fil_succ, ih (by omega), take_next hx, List.filterMap_append, List.map_append, h1 i _ hx, h2 i _ hx]
      congr 1
      unfold tabRow
      by_cases hw : (bodyT rows[i].d).1 = "table"
      · simp [List.filterMap, hw]
      · simp [List.filterMap, hw]
  rw [key rows.length (Nat.le_refl _), List.take_length]
theorem fs_head {rows : List Rw} : rows.findSome? tabRow = (rows.filterMap tabRow).head? := by rw [List.head?_filterMap]
/-- what is nested is right -/
theorem nst_ok {d x : PyData} (hF : Fd 4 d) (h : Nst d x) : Gr 40 x ∧ x.hasDict = false ∧ x.bulk ≤ 16000 ∧ bd 40 x = true ∧ PF 40 x = PF 40 d ∧ PyData.eqv (PF 40 d) x = false := by
  have hG := fd_gr hF
  have hbd : bd 9 d = true := bw_bd (by decide) (fd_bw hF)
  have hnd := bd_nd hbd
  have hb := Nat.le_trans (fd_bulk hF) (show bb 4 ≤ 560 by decide)
  have hP := (fd_pf hF (by decide) 40 (by decide)).1
  obtain ⟨n1, n2⟩ := nest_eqv hP
  have br : (PyData.str "row").bulk ≤ 6 := bulk_words "row" (by decide +kernel)
  have b1 : ∀ k, bd (k + 1) (.str "row") = true := fun k => bw_bd (k := 10) (by decide) (bw_leaf (leaf_words "row" (by decide +kernel)))
  have hrow : ∀ l : List PyData, l.length ≤ 200 → Shp "row" l := fun l hl => ⟨hl, fun z => absurd z (by decide +kernel), fun z => absurd z (by decide +kernel), fun z => absurd z (by decide +kernel)⟩
  rcases h with rfl | ⟨r, a, b, rfl, hr, ha, hb0, rfl⟩
  · refine ⟨.inl ⟨"row", [d], by decide +kernel, rfl, hrow _ (show 1 ≤ 200 by decide), fun _ => Nat.le_refl 1, fun y hy => ?_⟩, nd_tup (nd_cons (nd_str _) fun y hy => by rw [List.mem_singleton.mp hy]; exact hnd), ?_, bd_cons (b1 _) (show 1 + 1 ≤ 200 by decide) fun y hy => ?_, nest1 hF, n1 _⟩
    · rw [low_row] at hy
      rw [List.mem_singleton.mp hy]
      exact Gq.mono (by decide) hG
    · rw [bulk_tup, bulk_cons, bulk_cons]
      show _ + (_ + 0) ≤ _
      omega
    · rw [List.mem_singleton.mp hy]
      exact bd_mono (by decide) hbd
  · obtain ⟨hl, hall⟩ := bd_tup hbd
    rw [bulk_tup, bulk_cons] at hb
    have hbr : PyData.bulkAll r = PyData.bulkAll a + PyData.bulkAll b := by rw [hr, bulk_app]
    have hlr : r.length = a.length + b.length := by rw [hr, List.length_append]
    have hlr2 : r.length ≤ 199 := by rw [List.length_cons] at hl; omega
    have hmr : ∀ y ∈ r, Gr 38 y ∧ y.hasDict = false ∧ bd 38 y = true := fun y hy => by
      refine ⟨?_, hd_tup hnd y (List.mem_cons_of_mem _ hy), bd_mono (by decide) (hall y (List.mem_cons_of_mem _ hy))⟩
      rcases hG with ⟨w, r', h1, e, h3, h4, h5⟩ | ⟨rows, c, e, _⟩
      · cases e
        rw [low_row] at h5
        exact Gq.mono (by decide) (h5 y hy)
      · have e2 : ("row" : Str) = "table" := congrArg Prod.fst (congrArg bodyT e)
        exact absurd e2 (by decide +kernel)
    have hma : ∀ y ∈ a, y ∈ r := fun y hy => by rw [hr]; exact List.mem_append_left _ hy
    have hmb : ∀ y ∈ b, y ∈ r := fun y hy => by rw [hr]; exact List.mem_append_right _ hy
    have la : 1 ≤ a.length := List.length_pos_iff.mpr ha
    have lb : 1 ≤ b.length := List.length_pos_iff.mpr hb0
    have one : ∀ l : List PyData, (∀ y ∈ l, y ∈ r) → 1 ≤ l.length → l.length ≤ 199 → Gr 39 (.tuple (.str "row" :: l)) ∧ (PyData.tuple (.str "row" :: l)).hasDict = false ∧ bd 39 (.tuple (.str "row" :: l)) = true := fun l hm h1 h2 =>
      ⟨.inl ⟨"row", l, by decide +kernel, rfl, hrow _ (by omega), fun _ => h1, fun y hy => by
        rw [low_row] at hy
        exact (hmr y (hm y hy)).1⟩, nd_tup (nd_cons (nd_str _) fun y hy => (hmr y (hm y hy)).2.1), bd_cons (b1 _) (by omega) fun y hy => (hmr y (hm y hy)).2.2⟩
    obtain ⟨a1, a2, a3⟩ := one a hma la (by omega)
    obtain ⟨c1, c2, c3⟩ := one b hmb lb (by omega)
    refine ⟨.inl ⟨"row", _, by decide +kernel, rfl, hrow _ (by simp), fun _ => by show 1 ≤ 2; decide, fun y hy => ?_⟩, nd_tup (nd_cons (nd_str _) (nd_cons a2 fun y hy => by rw [List.mem_singleton.mp hy]; exact c2)), ?_, bd_cons (b1 _) (show 2 + 1 ≤ 200 by decide) fun y hy => ?_, nest2 hF hr, n2 _ _⟩
    · rw [low_row] at hy
      rcases List.mem_cons.mp hy with rfl | hy
      · exact a1
      · rw [List.mem_singleton.mp hy]
        exact c1
    · rw [bulk_tup, bulk_cons, bulk_cons, bulk_cons, bulk_tup, bulk_tup, bulk_cons, bulk_cons]
      show _ + (_ + (_ + 0)) ≤ _
      omega
    · rcases List.mem_cons.mp hy with rfl | hy
      · exact a3
      · rw [List.mem_singleton.mp hy]
        exact c3
/-- a turn's draws begun, used, left: the script's list is as it was -/
theorem sg_begunR {K : PySem.W.Frag} {a : Addr} {sc : List Int} {k n j : Nat} {u : TS} {Rt : PyData → Prop} (hk : k ≤ 4) (hl : sc.length ≤ 63) (hn : n ≤ 100000000)
    (hu : ∀ p c ns, ns ≠ [] → SK (mL K p c ns) 0 (V.ref a) n u (none :: none :: some mark :: List.replicate j none) (fun G => G.length = j + 3)) :
    SG (scL K a sc) 0 (tSeq (tAsg (tCall (sp_law_begun K) [] E0 (tCons (tVar 0) (tCons (tVar 1) tNil))) (gName 2)) u) (some mark :: some (.int (k : Int)) :: none :: List.replicate j none) (fun G => G = some mark :: none :: none :: List.replicate j none) Rt := fun A σ H hi he hg D q1 q2 => by
  have free : ∀ {i : Nat} {d : PyData}, (List.replicate j (none : Option PyData))[i]? = some (some d) → False := fun {i d} e => by
    rw [List.getElem?_replicate] at e
    split at e <;> cases e
  obtain ⟨v0, hs0, dv0⟩ := he.2 0 mark rfl
  have ev := dq_mark dv0
  subst ev
  obtain ⟨v1, hs1, dv1⟩ := he.2 1 (.int (k : Int)) rfl
  obtain rfl := dv1.int
  refine ⟨_, hs0, _, hs1, ?_⟩
  refine (?key : sp_law_begun K [V.ref a, V.int (k : Int)] H (fun x H1 => u D (σ.set 2 (some x)) H1) E0)
  refine ⟨a, sc, k, rfl, hg, hk, hl, fun p c l sd ns H1 sm hp hns hP hC => ?_⟩
  have hlen : σ.length = j + 3 := by
    rw [he.1]
    simp
  have hA : Inn A H1 := fun b z y => hi b z (Same.free sm y)
  have he1 : EnvOk (mL K p c ns) A (σ.set 2 (some (V.ref p))) H1 (none :: none :: some mark :: List.replicate j none) := ⟨by rw [List.length_set, hlen]; simp, fun i d e => by
    match i, e with
    | 0, e => cases e
    | 1, e => cases e
    | 2, e =>
      have e1 : mark = d := Option.some.inj (Option.some.inj e)
      subst e1
      exact ⟨V.ref p, List.getElem?_set_self (by omega), .inl ⟨rfl, rfl⟩⟩
    | i + 3, e => exact (free (i := i) e).elim⟩
  have hG : (mL K p c ns).G n H1 := ⟨l, sd, 0, hP, hC, Int.le_refl 0, by omega⟩
  have hs0' : (σ.set 2 (some (V.ref p)))[0]? = some (some (V.ref a)) := by rw [List.getElem?_set_ne (by decide)]; exact hs0
  refine hu p c ns hns A _ H1 hA he1 hG hs0' D fun σ2 H2 G2 r2 e2 s2 p2 => ?_
  obtain ⟨r2a, r2b, r2c⟩ := r2
  have sm2 : Same H H2 := fun b o z => r2a b o (sm b o z) (.inl (fun y => by rw [y, hp] at z; cases z))
  have hl2 : σ2.length = j + 3 := e2.1.trans p2
  refine q1 σ2 H2 _ sm2 ⟨by rw [hl2]; simp, fun i d e => ?_⟩ rfl
  match i, e with
  | 0, e =>
    have e1 : mark = d := Option.some.inj (Option.some.inj e)
    subst e1
    exact ⟨_, s2, .inl ⟨rfl, rfl⟩⟩
  | 1, e => cases e
  | 2, e => cases e
  | i + 3, e => exact (free (i := i) e).elim
theorem sk_ifq {L : Rl} {Γ : List (Option PyData)} {tt : TT} {ts u : TS} {a b j : Nat} {v0 : V} {N : List (Option PyData) → Prop} (h : EtG L a tt Γ (fun k => k = false)) (k : SK L j v0 b u Γ N) : SK L j v0 (a + b) (tSeq (tIfS tt ts tNext) u) Γ N := fun A σ H hi he hg hs D q => h A σ H hi he (L.gle (Nat.le_add_right _ _) hg) _ fun b' H1 r1 e => by
  subst e
  exact k A σ H1 (hi.r r1) (he.r r1) (Rl.gR hg r1) hs D fun σ2 H2 Γ2 r2 e2 s2 p2 => q σ2 H2 Γ2 (L.tr r1 r2) e2 s2 p2
theorem SK.mono {L : Rl} {Γ : List (Option PyData)} {ts : TS} {a b j : Nat} {v0 : V} {N : List (Option PyData) → Prop} (h : SK L j v0 a ts Γ N) (hn : a ≤ b) : SK L j v0 b ts Γ N := fun A σ H hi he hg hs D q => h A σ H hi he (L.gle hn hg) hs D fun σ2 H2 Γ2 r2 e2 s2 p2 => q σ2 H2 Γ2 (L.rle hn r2) e2 s2 p2
theorem et_G {L : Rl} {Γ : List (Option PyData)} {tt : TT} {k : Bool} (h : EtD L tt Γ k) : EtG L 0 tt Γ (fun x => x = k) := fun A σ H hi he hg Q q => h A σ H hi he hg _ fun H1 r1 => q k H1 r1 rfl
end V1
set_option Elab.async false
set_option linter.all false
set_option maxRecDepth 100000
set_option maxHeartbeats 4000000
namespace V1
open PySem PySem.Spec PyProof.Rows L2
variable {P : Program} {w : World} {K : PySem.W.Frag} {mg : Str → Option Value} {base : Heap}

theorem KB_plain_formula {f : Addr} {fd : FuncData} (F : Fun K "plain" "plain" s_plain f fd) : KBinds K fd ["formula"] ["formula"] g1 g1 := by
  obtain ⟨oc, od, kV, doc, pm, an, cdv, ct, osl, rfl, _⟩ := F.ex
  exact kbin1 rfl fun u => rfl
theorem KB_is_plain_formula {f : Addr} {fd : FuncData} (F : Fun K "is_plain" "is_plain" s_is_plain f fd) : KBinds K fd ["formula"] ["formula"] g1 g1 := by
  obtain ⟨oc, od, kV, doc, pm, an, cdv, ct, osl, rfl, _⟩ := F.ex
  exact kbin1 rfl fun u => rfl
theorem KB_table_path_formula {f : Addr} {fd : FuncData} (F : Fun K "table_path" "table_path" s_table_path f fd) : KBinds K fd ["formula"] ["formula"] g1 g1 := by
  obtain ⟨oc, od, kV, doc, pm, an, cdv, ct, osl, rfl, _⟩ := F.ex
  exact kbin1 rfl fun u => rfl
def sgD (x : Str) : PyData := .tuple [.str "sign", .str x]
def oneD : PyData := .tuple [.str "bar", .tuple [.str "row", .tuple [.str "row", sgD "a"], .tuple [.str "row", .tuple [.str "row", sgD "b", sgD "a"]]]]
def litD : PyData := .tuple [.str "bar", .tuple [.str "row", sgD "a", sgD "b", sgD "a"]]
theorem shp_by {w : Str} {r : List PyData} (h1 : r.length ≤ 200) (h2 : w ∉ sgn4) (h3 : w ≠ "table") : Shp w r := ⟨h1, fun z => absurd z h2, fun z => absurd (by rw [z]; decide +kernel) h2, fun z => absurd z h3⟩
theorem sg_gr (n : Nat) (x : Str) : Gr (n + 1) (sgD x) := .inl ⟨"sign", [.str x], by decide +kernel, rfl, ⟨by simp, fun _ => by simp, fun _ => rfl, fun z => absurd z (by decide +kernel)⟩, fun z => absurd z (by decide +kernel), fun y hy => by
  have e : low "sign" - 1 = 1 := by decide +kernel
  rw [e] at hy
  cases hy⟩
theorem row_gr {n : Nat} {r : List PyData} (h1 : 1 ≤ r.length) (h2 : r.length ≤ 200) (h : ∀ x ∈ r, Gr n x) : Gr (n + 1) (.tuple (.str "row" :: r)) := .inl ⟨"row", r, by decide +kernel, rfl, shp_by h2 (by decide +kernel) (by decide +kernel), fun _ => h1, fun x hx => by
  rw [low_row] at hx
  exact h x hx⟩
theorem one_gr : Gr 40 oneD := by
  refine .inl ⟨"bar", _, by decide +kernel, rfl, shp_by (by simp) (by decide +kernel) (by decide +kernel), fun z => absurd z (by decide +kernel), fun x hx => ?_⟩
  have e : low "bar" - 1 = 0 := by decide +kernel
  rw [e] at hx
  rw [List.mem_singleton.mp hx]
  refine row_gr (by simp) (by simp) fun x hx => ?_
  rcases List.mem_cons.mp hx with rfl | hx
  · exact row_gr (by simp) (by simp) fun x hx => by rw [List.mem_singleton.mp hx]; exact sg_gr _ _
  · rw [List.mem_singleton.mp hx]
    refine row_gr (by simp) (by simp) fun x hx => ?_
    rw [List.mem_singleton.mp hx]
    refine row_gr (by simp) (by simp) fun x hx => ?_
    rcases List.mem_cons.mp hx with rfl | hx
    · exact sg_gr _ _
    · rw [List.mem_singleton.mp hx]
      exact sg_gr _ _
theorem sg_pf (n : Nat) (x : Str) : PF (n + 1) (sgD x) = sgD x := by
  show PF (n + 1) (.tuple (.str "sign" :: [.str x])) = _
  rw [pf_nt (by decide +kernel) (by decide +kernel)]
  have e : low "sign" - 1 = 1 := by decide +kernel
  rw [e]
  rfl
theorem sg_open (x : Str) : openR (sgD x) = [sgD x] := open_not (show ("sign" : Str) ≠ "row" by decide +kernel)
theorem one_pf : PF 40 oneD = litD := by
  unfold oneD litD
  rw [pf_nt (by decide +kernel) (by decide +kernel)]
  have e : low "bar" - 1 = 0 := by decide +kernel
  rw [e, List.take_zero, List.drop_zero, List.nil_append, List.map_cons, List.map_nil, pf_row, List.map_cons, List.map_cons, List.map_nil, pf_row, pf_row, List.map_cons, List.map_nil, List.map_cons, List.map_nil, pf_row, List.map_cons, List.map_cons, List.map_nil, sg_pf, sg_pf, sg_pf]
  simp only [List.flatMap_cons, List.flatMap_nil, sg_open, List.append_nil, List.cons_append, List.nil_append]
  rfl
theorem nm2 {P : PyData} {b : Bool} (h : P.hasDict = false) : nomk [P, .bool b] = true := nomk_c h rfl
theorem nm3 {P : PyData} (h : P.hasDict = false) : nomk [P, P, P] = true := nomk_c h (nomk_c h (nomk_c h rfl))
theorem nm_opt (o : Option Pth) : nomk [optP o, optP o] = true := by cases o <;> rfl
theorem lit_sha : ShA litD := by
  refine ⟨by decide +kernel, by decide +kernel, by decide +kernel, ?_⟩
  rw [sizeLine_eq]
  decide +kernel

abbrev s_law : Stmt := top 24
abbrev n_law : List Str := ["script", "k", "m", "formula_so", "due", "nested", "paths", "one", "path", "part", "level"]
theorem sc_law : FnScope n_law ["script"] (defScope s_law) := ⟨rfl, rfl, rfl, by decide +kernel, rfl, by decide +kernel, by decide +kernel⟩
def sp_law (K : PySem.W.Frag) : Sp := fun vs H Q _ => ∃ (a : Addr) (sc : List Int), vs = [.ref a] ∧ sc.length ≤ 63 ∧ SqL K H a (sc.map V.int) ∧ ∀ H', Q (.bl true) H'
theorem len_law : ∀ vs H Q E, sp_law K vs H Q E → vs.length = (["script"] : List Str).length := fun vs H Q E ⟨a, sc, e, _⟩ => by rw [e]; rfl
theorem ok_law {f : Addr} {fd : FuncData} (T : Bt K mg) (C : Cst K w mg) (D : Df K mg "law" s_law ["script"] f fd)
    {f_law_begun : Addr} {d_law_begun : FuncData} (h_law_begun : Cal P w K mg base "_law_begun" s_law_begun ["script", "k"] 1 (sp_law_begun K) f_law_begun d_law_begun)
    {f_law_formula : Addr} {d_law_formula : FuncData} (h_law_formula : Cal P w K mg base "_law_formula" s_law_formula ["m", "deep"] (6) (sp_law_formula K 4) f_law_formula d_law_formula)
    {f_law_plain : Addr} {d_law_plain : FuncData} (h_law_plain : Cal P w K mg base "_law_plain" s_law_plain ["formula_so"] (40) (sp_law_plain K 40) f_law_plain d_law_plain)
    {f_law_like : Addr} {d_law_like : FuncData} (h_law_like : Cal P w K mg base "_law_like" s_law_like ["told", "due"] 1 (sp_law_like K) f_law_like d_law_like)
    {f_plain : Addr} {d_plain : FuncData} (h_plain : Cal P w K mg base "plain" s_plain ["formula"] (45) (sp_plain K 40) f_plain d_plain)
    {f_is_plain : Addr} {d_is_plain : FuncData} (h_is_plain : Cal P w K mg base "is_plain" s_is_plain ["formula"] (46) (sp_is_plain K) f_is_plain d_is_plain)
    {f_law_nested : Addr} {d_law_nested : FuncData} (h_law_nested : Cal P w K mg base "_law_nested" s_law_nested ["m", "formula_so"] (2) (sp_law_nested K) f_law_nested d_law_nested)
    {f_law_levels : Addr} {d_law_levels : FuncData} (h_law_levels : Cal P w K mg base "_law_levels" s_law_levels ["formula_here", "level", "path"] (41) (sp_law_levels K 40) f_law_levels d_law_levels)
    {f_table_path : Addr} {d_table_path : FuncData} (h_table_path : Cal P w K mg base "table_path" s_table_path ["formula"] (44) (sp_table_path K) f_table_path d_table_path) : Cal P w K mg base "law" s_law ["script"] 47 (sp_law K) f fd := by
  have kb_is_plain_formula := KB_is_plain_formula h_is_plain.F
  have kb_plain_formula := KB_plain_formula h_plain.F
  have kb_table_path_formula := KB_table_path_formula h_table_path.F
  refine ⟨D.gm, D.F, D.b, okG D.F sc_law len_law (fun cdv A outer s H vs Q E hgd hr h => ⟨_, (pss_cons (ps_for PassesOwn.never rfl (pi_range1 (by rfl) T.range (pa_cons (pe_op op_add pe_int (pe_callB (call_min2 rfl) (by rfl) T.min (by decide +kernel) (pa_cons pe_int (pa_cons (pe_callB call_len_seq (by rfl) T.len PySem.boot_len (pa_cons (pv 0) pa_nil)) pa_nil)))) pa_nil)) (pg_name (i := 1) sc_law.nd rfl (Or.inl rfl))
        (pss_cons (ps_set (i := 2) sc_law.nd rfl (Or.inl rfl) (pe_fn (E := E0) h_law_begun.G hgd (hr.mono (by decide)) (by rfl) h_law_begun.gm h_law_begun.kp h_law_begun.b (pa_cons (pv 0) (pa_cons (pv 1) pa_nil))))
        (pss_cons (ps_set (i := 3) sc_law.nd rfl (Or.inl rfl) (pe_fn (E := E0) h_law_formula.G hgd (hr.mono (by decide)) (by rfl) h_law_formula.gm h_law_formula.kp h_law_formula.b (pa_cons (pv 2) (pa_cons pe_int pa_nil))))
        (pss_cons (ps_set (i := 4) sc_law.nd rfl (Or.inl rfl) (pe_fn (E := E0) h_law_plain.G hgd (hr.mono (by decide)) (by rfl) h_law_plain.gm h_law_plain.kp h_law_plain.b (pa_cons (pv 3) pa_nil)))
        (pss_cons (ps_if (pt_not (pt_val (pe_fn (E := E0) h_law_like.G hgd (hr.mono (by decide)) (by rfl) h_law_like.gm h_law_like.kp h_law_like.b (pa_cons (pe_lst (pa_cons (pe_fn (E := E0) h_plain.G hgd (hr.mono (by decide)) (by rfl) h_plain.gm h_plain.kp h_plain.b (pa_cons (pv 3) pa_nil)) (pa_cons (pe_fnk (E := E0) h_plain.G hgd (hr.mono (by decide)) (by rfl) h_plain.gm h_plain.kp kb_plain_formula (pk_cons (pv 3) pk_nil)) (pa_cons (pe_fn (E := E0) h_plain.G hgd (hr.mono (by decide)) (by rfl) h_plain.gm h_plain.kp h_plain.b (pa_cons (pv 4) pa_nil)) pa_nil)))) (pa_cons (pe_lst (pa_cons (pv 4) (pa_cons (pv 4) (pa_cons (pv 4) pa_nil)))) pa_nil))))) (pss_one (ps_ret pe_bl)) pss_nil)
        (pss_cons (ps_if (pt_not (pt_val (pe_fn (E := E0) h_law_like.G hgd (hr.mono (by decide)) (by rfl) h_law_like.gm h_law_like.kp h_law_like.b (pa_cons (pe_lst (pa_cons (pe_fn (E := E0) h_is_plain.G hgd (hr.mono (by decide)) (by rfl) h_is_plain.gm h_is_plain.kp h_is_plain.b (pa_cons (pv 3) pa_nil)) (pa_cons (pe_fn (E := E0) h_is_plain.G hgd (hr.mono (by decide)) (by rfl) h_is_plain.gm h_is_plain.kp h_is_plain.b (pa_cons (pv 4) pa_nil)) pa_nil))) (pa_cons (pe_lst (pa_cons (pe_cmpR (op_eqD hr.units) (pv 3) (pv 4) (nomark _)) (pa_cons pe_bl pa_nil))) pa_nil))))) (pss_one (ps_ret pe_bl)) pss_nil)
        (pss_cons (ps_set (i := 5) sc_law.nd rfl (Or.inl rfl) (pe_fn (E := E0) h_law_nested.G hgd (hr.mono (by decide)) (by rfl) h_law_nested.gm h_law_nested.kp h_law_nested.b (pa_cons (pv 2) (pa_cons (pv 3) pa_nil))))
        (pss_cons (ps_if (pt_not (pt_val (pe_fn (E := E0) h_law_like.G hgd (hr.mono (by decide)) (by rfl) h_law_like.gm h_law_like.kp h_law_like.b (pa_cons (pe_lst (pa_cons (pe_fn (E := E0) h_plain.G hgd (hr.mono (by decide)) (by rfl) h_plain.gm h_plain.kp h_plain.b (pa_cons (pv 5) pa_nil)) (pa_cons (pe_fnk (E := E0) h_is_plain.G hgd (hr.mono (by decide)) (by rfl) h_is_plain.gm h_is_plain.kp kb_is_plain_formula (pk_cons (pv 5) pk_nil)) pa_nil))) (pa_cons (pe_lst (pa_cons (pv 4) (pa_cons pe_bl pa_nil))) pa_nil))))) (pss_one (ps_ret pe_bl)) pss_nil)
        (pss_cons (ps_setLc (i := 6) (own := [("path", 8), ("part", 9), ("level", 10)]) (g := gTup K 3 (gCons (gName 8) (gCons (gName 9) (gCons (gName 10) gNil)))) rfl sc_law.nd rfl rfl (sw_true rfl rfl rfl (by decide +kernel)) (pi_list (pe_fn (E := E0) h_law_levels.G hgd (hr.mono (by decide)) (by rfl) h_law_levels.gm h_law_levels.kp h_law_levels.b (pa_cons (pv 3) (pa_cons pe_int (pa_cons (pe_tup pa_nil) pa_nil))))) (blkOk_by (own := [("path", 8), ("part", 9), ("level", 10)]) (N := n_law) (sc := defScope s_law) (by decide +kernel)) (fun _ _ _ _ _ => (pg_tup rfl (pgs_cons (pg_name (i := 8) sc_law.nd rfl (Or.inl rfl)) (pgs_cons (pg_name (i := 9) sc_law.nd rfl (Or.inl rfl)) (pgs_cons (pg_name (i := 10) sc_law.nd rfl (Or.inl rfl)) pgs_nil))))) (fun _ _ _ _ _ => (pts_one (pt_cmpR op_eq (pe_ix (ix_tupK (K := K) rfl) (pv 9) pe_int (fun _ _ => rfl)) pe_str (nomark _)))) (fun _ _ _ _ _ => (pv 8)))
        (pss_one (ps_if (pt_not (pt_val (pe_fn (E := E0) h_law_like.G hgd (hr.mono (by decide)) (by rfl) h_law_like.gm h_law_like.kp h_law_like.b (pa_cons (pe_fnk (E := E0) h_table_path.G hgd (hr.mono (by decide)) (by rfl) h_table_path.gm h_table_path.kp kb_table_path_formula (pk_cons (pv 3) pk_nil)) (pa_cons (pe_ifExp (pt_cmpR (op_neD hr.units) (pv 6) (pe_lst pa_nil) (nomark _)) (pe_ix (ix_listK (K := K) rfl) (pv 6) pe_int (fun _ _ => rfl)) pe_non) pa_nil))))) (pss_one (ps_ret pe_bl)) pss_nil)))))))))))
        (pss_cons (ps_set (i := 7) sc_law.nd rfl (Or.inl rfl) (pe_tup (pa_cons pe_str (pa_cons (pe_tup (pa_cons pe_str (pa_cons (pe_tup (pa_cons pe_str (pa_cons (pe_tup (pa_cons pe_str (pa_cons pe_str pa_nil))) pa_nil))) (pa_cons (pe_tup (pa_cons pe_str (pa_cons (pe_tup (pa_cons pe_str (pa_cons (pe_tup (pa_cons pe_str (pa_cons pe_str pa_nil))) (pa_cons (pe_tup (pa_cons pe_str (pa_cons pe_str pa_nil))) pa_nil)))) pa_nil))) pa_nil)))) pa_nil))))
        (pss_one (ps_ret (pe_fn (E := E0) h_law_like.G hgd (hr.mono (by decide)) (by rfl) h_law_like.gm h_law_like.kp h_law_like.b (pa_cons (pe_fn (E := E0) h_plain.G hgd (hr.mono (by decide)) (by rfl) h_plain.gm h_plain.kp h_plain.b (pa_cons (pv 7) pa_nil)) (pa_cons (pe_tup (pa_cons pe_str (pa_cons (pe_tup (pa_cons pe_str (pa_cons (pe_tup (pa_cons pe_str (pa_cons pe_str pa_nil))) (pa_cons (pe_tup (pa_cons pe_str (pa_cons pe_str pa_nil))) (pa_cons (pe_tup (pa_cons pe_str (pa_cons pe_str pa_nil))) pa_nil))))) pa_nil))) pa_nil))))))), ?_⟩)⟩
  obtain ⟨a, sc, rfl, hl, hsc, q⟩ := h
  have he : EnvOk (scL K a sc) (fun _ => False) (L2.start n_law [V.ref a]) H (some mark :: none :: none :: List.replicate 8 none) := ⟨rfl, fun i d e => by
    match i, e with
    | 0, e =>
      have e1 : mark = d := Option.some.inj (Option.some.inj e)
      subst e1
      exact ⟨_, rfl, .inl ⟨rfl, rfl⟩⟩
    | 1, e => cases e
    | 2, e => cases e
    | i + 3, e =>
      have e : (List.replicate 8 (none : Option PyData))[i]? = some (some d) := e
      rw [List.getElem?_replicate] at e
      split at e <;> cases e⟩
  have hi : Inn (fun _ => False) H := fun b z => z.elim
  refine (?run : SG (scL K a sc) 0 _ (some mark :: none :: none :: List.replicate 8 none) (fun _ => False) (fun d => d = .bool true)) (fun _ => False) _ H hi he hsc _ (fun σ' H' G r e z => z.elim) fun v d H' r hd e => ?_
  case run =>
    refine sg_seq (N1 := fun G => ∃ x1, G = some mark :: x1 :: none :: List.replicate 8 none) (sg_for (js := [1]) (fun i G => ∃ x1, G = some mark :: x1 :: none :: List.replicate 8 none) (wk_rng1 (j := 2 + min 2 (sc.length : Int)) (ea_cons (eg_add eg_int (eg_cb (ea_cons eg_int (ea_cons (cs_lenS (i := 0) rfl) ea_nil)) cs_min)) ea_nil) (by omega)) ⟨none, rfl⟩ ?_ fun G h => h) ?_
    · rintro i d G hd ⟨x1, rfl⟩
      have hdi : d = .int (0 + (i : Int)) := rng_at hd
      have hi4 : i < 4 := by
        have h1 := (List.getElem?_eq_some_iff.mp hd).1
        rw [rng_len] at h1
        omega
      rw [Int.zero_add] at hdi
      subst hdi
      generalize hC : cost 4 = Cn
      have hCn : Cn ≤ 100000 := by rw [← hC]; decide
      refine ⟨_, tg_name, SG.mono (sg_begunR (k := i) (j := 8) (n := Cn + (0 + (0 + (0 + (1 + (0 + (0 + 0))))))) (by omega) hl (by omega) fun p c ns hns => ?_) (Nat.le_refl _) (fun G e => ⟨none, e⟩) fun d h => h⟩
      have hS : SM (mL K p c ns) := ⟨K, p, c, ns, hns, rfl⟩
      refine sk_asgG (P := Fd 4) (by decide) (by rw [← hC]; exact eg_callM (L := mL K p c ns) hS (3 : Nat) (ea_cons (eg_var (i := 2) rfl) (ea_cons eg_int ea_nil)) (show 3 < 4 by decide)) ?_
      intro d hF
      have hG : Gr 40 d := Gq.mono (by decide) (fd_gr hF)
      have hbd : bd 40 d = true := bd_mono (by decide) (bw_bd (k := 10) (by decide) (fd_bw hF))
      have hnd := bd_nd hbd
      have hb : d.bulk ≤ 560 := Nat.le_trans (fd_bulk hF) (by decide)
      obtain ⟨hPl, _, hPb⟩ := fd_pf hF (by decide) 40 (by decide)
      have hbP := hPb 40 hbd
      have hbkP : (PF 40 d).bulk ≤ 560 := Nat.le_trans (pf_bulk hG) hb
      have hPP : PF 40 (PF 40 d) = PF 40 d := pl_pf hPl
      have hsd := bd_shaped hbd (by decide)
      generalize hP : PF 40 d = P at hPl hbP hbkP hPP
      have hndP := bd_nd hbP
      have hsP := bd_shaped hbP (by decide)
      have hGP : Gr 40 P := hPl.gr
      have hs3 : Shb (3 * (560 + 1)) (48 + 1) (.list [P, P, P]) := shb_lst (fun x hx => by
        have e : x = P := by simpa using hx
        rw [e]
        exact bd_shb hbP hbkP) (by simp)
      have okd : Gr 40 d ∧ d.hasDict = false ∧ d.bulk ≤ 16000 := ⟨hG, hnd, Nat.le_trans hb (by decide)⟩
      have okP : Gr 40 P ∧ P.hasDict = false ∧ P.bulk ≤ 16000 := ⟨hGP, hndP, Nat.le_trans hbkP (by decide)⟩
      have pl3 : ∀ {Γ : List (Option PyData)}, Γ[3]? = some (some d) → EvD (mL K p c ns) (tCall (sp_plain K 40) [] E0 (tCons (tVar 3) tNil)) Γ P := fun e => EvD.to (d := PF 40 d) (eg_callR (L := mL K p c ns) d (ea_cons (eg_var e) ea_nil) okd (hd_nomk hnd)) hP
      have pk3 : ∀ {Γ : List (Option PyData)}, Γ[3]? = some (some d) → EvD (mL K p c ns) (tCallK (sp_plain K 40) g1 E0 tNil (tCons (tVar 3) tNil)) Γ P := fun e => EvD.to (d := PF 40 d) (eg_callRK (L := mL K p c ns) d (ea_cons (eg_var e) ea_nil) gk1 okd (hd_nomk hnd)) hP
      have pl4 : ∀ {Γ : List (Option PyData)}, Γ[4]? = some (some P) → EvD (mL K p c ns) (tCall (sp_plain K 40) [] E0 (tCons (tVar 4) tNil)) Γ P := fun e => EvD.to (d := PF 40 P) (eg_callR (L := mL K p c ns) P (ea_cons (eg_var e) ea_nil) okP (hd_nomk hndP)) hPP
      show SK (mL K p c ns) 0 (V.ref a) (0 + (0 + (0 + (1 + (0 + (0 + 0)))))) _ [none, none, some mark, some d, none, none, none, none, none, none, none] _
      refine sk_asgG (P := fun x => x = P) (by decide) (EvD.to (d := PF 40 d) (eg_callR (L := mL K p c ns) d (ea_cons (eg_var (i := 3) rfl) ea_nil) okd (hd_nomk hnd)) hP) ?_
      intro x ex
      rw [ex]
      show SK (mL K p c ns) 0 (V.ref a) (0 + (0 + (1 + (0 + (0 + 0))))) _ [none, none, some mark, some d, some P, none, none, none, none, none, none] _
      refine sk_ifq (et_G (et_is (et_not (et_B (eg_callR (L := mL K p c ns) (.list [P, P, P]) (ea_cons (eg_lst (ea_cons (pl3 rfl) (ea_cons (pk3 rfl) (ea_cons (pl4 rfl) ea_nil))) (nm3 hndP)) (ea_cons (eg_lst (ea_cons (eg_var (i := 4) rfl) (ea_cons (eg_var (i := 4) rfl) (ea_cons (eg_var (i := 4) rfl) ea_nil))) (nm3 hndP)) ea_nil)) (hs3.sha (by decide) (by decide))))) rfl)) ?_
      have he1 : PyData.eqv P P = true := PySem.SeqAt.eqv_refl P (bd_all 40 P hbP).1
      have okI : Gr 40 d ∧ d.hasDict = false ∧ d.bulk ≤ 16000 ∧ SeqAt.shaped d = true ∧ SeqAt.shaped (PF 40 d) = true := ⟨hG, hnd, okd.2.2, hsd, by rw [hP]; exact hsP⟩
      have okJ : Gr 40 P ∧ P.hasDict = false ∧ P.bulk ≤ 16000 ∧ SeqAt.shaped P = true ∧ SeqAt.shaped (PF 40 P) = true := ⟨hGP, hndP, okP.2.2, hsP, by rw [hPP]; exact hsP⟩
      have ip3 : ∀ {Γ : List (Option PyData)}, Γ[3]? = some (some d) → EvD (mL K p c ns) (tCall (sp_is_plain K) [] E0 (tCons (tVar 3) tNil)) Γ (.bool (PyData.eqv d P)) := fun e => EvD.to (d := .bool (PyData.eqv (PF 40 d) d)) (eg_callR (L := mL K p c ns) d (ea_cons (eg_var e) ea_nil) okI (hd_nomk hnd)) (by rw [hP, PySem.W.eqv_comm])
      have ip4 : ∀ {Γ : List (Option PyData)}, Γ[4]? = some (some P) → EvD (mL K p c ns) (tCall (sp_is_plain K) [] E0 (tCons (tVar 4) tNil)) Γ (.bool true) := fun e => EvD.to (d := .bool (PyData.eqv (PF 40 P) P)) (eg_callR (L := mL K p c ns) P (ea_cons (eg_var e) ea_nil) okJ (hd_nomk hndP)) (by rw [hPP, he1])
      have hs2 : ∀ x y : Bool, Shb (2 * (0 + 1)) (0 + 1) (.list [.bool x, .bool y]) := fun x y => shb_lst (fun z hz => by
        rcases List.mem_cons.mp hz with rfl | hz
        · exact bool_shb x
        · rw [List.mem_singleton.mp hz]
          exact bool_shb y) (by simp)
      refine sk_ifq (et_G (et_is (et_not (et_B (eg_callR (L := mL K p c ns) (.list [.bool (PyData.eqv d P), .bool true]) (ea_cons (eg_lst (ea_cons (ip3 rfl) (ea_cons (ip4 rfl) ea_nil))) (ea_cons (eg_lst (ea_cons (eg_eqD (eg_var (i := 3) rfl) (eg_var (i := 4) rfl) (hd_ne hnd) (hd_ne hndP) hsd hsP) (ea_cons eg_bl ea_nil))) ea_nil)) ((hs2 _ _).sha (by decide) (by decide))))) rfl)) ?_
      refine sk_asgG (P := Nst d) (by decide) (eg_callM (L := mL K p c ns) hS d (ea_cons (eg_var (i := 2) rfl) (ea_cons (eg_var (i := 3) rfl) ea_nil)) hF) ?_
      intro x hx
      obtain ⟨x1, x2, x3, x4, x5, x6⟩ := nst_ok hF hx
      rw [hP] at x5 x6
      have hsx := bd_shaped x4 (by decide)
      have okX : Gr 40 x ∧ x.hasDict = false ∧ x.bulk ≤ 16000 := ⟨x1, x2, x3⟩
      have okY : Gr 40 x ∧ x.hasDict = false ∧ x.bulk ≤ 16000 ∧ SeqAt.shaped x = true ∧ SeqAt.shaped (PF 40 x) = true := ⟨x1, x2, x3, hsx, by rw [x5]; exact hsP⟩
      show SK (mL K p c ns) 0 (V.ref a) (0 + (0 + 0)) _ [none, none, some mark, some d, some P, some x, none, none, none, none, none] _
      have pl5 : ∀ {Γ : List (Option PyData)}, Γ[5]? = some (some x) → EvD (mL K p c ns) (tCall (sp_plain K 40) [] E0 (tCons (tVar 5) tNil)) Γ P := fun e => EvD.to (d := PF 40 x) (eg_callR (L := mL K p c ns) x (ea_cons (eg_var e) ea_nil) okX (hd_nomk x2)) x5
      have ip5 : ∀ {Γ : List (Option PyData)}, Γ[5]? = some (some x) → EvD (mL K p c ns) (tCallK (sp_is_plain K) g1 E0 tNil (tCons (tVar 5) tNil)) Γ (.bool false) := fun e => EvD.to (d := .bool (PyData.eqv (PF 40 x) x)) (eg_callRK (L := mL K p c ns) x (ea_cons (eg_var e) ea_nil) gk1 okY (hd_nomk x2)) (by rw [x5, x6])
      have hs4 : Shb (2 * (560 + 1)) (48 + 1) (.list [P, .bool false]) := shb_lst (fun z hz => by
        rcases List.mem_cons.mp hz with rfl | hz
        · exact bd_shb hbP hbkP
        · rw [List.mem_singleton.mp hz]
          exact (bool_shb false).mono (by decide) (by decide)) (by simp)
      refine sk_ifq (et_G (et_is (et_not (et_B (eg_callR (L := mL K p c ns) (.list [P, .bool false]) (ea_cons (eg_lst (ea_cons (pl5 rfl) (ea_cons (ip5 rfl) ea_nil)) (nm2 hndP)) (ea_cons (eg_lst (ea_cons (eg_var (i := 4) rfl) (ea_cons eg_bl ea_nil)) (nm2 hndP)) ea_nil)) (hs4.sha (by decide) (by decide))))) rfl)) ?_
      have hgd : Gd 40 d := Gq.gd hG
      have hW : W 40 d ≤ 90000 := Nat.le_trans (W_le 40 d) (by omega)
      generalize hrows : walkR 40 [] d 0 = rows
      have hwl : walkF 40 [] d 0 = rows.map Rw.enc := by rw [walk_enc, hrows]
      have hrl : rows.length ≤ 1000 := by
        rw [← hrows, walkR_len]
        exact Nat.le_trans (W_le 40 d) (by omega)
      have hform : ∀ r ∈ rows, ∃ (w : Str) (l : List PyData), r.d = .tuple (.str w :: l) ∧ tabRow r = if w = "table" then some r.p else none := fun r hr => row_form hgd hbd (by rw [hrows]; exact hr)
      let keep : Nat → Bool := fun i => match rows[i]? with
        | some r => (tabRow r).isSome
        | none => false
      let res : Nat → PyData := fun i => match rows[i]? with
        | some r => tI r.p
        | none => .none
      have hfil : fil keep res (rows.map Rw.enc).length = (rows.filterMap tabRow).map tI := by
        rw [List.length_map]
        refine fil_rows (fun i r hr => ?_) fun i r hr => ?_
        · show (match rows[i]? with | some r => (tabRow r).isSome | none => false) = _
          rw [hr]
        · show (match rows[i]? with | some r => tI r.p | none => .none) = _
          rw [hr]
      have lv3 : ∀ {Γ : List (Option PyData)}, Γ[3]? = some (some d) → EvD (mL K p c ns) (tCall (sp_law_levels K 40) [] E0 (tCons (tVar 3) (tCons (tC (.int 0)) (tCons (tTup tNil) tNil)))) Γ (.list (rows.map Rw.enc)) := fun e => EvD.to (d := .list (walkF 40 [] d 0)) (eg_callR (L := mL K p c ns) (⟨[], d, 0⟩ : PDL) (ea_cons (eg_var e) (ea_cons eg_int (ea_cons (eg_tup ea_nil) ea_nil))) ⟨hgd, hbd, hW, (show 0 + 4 * 40 ≤ 1000 by decide)⟩ (nomk_c hnd rfl)) (by rw [hwl])
      refine sk_asgG (P := fun z => z = .list ((rows.filterMap tabRow).map tI)) (by decide) ((eg_lcTD (L := mL K p c ns) (js := [8, 9, 10]) (items := rows.map Rw.enc) (keep := keep) (res := res) (wk_list (lv3 rfl)) (by simp) (by rw [List.length_map]; omega) ?_).to (by rw [hfil])) ?_
      · intro i e he
        obtain ⟨r, hr, hrm, rfl⟩ := map_at (enc := Rw.enc) he
        obtain ⟨w, l, er, et⟩ := hform r hrm
        have hk : keep i = decide (w = "table") := by
          show (match rows[i]? with | some r => (tabRow r).isSome | none => false) = _
          rw [hr]
          show (tabRow r).isSome = _
          rw [et]
          by_cases hw : w = "table"
          · rw [if_pos hw, decide_eq_true hw]; rfl
          · rw [if_neg hw, decide_eq_false hw]; rfl
        have hv : res i = tI r.p := by
          show (match rows[i]? with | some r => tI r.p | none => .none) = _
          rw [hr]
        refine ⟨_, tg_three, et_is (et_test (eg_eqS (eg_ixT (L := mL K p c ns) ((eg_var (i := 9) rfl).to er) eg_int (atI_zero _ _)) eg_str)) hk.symm, fun _ => ⟨?_, by rw [hv]; intro z; cases z⟩⟩
        rw [hv]
        exact eg_var (i := 8) rfl
      intro z ez
      rw [ez]
      show SK (mL K p c ns) 0 (V.ref a) 0 _ [none, none, some mark, some d, some P, some x, some (.list ((rows.filterMap tabRow).map tI)), none, none, none, none] _
      have tp3 : ∀ {Γ : List (Option PyData)}, Γ[3]? = some (some d) → EvD (mL K p c ns) (tCallK (sp_table_path K) g1 E0 tNil (tCons (tVar 3) tNil)) Γ (optP (rows.findSome? tabRow)) := fun e => EvD.to (d := optP ((walkR 40 [] d 0).findSome? tabRow)) (eg_callRK (L := mL K p c ns) d (ea_cons (eg_var e) ea_nil) gk1 ⟨hgd, hbd, hW⟩ (hd_nomk hnd)) (by rw [hrows])
      have hopt : ShA (optP (rows.findSome? tabRow)) := by
        cases ho : rows.findSome? tabRow with
        | none => exact none_sha
        | some o =>
          obtain ⟨r, hrm, hr⟩ := List.exists_of_findSome?_eq_some ho
          obtain ⟨q', e1, e2⟩ := walk_at 40 [] d 0 hgd r (by rw [hrows]; exact hrm)
          have e3 : o = r.p := by
            unfold tabRow at hr
            split at hr
            · exact (Option.some.inj hr).symm
            · cases hr
          rw [e3, e1]
          exact path_sha e2 (by omega)
      refine sk_ifn (et_G (et_is (et_not (et_B (eg_callR (L := mL K p c ns) (optP (rows.findSome? tabRow)) (ea_cons (tp3 rfl) (ea_cons (eg_if (et_test (eg_neNilD (eg_var (i := 6) rfl) (tIs_shaped _))) (fun h => ?_) fun h => ?_) ea_nil)) hopt (nm_opt _)))) rfl)) rfl
      · rw [fs_head]
        cases hf : rows.filterMap tabRow with
        | nil => rw [hf] at h; cases h
        | cons o os =>
          exact eg_ixL (L := mL K p c ns) (eg_var (i := 6) rfl) eg_int (atI_zero _ _)
      · rw [fs_head]
        cases hf : rows.filterMap tabRow with
        | nil => exact eg_non
        | cons o os => rw [hf] at h; cases h
    · rintro G ⟨x1, rfl⟩
      show SG (scL K a sc) 0 _ [some mark, x1, none, none, none, none, none, none, none, none, none] _ _
      refine sq_asg (i := 7) (d := oneD) (eg_tup (ea_cons eg_str (ea_cons (eg_tup (ea_cons eg_str (ea_cons (eg_tup (ea_cons eg_str (ea_cons (eg_tup (ea_cons eg_str (ea_cons eg_str ea_nil))) ea_nil))) (ea_cons (eg_tup (ea_cons eg_str (ea_cons (eg_tup (ea_cons eg_str (ea_cons (eg_tup (ea_cons eg_str (ea_cons eg_str ea_nil))) (ea_cons (eg_tup (ea_cons eg_str (ea_cons eg_str ea_nil))) ea_nil)))) ea_nil))) ea_nil)))) ea_nil))) ?_
      exact sg_ret (eg_callR (L := scL K a sc) litD (ea_cons (EvD.to (d := PF 40 oneD) (eg_callR (L := scL K a sc) oneD (ea_cons (eg_var (i := 7) rfl) ea_nil) ⟨one_gr, (by decide +kernel), (by decide +kernel)⟩) one_pf) (ea_cons (eg_tup (ea_cons eg_str (ea_cons (eg_tup (ea_cons eg_str (ea_cons (eg_tup (ea_cons eg_str (ea_cons eg_str ea_nil))) (ea_cons (eg_tup (ea_cons eg_str (ea_cons eg_str ea_nil))) (ea_cons (eg_tup (ea_cons eg_str (ea_cons eg_str ea_nil))) ea_nil))))) ea_nil))) ea_nil)) lit_sha) rfl
  · subst e
    obtain rfl := hd.bool
    exact q H'

end V1
set_option Elab.async false
set_option linter.all false
set_option maxRecDepth 100000
set_option maxHeartbeats 0
namespace V1
open PySem PySem.Spec PyProof.Rows L2
def topS (i : Nat) : Stmt := PySem.Challenge.pw_everyfont_k42_whole_plain_forms.main.body.getD i (.Pass ⟨0, 0, 0, 0⟩)
def nmS (st : Stmt) : Str := match st with | .FunctionDef n _ _ _ _ _ _ _ _ _ => n | _ => ""
def defAt (i : Nat) : He.DefD := ⟨(nmS (topS i), none), nmS (topS i), nmS (topS i), defArgs (topS i), defBody (topS i), defScope (topS i), [], []⟩
def fnH : List He.DefD := [3, 4, 5, 6, 7, 8, 9, 11, 12, 13, 15, 16, 17, 18, 19, 20, 21, 22, 23, 24].map defAt
def faH : List He.Fa := fnH.map (fun d => He.Fa.glo d.name) ++ [.free "len", .free "abs", .free "sum", .free "min", .free "max", .free "repr", .free "int", .free "bool", .free "tuple", .free "zip", .free "enumerate", .free "range", .free "isinstance", .free "str", .free "list", .free "all", .free "set", .free "sorted", .glo "WITH_SIGN", .glo "WITH_SCRIPTS"]
abbrev RH : PySem.W.OpenRow := PySem.W.OpenLaw.row PySem.Challenge.rw_everyfont_k42_whole_plain_forms
/-- the tuple at an address -/
def tupA (K : PySem.W.Frag) (a : Addr) (vs : List V) : Bool := match K.lookup a with
  | some ⟨.type c, _, .seq its _, _⟩ => decide (c = "tuple") && (decide (its.size ≤ sizeLine) && He.relAll vs its.toList)
  | _ => false
theorem tupA_ok {K : PySem.W.Frag} {a : Addr} {vs : List V} (h : tupA K a vs = true) (H : Hp) : SqT K H a vs := by
  unfold tupA at h
  cases q : K.lookup a with
  | none =>
    rw [q] at h
    cases h
  | some o =>
    obtain ⟨oc, od, dt, osl⟩ := o
    rw [q] at h
    cases oc with
    | type c =>
      cases dt with
      | seq its n =>
        obtain ⟨h1, h2⟩ := He.ba (show (decide (c = "tuple") && (decide (its.size ≤ sizeLine) && He.relAll vs its.toList)) = true from h)
        obtain ⟨h3, h4⟩ := He.ba h2
        exact .inr ⟨_, its, n, q, congrArg Value.type (of_decide_eq_true h1), rfl, of_decide_eq_true h3, He.relAll_ok h4⟩
      | _ => cases h
    | _ => cases dt <;> cases h
def strV (l : List Str) : List V := l.map V.str
def obsB (K : PySem.W.Frag) : Bool := tupA K (He.ga K "WITH_SIGN") (strV ["sign", "under", "upper", "limits"]) && (tupA K (He.ga K "WITH_SCRIPTS") (strV ["high", "low", "both", "under", "upper", "limits"]))
def tabsH : List He.Tab := []
abbrev AlM : Type := Bool × He.AlT
def obsM (K : PySem.W.Frag) : AlM := (obsB K, He.obsT faH fnH tabsH K)
def valM (w : World) : AlM := (true, He.valT fnH tabsH w)
def obsMG (g : Addr → Option Obj) : AlM := obsM (He.frG g (He.asD g 5))
def hkM : PySem.W.Hook where
  α := AlM
  obs := fun s => obsMG s.heap.get?
  val := valM
  says := fun w h => ∃ K : PySem.W.Frag, K.In h ∧ obsM K = valM w
  of := fun _ _ e => ⟨_, He.frG_in, e⟩
  keeps := fun _ _ _ ⟨K, hK, c⟩ k => ⟨K, PySem.W.Frag.In.keeps hK k, c⟩
def obM (s : PySem.W.SharedT) : AlM := obsMG (HandSHeadRun.getT s)
theorem obM_eq (s : PySem.W.SharedT) : obM s = hkM.obs s.abs := by
  have e : HandSHeadRun.getT s = s.abs.heap.get? := funext fun a => HandSHeadRun.getT_eq s a
  unfold obM
  rw [e]
  rfl
def looseM : List Str := (["__name__", "WITH_SIGN", "WITH_SCRIPTS"] : List Str) ++ (fnH.map He.DefD.name).filter fun x => x != ("law" : Str)
end V1
set_option Elab.async false
set_option linter.all false
set_option maxRecDepth 100000
set_option maxHeartbeats 0
namespace V1
open PySem PySem.W PySem.Spec PyProof.Rows L2
abbrev qM : Program := view RH.prog [24]
theorem runM (w : World) : HandSHeadRun.RunEq RH qM hkM obM 4000 looseM w := by
  intro os
  kernel_rfl
end V1
set_option Elab.async false
set_option linter.all false
set_option maxRecDepth 100000
set_option maxHeartbeats 4000000
/-! All defs together. -/
namespace V1
open PySem PySem.Spec PyProof.Rows L2

theorem fun_of {K : PySem.W.Frag} {x qual : Str} {st : Stmt} {f : Addr} {fd : FuncData} (F : FunD K x qual (defArgs st) (defBody st) (defScope st) [] [] f fd) : Fun K x qual st f fd := by
  obtain ⟨oc, od, dV, kV, doc, pm, an, cdv, ct, osl, rfl, lk, hcd, hD, hK⟩ := F.ex
  rcases hD with ⟨_, rfl⟩ | ⟨e, _⟩
  · exact ⟨⟨oc, od, kV, doc, pm, an, cdv, ct, osl, rfl, lk, hcd⟩, F.kp⟩
  · exact absurd rfl e
theorem df_of {K : PySem.W.Frag} {mg : Str → Option Value} {h : Heap} {x : Str} {st : Stmt} {ps : List Str} (X : K.In h) (G : h.Ns mainGlobals mg) (c : He.SaysD faH fnH K) (i : Nat) (hd : fnH[i]? = some ⟨(x, none), x, x, defArgs st, defBody st, defScope st, [], []⟩) (hf : faH[i]? = some (.glo x))
    (hb : ∀ (kV doc pm : Value) (an : Option Addr) (cdv ct : Value) (us : List Value), us.length = ps.length → bindArgs (PySem.W.fnOf x x (defArgs st) (defBody st) (defScope st) .none kV doc pm an cdv ct) ⟨us, []⟩ = pure (ps.zip us)) :
    ∃ fd, Df K mg x st ps (He.ga K x) fd ∧ ∀ (s : Shared) (us : List Value), us.length = ps.length → BindsTo s fd ⟨us, []⟩ (ps.zip us) := by
  obtain ⟨fd, F⟩ := c.def_ i hd
  exact ⟨fd, ⟨He.glo_ok X G (c.fact i hf), fun_of F, FunD.bindsN F hb⟩, FunD.bindsA F hb⟩
theorem bt_of {K : PySem.W.Frag} {mg : Str → Option Value} {h : Heap} (X : K.In h) (G : h.Ns mainGlobals mg) (c2 : He.SaysD faH fnH K) : Bt K mg :=
  ⟨He.free_ok X G (c2.fact 20 (f := .free "len") rfl), He.free_ok X G (c2.fact 21 (f := .free "abs") rfl), He.free_ok X G (c2.fact 22 (f := .free "sum") rfl), He.free_ok X G (c2.fact 23 (f := .free "min") rfl), He.free_ok X G (c2.fact 24 (f := .free "max") rfl), He.free_ok X G (c2.fact 25 (f := .free "repr") rfl), He.free_ok X G (c2.fact 26 (f := .free "int") rfl), He.free_ok X G (c2.fact 27 (f := .free "bool") rfl), He.free_ok X G (c2.fact 28 (f := .free "tuple") rfl), He.free_ok X G (c2.fact 29 (f := .free "zip") rfl), He.free_ok X G (c2.fact 30 (f := .free "enumerate") rfl), He.free_ok X G (c2.fact 31 (f := .free "range") rfl), He.free_ok X G (c2.fact 32 (f := .free "isinstance") rfl), He.free_ok X G (c2.fact 33 (f := .free "str") rfl), He.free_ok X G (c2.fact 34 (f := .free "list") rfl), He.free_ok X G (c2.fact 35 (f := .free "all") rfl), He.free_ok X G (c2.fact 36 (f := .free "set") rfl), He.free_ok X G (c2.fact 37 (f := .free "sorted") rfl)⟩
theorem cst_of {K : PySem.W.Frag} {w : World} {mg : Str → Option Value} {h : Heap} (X : K.In h) (G : h.Ns mainGlobals mg) (c : obsM K = valM w) : Nonempty (Cst K w mg) := by
  have c0 : He.SaysT faH fnH tabsH w K := congrArg Prod.snd c
  have c2 : He.SaysD faH fnH K := c0.d
  have cb : obsB K = true := congrArg Prod.fst c
  obtain ⟨c_ws, cb⟩ := He.ba cb
  have c_sc := cb
  exact ⟨{ ws := He.ga K "WITH_SIGN", sc := He.ga K "WITH_SCRIPTS", h_WITH_SIGN := He.glo_ok X G (c2.fact 38 (f := .glo "WITH_SIGN") rfl), h_WITH_SCRIPTS := He.glo_ok X G (c2.fact 39 (f := .glo "WITH_SCRIPTS") rfl), s_ws := fun H => tupA_ok c_ws H, s_sc := fun H => tupA_ok c_sc H }⟩
theorem cal0 {P : Program} {w : World} {K : PySem.W.Frag} {mg : Str → Option Value} {base : Heap} {x : Str} {st : Stmt} {ps : List Str} {k : Nat} {sp : Sp} {f : Addr} {fd : FuncData} (D : Df K mg x st ps f fd) (h : ∀ vs H Q E, sp vs H Q E → False) : Cal P w K mg base x st ps k sp f fd :=
  ⟨D.gm, D.F, D.b, ⟨fun _ _ _ _ z => (h _ _ _ _ z).elim, fun _ _ _ _ _ _ _ _ _ _ _ _ _ _ z => (h _ _ _ _ z).elim⟩⟩
theorem all_ok {P : Program} {w : World} {K : PySem.W.Frag} {mg : Str → Option Value} {h : Heap} {f : Addr} (X : K.In h) (G : h.Ns mainGlobals mg) (hfa : mg ("law" : Str) = some (.ref f)) (c : obsM K = valM w) :
    ∃ fd : FuncData, (∀ (s : Shared) (u : Value), BindsTo s fd ⟨[u], []⟩ [("script", u)]) ∧ ∀ base : Heap, FnG P w K mg base 47 f fd ["script"] (sp_law K) := by
  have c0 : He.SaysT faH fnH tabsH w K := congrArg Prod.snd c
  have c2 : He.SaysD faH fnH K := c0.d
  have T := bt_of X G c2
  obtain ⟨C⟩ := cst_of X G c
  obtain ⟨d_ways_down, D_ways_down, b_ways_down⟩ := df_of (x := "ways_down") (st := s_ways_down) (ps := ["formula"]) X G c2 0 rfl rfl fun _ _ _ _ _ _ us hl => match us, hl with | [_], _ => rfl
  obtain ⟨d_thing_at, D_thing_at, b_thing_at⟩ := df_of (x := "thing_at") (st := s_thing_at) (ps := ["value", "path"]) X G c2 1 rfl rfl fun _ _ _ _ _ _ us hl => match us, hl with | [_, _], _ => rfl
  obtain ⟨d_level_below, D_level_below, b_level_below⟩ := df_of (x := "level_below") (st := s_level_below) (ps := ["formula", "level", "way"]) X G c2 2 rfl rfl fun _ _ _ _ _ _ us hl => match us, hl with | [_, _, _], _ => rfl
  obtain ⟨d_walk_from, D_walk_from, b_walk_from⟩ := df_of (x := "walk_from") (st := s_walk_from) (ps := ["path", "formula", "level"]) X G c2 3 rfl rfl fun _ _ _ _ _ _ us hl => match us, hl with | [_, _, _], _ => rfl
  obtain ⟨d_walk, D_walk, b_walk⟩ := df_of (x := "walk") (st := s_walk) (ps := ["formula"]) X G c2 4 rfl rfl fun _ _ _ _ _ _ us hl => match us, hl with | [_], _ => rfl
  obtain ⟨d_paths_of, D_paths_of, b_paths_of⟩ := df_of (x := "paths_of") (st := s_paths_of) (ps := ["formula"]) X G c2 5 rfl rfl fun _ _ _ _ _ _ us hl => match us, hl with | [_], _ => rfl
  obtain ⟨d_put_thing, D_put_thing, b_put_thing⟩ := df_of (x := "put_thing") (st := s_put_thing) (ps := ["value", "path", "thing"]) X G c2 6 rfl rfl fun _ _ _ _ _ _ us hl => match us, hl with | [_, _, _], _ => rfl
  obtain ⟨d_plain, D_plain, b_plain⟩ := df_of (x := "plain") (st := s_plain) (ps := ["formula"]) X G c2 7 rfl rfl fun _ _ _ _ _ _ us hl => match us, hl with | [_], _ => rfl
  obtain ⟨d_is_plain, D_is_plain, b_is_plain⟩ := df_of (x := "is_plain") (st := s_is_plain) (ps := ["formula"]) X G c2 8 rfl rfl fun _ _ _ _ _ _ us hl => match us, hl with | [_], _ => rfl
  obtain ⟨d_table_path, D_table_path, b_table_path⟩ := df_of (x := "table_path") (st := s_table_path) (ps := ["formula"]) X G c2 9 rfl rfl fun _ _ _ _ _ _ us hl => match us, hl with | [_], _ => rfl
  obtain ⟨d_law_begun, D_law_begun, b_law_begun⟩ := df_of (x := "_law_begun") (st := s_law_begun) (ps := ["script", "k"]) X G c2 10 rfl rfl fun _ _ _ _ _ _ us hl => match us, hl with | [_, _], _ => rfl
  obtain ⟨d_law_draw, D_law_draw, b_law_draw⟩ := df_of (x := "_law_draw") (st := s_law_draw) (ps := ["m", "bound"]) X G c2 11 rfl rfl fun _ _ _ _ _ _ us hl => match us, hl with | [_, _], _ => rfl
  obtain ⟨d_law_of, D_law_of, b_law_of⟩ := df_of (x := "_law_of") (st := s_law_of) (ps := ["m", "some"]) X G c2 12 rfl rfl fun _ _ _ _ _ _ us hl => match us, hl with | [_, _], _ => rfl
  obtain ⟨d_law_like, D_law_like, b_law_like⟩ := df_of (x := "_law_like") (st := s_law_like) (ps := ["told", "due"]) X G c2 13 rfl rfl fun _ _ _ _ _ _ us hl => match us, hl with | [_, _], _ => rfl
  obtain ⟨d_law_formula, D_law_formula, b_law_formula⟩ := df_of (x := "_law_formula") (st := s_law_formula) (ps := ["m", "deep"]) X G c2 14 rfl rfl fun _ _ _ _ _ _ us hl => match us, hl with | [_, _], _ => rfl
  obtain ⟨d_law_parts, D_law_parts, b_law_parts⟩ := df_of (x := "_law_parts") (st := s_law_parts) (ps := ["formula_here"]) X G c2 15 rfl rfl fun _ _ _ _ _ _ us hl => match us, hl with | [_], _ => rfl
  obtain ⟨d_law_levels, D_law_levels, b_law_levels⟩ := df_of (x := "_law_levels") (st := s_law_levels) (ps := ["formula_here", "level", "path"]) X G c2 16 rfl rfl fun _ _ _ _ _ _ us hl => match us, hl with | [_, _, _], _ => rfl
  obtain ⟨d_law_plain, D_law_plain, b_law_plain⟩ := df_of (x := "_law_plain") (st := s_law_plain) (ps := ["formula_so"]) X G c2 17 rfl rfl fun _ _ _ _ _ _ us hl => match us, hl with | [_], _ => rfl
  obtain ⟨d_law_nested, D_law_nested, b_law_nested⟩ := df_of (x := "_law_nested") (st := s_law_nested) (ps := ["m", "formula_so"]) X G c2 18 rfl rfl fun _ _ _ _ _ _ us hl => match us, hl with | [_, _], _ => rfl
  obtain ⟨d_law, D_law, b_law⟩ := df_of (x := "law") (st := s_law) (ps := ["script"]) X G c2 19 rfl rfl fun _ _ _ _ _ _ us hl => match us, hl with | [_], _ => rfl
  have e := hfa.symm.trans D_law.gm
  have e2 : f = He.ga K "law" := by injection e with e; injection e
  subst e2
  refine ⟨d_law, fun s u => b_law s [u] rfl, fun base => ?_⟩
  have h_law_draw : Cal P w K mg base "_law_draw" s_law_draw ["m", "bound"] 1 (sp_law_draw K) _ d_law_draw := ok_law_draw T D_law_draw 
  have h_law_begun : Cal P w K mg base "_law_begun" s_law_begun ["script", "k"] 1 (sp_law_begun K) _ d_law_begun := ok_law_begun T D_law_begun 
  have h_law_like : Cal P w K mg base "_law_like" s_law_like ["told", "due"] 1 (sp_law_like K) _ d_law_like := ok_law_like T D_law_like 
  have h_law_of : Cal P w K mg base "_law_of" s_law_of ["m", "some"] 2 (sp_law_of K) _ d_law_of := ok_law_of T D_law_of h_law_draw
  have h_law_formula : ∀ n : Nat, Cal P w K mg base "_law_formula" s_law_formula ["m", "deep"] (2 + n) (sp_law_formula K n) (He.ga K "_law_formula") d_law_formula := by
    intro n
    induction n with
    | zero => exact cal0 D_law_formula fun vs H Q E z => (match z with | ⟨_, _, _, _, h, _⟩ => absurd h (Nat.not_lt_zero _))
    | succ n ih => exact ok_law_formula T D_law_formula h_law_draw h_law_of ih
  have h_thing_at : Cal P w K mg base "thing_at" s_thing_at ["value", "path"] 1 (sp_thing_at K) _ d_thing_at := ok_thing_at T C D_thing_at 
  have h_level_below : Cal P w K mg base "level_below" s_level_below ["formula", "level", "way"] 1 (sp_level_below K) _ d_level_below := ok_level_below T C D_level_below 
  have h_ways_down : Cal P w K mg base "ways_down" s_ways_down ["formula"] 1 (sp_ways_down K) _ d_ways_down := ok_ways_down T C D_ways_down 
  have h_walk_from : ∀ n : Nat, Cal P w K mg base "walk_from" s_walk_from ["path", "formula", "level"] (1 + n) (sp_walk_from K n) (He.ga K "walk_from") d_walk_from := by
    intro n
    induction n with
    | zero => exact cal0 D_walk_from fun vs H Q E z => (match z with | ⟨_, h, _⟩ => by cases h.2.1)
    | succ n ih => exact ok_walk_from T C D_walk_from h_ways_down h_thing_at ih h_level_below
  have h_walk : Cal P w K mg base "walk" s_walk ["formula"] 42 (sp_walk K) _ d_walk := ok_walk T C D_walk (h_walk_from 40)
  have h_paths_of : Cal P w K mg base "paths_of" s_paths_of ["formula"] 43 (sp_paths_of K) _ d_paths_of := ok_paths_of T C D_paths_of h_walk
  have h_put_thing : ∀ n : Nat, Cal P w K mg base "put_thing" s_put_thing ["value", "path", "thing"] (0 + n) (sp_put_thing K n) (He.ga K "put_thing") d_put_thing := by
    intro n
    induction n with
    | zero => exact cal0 D_put_thing fun vs H Q E z => (match z with | ⟨_, h, _⟩ => absurd h.2.2.1 (Nat.not_lt_zero _))
    | succ n ih => exact ok_put_thing T C D_put_thing ih
  have h_plain : ∀ n : Nat, Cal P w K mg base "plain" s_plain ["formula"] (5 + n) (sp_plain K n) (He.ga K "plain") d_plain := by
    intro n
    induction n with
    | zero => exact cal0 D_plain fun vs H Q E z => (match z with | ⟨_, h, _⟩ => h.1.elim)
    | succ n ih => exact ok_plain T C D_plain h_ways_down (h_put_thing 4) ih h_thing_at
  have h_is_plain : Cal P w K mg base "is_plain" s_is_plain ["formula"] 46 (sp_is_plain K) _ d_is_plain := ok_is_plain T C D_is_plain (h_plain 40)
  have h_table_path : Cal P w K mg base "table_path" s_table_path ["formula"] 44 (sp_table_path K) _ d_table_path := ok_table_path T C D_table_path h_paths_of h_thing_at
  have h_law_parts : Cal P w K mg base "_law_parts" s_law_parts ["formula_here"] 1 (sp_law_parts K) _ d_law_parts := ok_law_parts T C D_law_parts 
  have h_law_levels : ∀ n : Nat, Cal P w K mg base "_law_levels" s_law_levels ["formula_here", "level", "path"] (1 + n) (sp_law_levels K n) (He.ga K "_law_levels") d_law_levels := by
    intro n
    induction n with
    | zero => exact cal0 D_law_levels fun vs H Q E z => (match z with | ⟨_, h, _⟩ => by cases h.2.1)
    | succ n ih => exact ok_law_levels T C D_law_levels h_law_parts ih
  have h_law_plain : ∀ n : Nat, Cal P w K mg base "_law_plain" s_law_plain ["formula_so"] (0 + n) (sp_law_plain K n) (He.ga K "_law_plain") d_law_plain := by
    intro n
    induction n with
    | zero => exact cal0 D_law_plain fun vs H Q E z => (match z with | ⟨_, h, _⟩ => h.1.elim)
    | succ n ih => exact ok_law_plain T C D_law_plain ih
  have h_law_nested : Cal P w K mg base "_law_nested" s_law_nested ["m", "formula_so"] 2 (sp_law_nested K) _ d_law_nested := ok_law_nested T C D_law_nested h_law_draw
  have h_law : Cal P w K mg base "law" s_law ["script"] 47 (sp_law K) _ d_law := ok_law T C D_law h_law_begun (h_law_formula 4) (h_law_plain 40) h_law_like (h_plain 40) h_is_plain h_law_nested (h_law_levels 40) h_table_path
  exact h_law.G
end V1
set_option Elab.async false
set_option linter.all false
set_option maxRecDepth 100000
set_option maxHeartbeats 0
open PySem PySem.W PySem.Calls PyProof.Rows
theorem PySem.Challenge.cw_everyfont_k42_whole_plain_forms_holds : PySem.Challenge.rw_everyfont_k42_whole_plain_forms.Holds := by
  w_on; o_law
  refine HandSHeadRun.head_any (r := OpenLaw.row PySem.Challenge.rw_everyfont_k42_whole_plain_forms) (q := V1.qM) (H := V1.hkM) (ob := V1.obM) (M := 4000) (loose := V1.looseM) (d := HandSHeadRun.topDef (OpenLaw.row PySem.Challenge.rw_everyfont_k42_whole_plain_forms).prog 24) (kwd := []) V1.obM_eq
    (by kernel_rfl) (fun s => by kernel_rfl) V1.runM (by kernel_rfl) (by kernel_rfl) (by kernel_rfl) (by rfl) (by first | assumption | decide +kernel) (by decide +kernel) ⟨rfl, rfl, rfl, rfl, rfl, by decide +kernel⟩ ?hw ?hc
  case hw => w_witness2
  case hc =>
    refine V1.walkG (l := PySem.Challenge.rw_everyfont_k42_whole_plain_forms) (n := 63) (k := 47) (x := "script") rfl (by decide) (by kernel_rfl) ⟨rfl, by decide, by decide⟩ ?F
    intro w mg fa h Y G hmg0
    obtain ⟨K, KX, c⟩ := Y
    have hmg : mg ("law" : PySem.Str) = some (.ref fa) := by
      have e : (HandSHeadRun.topDef (OpenLaw.row PySem.Challenge.rw_everyfont_k42_whole_plain_forms).prog 24).name = ("law" : PySem.Str) := by kernel_rfl
      rw [← e]
      exact hmg0
    obtain ⟨fd, hb, hF⟩ := V1.all_ok (P := (PySem.Challenge.rw_everyfont_k42_whole_plain_forms).prog) (w := w) KX G hmg c
    exact ⟨K, fd, V1.sp_law K, KX, hb, fun H a ns hl _ hS => ⟨a, ns, rfl, hl, hS, fun _ => rfl⟩, fun base _ _ => hF base⟩
