import PyProof.Rows.All
import Wide.All
import OpenK.AllK
import Wide.FinOn
import KE.KMathGC
import KE.GoesEnum
import PyProof.ReprRoads
import HandS.ForMost
import HandS.Zip
import HandS.Wide
import HandS.Gcd
import HandS.TupAny
import HandS.HeadEnd
import HandS.HeadHook2
import HandS.IsInst
import HandS.Words
import HandS.Defaults
import HandS.Head0
import HandS.Head1
import HandS.Head2
import HandS.Head3
import HandS.HeadHook1
import PySem.Challenge.RW_everyfont_k02_whole_rows_together
set_option Elab.async false
set_option linter.all false
set_option maxRecDepth 100000
set_option maxHeartbeats 4000000
/-! The hand layer with the running guards told (repr asks them); zip and enumerate over lists and tuples alike; repr of data; lcm; a list's item read for an augmented store. -/
namespace V1
open PySem PySem.Spec PyProof.Rows L2

/-- a def's promise where no guarded built-in runs further out -/
structure FnG (P : Program) (w : World) (K : PySem.W.Frag) (mg : Str → Option Value) (base : Heap) (k : Nat) (f : Addr) (fd : FuncData) (ps : List Str) (sp : Sp) : Prop where
  len : ∀ vs H Q E, sp vs H Q E → vs.length = ps.length
  run : ∀ (A : Around) (outer : List Env) (s : Shared) (H : Hp) (args : Args) (us : List Value) (vs : List V) (Q : VK) (E : XK), A.guards = some [] → Room k A →
    Env0 P w K mg base A outer s H → BindsTo s fd args (ps.zip us) → Vals vs us → sp vs H Q E → codeAny (model P w) A (.call (.ref f) args) (CR CX0 outer P w H s Q E) s
section
variable {P : Program} {w : World} {K : PySem.W.Frag} {mg : Str → Option Value} {base : Heap}
theorem FnG.mono {j k : Nat} {f : Addr} {fd : FuncData} {ps : List Str} {sp : Sp} (F : FnG P w K mg base j f fd ps sp) (h : j ≤ k) : FnG P w K mg base k f fd ps sp :=
  ⟨F.len, fun A outer s H args us vs Q E hg hr => F.run A outer s H args us vs Q E hg (hr.mono h)⟩
theorem okG {x qual : Str} {st : Stmt} {f : Addr} {fd : FuncData} {N ps : List Str} {k : Nat} {sp : Sp} (F : Fun K x qual st f fd) (S : FnScope N ps (defScope st)) (hlen : ∀ vs H Q E, sp vs H Q E → vs.length = ps.length)
    (bd : ∀ (cdv : Value) (A : Around) (outer : List Env) (s : Shared) (H : Hp) (vs : List V) (Q : VK) (E : XK), A.guards = some [] → Room k (A.deeper (envOfC qual (defScope st) s.heap.objs.size f cdv)) → sp vs H Q E →
      ∃ t, PSs (cxOf CX0 P w K mg base N qual (defScope st) f cdv A outer s H E).nox (defBody st) t ∧ t { nx := fun _ H' => Q .non H', rt := Q } (start N vs) H) : FnG P w K mg base (k + 1) f fd ps sp := by
  obtain ⟨oc, od, kV, doc, pm, an, cdv, ct, osl, rfl, lk, hcd⟩ := F.ex
  refine ⟨hlen, fun A outer s H args us vs Q E hgd hr e0 hb r hs0 => ?_⟩
  have ll := hlen _ _ _ _ hs0
  have kin : K.In s.heap := e0.mod.kin.keeps (fun b o z => (e0.bs b o z).1)
  have nl : s.heap.NoLimit := e0.mod.nolimit.keeps (fun b o z => (e0.bs b o z).1)
  refine codeAny_call_function hr.depth (kin _ _ lk) rfl S.co S.gen rfl (PySem.W.codeRec_of kin hcd) (hb _ _ _ _ ?_)
  refine wpAny_newFunctionEnv_cells S.kind (fun ⟨n, v⟩ hy => ?_) (fun env he s1 x => ?_)
  · rcases S.par n (List.of_mem_zip hy).1 with q | q
    · exact Or.inl q
    · exact Or.inr ⟨q, PySem.W.cellsFrom_some _ _ _ (Or.inl q)⟩
  subst he
  refine ⟨nl.keeps x.toInCall.keep, codeAny_func ?_⟩
  obtain ⟨t, ht, hq⟩ := bd cdv A outer s H vs Q E hgd (hr.deeper _) hs0
  have I := inv_start (CX := CX0) (E := E) S hr.hd e0 ll r x
  refine wpAny_mono (ht.nox.run [] s1 (start N vs) H _ I hq) (fun fl s2 z => ?_) (fun e s2 z => z)
  cases fl with
  | ret u =>
    obtain ⟨v, σ2, H2, J, rv, q⟩ := z
    exact ⟨v, H2, J.os, J.bare, J.base, J.hok, rv, q⟩
  | next =>
    obtain ⟨σ2, H2, J, q⟩ := z
    exact ⟨V.non, H2, J.os, J.bare, J.base, J.hok, rfl, q⟩
  | brk =>
    obtain ⟨_, _, _, q⟩ := z
    exact q.elim
  | cont =>
    obtain ⟨_, _, _, q⟩ := z
    exact q.elim
end
/-- the guards reach a def's body -/
theorem gd_of {P : Program} {w : World} {K : PySem.W.Frag} {mg : Str → Option Value} {base : Heap} {N : List Str} {q : Str} {sc : Scope} {f : Addr} {cd : Value} {A : Around} {outer : List Env} {s : Shared} {H : Hp} {E : XK} (h : A.guards = some []) :
    (cxOf CX0 P w K mg base N q sc f cd A outer s H E).nox.A.guards = some [] := h
section
variable {X : Cx} {k : Nat} {f : Addr} {fd : FuncData} {ps ks : List Str} {sp : Sp} {E : XK} {x : Str} {p pos : Pos} {e : Expr} {es : List Expr} {kws : List Keyword} {t tk : TA} {g : List Value → List Value → List Value} {gV : List V → List V → List V}
theorem fall {pins : List (Addr × Obj)} {σ : L2.St} {H : Hp} {s : Shared} (I : L2.Inv X pins σ H s) {Q : VK} {r : Result} {s2 : Shared} (hq : CR CX0 X.stack X.prog X.w H s Q E r s2) : ∃ u, r = .ok (.ret u) ∧ EP X pins σ Q u s2 := by
  cases r with
  | error z => exact False.elim hq
  | ok fl =>
    cases fl with
    | ret u => exact ⟨u, rfl, I.after hq⟩
    | next => exact False.elim hq
    | brk => exact False.elim hq
    | cont => exact False.elim hq
theorem runG {pins : List (Addr × Obj)} {σ : L2.St} {H : Hp} {s : Shared} {Q : VK} {us : List Value} {vs : List V} (F : FnG X.prog X.w X.K X.mg X.base k f fd ps sp) (hgd : X.A.guards = some []) (hr : Room k X.A) (hb : Binds X.K fd ps [])
    (I : L2.Inv X pins σ H s) (r : Vals vs us) (h : sp vs H Q E) : wpAny (model X.prog X.w) X.A (call (.ref f) us) (EP X pins σ Q) X.xe s := by
  have hl : (us ++ []).length = ps.length := by rw [List.append_nil, ← r.length]; exact F.len _ _ _ _ h
  have hb2 := hb s us I.kIn hl
  rw [List.append_nil] at hb2
  refine wpAny_call (codeAny_mono (F.run X.A X.stack s H ⟨us, []⟩ us vs Q E hgd hr I.env0 hb2 r h) fun r2 s2 hq => ?_)
  obtain ⟨u, rfl, z⟩ := fall I hq
  exact z
theorem runGk {pins : List (Addr × Obj)} {σ : L2.St} {H : Hp} {s : Shared} {Q : VK} {us ws : List Value} {vs zs : List V} (F : FnG X.prog X.w X.K X.mg X.base k f fd ps sp) (hgd : X.A.guards = some []) (hr : Room k X.A) (hb : KBinds X.K fd ps ks g gV)
    (I : L2.Inv X pins σ H s) (r : Vals vs us) (rz : Vals zs ws) (h : sp (gV vs zs) H Q E) : wpAny (model X.prog X.w) X.A (call (.ref f) us (ks.zip ws)) (EP X pins σ Q) X.xe s := by
  have r2 := hb.rel r rz
  have hl : (g us ws).length = ps.length := by rw [← r2.length]; exact F.len _ _ _ _ h
  refine wpAny_call (codeAny_mono (F.run X.A X.stack s H ⟨us, ks.zip ws⟩ (g us ws) (gV vs zs) Q E hgd hr I.env0 (hb.to s us ws I.kIn hl) r2 h) fun r3 s2 hq => ?_)
  obtain ⟨u, rfl, z⟩ := fall I hq
  exact z
theorem pe_fn (F : FnG X.prog X.w X.K X.mg X.base k f fd ps sp) (hgd : X.A.guards = some []) (hr : Room k X.A) (hg : Gl X x) (hm : X.mg x = some (.ref f)) (hk : PySem.W.keepIn X.K (.ref f) = true) (hb : Binds X.K fd ps [])
    (ha : PA X (e :: es) t) (hdb : (x == ("__debug__" : Str)) = false := by decide) (he : starEach (e :: es) X.env = (false, eval e X.env) :: starEach es X.env := by rfl) (hpl : (backTo pos (starEach es X.env)).any (·.1) = false := by rfl) :
    PE X (.Call (.Name x p) (e :: es) [] pos) (tCall sp [] E t) := by
  refine ⟨fun pins s σ H Q I h => ?_⟩
  refine wpAny_Call_Name_kw (ld_glob I hg hm ?_ hdb)
  refine PySem.W.callWith_K (h₀ := X.base) I.ok.mod.kin hk (thn (ha.run pos pins s σ H _ I h) fun us s1 ⟨vs, H1, I1, r, q⟩ => ⟨I1.kIn, ?_⟩) he hpl
  have q2 : sp (vs ++ []) H1 Q E := q
  rw [List.append_nil] at q2
  exact runG F hgd hr hb I1 r q2
theorem pe_fn0 (F : FnG X.prog X.w X.K X.mg X.base k f fd ps sp) (hgd : X.A.guards = some []) (hr : Room k X.A) (hg : Gl X x) (hm : X.mg x = some (.ref f)) (hk : PySem.W.keepIn X.K (.ref f) = true) (hb : Binds X.K fd ps [])
    (hdb : (x == ("__debug__" : Str)) = false := by decide) : PE X (.Call (.Name x p) [] [] pos) (tCall sp [] E tNil) := by
  refine ⟨fun pins s σ H Q I h => ?_⟩
  refine wpAny_Call_Name_kw (ld_glob I hg hm ?_ hdb)
  exact PySem.W.callWith_K0 I.kIn hk (runG (us := []) F hgd hr hb I .nil h)
/-- f(k = v, ..), keywords alone -/
theorem pe_fnk (F : FnG X.prog X.w X.K X.mg X.base k f fd ps sp) (hgd : X.A.guards = some []) (hr : Room k X.A) (hg : Gl X x) (hm : X.mg x = some (.ref f)) (hk : PySem.W.keepIn X.K (.ref f) = true) (hb : KBinds X.K fd ps ks g gV)
    (hkw : PK X kws tk) (hall : (backToKw pos (keywordEach kws X.env)).all (·.1.isSome) = true := by rfl) (hks : (backToKw pos (keywordEach kws X.env)).filterMap (·.1) = ks := by rfl)
    (hdb : (x == ("__debug__" : Str)) = false := by decide)
    (hpl : ((backTo pos (starEach [] X.env)).any (·.1) || (backToKw pos (keywordEach kws X.env)).any (·.1.isNone)) = false := by rfl) :
    PE X (.Call (.Name x p) [] kws pos) (tCallK sp gV E tNil tk) := by
  refine ⟨fun pins s σ H Q I h => ?_⟩
  refine wpAny_Call_Name_kw (ld_glob I hg hm ?_ hdb)
  refine PySem.W.callWith_KW0 (h₀ := X.base) I.ok.mod.kin hk hall ?_ hpl
  refine thn (hkw.run pos pins s σ H _ I h) fun ws s2 ⟨zs, H2, I2, rz, q2⟩ => ⟨I2.kIn, ?_⟩
  rw [hks]
  exact runGk (us := []) F hgd hr hb I2 .nil rz q2
end

/-! ### repr of data, lcm, a list's item read -/
section
variable {X : Cx}
def rRepr (K : PySem.W.Frag) : List V → Hp → VK → Prop := fun vs H Q => ∃ (a : Addr) (d : PyData), vs = [.ref a] ∧ Dp K H (.ref a) d ∧ d.showable = true ∧ d.hasDict = false ∧ d.depth ≤ 60 ∧ d.shown.length ≤ sizeLine ∧ Q (.str d.shown) H
theorem call_repr (hgd : X.A.guards = some []) (hu : X.A.units + 64 < cLine) : CallR X (.builtin "repr") (rRepr X.K) := by
  intro pins s σ H vs us Q I r h
  obtain ⟨a, d, rfl, hd, h1, h2, h3, h4, q⟩ := h
  cases r with
  | cons r rr =>
    cases rr
    obtain rfl := r
    obtain ⟨as, rd⟩ := Dp.reads I d _ _ hd rfl
    refine repr_of_reads' (h₀ := s.heap) rd h1 (PyData.noDict_hsm h2) hgd (by omega) (fun _ _ z => z) (fun h' u tk hk => ?_) h4
    exact ⟨.str _, H, I.kept (t' := tk) hk, ⟨_, rfl⟩, q⟩
def rLcm : List V → Hp → VK → Prop := fun vs H Q => ∃ a b : Int, vs = [.int a, .int b] ∧ a.natAbs < 2 ^ 64 ∧ b.natAbs < 2 ^ 64 ∧ Q (.int ((Nat.lcm a.natAbs b.natAbs : Nat) : Int)) H
theorem call_lcm : CallR X (.builtin "math.lcm") rLcm := by
  intro pins s σ H vs us Q I r h
  obtain ⟨a, b, rfl, h1, h2, q⟩ := h
  obtain ⟨t, u, rfl⟩ := Vals.int2 r
  exact PySem.W.mc_lcm h1 h2 fun _ => ⟨.int _, H, I.tok _, ⟨_, rfl⟩, q⟩
theorem pget_list : PGet X (rIxL X.K) := by
  intro pins s σ H x y v u Q I rx ry h
  obtain ⟨p, xs, i, z, rfl, rfl, hq, he, q⟩ := h
  cases rx
  obtain ⟨t, rfl⟩ := ry
  obtain ⟨its, r, pl, hz⟩ := I.list hq
  obtain ⟨j, h1, h2, h3, h4, h5⟩ := atI_get he
  obtain ⟨w, ew, rw1⟩ := r.get h2
  have hl := r.length
  have hn := line63
  have last : EP X pins σ Q w s := ⟨z, H, I, rw1, q⟩
  by_cases h0 : 0 ≤ i
  · have hj : i.toNat = j := by
      rw [seqIndex_of h0 h5] at h1
      exact Option.some.inj h1
    exact wpAny_getItem_list pl.isList h0 (by omega) (by rw [hj]; simpa using ew) last
  · have hj : (i + (its.toArray.size : Int)).toNat = j := by
      rw [seqIndex_neg (by omega) h4] at h1
      rw [List.size_toArray, ← hl]
      exact Option.some.inj h1
    exact wpAny_getItem_list_neg pl.isList (by omega) (by rw [List.size_toArray] <;> omega) (by omega) (by rw [hj]; simpa using ew) last
end

/-! ### zip, enumerate: lists and tuples in any mix -/
/-- a list (true) or a tuple (false) -/
def Sq (K : PySem.W.Frag) : Bool → Hp → Addr → List V → Prop
  | true => SqL K
  | false => SqT K
def HSq (h : Heap) : Bool → Addr → Array Value → Prop
  | true => h.IsList
  | false => h.IsTuple
def HIt (h : Heap) : Bool → Addr → Addr → Nat → Prop
  | true => h.IsListIter
  | false => h.IsTupleIter
def itO : Bool → Addr → Obj
  | true, l => { cls := .type "list_iterator", data := .fields #[.ref l, .int 0 0] }
  | false, l => { cls := .type "tuple_iterator", data := .fields #[.ref l, .int 0 0] }
theorem hit_at {h h' : Heap} {k : Bool} {it a : Addr} {i : Nat} (x : HIt h k it a i) (e : ∀ o, h.get? it = some o → h'.get? it = some o) : HIt h' k it a i := by
  cases k with
  | true => exact Heap.IsListIter.at x e
  | false => exact Heap.IsTupleIter.at x e
theorem hit_obj {h : Heap} {k : Bool} {it a : Addr} {i : Nat} (x : HIt h k it a i) : ∃ o, h.get? it = some o ∧ ∀ v, o.data ≠ .cell v := by
  cases k with
  | true => obtain ⟨o, e, _, d⟩ := x; exact ⟨o, e, fun v z => by rw [d] at z; cases z⟩
  | false => obtain ⟨o, e, _, d⟩ := x; exact ⟨o, e, fun v z => by rw [d] at z; cases z⟩
theorem hit_0 {h : Heap} {k : Bool} {it a : Addr} (x : h.get? it = some (itO k a)) : HIt h k it a 0 := by
  cases k with
  | true => exact ⟨_, x, rfl, rfl⟩
  | false => exact ⟨_, x, rfl, rfl⟩
theorem bgn (k : Bool) (a : Addr) (items : Array Value) : Begins (.ref a) (itO k a) fun h => HSq h k a items := by
  cases k with
  | true => exact begins_list a items
  | false => exact begins_tuple a items
theorem drw {prog : Program} {w : World} {A : Around} (hh : A.handled = none) (k : Bool) (it a : Addr) (ne : a ≠ it) (items : Array Value) :
    Draws prog w A it [it, a] items.size (fun i v => items[i]? = some v) (fun i h => HIt h k it a i ∧ HSq h k a items) := by
  cases k with
  | true => exact Draws.list hh it a ne items
  | false => exact Draws.tuple hh it a ne items
section
variable {X : Cx} {pins : List (Addr × Obj)} {σ : L2.St} {H : Hp} {s : Shared} {k : Bool} {a : Addr} {xs ys : List V}
theorem inv_sq (I : L2.Inv X pins σ H s) (h : Sq X.K k H a xs) : ∃ its : List Value, Vals xs its ∧ HSq s.heap k a its.toArray ∧ a < s.heap.objs.size := by
  cases k with
  | true =>
    obtain ⟨its, r, p, _⟩ := I.list h
    exact ⟨its, r, p.isList, p.lt⟩
  | false =>
    obtain ⟨its, r, p, _⟩ := I.tuple h
    exact ⟨its, r, p, p.lt⟩
theorem sq_inj (I : L2.Inv X pins σ H s) (h : Sq X.K k H a xs) (h' : Sq X.K k H a ys) : xs = ys := by
  cases k with
  | true => exact I.list_inj h h'
  | false => exact I.tuple_inj h h'
end
/-- what zip walks -/
def ItP (K : PySem.W.Frag) (k1 : Bool) (a : Addr) (k2 : Bool) (b : Addr) : It :=
  ⟨fun i H => ∃ xs ys x y, Sq K k1 H a xs ∧ Sq K k2 H b ys ∧ xs[i]? = some x ∧ ys[i]? = some y,
   fun i H v H' => ∃ T x y, v = V.ref T ∧ H T = none ∧ H' = upd H T (.tup [x, y]) ∧ (∀ l, Sq K k1 H a l → l[i]? = some x) ∧ ∀ l, Sq K k2 H b l → l[i]? = some y,
   fun i H => ∃ xs ys, Sq K k1 H a xs ∧ Sq K k2 H b ys ∧ i ≤ xs.length ∧ i ≤ ys.length ∧ (i = xs.length ∨ i = ys.length)⟩
theorem turn_zipP {P : Program} {w : World} {K : PySem.W.Frag} {elts : List Expr} {kk : Nat} {tpos : Pos} {k1 k2 : Bool} {a b z TI TO i1 i2 : Addr} (S : ZipSep2 z TI TO i1 i2 [i1, a] [i2, b]) (n1 : a ≠ i1) (n2 : b ≠ i2) :
    Turn P w K (.Tuple elts kk tpos) (ItP K k1 a k2 b) [z, TI, TO, i1, i2] z (fun i h => IsZip h z TI TO .none ∧ IsTupOf2 h TI (.ref i1) (.ref i2) ∧ (∃ x y, IsTupOf2 h TO x y) ∧ HIt h k1 i1 a i ∧ HIt h k2 i2 b i) where
  mem := by simp
  obj := fun i h st c hc => by
    obtain ⟨hz, hTI, ⟨x, y, hTO⟩, h1, h2⟩ := st
    have e' : c = z ∨ c = TI ∨ c = TO ∨ c = i1 ∨ c = i2 := by simpa using hc
    rcases e' with rfl | rfl | rfl | rfl | rfl
    · exact ⟨_, hz, fun v q => nomatch q⟩
    · exact ⟨_, hTI, fun v q => nomatch q⟩
    · exact ⟨_, hTO, fun v q => nomatch q⟩
    · exact hit_obj h1
    · exact hit_obj h2
  keep := fun i h h' st q => by
    obtain ⟨hz, hTI, ⟨x, y, hTO⟩, h1, h2⟩ := st
    exact ⟨q z (by simp) _ hz, q TI (by simp) _ hTI, ⟨x, y, q TO (by simp) _ hTO⟩, hit_at h1 fun o u => q i1 (by simp) o u, hit_at h2 fun o u => q i2 (by simp) o u⟩
  item := by
    intro X hP hw hK hc i pins s σ H E I hf st hg
    subst hP hw hK
    obtain ⟨hz, hTI, ⟨x0, y0, hTO⟩, h1, h2⟩ := st
    obtain ⟨xs, ys, x, y, hqx, hqy, hx, hy⟩ := hg
    obtain ⟨its, rv, p, _⟩ := inv_sq I hqx
    obtain ⟨its2, rv2, p2, _⟩ := inv_sq I hqy
    obtain ⟨u, hu, ru⟩ := rv.get hx
    obtain ⟨u2, hu2, ru2⟩ := rv2.get hy
    have hh : X.A.in1.handled = none := I.ok.hd hc
    have hzl : z < s.heap.objs.size := Heap.lt_size hz
    have lt1 : i < its.toArray.size := by rw [List.size_toArray]; exact (List.getElem?_eq_some_iff.mp hu).1
    have lt2 : i < its2.toArray.size := by rw [List.size_toArray]; exact (List.getElem?_eq_some_iff.mp hu2).1
    refine wpAny_pyNext_zipD2_item S (drw hh k1 i1 a n1 its.toArray) (drw hh k2 i2 b n2 its2.toArray) hz hTI hTO ⟨h1, p⟩ ⟨h2, p2⟩ lt1 lt2 fun v1 v2 h' tk e1 e2 hz' hTO' st1 st2 hT hsz hk => ?_
    obtain rfl : v1 = u := by
      have z1 : its.toArray[i]? = some v1 := e1
      simp at z1
      rw [hu] at z1
      exact (Option.some.inj z1).symm
    obtain rfl : v2 = u2 := by
      have z2 : its2.toArray[i]? = some v2 := e2
      simp at z2
      rw [hu2] at z2
      exact (Option.some.inj z2).symm
    refine ⟨_, rfl, wpAny_letOwnedTupleGo_zip (s := { s with heap := h', toks := tk }) hz' fun h'' hz'' sb => ?_⟩
    have hT2 : h''.get? s.heap.objs.size = some { cls := .type "tuple", data := .seq #[v1, v2] } := (sb.2 _ (Nat.ne_of_gt hzl)).trans hT
    have new : ObjOk X.prog X.w (upd H s.heap.objs.size (.tup [x, y])) h'' s.heap.objs.size (.tup [x, y]) :=
      ⟨by show 2 ≤ sizeLine; decide, [v1, v2], .cons ru (.cons ru2 .nil), ⟨_, hT2, rfl, _, rfl⟩⟩
    have I1 : L2.Inv X pins σ (upd H s.heap.objs.size (.tup [x, y])) { s with heap := h'', toks := tk } :=
      I.turnedNew (t' := tk) (ch := [z, TI, TO, i1, i2]) (fun c o hb q => (sb.2 c (fun q1 => hb (by simp [q1]))).trans (hk c o (fun q1 => hb (by simp [q1])) (fun q1 => hb (by simp [q1])) (fun q1 => hb (by simp [q1])) (fun q1 => hb (by simp [q1])) q)) hf (Nat.le_refl _) new
    refine ⟨.ref s.heap.objs.size, _, I1, rfl, ⟨_, x, y, rfl, I.hok.fresh (Nat.le_refl _), rfl, fun l hl => by rw [sq_inj I hl hqx]; exact hx, fun l hl => by rw [sq_inj I hl hqy]; exact hy⟩, ⟨hz'', ?_, ⟨v1, v2, ?_⟩, ?_, ?_⟩, fun c hcm => ?_⟩
    · exact (sb.2 _ S.TIz).trans (hk _ _ S.TIz S.TITO S.TIi1 S.TIi2 hTI)
    · exact (sb.2 _ S.TOz).trans hTO'
    · exact hit_at st1.1 fun o q => (sb.2 _ S.zi1.symm).trans q
    · exact hit_at st2.1 fun o q => (sb.2 _ S.zi2.symm).trans q
    · have hlt : c < s.heap.objs.size := by
        have e' : c = z ∨ c = TI ∨ c = TO ∨ c = i1 ∨ c = i2 := by simpa using hcm
        rcases e' with rfl | rfl | rfl | rfl | rfl
        · exact hzl
        · exact Heap.lt_size hTI
        · exact Heap.lt_size hTO
        · obtain ⟨_, q, _⟩ := hit_obj h1; exact Heap.lt_size q
        · obtain ⟨_, q, _⟩ := hit_obj h2; exact Heap.lt_size q
      rw [upd_ne (Nat.ne_of_lt hlt)]
      exact (hf c hcm).1
  done := by
    intro X hP hw hK hc i pins s σ H E I hf st hg
    subst hP hw hK
    obtain ⟨hz, hTI, ⟨x0, y0, hTO⟩, h1, h2⟩ := st
    obtain ⟨xs, ys, hqx, hqy, l1, l2, hend⟩ := hg
    obtain ⟨its, rv, p, _⟩ := inv_sq I hqx
    obtain ⟨its2, rv2, p2, _⟩ := inv_sq I hqy
    have m1 := rv.length
    have m2 := rv2.length
    have hh : X.A.in1.handled = none := I.ok.hd hc
    refine wpAny_pyNext_zipD2_end S (drw hh k1 i1 a n1 its.toArray) (drw hh k2 i2 b n2 its2.toArray) hz hTI hTO ⟨h1, p⟩ ⟨h2, p2⟩ (by rw [List.size_toArray] <;> omega) (by rw [List.size_toArray] <;> omega) (by rw [List.size_toArray, List.size_toArray] <;> omega) fun h' tk hk => ?_
    exact ⟨rfl, I.turnedL (t' := tk) (ch := [z, TI, TO, i1, i2]) (fun c o hb q => hk c o (fun q1 => hb (by simp [q1])) (fun q1 => hb (by simp [q1])) (fun q1 => hb (by simp [q1])) (fun q1 => hb (by simp [q1])) q) hf⟩
  self := fun A i s Q E st h => wpAny_pyIter_zip st.1 h
def iZipP (K : PySem.W.Frag) (k1 k2 : Bool) (ta : TA) : TI := fun σ H R => ta σ H fun vs H1 => ∃ a b xs ys, vs = [.ref a, .ref b] ∧ Sq K k1 H1 a xs ∧ Sq K k2 H1 b ys ∧ R (ItP K k1 a k2 b) H1
theorem pi_zipP {X : Cx} {e e2 : Expr} {ta : TA} {p pos tpos : Pos} {elts : List Expr} {kk : Nat} (k1 k2 : Bool) (hg : Gl X "zip") (hm : X.mg "zip" = none) (ha : PA X [e, e2] ta)
    (hs : starEach [e, e2] X.env = (false, eval e X.env) :: starEach [e2] X.env := by rfl) (hpl : (backTo pos (starEach [e2] X.env)).any (·.1) = false := by rfl) :
    PI X (.Tuple elts kk tpos) (.Call (.Name "zip" p) [e, e2] [] pos) (iZipP X.K k1 k2 ta) := by
  refine ⟨fun pins s σ H R I h => ?_⟩
  refine Call_ (ld_blt I hg hm PyProof.Rows.boot_zip (PyProof.Rows.callWith_type1 (thn (ha.run pos pins s σ H _ I h) fun us s1 ⟨vs, H1, I1, r1, q1⟩ => ?_) hs hpl))
  obtain ⟨a, b, xs, ys, rfl, hqx, hqy, q⟩ := q1
  cases r1 with
  | cons r rr =>
    cases rr with
    | cons r' rr =>
      cases rr
      obtain rfl := r
      obtain rfl := r'
      obtain ⟨its, rv, p1, la⟩ := inv_sq I1 hqx
      obtain ⟨its2, rv2, p2, lb⟩ := inv_sq I1 hqy
      refine zip_begins2 (bgn k1 a its.toArray) (bgn k2 b its2.toArray) p1 p2 fun h' hz hTI hTO g1 g2 hsz hk => wpAny_pyIter_zip hz ?_
      have I2 : L2.Inv X pins σ H1 { s1 with heap := h' } := I1.kept (t' := s1.toks) hk
      refine ⟨s1.heap.objs.size + 4, [s1.heap.objs.size + 4, s1.heap.objs.size + 2, s1.heap.objs.size + 3, s1.heap.objs.size, s1.heap.objs.size + 1], _, _, H1, rfl, I2,
        turn_zipP (k1 := k1) (k2 := k2) (zip_sep2 (fp1 := [a]) (fp2 := [b]) (by simpa using la) (by simpa using lb)) (Nat.ne_of_lt la) (Nat.ne_of_lt (Nat.lt_succ_of_lt lb)), ⟨hz, hTI, ⟨_, _, hTO⟩, hit_0 g1, hit_0 g2⟩, fun c hcm => ?_, q⟩
      have hle : s1.heap.objs.size ≤ c := by
        have e' : c = s1.heap.objs.size + 4 ∨ c = s1.heap.objs.size + 2 ∨ c = s1.heap.objs.size + 3 ∨ c = s1.heap.objs.size ∨ c = s1.heap.objs.size + 1 := by simpa using hcm
        have n0 := Nat.le_refl s1.heap.objs.size
        rcases e' with rfl | rfl | rfl | rfl | rfl
        · exact Nat.le_add_right _ _
        · exact Nat.le_add_right _ _
        · exact Nat.le_add_right _ _
        · exact n0
        · exact Nat.le_add_right _ _
      exact I1.fpOk hle (I1.hok.fresh hle)

/-! enumerate -/
set_option maxHeartbeats 1000000 in
theorem meets_enum1 {v : Value} {o : Obj} {Hh : Heap → Prop} (B : Begins v o Hh) :
    Meets (Builtin.«enumerate.__new__» ⟨[.type "enumerate", v], []⟩) (fun _ R s => Hh s.heap ∧
      R (.ok (.ret (.ref (s.heap.push o).objs.size))) { s with heap := (s.heap.push o).push { cls := .type "enumerate", data := .fields #[.none, .bool false, .ref s.heap.objs.size, rawInt 0, .none, .none] } }) :=
  .of_wp fun prog w A R s h => by
    obtain ⟨hp, g, d, tk, os⟩ := s; obtain ⟨h1, h⟩ := h
    have hsub := sub_enumerate
    have it1 : ∀ {A' : Around} {E : Value → Shared → Prop} {Q : Value → Shared → Prop}, Q (.ref hp.objs.size) ⟨hp.push o, g, d, tk, os⟩ → wpAny (model prog w) A' (pyIter v) Q E ⟨hp, g, d, tk, os⟩ :=
      fun q => B.iter prog w _ _ ⟨hp, g, d, tk, os⟩ _ h1 q
    wp_walk using it1
    refine wpAny_stack_any fun st => wpAny_pure ?_
    split
    · rename_i c _ _ _ _ _
      cases (c == Value.type "enumerate")
      · wp_walk using it1
        exact ⟨_, rfl, h⟩
      · wp_walk using it1
        exact ⟨_, rfl, h⟩
    · wp_walk using it1
      exact ⟨_, rfl, h⟩
theorem enum_begins1 {prog : Program} {w : World} {A : Around} {E : Value → Shared → Prop} {s : Shared} {v : Value} {o : Obj} {Hh : Heap → Prop} {Q : Value → Shared → Prop} (B : Begins v o Hh) (h1 : Hh s.heap)
    (h : ∀ h', IsEnum h' (s.heap.objs.size + 1) s.heap.objs.size 0 .none → h'.get? s.heap.objs.size = some o → (∀ b o, s.heap.get? b = some o → h'.get? b = some o) → Q (.ref (s.heap.objs.size + 1)) { s with heap := h' }) :
    wpAny (model prog w) A (call (.type "enumerate") [v]) Q E s := by
  refine callType_new F.called_enumerate (by decide) (F.typeCall_enumerate_1 _) (F.newCall_enumerate_1 _) (fun obj => F.args_object_init_2 obj _) F.entry_enumerate_new (meets_enum1 B) ⟨h1, ?_⟩
  have hz : (s.heap.push o).objs.size = s.heap.objs.size + 1 := Heap.size_push ..
  show _ ∧ _
  rw [hz]
  have he : IsEnum ((s.heap.push o).push { cls := .type "enumerate", data := .fields #[.none, .bool false, .ref s.heap.objs.size, rawInt 0, .none, .none] }) (s.heap.objs.size + 1) s.heap.objs.size 0 .none := by
    have q := Heap.get?_push_size (s.heap.push o) (o := { cls := .type "enumerate", data := .fields #[.none, .bool false, .ref s.heap.objs.size, rawInt 0, .none, .none] }) rfl
    rw [hz] at q; exact q
  exact ⟨⟨_, he, rfl⟩, h _ he (Heap.get?_push_of_some _ (Heap.get?_push_size _ B.free)) fun b o x => Heap.get?_push_of_some _ (Heap.get?_push_of_some _ x)⟩
def ItE (K : PySem.W.Frag) (k : Bool) (a : Addr) : It :=
  ⟨fun i H => ∃ xs x, Sq K k H a xs ∧ xs[i]? = some x,
   fun i H v H' => ∃ T x, v = V.ref T ∧ H T = none ∧ H' = upd H T (.tup [.int (i : Nat), x]) ∧ ∀ l, Sq K k H a l → l[i]? = some x,
   fun i H => ∃ xs, Sq K k H a xs ∧ i = xs.length⟩
theorem turn_enumP {P : Program} {w : World} {K : PySem.W.Frag} {elts : List Expr} {kk : Nat} {tpos : Pos} {k : Bool} {a e it : Addr} (ne : e ≠ it) (na : a ≠ it) (nea : e ≠ a) :
    Turn P w K (.Tuple elts kk tpos) (ItE K k a) [e, it] e (fun i h => (∃ old, IsEnum h e it ((i : Nat) : Int) old) ∧ HIt h k it a i) where
  mem := by simp
  obj := fun i h st b hb => by
    obtain ⟨⟨old, he⟩, hi⟩ := st
    have e' : b = e ∨ b = it := by simpa using hb
    rcases e' with rfl | rfl
    · exact ⟨_, he, fun v q => nomatch q⟩
    · exact hit_obj hi
  keep := fun i h h' st q => by
    obtain ⟨⟨old, he⟩, hi⟩ := st
    exact ⟨⟨old, q e (by simp) _ he⟩, hit_at hi fun o u => q it (by simp) o u⟩
  item := by
    intro X hP hw hK hc i pins s σ H E I hf st hg
    subst hP hw hK
    obtain ⟨⟨old, he⟩, hit⟩ := st
    obtain ⟨xs, x, hq, hx⟩ := hg
    obtain ⟨its, rv, p, _⟩ := inv_sq I hq
    obtain ⟨u, hu, ru⟩ := rv.get hx
    have hh : X.A.in1.handled = none := I.ok.hd hc
    have hel : e < s.heap.objs.size := Heap.lt_size he
    have hil : it < s.heap.objs.size := by obtain ⟨_, q, _⟩ := hit_obj hit; exact Heap.lt_size q
    have lt1 : i < its.toArray.size := by rw [List.size_toArray]; exact (List.getElem?_eq_some_iff.mp hu).1
    refine wpAny_pyNext_enum_itemC (drw hh k it a na its.toArray) he ⟨hit, p⟩ lt1 ne (by simp [ne, nea]) fun v h' tk e1 ho st1 hT hsz hk => ?_
    obtain rfl : v = u := by
      have z1 : its.toArray[i]? = some v := e1
      simp at z1
      rw [hu] at z1
      exact (Option.some.inj z1).symm
    refine ⟨_, rfl, wpAny_letOwnedTupleGo_enum (s := { s with heap := h', toks := tk + 1 }) ho fun h'' he' sb => ?_⟩
    have hT2 : h''.get? s.heap.objs.size = some { cls := .type "tuple", data := .seq #[.int i tk, v] } := (sb.2 _ (Nat.ne_of_gt hel)).trans hT
    have new : ObjOk X.prog X.w (upd H s.heap.objs.size (.tup [.int (i : Nat), x])) h'' s.heap.objs.size (.tup [.int (i : Nat), x]) :=
      ⟨by show 2 ≤ sizeLine; decide, [.int i tk, v], .cons ⟨_, rfl⟩ (.cons ru .nil), ⟨_, hT2, rfl, _, rfl⟩⟩
    have I1 : L2.Inv X pins σ (upd H s.heap.objs.size (.tup [.int (i : Nat), x])) { s with heap := h'', toks := tk + 1 } :=
      I.turnedNew (ch := [e, it]) (fun b ob hb q => (sb.2 b (fun z => hb (by simp [z]))).trans (hk b ob (fun z => hb (by simp [z])) (fun z => hb (by simp [z])) q)) hf (Nat.le_refl _) new
    refine ⟨.ref s.heap.objs.size, _, I1, rfl, ⟨_, x, rfl, I.hok.fresh (Nat.le_refl _), rfl, fun l hl => by rw [sq_inj I hl hq]; exact hx⟩, ⟨⟨v, ?_⟩, hit_at st1.1 fun o q => (sb.2 it (Ne.symm ne)).trans q⟩, fun b hb => ?_⟩
    · have e1 : ((i + 1 : Nat) : Int) = (i : Int) + 1 := by omega
      rw [e1]; exact he'
    · have hb' : b < s.heap.objs.size := by
        have e' : b = e ∨ b = it := by simpa using hb
        rcases e' with rfl | rfl
        · exact hel
        · exact hil
      rw [upd_ne (Nat.ne_of_lt hb')]
      exact (hf b hb).1
  done := by
    intro X hP hw hK hc i pins s σ H E I hf st hg
    subst hP hw hK
    obtain ⟨⟨old, he⟩, hit⟩ := st
    obtain ⟨xs, hq, hx⟩ := hg
    obtain ⟨its, rv, p, _⟩ := inv_sq I hq
    have m1 := rv.length
    have hh : X.A.in1.handled = none := I.ok.hd hc
    have hi2 : i = its.toArray.size := by rw [List.size_toArray]; omega
    refine wpAny_pyNext_enum_endD (drw hh k it a na its.toArray) he (by rw [← hi2]; exact ⟨hit, p⟩) fun h' hk => ⟨rfl, I.turnedL (t' := s.toks) (ch := [e, it]) (fun c o hb q => hk c o (fun q1 => hb (by simp [q1])) q) hf⟩
  self := fun A i s Q E st h => let ⟨⟨_, he⟩, _⟩ := st; wpAny_pyIter_enum he h
def iEnumP (K : PySem.W.Frag) (k : Bool) (ta : TA) : TI := fun σ H R => ta σ H fun vs H1 => ∃ a xs, vs = [.ref a] ∧ Sq K k H1 a xs ∧ R (ItE K k a) H1
theorem pi_enumP {X : Cx} {e : Expr} {ta : TA} {p pos tpos : Pos} {elts : List Expr} {kk : Nat} (k : Bool) (hg : Gl X "enumerate") (hm : X.mg "enumerate" = none) (ha : PA X [e] ta) (hs : starEach [e] X.env = [(false, eval e X.env)] := by rfl) :
    PI X (.Tuple elts kk tpos) (.Call (.Name "enumerate" p) [e] [] pos) (iEnumP X.K k ta) := by
  refine ⟨fun pins s σ H R I h => ?_⟩
  refine Call_ (ld_blt I hg hm boot_enumerate (PyProof.Rows.callWith_type1 (thn (ha.run pos pins s σ H _ I h) fun us s1 ⟨vs, H1, I1, r1, q1⟩ => ?_) hs rfl))
  obtain ⟨a, xs, rfl, hq, q⟩ := q1
  cases r1 with
  | cons r rr =>
    cases rr
    obtain rfl := r
    obtain ⟨its, rv, p1, la⟩ := inv_sq I1 hq
    refine enum_begins1 (bgn k a its.toArray) p1 fun h' he g1 hk => wpAny_pyIter_enum he ?_
    have I2 : L2.Inv X pins σ H1 { s1 with heap := h' } := I1.kept (t' := s1.toks) hk
    refine ⟨s1.heap.objs.size + 1, [s1.heap.objs.size + 1, s1.heap.objs.size], _, _, H1, rfl, I2, turn_enumP (k := k) (Nat.succ_ne_self _) (Nat.ne_of_lt la) (Nat.ne_of_gt (Nat.lt_succ_of_lt la)), ⟨⟨.none, he⟩, hit_0 g1⟩, fun b hb => ?_, q⟩
    have e' : b = s1.heap.objs.size + 1 ∨ b = s1.heap.objs.size := by simpa using hb
    have hle : s1.heap.objs.size ≤ b := by
      rcases e' with rfl | rfl
      · exact Nat.le_add_right _ _
      · exact Nat.le_refl _
    exact I1.fpOk hle (I1.hok.fresh hle)
end V1
set_option Elab.async false
set_option linter.all false
set_option maxRecDepth 100000
set_option maxHeartbeats 4000000
/-! The end of a law row, by a promise that knows the guards. -/
namespace V1
open PySem PySem.Spec PyProof.Rows L2

theorem endG {P : Program} {w : World} {K : PySem.W.Frag} {mg mb : Str → Option Value} {k : Nat} {fa a : Addr} {fd : FuncData} {x : Str} {sp : Sp} {s1 : Shared} {vs : List Value} {ns : List Int}
    (KX : K.In s1.heap) (hns : s1.heap.Ns mainGlobals mg) (hb : s1.heap.Ns builtinsNs mb) (hbb : ∀ x : Str, x ≠ "__name__" → mb x = bootBuiltins x) (nl : s1.heap.NoLimit) (hg : s1.gens = #[])
    (ha : s1.heap.get? a = some { cls := .type "list", data := .seq vs.toArray }) (hi : IntsAre vs ns) (hl : ns.length ≤ sizeLine) (hr : Room k callerA)
    (F : ∀ base : Heap, K.In base → base.Ns mainGlobals mg → FnG P w K mg base k fa fd [x] sp) (bnd : ∀ (s : Shared) (u : Value), BindsTo s fd ⟨[u], []⟩ [(x, u)])
    (hsp : ∀ H : Hp, Only H → SqL K H a (ns.map V.int) → sp [.ref a] H (fun v _ => v = .bl true) fun _ _ _ => False) :
    codeAny (model P w) callerA (.call (.ref fa) ⟨[.ref a], []⟩) (fun r t => r = .ok (.ret (.bool true)) ∧ OldK s1.heap t.heap ∧ t.os = s1.os ∧ AllBare t.gens) s1 := by
  have rv := vals_ints hi
  have lenV := hi.length
  have core : ∀ H : Hp, Only H → SqL K H a (ns.map V.int) → HOk P w H s1.heap → (∀ b, H b ≠ none → b = a) → (H a ≠ none → K.lookup a = none) →
      codeAny (model P w) callerA (.call (.ref fa) ⟨[.ref a], []⟩) (fun r t => r = .ok (.ret (.bool true)) ∧ OldK s1.heap t.heap ∧ t.os = s1.os ∧ AllBare t.gens) s1 := by
    intro H hO hS ok only notK
    have free : ∀ {b : Addr} {o : Obj}, s1.heap.get? b = some o → (b = a → False) → H b = none := fun {b o} e d => by
      cases q : H b with
      | none => rfl
      | some u => exact (d (only b (by rw [q]; simp))).elim
    have nsK : ∀ {b : Addr} {m : Str → Option Value}, s1.heap.Ns b m → (hidT s1.heap H).Ns b m := fun {b m} ⟨o, es, ep, e, d, r⟩ =>
      ⟨o, es, ep, hidT_get e (free e fun z => by
        rw [z, ha] at e
        cases e
        have d1 : Data.seq vs.toArray _ = Data.dict es ep := d
        cases d1), d, r⟩
    have hKb : K.In (hidT s1.heap H) := fun b o e => hidT_get (KX b o e) (by
      cases q : H b with
      | none => rfl
      | some u =>
        have z := only b (by rw [q]; simp)
        rw [z] at e q
        rw [notK (by rw [q]; simp)] at e
        cases e)
    have hM : Mod K mg (hidT s1.heap H) := ⟨hKb, nsK hns, ⟨mb, nsK hb, hbb⟩, let ⟨mc, h1, h2⟩ := nl; ⟨mc, nsK h1, h2⟩⟩
    have e0 : Env0 P w K mg (hidT s1.heap H) callerA [] s1 H := ⟨rfl, hM, fun b o e => of_hidT e, Nat.le_of_eq (hidT_size _ _), trivial, (fun b hb => absurd (show b ∈ ([] : List Addr) from hb) (by simp)), ok, .of_eq hg⟩
    refine codeAny_mono ((F _ hKb (nsK hns)).run callerA [] s1 H ⟨[.ref a], []⟩ [.ref a] [.ref a] _ _ rfl hr e0 (bnd s1 (.ref a)) (.cons rfl .nil) (hsp H hO hS)) fun r t h => ?_
    cases r with
    | error e => exact False.elim h
    | ok fl =>
      cases fl with
      | next => exact False.elim h
      | brk => exact False.elim h
      | cont => exact False.elim h
      | ret u =>
        obtain ⟨v, H2, os, bare, un, ok2, r2, q⟩ := h
        obtain rfl : v = .bl true := q
        obtain rfl : u = Value.bool true := r2
        refine ⟨rfl, OldK.of_keep fun b o e => ?_, os, bare⟩
        cases q : H b with
        | none => exact un.keep b o e q (fun z => absurd (show b ∈ ([] : List Addr) from z) (by simp)) (by simp)
        | some u =>
          rcases hO b with z | ⟨ob, xs, z⟩
          · rw [q] at z
            cases z
          · obtain ⟨e1, _⟩ := ok b _ z
            obtain ⟨e2, _⟩ := ok2 b _ (un.frzs b ob _ z)
            rw [e] at e1
            cases e1
            exact e2
  cases hk : K.lookup a with
  | some o =>
    have e := KX a o hk
    rw [ha] at e
    cases e
    exact core (fun _ => none) (fun _ => Or.inl rfl) (Or.inr ⟨_, vs.toArray, _, hk, rfl, rfl, rfl, by rw [List.size_toArray, lenV]; exact hl, by simpa using rv⟩) (fun b u z => by
      have z1 : (none : Option HO) = some u := z
      cases z1) (fun b z => absurd rfl z) (fun z => absurd rfl z)
  | none =>
    have one : ∀ b, (if b = a then some (HO.frz { cls := .type "list", data := .seq vs.toArray } (.lst (ns.map V.int))) else none) ≠ none → b = a := fun b z => by
      by_cases e : b = a
      · exact e
      · exact absurd (if_neg e) z
    refine core (fun b => if b = a then some (.frz { cls := .type "list", data := .seq vs.toArray } (.lst (ns.map V.int))) else none) (fun b => ?_) (Or.inl (Or.inr ⟨{ cls := .type "list", data := .seq vs.toArray }, if_pos rfl⟩)) (fun b u z => ?_) one fun _ => hk
    · by_cases e : b = a
      · exact Or.inr ⟨_, _, if_pos e⟩
      · exact Or.inl (if_neg e)
    · have e : b = a := one b (fun y => by
        have z2 := y.symm.trans z
        cases z2)
      have z1 := (if_pos e).symm.trans z
      cases z1
      subst e
      exact ⟨ha, by rw [List.length_map]; exact hl, vs, _, rv, ha⟩
theorem walkG {l : PySem.W.OpenLaw} {n k : Nat} {q : Program} {loose : List Str} {XP : (Str → Option Value) → Heap → Prop} {YP : World → Heap → Prop} {d : DefRec} {x : Str}
    (hn : l.most = some n) (hn2 : n ≤ sizeLine) (hdf : d.params.defaults = []) (hr : Room k callerA)
    (F : ∀ (w : World) (mg : Str → Option Value) (fa : Addr) (h : Heap), YP w h → h.Ns mainGlobals mg → mg d.name = some (.ref fa) →
      ∃ (K : PySem.W.Frag) (fd : FuncData) (sp : Sp), K.In h ∧ (∀ (s : Shared) (u : Value), BindsTo s fd ⟨[u], []⟩ [(x, u)]) ∧
        (∀ (H : Hp) (a : Addr) (ns : List Int), ns.length ≤ n → Only H → SqL K H a (ns.map V.int) → sp [.ref a] H (fun v _ => v = .bl true) fun _ _ _ => False) ∧
        ∀ base : Heap, K.In base → base.Ns mainGlobals mg → FnG l.prog w K mg base k fa fd [x] sp) :
    PySem.W.WalkO q loose XP YP l.row.toRowW d [] (fun f vs => PySem.call f vs) := by
  refine Att.attach_call hn hdf fun w s0 s1 mg mb fa o pm cd doc a vs ns G Y ho hd hcd hmg hobj hints hlen hg => ?_
  obtain ⟨K, fd, sp, KX, hb, hsp, hF⟩ := F w mg fa _ Y G.T.g hmg
  exact endG KX G.T.g G.T.b G.T.builtins G.T.nolimit hg hobj hints (Nat.le_trans hlen hn2) hr hF hb fun H hO hS => hsp H a ns hlen hO hS
end V1
set_option Elab.async false
set_option linter.all false
set_option maxRecDepth 100000
set_option maxHeartbeats 4000000
/-! What an expression, a statement comes to, told by DATA: the slots hold data, an expression gives data, the heap grows. -/
namespace V1
open PySem PySem.Spec PyProof.Rows L2

/-! ### data that stand in tracked objects, away from the addresses of A -/
mutual
inductive Dv (A : Addr → Prop) (H : Hp) : V → PyData → Prop
  | non : Dv A H .non .none
  | bl (b : Bool) : Dv A H (.bl b) (.bool b)
  | int (i : Int) : Dv A H (.int i) (.int i)
  | str (x : Str) : Dv A H (.str x) (.str x)
  | lst {a : Addr} {xs : List V} {ds : List PyData} : ¬ A a → H a = some (.lst xs) → DvAll A H xs ds → Dv A H (.ref a) (.list ds)
  | tup {a : Addr} {xs : List V} {ds : List PyData} : ¬ A a → H a = some (.tup xs) → DvAll A H xs ds → Dv A H (.ref a) (.tuple ds)
inductive DvAll (A : Addr → Prop) (H : Hp) : List V → List PyData → Prop
  | nil : DvAll A H [] []
  | cons {v : V} {vs : List V} {d : PyData} {ds : List PyData} : Dv A H v d → DvAll A H vs ds → DvAll A H (v :: vs) (d :: ds)
end
mutual
theorem Dv.map {A A' : Addr → Prop} {H H' : Hp} (f : ∀ a o, ¬ A a → H a = some o → (∀ kvs, o ≠ .dK kvs) → ¬ A' a ∧ H' a = some o) : ∀ {d : PyData} {v : V}, Dv A H v d → Dv A' H' v d
  | .none, _, h => by cases h; exact .non
  | .bool b, _, h => by cases h; exact .bl b
  | .int i, _, h => by cases h; exact .int i
  | .str x, _, h => by cases h; exact .str x
  | .list ds, _, h => by
    cases h with
    | lst n e r =>
      obtain ⟨n2, e2⟩ := f _ _ n e (fun kvs z => by cases z)
      exact .lst n2 e2 (DvAll.map f r)
  | .tuple ds, _, h => by
    cases h with
    | tup n e r =>
      obtain ⟨n2, e2⟩ := f _ _ n e (fun kvs z => by cases z)
      exact .tup n2 e2 (DvAll.map f r)
  | .dict _, _, h => by cases h
theorem DvAll.map {A A' : Addr → Prop} {H H' : Hp} (f : ∀ a o, ¬ A a → H a = some o → (∀ kvs, o ≠ .dK kvs) → ¬ A' a ∧ H' a = some o) : ∀ {ds : List PyData} {vs : List V}, DvAll A H vs ds → DvAll A' H' vs ds
  | [], _, h => by cases h; exact .nil
  | d :: ds, _, h => by
    cases h with
    | cons h1 h2 => exact .cons (Dv.map f h1) (DvAll.map f h2)
end
mutual
theorem Dv.dp {K : PySem.W.Frag} {A : Addr → Prop} {H : Hp} : ∀ {d : PyData} {v : V}, Dv A H v d → Dp K H v d
  | .none, _, h => by cases h; exact .non
  | .bool b, _, h => by cases h; exact .bl b
  | .int i, _, h => by cases h; exact .int i
  | .str x, _, h => by cases h; exact .str x
  | .list ds, _, h => by
    cases h with
    | lst n e r => exact .lst (SqL.of e) (DvAll.dp r)
  | .tuple ds, _, h => by
    cases h with
    | tup n e r => exact .tup (SqT.of e) (DvAll.dp r)
  | .dict _, _, h => by cases h
theorem DvAll.dp {K : PySem.W.Frag} {A : Addr → Prop} {H : Hp} : ∀ {ds : List PyData} {vs : List V}, DvAll A H vs ds → DpAll K H vs ds
  | [], _, h => by cases h; exact .nil
  | d :: ds, _, h => by
    cases h with
    | cons h1 h2 => exact .cons (Dv.dp h1) (DvAll.dp h2)
end
section
variable {A : Addr → Prop} {H : Hp} {xs ys : List V} {ds es : List PyData}
theorem DvAll.length (h : DvAll A H xs ds) : xs.length = ds.length := by
  induction ds generalizing xs with
  | nil => cases h; rfl
  | cons d ds ih => cases h with | cons h1 h2 => rw [List.length_cons, List.length_cons, ih h2]
theorem DvAll.app (h : DvAll A H xs ds) (h2 : DvAll A H ys es) : DvAll A H (xs ++ ys) (ds ++ es) := by
  induction ds generalizing xs with
  | nil => cases h; exact h2
  | cons d ds ih => cases h with | cons a b => exact .cons a (ih b)
theorem DvAll.get (h : DvAll A H xs ds) {i : Nat} {d : PyData} (e : ds[i]? = some d) : ∃ x, xs[i]? = some x ∧ Dv A H x d := by
  induction ds generalizing xs i with
  | nil => simp at e
  | cons d0 ds ih =>
    cases h with
    | cons a b =>
      cases i with
      | zero => simp at e; subst e; exact ⟨_, rfl, a⟩
      | succ i => simpa using ih b (by simpa using e)
theorem DvAll.getx (h : DvAll A H xs ds) {i : Nat} {x : V} (e : xs[i]? = some x) : ∃ d, ds[i]? = some d ∧ Dv A H x d := by
  induction ds generalizing xs i with
  | nil => cases h; simp at e
  | cons d0 ds ih =>
    cases h with
    | cons a b =>
      cases i with
      | zero => simp at e; subst e; exact ⟨_, rfl, a⟩
      | succ i => simpa using ih b (by simpa using e)
theorem DvAll.take (n : Nat) (h : DvAll A H xs ds) : DvAll A H (xs.take n) (ds.take n) := by
  induction ds generalizing xs n with
  | nil => cases h; simp; exact .nil
  | cons d0 ds ih =>
    cases h with
    | cons a b =>
      cases n with
      | zero => exact .nil
      | succ n => exact .cons a (ih n b)
theorem DvAll.drop (n : Nat) (h : DvAll A H xs ds) : DvAll A H (xs.drop n) (ds.drop n) := by
  induction ds generalizing xs n with
  | nil => cases h; simp; exact .nil
  | cons d0 ds ih =>
    cases h with
    | cons a b =>
      cases n with
      | zero => exact .cons a b
      | succ n => exact ih n b
theorem DvAll.set {i : Nat} {x : V} {d : PyData} (h : DvAll A H xs ds) (hx : Dv A H x d) : DvAll A H (xs.set i x) (ds.set i d) := by
  induction ds generalizing xs i with
  | nil => cases h; exact .nil
  | cons d0 ds ih =>
    cases h with
    | cons a b =>
      cases i with
      | zero => exact .cons hx b
      | succ i => exact .cons a (ih b)
theorem DvAll.cut (h : DvAll A H xs ds) (lo hi : Option Int) : DvAll A H (cutV xs lo hi) ((ds.drop (HT.sIx ds.length 0 lo)).take (HT.sIx ds.length ds.length hi - HT.sIx ds.length 0 lo)) := by
  unfold cutV
  rw [h.length]
  exact (h.drop _).take _
theorem DvAll.ints {ns : List Int} (h : DvAll A H xs (ns.map PyData.int)) : xs = ns.map V.int := by
  induction ns generalizing xs with
  | nil => cases h; rfl
  | cons n ns ih =>
    cases h with
    | cons a b =>
      cases a
      rw [ih b]
      rfl
theorem DvAll.rep (n : Nat) (h : DvAll A H xs ds) : DvAll A H (List.replicate n xs).flatten (List.replicate n ds).flatten := by
  induction n with
  | zero => exact .nil
  | succ n ih => rw [List.replicate_succ, List.replicate_succ, List.flatten_cons, List.flatten_cons]; exact h.app ih
end

/-! ### how a heap goes on -/
structure Rl where
  G : Nat → Hp → Prop
  R : Nat → Hp → Hp → Prop
  M : V → Prop
  gle : ∀ {a b H}, a ≤ b → G b H → G a H
  rle : ∀ {a b H H'}, a ≤ b → R a H H' → R b H H'
  gr : ∀ {a b H H'}, G (a + b) H → R a H H' → G b H'
  tr : ∀ {a b H H1 H2}, R a H H1 → R b H1 H2 → R (a + b) H H2
  same : ∀ {H H'}, G 0 H → Same H H' → R 0 H H'
  fresh : ∀ {a H H' q o}, R a H H' → H q = none → R a H (upd H' q o)
  keep : ∀ {a H H' b o}, R a H H' → H b = some o → (∀ kvs, o ≠ .dK kvs) → H' b = some o
  free : ∀ {a H H' q}, R a H H' → H' q = none → H q = none
  mref : ∀ {v}, M v → ∃ a, v = .ref a
abbrev mark : PyData := .dict []
def pureL : Rl where
  G := fun _ _ => True
  R := fun _ H H' => Same H H'
  M := fun _ => False
  gle := fun _ _ => trivial
  rle := fun _ r => r
  gr := fun _ _ => trivial
  tr := fun a b => a.trans b
  same := fun _ s => s
  fresh := fun s h b o e => by rw [upd_ne (ne_of_none e h)]; exact s b o e
  keep := fun s e _ => s _ _ e
  free := fun s e => Same.free s e
  mref := fun h => h.elim

section
variable (L : Rl)
def Dq (A : Addr → Prop) (H : Hp) (v : V) (d : PyData) : Prop := (d = mark ∧ L.M v) ∨ Dv A H v d
def EnvOk (A : Addr → Prop) (σ : L2.St) (H : Hp) (Γ : List (Option PyData)) : Prop := σ.length = Γ.length ∧ ∀ (i : Nat) (d : PyData), Γ[i]? = some (some d) → ∃ v, σ[i]? = some (some v) ∧ Dq L A H v d
def Inn (A : Addr → Prop) (H : Hp) : Prop := ∀ b, A b → H b ≠ none
def EvG (n : Nat) (te : TE) (Γ : List (Option PyData)) (P : PyData → Prop) : Prop := ∀ A σ H, Inn A H → EnvOk L A σ H Γ → L.G n H → ∀ Q : VK, (∀ v d H', L.R n H H' → Dq L A H' v d → P d → Q v H') → te σ H Q
def EvD (te : TE) (Γ : List (Option PyData)) (d : PyData) : Prop := EvG L 0 te Γ (fun x => x = d)
def EaG (n : Nat) (ta : TA) (Γ : List (Option PyData)) (P : List PyData → Prop) : Prop := ∀ A σ H, Inn A H → EnvOk L A σ H Γ → L.G n H → ∀ Q : List V → Hp → Prop, (∀ vs ds H', L.R n H H' → vs.length = ds.length → (∀ (i : Nat) d, ds[i]? = some d → ∃ v, vs[i]? = some v ∧ Dq L A H' v d) → P ds → Q vs H') → ta σ H Q
def EaD (ta : TA) (Γ : List (Option PyData)) (ds : List PyData) : Prop := EaG L 0 ta Γ (fun x => x = ds)
def EtD (tt : TT) (Γ : List (Option PyData)) (b : Bool) : Prop := ∀ A σ H, Inn A H → EnvOk L A σ H Γ → L.G 0 H → ∀ Q : Bool → Hp → Prop, (∀ H', L.R 0 H H' → Q b H') → tt σ H Q
def EtG (n : Nat) (tt : TT) (Γ : List (Option PyData)) (P : Bool → Prop) : Prop := ∀ A σ H, Inn A H → EnvOk L A σ H Γ → L.G n H → ∀ Q : Bool → Hp → Prop, (∀ b H', L.R n H H' → P b → Q b H') → tt σ H Q
def SG (n : Nat) (ts : TS) (Γ : List (Option PyData)) (N : List (Option PyData) → Prop) (Rt : PyData → Prop) : Prop := ∀ A σ H, Inn A H → EnvOk L A σ H Γ → L.G n H → ∀ D : Ends,
  (∀ σ' H' Γ', L.R n H H' → EnvOk L A σ' H' Γ' → N Γ' → D.nx σ' H') → (∀ v d H', L.R n H H' → Dq L A H' v d → Rt d → D.rt v H') → ts D σ H
end
section
variable {L : Rl} {A : Addr → Prop} {H H' : Hp} {v : V} {d : PyData} {σ : L2.St} {Γ : List (Option PyData)} {n a b : Nat}
theorem Dv.r (h : Dv A H v d) (r : L.R n H H') : Dv A H' v d := h.map fun _ _ na e k => ⟨na, L.keep r e k⟩
theorem DvAll.r {vs : List V} {ds : List PyData} (h : DvAll A H vs ds) (r : L.R n H H') : DvAll A H' vs ds := h.map fun _ _ na e k => ⟨na, L.keep r e k⟩
theorem Dq.r (h : Dq L A H v d) (r : L.R n H H') : Dq L A H' v d := h.imp (fun x => x) fun x => x.r r
theorem EnvOk.r (h : EnvOk L A σ H Γ) (r : L.R n H H') : EnvOk L A σ H' Γ := ⟨h.1, fun i d e => let ⟨v, h1, h2⟩ := h.2 i d e; ⟨v, h1, h2.r r⟩⟩
theorem Inn.r (h : Inn A H) (r : L.R n H H') : Inn A H' := fun b hb z => h b hb (L.free r z)
theorem Inn.no (h : Inn A H) {q : Addr} (e : H q = none) : ¬ A q := fun z => h q z e
theorem EnvOk.set (h : EnvOk L A σ H Γ) (hv : Dq L A H v d) (i : Nat) : EnvOk L A (σ.set i (some v)) H (Γ.set i (some d)) := by
  refine ⟨by rw [List.length_set, List.length_set]; exact h.1, fun j d' e => ?_⟩
  by_cases hj : i = j
  · subst hj
    have hl : i < Γ.length := by
      have := (List.getElem?_eq_some_iff.mp e).1
      rwa [List.length_set] at this
    rw [List.getElem?_set_self hl] at e
    have e1 : d = d' := Option.some.inj (Option.some.inj e)
    subst e1
    exact ⟨v, List.getElem?_set_self (by rw [h.1]; exact hl), hv⟩
  · rw [List.getElem?_set_ne hj] at e
    obtain ⟨w, h1, h2⟩ := h.2 j d' e
    exact ⟨w, by rw [List.getElem?_set_ne hj]; exact h1, h2⟩
theorem Dq.ne (h : Dq L A H v d) (hd : d ≠ mark) : Dv A H v d := h.elim (fun z => absurd z.1 hd) fun z => z
theorem Dq.int {i : Int} (h : Dq L A H v (.int i)) : v = .int i := by
  have h1 := h.ne (by intro z; cases z)
  cases h1
  rfl
theorem Dq.str {i : Str} (h : Dq L A H v (.str i)) : v = .str i := by
  have h1 := h.ne (by intro z; cases z)
  cases h1
  rfl
theorem Dq.bool {i : Bool} (h : Dq L A H v (.bool i)) : v = .bl i := by
  have h1 := h.ne (by intro z; cases z)
  cases h1
  rfl
theorem Dq.tuple {ds : List PyData} (h : Dq L A H v (.tuple ds)) : ∃ a xs, v = .ref a ∧ ¬ A a ∧ H a = some (.tup xs) ∧ DvAll A H xs ds := by
  have h1 := h.ne (by intro z; cases z)
  cases h1 with
  | tup n e r => exact ⟨_, _, rfl, n, e, r⟩
theorem Dq.list {ds : List PyData} (h : Dq L A H v (.list ds)) : ∃ a xs, v = .ref a ∧ ¬ A a ∧ H a = some (.lst xs) ∧ DvAll A H xs ds := by
  have h1 := h.ne (by intro z; cases z)
  cases h1 with
  | lst n e r => exact ⟨_, _, rfl, n, e, r⟩
/-- the budget is a nought's -/
theorem Rl.g0 (h : L.G n H) : L.G 0 H := L.gle (Nat.zero_le _) h
theorem Rl.newR (g : L.G n H) {q : Addr} {o : HO} (e : H q = none) : L.R 0 H (upd H q o) := L.same (L.g0 g) fun b u z => by rw [upd_ne (ne_of_none z e)]; exact z
theorem Rl.refl (g : L.G n H) : L.R 0 H H := L.same (L.g0 g) (Same.refl H)
theorem Rl.gR (g : L.G (a + b) H) (r : L.R a H H') : L.G b H' := L.gr g r

/-! ### expressions -/
variable {te ta tb : TE} {t : TA} {tt tu : TT} {P P1 : PyData → Prop}
theorem EvG.mono {P' : PyData → Prop} (h : EvG L a te Γ P) (hn : a ≤ b) (hp : ∀ d, P d → P' d) : EvG L b te Γ P' := fun A σ H hi he hg Q q => h A σ H hi he (L.gle hn hg) Q fun v d H' r hd p => q v d H' (L.rle hn r) hd (hp d p)
theorem EvD.to {d' : PyData} (h : EvD L te Γ d) (e : d = d') : EvD L te Γ d' := e ▸ h
theorem eg_var {i : Nat} (e : Γ[i]? = some (some d)) : EvD L (tVar i) Γ d := fun A σ H hi he hg Q q => by
  obtain ⟨v, h1, h2⟩ := he.2 i d e
  exact ⟨v, h1, q v d H (Rl.refl hg) h2 rfl⟩
theorem eg_int {i : Int} : EvD L (tC (.int i)) Γ (.int i) := fun A σ H hi he hg Q q => q _ _ H (Rl.refl hg) (.inr (.int i)) rfl
theorem eg_str {i : Str} : EvD L (tC (.str i)) Γ (.str i) := fun A σ H hi he hg Q q => q _ _ H (Rl.refl hg) (.inr (.str i)) rfl
theorem eg_bl {i : Bool} : EvD L (tC (.bl i)) Γ (.bool i) := fun A σ H hi he hg Q q => q _ _ H (Rl.refl hg) (.inr (.bl i)) rfl
theorem eg_non : EvD L (tC .non) Γ .none := fun A σ H hi he hg Q q => q _ _ H (Rl.refl hg) (.inr .non) rfl
/-- what a two-place operation gives, by data -/
def OpS (L : Rl) (r : R2) (d1 d2 : PyData) (P : PyData → Prop) : Prop := ∀ A H x y, Inn A H → L.G 0 H → Dq L A H x d1 → Dq L A H y d2 → ∀ Q : VK, (∀ v d H', L.R 0 H H' → Dq L A H' v d → P d → Q v H') → r x y H Q
theorem eg_opG {r : R2} {P1 P2 P : PyData → Prop} (ha : EvG L a ta Γ P1) (hb : EvG L b tb Γ P2) (hr : ∀ d1 d2, P1 d1 → P2 d2 → OpS L r d1 d2 P) : EvG L (a + b) (tOp r ta tb) Γ P := fun A σ H hi he hg Q q =>
  ha A σ H hi he (L.gle (Nat.le_add_right _ _) hg) _ fun x d1 H1 r1 hx p1 => hb A σ H1 (hi.r r1) (he.r r1) (Rl.gR hg r1) _ fun y d2 H2 r2 hy p2 =>
    hr d1 d2 p1 p2 A H2 x y ((hi.r r1).r r2) (Rl.gR (b := 0) (Rl.gR (a := a) (b := b) hg r1) r2) (hx.r r2) hy Q fun v d H3 r3 hv p => q v d H3 (L.tr (b := 0) (L.tr r1 r2) r3) hv p
theorem eg_op {r : R2} {d1 d2 d : PyData} (ha : EvD L ta Γ d1) (hb : EvD L tb Γ d2) (hr : OpS L r d1 d2 (fun x => x = d)) : EvD L (tOp r ta tb) Γ d :=
  eg_opG (a := 0) (b := 0) ha hb fun x y e1 e2 => by rw [e1, e2]; exact hr
theorem os_I0 {g : Int → Int → Int} {i j : Int} : OpS L (rI0 fun i j => .int (g i j)) (.int i) (.int j) (fun x => x = .int (g i j)) := fun A H x y hi hg hx hy Q q => by
  obtain rfl := hx.int
  obtain rfl := hy.int
  exact ⟨i, j, rfl, rfl, q _ _ H (Rl.refl hg) (.inr (.int _)) rfl⟩
theorem os_I {C : Int → Int → Prop} {g : Int → Int → Int} {i j : Int} (hc : C i j) : OpS L (rI C fun i j => .int (g i j)) (.int i) (.int j) (fun x => x = .int (g i j)) := fun A H x y hi hg hx hy Q q => by
  obtain rfl := hx.int
  obtain rfl := hy.int
  exact ⟨i, j, rfl, rfl, hc, q _ _ H (Rl.refl hg) (.inr (.int _)) rfl⟩
theorem os_B0 {g : Int → Int → Bool} {i j : Int} : OpS L (rI0 fun i j => .bl (g i j)) (.int i) (.int j) (fun x => x = .bool (g i j)) := fun A H x y hi hg hx hy Q q => by
  obtain rfl := hx.int
  obtain rfl := hy.int
  exact ⟨i, j, rfl, rfl, q _ _ H (Rl.refl hg) (.inr (.bl _)) rfl⟩
theorem eg_add {i j : Int} (ha : EvD L ta Γ (.int i)) (hb : EvD L tb Γ (.int j)) : EvD L (tOp (rI0 fun i j => .int (i + j)) ta tb) Γ (.int (i + j)) := eg_op ha hb os_I0
theorem eg_sub {i j : Int} (ha : EvD L ta Γ (.int i)) (hb : EvD L tb Γ (.int j)) : EvD L (tOp (rI0 fun i j => .int (i - j)) ta tb) Γ (.int (i - j)) := eg_op ha hb os_I0
theorem eg_mul {i j : Int} (ha : EvD L ta Γ (.int i)) (hb : EvD L tb Γ (.int j)) (hc : CMulW i j) : EvD L (tOp (rI CMulW fun i j => .int (i * j)) ta tb) Γ (.int (i * j)) := eg_op ha hb (os_I hc)
theorem eg_div {i j : Int} (ha : EvD L ta Γ (.int i)) (hb : EvD L tb Γ (.int j)) (hc : CDivW i j) : EvD L (tOp (rI CDivW fun i j => .int (i / j)) ta tb) Γ (.int (i / j)) := eg_op ha hb (os_I hc)
theorem eg_mod {i j : Int} (ha : EvD L ta Γ (.int i)) (hb : EvD L tb Γ (.int j)) (hc : j ≠ 0) : EvD L (tOp (rI (fun _ j => j ≠ 0) fun i j => .int (i.fmod j)) ta tb) Γ (.int (i.fmod j)) := eg_op ha hb (os_I hc)
theorem eg_pow {i j : Int} (ha : EvD L ta Γ (.int i)) (hb : EvD L tb Γ (.int j)) (hc : CPow i j) : EvD L (tOp (rI CPow fun i j => .int (i ^ j.toNat)) ta tb) Γ (.int (i ^ j.toNat)) := eg_op ha hb (os_I hc)
theorem eg_lt {i j : Int} (ha : EvD L ta Γ (.int i)) (hb : EvD L tb Γ (.int j)) : EvD L (tOp (rI0 fun i j => .bl (decide (i < j))) ta tb) Γ (.bool (decide (i < j))) := eg_op ha hb os_B0
theorem eg_gt {i j : Int} (ha : EvD L ta Γ (.int i)) (hb : EvD L tb Γ (.int j)) : EvD L (tOp (rI0 fun i j => .bl (decide (j < i))) ta tb) Γ (.bool (decide (j < i))) := eg_op ha hb os_B0
theorem eg_ge {i j : Int} (ha : EvD L ta Γ (.int i)) (hb : EvD L tb Γ (.int j)) : EvD L (tOp (rI0 fun i j => .bl (decide (j ≤ i))) ta tb) Γ (.bool (decide (j ≤ i))) := eg_op ha hb os_B0
theorem eg_eqI {i j : Int} (ha : EvD L ta Γ (.int i)) (hb : EvD L tb Γ (.int j)) : EvD L (tOp rEq ta tb) Γ (.bool (decide (i = j))) := eg_op ha hb fun A H x y hi hg hx hy Q q => by
  obtain rfl := hx.int
  obtain rfl := hy.int
  refine ⟨rfl, ?_⟩
  have e : decide (V.int i = V.int j) = decide (i = j) := by
    by_cases z : i = j
    · rw [z]; simp
    · rw [decide_eq_false z]; exact decide_eq_false fun y => z (by injection y)
  rw [e]
  exact q _ _ H (Rl.refl hg) (.inr (.bl _)) rfl
theorem eg_neI {i j : Int} (ha : EvD L ta Γ (.int i)) (hb : EvD L tb Γ (.int j)) : EvD L (tOp rNe ta tb) Γ (.bool (!decide (i = j))) := eg_op ha hb fun A H x y hi hg hx hy Q q => by
  obtain rfl := hx.int
  obtain rfl := hy.int
  refine ⟨rfl, ?_⟩
  have e : decide (V.int i = V.int j) = decide (i = j) := by
    by_cases z : i = j
    · rw [z]; simp
    · rw [decide_eq_false z]; exact decide_eq_false fun y => z (by injection y)
  rw [e]
  exact q _ _ H (Rl.refl hg) (.inr (.bl _)) rfl
theorem eg_eqS {i j : Str} (ha : EvD L ta Γ (.str i)) (hb : EvD L tb Γ (.str j)) : EvD L (tOp rEq ta tb) Γ (.bool (decide (i = j))) := eg_op ha hb fun A H x y hi hg hx hy Q q => by
  obtain rfl := hx.str
  obtain rfl := hy.str
  refine ⟨rfl, ?_⟩
  have e : decide (V.str i = V.str j) = decide (i = j) := by
    by_cases z : i = j
    · rw [z]; simp
    · rw [decide_eq_false z]; exact decide_eq_false fun y => z (by injection y)
  rw [e]
  exact q _ _ H (Rl.refl hg) (.inr (.bl _)) rfl
theorem eg_neg {i : Int} (ha : EvD L ta Γ (.int i)) : EvD L (tUn (rU fun i => .int (-i)) ta) Γ (.int (-i)) := fun A σ H hi he hg Q q => ha A σ H hi he hg _ fun x d1 H1 r1 hx p1 => by
  subst p1
  obtain rfl := hx.int
  exact ⟨i, rfl, q _ _ H1 r1 (.inr (.int _)) rfl⟩
theorem os_ixT {K : PySem.W.Frag} {ds : List PyData} {i : Int} (h : atI ds i = some d) : OpS L (rIxT K) (.tuple ds) (.int i) (fun x => x = d) := fun A H x y hi hg hx hy Q q => by
  obtain ⟨p, xs, rfl, na, e, r⟩ := hx.tuple
  obtain rfl := hy.int
  unfold atI at h
  cases e2 : ixN ds.length i with
  | none => rw [e2] at h; cases h
  | some j =>
    rw [e2] at h
    obtain ⟨v, hv, dv⟩ := r.get (i := j) h
    refine ⟨p, xs, i, v, rfl, rfl, SqT.of e, ?_, q v d H (Rl.refl hg) (.inr dv) rfl⟩
    unfold atI
    rw [r.length, e2]
    exact hv
theorem os_ixL {K : PySem.W.Frag} {ds : List PyData} {i : Int} (h : atI ds i = some d) : OpS L (rIxL K) (.list ds) (.int i) (fun x => x = d) := fun A H x y hi hg hx hy Q q => by
  obtain ⟨p, xs, rfl, na, e, r⟩ := hx.list
  obtain rfl := hy.int
  unfold atI at h
  cases e2 : ixN ds.length i with
  | none => rw [e2] at h; cases h
  | some j =>
    rw [e2] at h
    obtain ⟨v, hv, dv⟩ := r.get (i := j) h
    refine ⟨p, xs, i, v, rfl, rfl, SqL.of e, ?_, q v d H (Rl.refl hg) (.inr dv) rfl⟩
    unfold atI
    rw [r.length, e2]
    exact hv
theorem eg_ixT {K : PySem.W.Frag} {ds : List PyData} {i : Int} (ha : EvD L ta Γ (.tuple ds)) (hb : EvD L tb Γ (.int i)) (h : atI ds i = some d) : EvD L (tOp (rIxT K) ta tb) Γ d := eg_op ha hb (os_ixT h)
theorem eg_ixL {K : PySem.W.Frag} {ds : List PyData} {i : Int} (ha : EvD L ta Γ (.list ds)) (hb : EvD L tb Γ (.int i)) (h : atI ds i = some d) : EvD L (tOp (rIxL K) ta tb) Γ d := eg_op ha hb (os_ixL h)
theorem os_cat {ds es : List PyData} (hl : ds.length + es.length ≤ 100000) : OpS L rCat (.list ds) (.list es) (fun x => x = .list (ds ++ es)) := fun A H x y hi hg hx hy Q q => by
  obtain ⟨p, xs, rfl, na, e, r⟩ := hx.list
  obtain ⟨p2, ys, rfl, na2, e2, r2⟩ := hy.list
  refine ⟨p, p2, xs, ys, rfl, rfl, e, e2, Nat.le_trans (by rw [r.length, r2.length]; exact hl) (by decide), fun l hl2 => ?_⟩
  have rr := Rl.newR (o := .lst (xs ++ ys)) hg hl2
  exact q _ _ _ rr (.inr (.lst (hi.no hl2) upd_same ((r.app r2).r rr))) rfl
theorem eg_cat {ds es : List PyData} (ha : EvD L ta Γ (.list ds)) (hb : EvD L tb Γ (.list es)) (hl : ds.length + es.length ≤ 100000) : EvD L (tOp rCat ta tb) Γ (.list (ds ++ es)) := eg_op ha hb (os_cat hl)
theorem os_rep {ds : List PyData} {i : Int} (h0 : 0 ≤ i) (h1 : i ≤ 1000) (hl : ds.length ≤ 100) : OpS L rRep (.list ds) (.int i) (fun x => x = .list (List.replicate i.toNat ds).flatten) := fun A H x y hi hg hx hy Q q => by
  obtain ⟨p, xs, rfl, na, e, r⟩ := hx.list
  obtain rfl := hy.int
  refine ⟨p, i, xs, rfl, rfl, e, by omega, by omega, Nat.le_trans (Nat.mul_le_mul (by rw [r.length]; exact hl) (show i.toNat ≤ 1000 by omega)) (by decide), fun l hl2 => ?_⟩
  have rr := Rl.newR (o := .lst (List.replicate i.toNat xs).flatten) hg hl2
  exact q _ _ _ rr (.inr (.lst (hi.no hl2) upd_same ((r.rep _).r rr))) rfl
theorem eg_rep {ds : List PyData} {i : Int} (ha : EvD L ta Γ (.list ds)) (hb : EvD L tb Γ (.int i)) (h0 : 0 ≤ i) (h1 : i ≤ 1000) (hl : ds.length ≤ 100) : EvD L (tOp rRep ta tb) Γ (.list (List.replicate i.toNat ds).flatten) := eg_op ha hb (os_rep h0 h1 hl)
end
end V1
set_option Elab.async false
set_option linter.all false
set_option maxRecDepth 100000
set_option maxHeartbeats 4000000
/-! The rest of the readings by data: slices, displays, calls, comprehensions, statements, loops. -/
namespace V1
open PySem PySem.Spec PyProof.Rows L2

def cutD (ds : List PyData) (lo hi : Option Int) : List PyData := (ds.drop (HT.sIx ds.length 0 lo)).take (HT.sIx ds.length ds.length hi - HT.sIx ds.length 0 lo)
theorem cut_neg {ds : List PyData} {k : Nat} (hk : 0 < k) (h : k ≤ ds.length) : cutD ds none (some (-(k : Int))) = ds.take (ds.length - k) := by
  unfold cutD
  have e : HT.sIx ds.length ds.length (some (-(k : Int))) = ds.length - k := by
    show (if (-(k : Int)) < 0 then ((-(k : Int)) + (ds.length : Int)).toNat else min (-(k : Int)).toNat ds.length) = _
    rw [if_pos (by omega)]
    omega
  rw [e]
  show (ds.drop 0).take (ds.length - k - 0) = _
  simp
theorem cut_last {ds : List PyData} (h : 0 < ds.length) : cutD ds (some (-1)) none = ds.drop (ds.length - 1) := by
  unfold cutD
  have e : HT.sIx ds.length 0 (some (-1)) = ds.length - 1 := by
    show (if (-1 : Int) < 0 then ((-1 : Int) + (ds.length : Int)).toNat else min (-1 : Int).toNat ds.length) = _
    rw [if_pos (by omega)]
    omega
  rw [e]
  show (ds.drop (ds.length - 1)).take (ds.length - (ds.length - 1)) = _
  rw [List.take_of_length_le (by rw [List.length_drop]; omega)]
def nomk : List PyData → Bool
  | [] => true
  | .dict _ :: _ => false
  | _ :: r => nomk r
theorem nomk_ne {ds : List PyData} (h : nomk ds = true) : ∀ (i : Nat) d, ds[i]? = some d → d ≠ mark := by
  induction ds with
  | nil => intro i d e; simp at e
  | cons d0 r ih =>
    intro i d e z
    subst z
    cases i with
    | zero => simp at e; subst e; simp [nomk] at h
    | succ i =>
      refine ih ?_ i _ (by simpa using e) rfl
      cases d0 <;> simp_all [nomk]

section
variable {L : Rl} {A : Addr → Prop} {H H' : Hp} {v : V} {d : PyData} {σ : L2.St} {Γ : List (Option PyData)} {n a b c : Nat} {te ta tb : TE} {t : TA} {tt tu : TT} {P P1 P2 : PyData → Prop} {K : PySem.W.Frag}

/-! ### slices -/
def EoD (L : Rl) (to : TO) (Γ : List (Option PyData)) (o : Option Int) : Prop := ∀ A σ H, Inn A H → EnvOk L A σ H Γ → L.G 0 H → ∀ Q : Option Int → Hp → Prop, (∀ H', L.R 0 H H' → Q o H') → to σ H Q
theorem eo_none : EoD L tNoPart Γ none := fun A σ H hi he hg Q q => q H (Rl.refl hg)
theorem eo_some {i : Int} (h : EvD L te Γ (.int i)) : EoD L (tPart te) Γ (some i) := fun A σ H hi he hg Q q => h A σ H hi he hg _ fun v d H1 r1 hv p => by
  subst p
  obtain rfl := hv.int
  exact ⟨i, rfl, q H1 r1⟩
theorem eg_slT {ds : List PyData} {tl th : TO} {lo0 hi0 : Option Int} (h : EvD L te Γ (.tuple ds)) (h1 : EoD L tl Γ lo0) (h2 : EoD L th Γ hi0) (hw : ¬ (HT.sIx ds.length 0 lo0 = 0 ∧ HT.sIx ds.length ds.length hi0 = ds.length)) :
    EvD L (tSl (rSlT K) te tl th) Γ (.tuple (cutD ds lo0 hi0)) := fun A σ H hi he hg Q q => h A σ H hi he hg _ fun x d1 H1 r1 hx p => by
  subst p
  refine h1 A σ H1 (hi.r r1) (he.r r1) (Rl.gR (b := 0) hg r1) _ fun H2 r2 => h2 A σ H2 ((hi.r r1).r r2) ((he.r r1).r r2) (Rl.gR (b := 0) (Rl.gR (b := 0) hg r1) r2) _ fun H3 r3 => ?_
  have g3 : L.G 0 H3 := Rl.gR (b := 0) (Rl.gR (b := 0) (Rl.gR (b := 0) hg r1) r2) r3
  obtain ⟨p, xs, rfl, na, e, r⟩ := ((hx.r r2).r r3).tuple
  refine ⟨p, xs, rfl, SqT.of e, by rw [r.length]; exact hw, fun q1 hq => ?_⟩
  have rr := Rl.newR (o := .tup (cutV xs lo0 hi0)) g3 hq
  exact q _ _ _ (L.tr (a := 0) (b := 0) (L.tr (a := 0) (b := 0) (L.tr (a := 0) (b := 0) r1 r2) r3) rr) (.inr (.tup ((((hi.r r1).r r2).r r3).no hq) upd_same ((r.cut lo0 hi0).r rr))) rfl
theorem eg_slL {ds : List PyData} {tl th : TO} {lo0 hi0 : Option Int} (h : EvD L te Γ (.list ds)) (h1 : EoD L tl Γ lo0) (h2 : EoD L th Γ hi0) : EvD L (tSl (rSlL K) te tl th) Γ (.list (cutD ds lo0 hi0)) := fun A σ H hi he hg Q q => h A σ H hi he hg _ fun x d1 H1 r1 hx p => by
  subst p
  refine h1 A σ H1 (hi.r r1) (he.r r1) (Rl.gR (b := 0) hg r1) _ fun H2 r2 => h2 A σ H2 ((hi.r r1).r r2) ((he.r r1).r r2) (Rl.gR (b := 0) (Rl.gR (b := 0) hg r1) r2) _ fun H3 r3 => ?_
  have g3 : L.G 0 H3 := Rl.gR (b := 0) (Rl.gR (b := 0) (Rl.gR (b := 0) hg r1) r2) r3
  obtain ⟨p, xs, rfl, na, e, r⟩ := ((hx.r r2).r r3).list
  refine ⟨p, xs, rfl, SqL.of e, fun q1 hq => ?_⟩
  have rr := Rl.newR (o := .lst (cutV xs lo0 hi0)) g3 hq
  exact q _ _ _ (L.tr (a := 0) (b := 0) (L.tr (a := 0) (b := 0) (L.tr (a := 0) (b := 0) r1 r2) r3) rr) (.inr (.lst ((((hi.r r1).r r2).r r3).no hq) upd_same ((r.cut lo0 hi0).r rr))) rfl

/-! ### arguments, displays -/
theorem ea_nil : EaD L tNil Γ [] := fun A σ H hi he hg Q q => q [] [] H (Rl.refl hg) rfl (fun i d e => by simp at e) rfl
theorem ea_consG {P1 : PyData → Prop} {P2 : List PyData → Prop} (h : EvG L a te Γ P1) (hr : EaG L b t Γ P2) : EaG L (a + b) (tCons te t) Γ (fun ds => ∃ d r, ds = d :: r ∧ P1 d ∧ P2 r) := fun A σ H hi he hg Q q =>
  h A σ H hi he (L.gle (Nat.le_add_right _ _) hg) _ fun x d H1 r1 hx p1 => hr A σ H1 (hi.r r1) (he.r r1) (Rl.gR hg r1) _ fun xs ds H2 r2 hl hxs p2 =>
    q (x :: xs) (d :: ds) H2 (L.tr r1 r2) (by rw [List.length_cons, List.length_cons, hl]) (fun i d' e => by
      cases i with
      | zero => simp at e; subst e; exact ⟨x, rfl, hx.r r2⟩
      | succ i => simpa using hxs i d' (by simpa using e)) ⟨d, ds, rfl, p1, p2⟩
theorem EaG.mono {P P' : List PyData → Prop} (h : EaG L a t Γ P) (hn : a ≤ b) (hp : ∀ d, P d → P' d) : EaG L b t Γ P' := fun A σ H hi he hg Q q => h A σ H hi he (L.gle hn hg) Q fun v d H' r hl hd p => q v d H' (L.rle hn r) hl hd (hp d p)
theorem ea_cons {ds : List PyData} (h : EvD L te Γ d) (hr : EaD L t Γ ds) : EaD L (tCons te t) Γ (d :: ds) := (ea_consG (a := 0) (b := 0) h hr).mono (Nat.le_refl _) fun x ⟨d1, r, e, e1, e2⟩ => by rw [e, e1, e2]
theorem all_of {A : Addr → Prop} {H : Hp} {vs : List V} {ds : List PyData} (hl : vs.length = ds.length) (h : ∀ (i : Nat) d, ds[i]? = some d → ∃ v, vs[i]? = some v ∧ Dq L A H v d) (hn : nomk ds = true) : DvAll A H vs ds := by
  have hne := nomk_ne hn
  clear hn
  induction ds generalizing vs with
  | nil =>
    have e : vs = [] := List.length_eq_zero_iff.mp hl
    subst e
    exact .nil
  | cons d r ih =>
    cases vs with
    | nil => simp at hl
    | cons v vs =>
      obtain ⟨v', e, hv⟩ := h 0 d rfl
      simp at e
      subst e
      refine .cons (hv.ne (hne 0 d rfl)) (ih (by simpa using hl) (fun i d e => by simpa using h (i + 1) d (by simpa using e)) (fun i d e => hne (i + 1) d (by simpa using e)))
theorem eg_tup {ds : List PyData} (h : EaD L t Γ ds) (hn : nomk ds = true := by rfl) (hl : ds.length ≤ 1000 := by simp) : EvD L (tTup t) Γ (.tuple ds) := fun A σ H hi he hg Q q => h A σ H hi he hg _ fun vs ds' H1 r1 l hv p => by
  subst p
  refine ⟨Nat.le_trans (by rw [l]; exact hl) (by decide), fun p hp => ?_⟩
  have rr := Rl.newR (o := .tup vs) (Rl.gR (b := 0) hg r1) hp
  exact q _ _ _ (L.tr (a := 0) (b := 0) r1 rr) (.inr (.tup ((hi.r r1).no hp) upd_same ((all_of l hv hn).r rr))) rfl
theorem eg_lst {ds : List PyData} (h : EaD L t Γ ds) (hn : nomk ds = true := by rfl) (hl : ds.length ≤ 1000 := by simp) : EvD L (tLst t) Γ (.list ds) := fun A σ H hi he hg Q q => h A σ H hi he hg _ fun vs ds' H1 r1 l hv p => by
  subst p
  refine ⟨Nat.le_trans (by rw [l]; exact hl) (by decide), fun p hp => ?_⟩
  have rr := Rl.newR (o := .lst vs) (Rl.gR (b := 0) hg r1) hp
  exact q _ _ _ (L.tr (a := 0) (b := 0) r1 rr) (.inr (.lst ((hi.r r1).no hp) upd_same ((all_of l hv hn).r rr))) rfl

/-! ### built-ins -/
def CaS (L : Rl) (r : List V → Hp → VK → Prop) (ds : List PyData) (d : PyData) : Prop := ∀ A H vs, Inn A H → L.G 0 H → vs.length = ds.length → (∀ (i : Nat) d, ds[i]? = some d → ∃ v, vs[i]? = some v ∧ Dq L A H v d) → ∀ Q : VK, (∀ v H', L.R 0 H H' → Dq L A H' v d → Q v H') → r vs H Q
theorem eg_cb {r : List V → Hp → VK → Prop} {ds : List PyData} (h : EaD L t Γ ds) (hr : CaS L r ds d) : EvD L (tCB r t) Γ d := fun A σ H hi he hg Q q => h A σ H hi he hg _ fun vs ds' H1 r1 l hv p => by
  subst p
  exact hr A H1 vs (hi.r r1) (Rl.gR (b := 0) hg r1) l hv Q fun v H2 r2 hd => q v _ H2 (L.tr (a := 0) (b := 0) r1 r2) hd rfl
theorem one_of {vs : List V} (hl : vs.length = 1) (h : ∀ (i : Nat) d', [d][i]? = some d' → ∃ v, vs[i]? = some v ∧ Dq L A H v d') : ∃ v, vs = [v] ∧ Dq L A H v d := by
  obtain ⟨v, e, hv⟩ := h 0 d rfl
  cases vs with
  | nil => simp at hl
  | cons x r =>
    cases r with
    | nil => simp at e; subst e; exact ⟨x, rfl, hv⟩
    | cons y z => simp at hl
theorem two_of {d2 : PyData} {vs : List V} (hl : vs.length = 2) (h : ∀ (i : Nat) d', [d, d2][i]? = some d' → ∃ v, vs[i]? = some v ∧ Dq L A H v d') : ∃ v w, vs = [v, w] ∧ Dq L A H v d ∧ Dq L A H w d2 := by
  obtain ⟨v, e, hv⟩ := h 0 d rfl
  obtain ⟨w, e2, hw⟩ := h 1 d2 rfl
  cases vs with
  | nil => simp at hl
  | cons x r =>
    cases r with
    | nil => simp at hl
    | cons y z =>
      cases z with
      | nil => simp at e e2; subst e e2; exact ⟨x, y, rfl, hv, hw⟩
      | cons u z => simp at hl
theorem cs_lenL {ds : List PyData} : CaS L (fun xs H Q => ∃ p ys, xs = [.ref p] ∧ (SqL K H p ys ∨ SqT K H p ys) ∧ Q (.int ys.length) H) [.list ds] (.int ds.length) := fun A H vs hi hg hl h Q q => by
  obtain ⟨v, rfl, hv⟩ := one_of hl h
  obtain ⟨p, xs, rfl, na, e, r⟩ := hv.list
  refine ⟨p, xs, rfl, .inl (SqL.of e), ?_⟩
  rw [r.length]
  exact q _ H (Rl.refl hg) (.inr (.int _))
theorem cs_lenT {ds : List PyData} : CaS L (fun xs H Q => ∃ p ys, xs = [.ref p] ∧ (SqL K H p ys ∨ SqT K H p ys) ∧ Q (.int ys.length) H) [.tuple ds] (.int ds.length) := fun A H vs hi hg hl h Q q => by
  obtain ⟨v, rfl, hv⟩ := one_of hl h
  obtain ⟨p, xs, rfl, na, e, r⟩ := hv.tuple
  refine ⟨p, xs, rfl, .inr (SqT.of e), ?_⟩
  rw [r.length]
  exact q _ H (Rl.refl hg) (.inr (.int _))
theorem cs_gcd {i j : Int} : CaS L rGcd [.int i, .int j] (.int ((Nat.gcd i.natAbs j.natAbs : Nat) : Int)) := fun A H vs hi hg hl h Q q => by
  obtain ⟨v, w, rfl, hv, hw⟩ := two_of hl h
  obtain rfl := hv.int
  obtain rfl := hw.int
  exact ⟨i, j, rfl, q _ H (Rl.refl hg) (.inr (.int _))⟩
theorem cs_lcm {i j : Int} (h1 : i.natAbs < 2 ^ 64) (h2 : j.natAbs < 2 ^ 64) : CaS L rLcm [.int i, .int j] (.int ((Nat.lcm i.natAbs j.natAbs : Nat) : Int)) := fun A H vs hi hg hl h Q q => by
  obtain ⟨v, w, rfl, hv, hw⟩ := two_of hl h
  obtain rfl := hv.int
  obtain rfl := hw.int
  exact ⟨i, j, rfl, h1, h2, q _ H (Rl.refl hg) (.inr (.int _))⟩
theorem cs_int {i : Int} : CaS L (fun xs H Q => (∃ i, xs = [.int i] ∧ Q (.int i) H) ∨ ∃ k, xs = [.bl k] ∧ Q (.int (if k then 1 else 0)) H) [.int i] (.int i) := fun A H vs hi hg hl h Q q => by
  obtain ⟨v, rfl, hv⟩ := one_of hl h
  obtain rfl := hv.int
  exact .inl ⟨i, rfl, q _ H (Rl.refl hg) (.inr (.int _))⟩
theorem cs_intB {k : Bool} : CaS L (fun xs H Q => (∃ i, xs = [.int i] ∧ Q (.int i) H) ∨ ∃ k, xs = [.bl k] ∧ Q (.int (if k then 1 else 0)) H) [.bool k] (.int (if k then 1 else 0)) := fun A H vs hi hg hl h Q q => by
  obtain ⟨v, rfl, hv⟩ := one_of hl h
  obtain rfl := hv.bool
  exact .inr ⟨k, rfl, q _ H (Rl.refl hg) (.inr (.int _))⟩
theorem cs_abs {i : Int} : CaS L (fun xs H Q => ∃ i, xs = [.int i] ∧ Q (.int (if i < 0 then -i else i)) H) [.int i] (.int (i.natAbs : Int)) := fun A H vs hi hg hl h Q q => by
  obtain ⟨v, rfl, hv⟩ := one_of hl h
  obtain rfl := hv.int
  refine ⟨i, rfl, ?_⟩
  have e : (if i < 0 then -i else i) = (i.natAbs : Int) := by split <;> omega
  rw [e]
  exact q _ H (Rl.refl hg) (.inr (.int _))
theorem cs_min {i j : Int} : CaS L (fun xs H Q => ∃ i j, xs = [.int i, .int j] ∧ Q (.int (if j < i then j else i)) H) [.int i, .int j] (.int (min i j)) := fun A H vs hi hg hl h Q q => by
  obtain ⟨v, w, rfl, hv, hw⟩ := two_of hl h
  obtain rfl := hv.int
  obtain rfl := hw.int
  refine ⟨i, j, rfl, ?_⟩
  have e : (if j < i then j else i) = min i j := by split <;> omega
  rw [e]
  exact q _ H (Rl.refl hg) (.inr (.int _))
theorem cs_max {i j : Int} : CaS L (fun xs H Q => ∃ i j, xs = [.int i, .int j] ∧ Q (.int (if j > i then j else i)) H) [.int i, .int j] (.int (max i j)) := fun A H vs hi hg hl h Q q => by
  obtain ⟨v, w, rfl, hv, hw⟩ := two_of hl h
  obtain rfl := hv.int
  obtain rfl := hw.int
  refine ⟨i, j, rfl, ?_⟩
  have e : (if j > i then j else i) = max i j := by split <;> omega
  rw [e]
  exact q _ H (Rl.refl hg) (.inr (.int _))
theorem cs_sum {ns : List Int} : CaS L (rSum K) [.list (ns.map PyData.int)] (.int ns.sum) := fun A H vs hi hg hl h Q q => by
  obtain ⟨v, rfl, hv⟩ := one_of hl h
  obtain ⟨p, xs, rfl, na, e, r⟩ := hv.list
  rw [r.ints] at e
  exact ⟨p, ns, rfl, SqL.of e, q _ H (Rl.refl hg) (.inr (.int _))⟩
theorem cs_tuple {ds : List PyData} : CaS L (fun xs H Q => ∃ p ys, xs = [.ref p] ∧ ((SqL K H p ys ∧ ∀ l, H l = none → Q (.ref l) (upd H l (.tup ys))) ∨ (SqT K H p ys ∧ Q (.ref p) H))) [.list ds] (.tuple ds) := fun A H vs hi hg hl h Q q => by
  obtain ⟨v, rfl, hv⟩ := one_of hl h
  obtain ⟨p, xs, rfl, na, e, r⟩ := hv.list
  refine ⟨p, xs, rfl, .inl ⟨SqL.of e, fun l hl2 => ?_⟩⟩
  have rr := Rl.newR (o := .tup xs) hg hl2
  exact q _ _ rr (.inr (.tup (hi.no hl2) upd_same (r.r rr)))
theorem cs_reprL {ds : List PyData} (h1 : (PyData.list ds).showable = true) (h2 : (PyData.list ds).hasDict = false) (h3 : (PyData.list ds).depth ≤ 60) (h4 : (PyData.list ds).shown.length ≤ sizeLine) : CaS L (rRepr K) [.list ds] (.str (PyData.list ds).shown) := fun A H vs hi hg hl h Q q => by
  obtain ⟨v, rfl, hv⟩ := one_of hl h
  have hd := (hv.ne (by intro z; cases z)).dp (K := K)
  obtain ⟨p, xs, rfl, na, e, r⟩ := hv.list
  exact ⟨p, _, rfl, hd, h1, h2, h3, h4, q _ H (Rl.refl hg) (.inr (.str _))⟩
theorem cs_reprT {ds : List PyData} (h1 : (PyData.tuple ds).showable = true) (h2 : (PyData.tuple ds).hasDict = false) (h3 : (PyData.tuple ds).depth ≤ 60) (h4 : (PyData.tuple ds).shown.length ≤ sizeLine) : CaS L (rRepr K) [.tuple ds] (.str (PyData.tuple ds).shown) := fun A H vs hi hg hl h Q q => by
  obtain ⟨v, rfl, hv⟩ := one_of hl h
  have hd := (hv.ne (by intro z; cases z)).dp (K := K)
  obtain ⟨p, xs, rfl, na, e, r⟩ := hv.tuple
  exact ⟨p, _, rfl, hd, h1, h2, h3, h4, q _ H (Rl.refl hg) (.inr (.str _))⟩

/-! ### calls of own defs -/
def spL (L : Rl) (n : Nat) (Pre : List PyData → Prop) (Post : List PyData → PyData → Prop) : Sp := fun vs H Q _ => ∃ (A : Addr → Prop) (ds : List PyData), Inn A H ∧ vs.length = ds.length ∧
  (∀ (i : Nat) d, ds[i]? = some d → ∃ v, vs[i]? = some v ∧ Dq L A H v d) ∧ Pre ds ∧ L.G n H ∧ ∀ v d H', L.R n H H' → Dq L A H' v d → Post ds d → Q v H'
variable {Pre : List PyData → Prop} {Post : List PyData → PyData → Prop} {PA1 : List PyData → Prop} {E : XK}
theorem pure_dq (h : Dq pureL A H v d) : Dq L A H v d := h.elim (fun z => z.2.elim) .inr
theorem eg_callP (ha : EaG L a t Γ PA1) (hp : ∀ ds, PA1 ds → Pre ds ∧ nomk ds = true) : EvG L a (tCall (spL pureL 0 Pre Post) [] E t) Γ (fun d => ∃ ds, PA1 ds ∧ Post ds d) := fun A σ H hi he hg Q q => ha A σ H hi he hg _ fun vs ds H1 r1 l hv p => by
  obtain ⟨h1, h2⟩ := hp ds p
  show spL pureL 0 Pre Post (vs ++ []) H1 Q E
  rw [List.append_nil]
  refine ⟨A, ds, hi.r r1, l, fun i d e => ?_, h1, trivial, fun v d H2 r2 hd hpo => q v d H2 (L.tr (b := 0) r1 (L.same (Rl.gR (b := 0) hg r1) r2)) (pure_dq hd) ⟨ds, p, hpo⟩⟩
  obtain ⟨v, e1, e2⟩ := hv i d e
  exact ⟨v, e1, .inr (e2.ne (nomk_ne h2 i d e))⟩
theorem eg_callD {F : List PyData → PyData} {ds : List PyData} (ha : EaD L t Γ ds) (hp : Pre ds) (hn : nomk ds = true := by rfl) : EvD L (tCall (spL pureL 0 Pre fun ds d => d = F ds) [] E t) Γ (F ds) :=
  (eg_callP (PA1 := fun x => x = ds) ha fun ds' e => by rw [e]; exact ⟨hp, hn⟩).mono (Nat.le_refl _) fun d ⟨ds', e1, e2⟩ => by rw [e2, e1]
/-- keywords alone -/
theorem eg_callK {F : List PyData → PyData} {ds ds2 : List PyData} {gV : List V → List V → List V} {tk : TA} (ha : EaD L tk Γ ds) (hg2 : ∀ zs : List V, zs.length = ds.length → (gV [] zs).length = ds2.length ∧ ∀ (i : Nat) d, ds2[i]? = some d → ∃ j : Nat, ds[j]? = some d ∧ (gV [] zs)[i]? = zs[j]?) (hp : Pre ds2) (hn : nomk ds2 = true := by rfl) :
    EvD L (tCallK (spL pureL 0 Pre fun ds d => d = F ds) gV E tNil tk) Γ (F ds2) := fun A σ H hi he hg Q q => ha A σ H hi he hg _ fun vs ds' H1 r1 l hv p => by
  subst p
  obtain ⟨g1, g2⟩ := hg2 vs l
  refine ⟨A, ds2, hi.r r1, g1, fun i d e => ?_, hp, trivial, fun v d H2 r2 hd hpo => q v d H2 (L.tr (a := 0) (b := 0) r1 (L.same (Rl.gR (b := 0) hg r1) r2)) (pure_dq hd) hpo⟩
  obtain ⟨j, e1, e2⟩ := g2 i d e
  obtain ⟨v, e3, e4⟩ := hv j d e1
  exact ⟨v, by rw [e2]; exact e3, .inr (e4.ne (nomk_ne hn i d e))⟩
/-- a def that goes on as L does -/
theorem eg_callL (ha : EaG L a t Γ PA1) (hp : ∀ ds, PA1 ds → Pre ds) : EvG L (a + b) (tCall (spL L b Pre Post) [] E t) Γ (fun d => ∃ ds, PA1 ds ∧ Post ds d) := fun A σ H hi he hg Q q => ha A σ H hi he (L.gle (Nat.le_add_right _ _) hg) _ fun vs ds H1 r1 l hv p => by
  show spL L b Pre Post (vs ++ []) H1 Q E
  rw [List.append_nil]
  exact ⟨A, ds, hi.r r1, l, hv, hp ds p, Rl.gR hg r1, fun v d H2 r2 hd hpo => q v d H2 (L.tr r1 r2) hd ⟨ds, p, hpo⟩⟩
/-- a def whose way hangs on what it is given -/
def spA (S : Rl → Prop) (n : Nat) (Pre : List PyData → Prop) (Post : List PyData → PyData → Prop) : Sp := fun vs H Q E => ∃ L, S L ∧ spL L n Pre Post vs H Q E
theorem eg_callA {S : Rl → Prop} (hS : S L) (ha : EaG L a t Γ PA1) (hp : ∀ ds, PA1 ds → Pre ds) : EvG L (a + b) (tCall (spA S b Pre Post) [] E t) Γ (fun d => ∃ ds, PA1 ds ∧ Post ds d) := fun A σ H hi he hg Q q => ha A σ H hi he (L.gle (Nat.le_add_right _ _) hg) _ fun vs ds H1 r1 l hv p => by
  show spA S b Pre Post (vs ++ []) H1 Q E
  rw [List.append_nil]
  exact ⟨L, hS, A, ds, hi.r r1, l, hv, hp ds p, Rl.gR hg r1, fun v d H2 r2 hd hpo => q v d H2 (L.tr r1 r2) hd ⟨ds, p, hpo⟩⟩

/-! ### tests -/
theorem et_B {k : Bool} (h : EvD L te Γ (.bool k)) : EtD L (tB te) Γ k := fun A σ H hi he hg Q q => h A σ H hi he hg _ fun v d H1 r1 hv p => by
  subst p
  obtain rfl := hv.bool
  exact ⟨k, rfl, q H1 r1⟩
theorem et_test {k : Bool} (h : EvD L te Γ (.bool k)) : EtD L (tTest te) Γ k := et_B h
theorem et_not {k : Bool} (h : EtD L tt Γ k) : EtD L (tNot tt) Γ (!k) := fun A σ H hi he hg Q q => h A σ H hi he hg _ fun H1 r1 => q H1 r1
theorem et_or0 {k : Bool} (h : EtD L tt Γ false) (h2 : EtD L tu Γ k) : EtD L (tOr tt tu) Γ k := fun A σ H hi he hg Q q => h A σ H hi he hg _ fun H1 r1 => by
  show tu σ H1 Q
  exact h2 A σ H1 (hi.r r1) (he.r r1) (Rl.gR (b := 0) hg r1) Q fun H2 r2 => q H2 (L.tr (a := 0) (b := 0) r1 r2)
theorem et_or1 (h : EtD L tt Γ true) : EtD L (tOr tt tu) Γ true := fun A σ H hi he hg Q q => h A σ H hi he hg _ fun H1 r1 => by
  show Q true H1
  exact q H1 r1
theorem et_is {k k' : Bool} (h : EtD L tt Γ k) (e : k = k') : EtD L tt Γ k' := e ▸ h
theorem eg_if {k : Bool} (h : EtD L tt Γ k) (h1 : k = true → EvD L ta Γ d) (h2 : k = false → EvD L tb Γ d) : EvD L (tIf tt ta tb) Γ d := fun A σ H hi he hg Q q => h A σ H hi he hg _ fun H1 r1 => by
  have fin : ∀ {tx : TE}, EvD L tx Γ d → tx σ H1 Q := fun {tx} hx => hx A σ H1 (hi.r r1) (he.r r1) (Rl.gR (b := 0) hg r1) Q fun v d' H2 r2 hd p => q v d' H2 (L.tr (a := 0) (b := 0) r1 r2) hd p
  cases k with
  | true => exact fin (h1 rfl)
  | false => exact fin (h2 rfl)
end
end V1
set_option Elab.async false
set_option linter.all false
set_option maxRecDepth 100000
set_option maxHeartbeats 4000000
/-! Walks, comprehensions, statements, loops, a def's promise by its body. -/
namespace V1
open PySem PySem.Spec PyProof.Rows L2

/-- all but dicts stay -/
def Kp (H H' : Hp) : Prop := ∀ b o, H b = some o → (∀ kvs, o ≠ .dK kvs) → H' b = some o
/-- the iterator gives the items, one by one, in whatever heap goes on from H1 -/
structure JOk (A : Addr → Prop) (J : It) (H1 : Hp) (items : List PyData) : Prop where
  go : ∀ (i : Nat) H', Kp H1 H' → i < items.length → J.go i H'
  yld : ∀ (i : Nat) H' x H'', Kp H1 H' → (∀ b, A b → H' b ≠ none) → J.yld i H' x H'' → i < items.length → ∃ d, items[i]? = some d ∧ Same H' H'' ∧ (∀ A', (∀ b, A' b → H' b ≠ none) → (∀ b o, ¬ A b → H1 b = some o → (∀ kvs, o ≠ .dK kvs) → ¬ A' b) → Dv A' H'' x d)
  stop : ∀ H', Kp H1 H' → J.stop items.length H'
def WkG (L : Rl) (n : Nat) (wi : TI) (Γ : List (Option PyData)) (P : List PyData → Prop) : Prop := ∀ A σ H, Inn A H → EnvOk L A σ H Γ → L.G n H → ∀ R : It → Hp → Prop, (∀ J H1 items, L.R n H H1 → P items → JOk A J H1 items → R J H1) → wi σ H R
abbrev WkD (L : Rl) (wi : TI) (Γ : List (Option PyData)) (items : List PyData) : Prop := WkG L 0 wi Γ (fun x => x = items)
section
variable {L : Rl} {A : Addr → Prop} {H H' H1 : Hp} {v : V} {d : PyData} {σ : L2.St} {Γ : List (Option PyData)} {n a b c : Nat} {te ta tb tl : TE} {t : TA} {tt tu : TT} {P P1 P2 : PyData → Prop} {K : PySem.W.Frag}
theorem Kp.at {xs : List V} {p : Addr} (k : Kp H H') (e : H p = some (.lst xs)) : H' p = some (.lst xs) := k _ _ e (fun _ z => by cases z)
theorem Kp.att {xs : List V} {p : Addr} (k : Kp H H') (e : H p = some (.tup xs)) : H' p = some (.tup xs) := k _ _ e (fun _ z => by cases z)
/-- what stands stays, away from whatever is avoided later -/
theorem dv_later {A A' : Addr → Prop} {H1 H' H'' : Hp} (h : Dv A H1 v d) (k : Kp H1 H') (s : Same H' H'') (f : ∀ b o, ¬ A b → H1 b = some o → (∀ kvs, o ≠ .dK kvs) → ¬ A' b) : Dv A' H'' v d := h.map fun b o na e q => ⟨f b o na e q, s _ _ (k b o e q)⟩
theorem jok_seq (k : Bool) {p : Addr} {xs : List V} {ds : List PyData} (e : Sq K k H1 p xs) (e' : H1 p = some (if k then .lst xs else .tup xs)) (r : DvAll A H1 xs ds) (J : It) (hJ : J = (if k then Itl K p else Itt K p)) : JOk A J H1 ds := by
  subst hJ
  have l := r.length
  have st : ∀ H', Kp H1 H' → Sq K k H' p xs := fun H' q => by
    cases k with
    | true => exact SqL.of (q.at e')
    | false => exact SqT.of (q.att e')
  refine ⟨fun i H' q hi => ?_, fun i H' x H'' q hA y hi => ?_, fun H' q => ?_⟩
  · have hx : xs[i]? = some xs[i] := List.getElem?_eq_getElem (by omega)
    cases k with
    | true => exact ⟨xs, _, st H' q, hx⟩
    | false => exact ⟨xs, _, st H' q, hx⟩
  · have key : xs[i]? = some x ∧ H'' = H' := by
      cases k with
      | true => exact ⟨y.2 xs (st H' q), y.1⟩
      | false => exact ⟨y.2 xs (st H' q), y.1⟩
    obtain ⟨hx, rfl⟩ := key
    obtain ⟨d, hd, dv⟩ := r.getx hx
    exact ⟨d, hd, Same.refl _, fun A' _ f => dv_later dv q (Same.refl _) f⟩
  · cases k with
    | true => exact ⟨xs, st H' q, by omega⟩
    | false => exact ⟨xs, st H' q, by omega⟩
theorem wk_list {ds : List PyData} (h : EvD L tl Γ (.list ds)) : WkD L (iList K tl) Γ ds := fun A σ H hi he hg R q => h A σ H hi he hg _ fun x d H1 r1 hx p => by
  subst p
  obtain ⟨p, xs, rfl, na, e, r⟩ := hx.list
  exact ⟨p, rfl, ⟨xs, SqL.of e⟩, q _ H1 ds r1 rfl (jok_seq true (SqL.of e) e r _ rfl)⟩
theorem wk_tup {ds : List PyData} (h : EvD L tl Γ (.tuple ds)) : WkD L (iTup K tl) Γ ds := fun A σ H hi he hg R q => h A σ H hi he hg _ fun x d H1 r1 hx p => by
  subst p
  obtain ⟨p, xs, rfl, na, e, r⟩ := hx.tuple
  exact ⟨p, rfl, ⟨xs, SqT.of e⟩, q _ H1 ds r1 rfl (jok_seq false (SqT.of e) e r _ rfl)⟩
/-- a sequence as data: a list (true), a tuple -/
def sqD : Bool → List PyData → PyData
  | true, ds => .list ds
  | false, ds => .tuple ds
theorem sq_dq {k : Bool} {ds : List PyData} (h : Dq L A H v (sqD k ds)) : ∃ p xs, v = .ref p ∧ ¬ A p ∧ H p = some (if k then .lst xs else .tup xs) ∧ DvAll A H xs ds := by
  cases k with
  | true => exact h.list
  | false => exact h.tuple
theorem sq_of {k : Bool} {p : Addr} {xs : List V} (e : H p = some (if k then .lst xs else .tup xs)) : Sq K k H p xs := by
  cases k with
  | true => exact SqL.of e
  | false => exact SqT.of e
theorem sq_kp {k : Bool} {p : Addr} {xs : List V} (e : H p = some (if k then .lst xs else .tup xs)) (q : Kp H H') : Sq K k H' p xs := by
  cases k with
  | true => exact SqL.of (q.at e)
  | false => exact SqT.of (q.att e)
def zipD (ds es : List PyData) : List PyData := List.zipWith (fun d e => PyData.tuple [d, e]) ds es
theorem wk_zip {k1 k2 : Bool} {ds es : List PyData} (h : EaD L t Γ [sqD k1 ds, sqD k2 es]) : WkD L (iZipP K k1 k2 t) Γ (zipD ds es) := fun A σ H hi he hg R q => h A σ H hi he hg _ fun vs ds' H1 r1 hl hv p => by
  subst p
  obtain ⟨v, w, rfl, hx, hy⟩ := two_of hl hv
  obtain ⟨p1, xs, rfl, n1, e1, r1'⟩ := sq_dq hx
  obtain ⟨p2, ys, rfl, n2, e2, r2'⟩ := sq_dq hy
  have l1 := r1'.length
  have l2 := r2'.length
  refine ⟨p1, p2, xs, ys, rfl, sq_of e1, sq_of e2, q _ H1 _ r1 rfl ⟨fun i H' k hi => ?_, fun i H' x H'' k hA y hi => ?_, fun H' k => ?_⟩⟩
  · have hi' : i < min ds.length es.length := by simpa [zipD] using hi
    exact ⟨xs, ys, _, _, sq_kp e1 k, sq_kp e2 k, List.getElem?_eq_getElem (show i < xs.length by omega), List.getElem?_eq_getElem (show i < ys.length by omega)⟩
  · obtain ⟨T, x1, y1, rfl, hT, rfl, f1, f2⟩ := y
    obtain ⟨d, hd, dv⟩ := r1'.getx (f1 xs (sq_kp e1 k))
    obtain ⟨e, he', ev⟩ := r2'.getx (f2 ys (sq_kp e2 k))
    have sm : Same H' (upd H' T (.tup [x1, y1])) := fun b o z => by rw [upd_ne (ne_of_none z hT)]; exact z
    refine ⟨.tuple [d, e], ?_, sm, fun A' hA' f => .tup (fun z => hA' T z hT) upd_same (.cons (dv_later dv k sm f) (.cons (dv_later ev k sm f) .nil))⟩
    unfold zipD
    rw [List.getElem?_zipWith, hd, he']
  · refine ⟨xs, ys, sq_kp e1 k, sq_kp e2 k, ?_⟩
    unfold zipD
    rw [List.length_zipWith]
    omega
theorem wk_enum {k : Bool} {ds : List PyData} (h : EaD L t Γ [sqD k ds]) : WkD L (iEnumP K k t) Γ (ds.mapIdx fun i d => PyData.tuple [.int (i : Nat), d]) := fun A σ H hi he hg R q => h A σ H hi he hg _ fun vs ds' H1 r1 hl hv p => by
  subst p
  obtain ⟨v, rfl, hx⟩ := one_of hl hv
  obtain ⟨p1, xs, rfl, n1, e1, r1'⟩ := sq_dq hx
  have l1 := r1'.length
  refine ⟨p1, xs, rfl, sq_of e1, q _ H1 _ r1 rfl ⟨fun i H' k hi => ?_, fun i H' x H'' k hA y hi => ?_, fun H' k => ?_⟩⟩
  · have hi' : i < ds.length := by simpa using hi
    exact ⟨xs, _, sq_kp e1 k, List.getElem?_eq_getElem (show i < xs.length by omega)⟩
  · obtain ⟨T, x1, rfl, hT, rfl, f1⟩ := y
    obtain ⟨d, hd, dv⟩ := r1'.getx (f1 xs (sq_kp e1 k))
    have sm : Same H' (upd H' T (.tup [.int (i : Nat), x1])) := fun b o z => by rw [upd_ne (ne_of_none z hT)]; exact z
    refine ⟨.tuple [.int (i : Nat), d], ?_, sm, fun A' hA' f => .tup (fun z => hA' T z hT) upd_same (.cons (.int _) (.cons (dv_later dv k sm f) .nil))⟩
    rw [List.getElem?_mapIdx, hd]
    rfl
  · refine ⟨xs, sq_kp e1 k, ?_⟩
    rw [List.length_mapIdx]
    omega
def rngD (lo : Int) (n : Nat) : List PyData := (List.range n).map fun (i : Nat) => PyData.int (lo + (i : Int))
theorem wk_rng1G {P : PyData → Prop} (h : EaG L a t Γ (fun ds => ∃ j : Int, ds = [.int j] ∧ P (.int j) ∧ -(2 ^ 62) ≤ j ∧ j < 2 ^ 62)) : WkG L a (iRng1 t) Γ (fun items => ∃ j : Int, P (.int j) ∧ items = rngD 0 j.toNat) := fun A σ H hi he hg R q => h A σ H hi he hg _ fun vs ds' H1 r1 hl hv p => by
  obtain ⟨j, rfl, hp, h1, h2⟩ := p
  obtain ⟨v, rfl, hx⟩ := one_of hl hv
  obtain rfl := hx.int
  refine ⟨j, rfl, h1, h2, q _ H1 _ r1 ⟨j, hp, rfl⟩ ⟨fun i H' k hi => ?_, fun i H' x H'' k hA y hi => ?_, fun H' k => ?_⟩⟩
  · have hi' : i < j.toNat := by simpa [rngD] using hi
    exact hi'
  · obtain ⟨rfl, rfl⟩ := y
    have hi' : i < j.toNat := by simpa [rngD] using hi
    refine ⟨.int (0 + (i : Int)), ?_, Same.refl _, fun A' _ _ => .int _⟩
    unfold rngD
    rw [List.getElem?_map, List.getElem?_range hi']
    rfl
  · show j.toNat ≤ (rngD 0 j.toNat).length
    simp [rngD]
theorem wk_rng1 {j : Int} (h : EaD L t Γ [.int j]) (h1 : -(2 ^ 62) ≤ j ∧ j < 2 ^ 62) : WkD L (iRng1 t) Γ (rngD 0 j.toNat) := fun A σ H hi he hg R q =>
  wk_rng1G (P := fun x => x = .int j) (h.mono (Nat.le_refl _) fun ds e => ⟨j, e, rfl, h1⟩) A σ H hi he hg R fun J H1 items r ⟨j', e1, e2⟩ k => by
    have e3 : j' = j := by injection e1
    subst e3
    exact q J H1 items r e2 k

/-! ### targets -/
def TgG (L : Rl) (g : TG) (js : List Nat) (d : PyData) (Γ Γ' : List (Option PyData)) : Prop := ∀ A x σ H, Dv A H x d → EnvOk L A σ H Γ → ∀ Q : L2.St → Hp → Prop, (∀ σ', EnvOk L A σ' H Γ' → (∀ vs : List Nat, (∀ j ∈ js, j ∈ vs) → wipe σ' vs = wipe σ vs) → Q σ' H) → g x σ H Q
theorem wipe_set {σ : L2.St} {j : Nat} {x : Option V} : ∀ {vs : List Nat}, j ∈ vs → wipe (σ.set j x) vs = wipe σ vs
  | [], h => by simp at h
  | v :: vs, h => by
    by_cases e : v = j
    · subst e
      by_cases h2 : v ∈ vs
      · show (wipe (σ.set v x) vs).set v none = (wipe σ vs).set v none
        rw [wipe_set h2]
      · have key : ∀ (ws : List Nat) (τ : L2.St), v ∉ ws → wipe (τ.set v x) ws = (wipe τ ws).set v x := by
          intro ws
          induction ws with
          | nil => intro τ _; rfl
          | cons u us ih =>
            intro τ hn
            show (wipe (τ.set v x) us).set u none = ((wipe τ us).set u none).set v x
            rw [ih τ (fun z => hn (List.mem_cons_of_mem _ z)), List.set_comm _ _ (fun z => hn (by rw [z]; exact List.mem_cons_self))]
        show (wipe (σ.set v x) vs).set v none = (wipe σ vs).set v none
        rw [key vs σ h2, List.set_set]
    · have h2 : j ∈ vs := (List.mem_cons.mp h).resolve_left (fun z => e z.symm)
      show (wipe (σ.set j x) vs).set v none = (wipe σ vs).set v none
      rw [wipe_set h2]
theorem wipe_mem {σ : L2.St} {v : Nat} : ∀ {ws : List Nat}, v ∈ ws → (wipe σ ws).set v none = wipe σ ws
  | [], h => by simp at h
  | u :: us, h => by
    by_cases e : u = v
    · subst e
      show ((wipe σ us).set u none).set u none = (wipe σ us).set u none
      rw [List.set_set]
    · have h2 : v ∈ us := (List.mem_cons.mp h).resolve_left (fun z => e z.symm)
      show ((wipe σ us).set u none).set v none = (wipe σ us).set u none
      rw [List.set_comm _ _ e, wipe_mem h2]
theorem wipe_wipe {σ : L2.St} (ws : List Nat) : ∀ {vs : List Nat}, (∀ v ∈ vs, v ∈ ws) → wipe (wipe σ ws) vs = wipe σ ws
  | [], _ => rfl
  | v :: vs, h => by
    show (wipe (wipe σ ws) vs).set v none = wipe σ ws
    rw [wipe_wipe ws (fun u hu => h u (List.mem_cons_of_mem _ hu)), wipe_mem (h v List.mem_cons_self)]
theorem tg_name {j : Nat} : TgG L (gName j) [j] d Γ (Γ.set j (some d)) := fun A x σ H hx he Q q => q _ (he.set (.inr hx) j) fun vs hv => wipe_set (hv j (by simp))
theorem tg_two {i j : Nat} {d1 d2 : PyData} : TgG L (gTup K 2 (gCons (gName i) (gCons (gName j) gNil))) [i, j] (.tuple [d1, d2]) Γ ((Γ.set i (some d1)).set j (some d2)) := fun A x σ H hx he Q q => by
  cases hx with
  | @tup p xs ds na e r =>
    cases r with
    | cons r1 r =>
      cases r with
      | cons r2 r =>
        cases r
        refine ⟨p, _, rfl, SqT.of e, rfl, _, _, rfl, _, _, rfl, rfl, ?_⟩
        refine q _ ((he.set (.inr r1) i).set (.inr r2) j) fun vs hv => ?_
        rw [wipe_set (hv j (by simp)), wipe_set (hv i (by simp))]

/-! ### comprehensions -/
def wipeD (Γ : List (Option PyData)) : List Nat → List (Option PyData)
  | [] => Γ
  | v :: vs => (wipeD Γ vs).set v none
theorem EnvOk.clear (h : EnvOk L A σ H Γ) (i : Nat) : EnvOk L A (σ.set i none) H (Γ.set i none) := by
  refine ⟨by rw [List.length_set, List.length_set]; exact h.1, fun j d' e => ?_⟩
  by_cases hj : i = j
  · subst hj
    have hl : i < Γ.length := by
      have := (List.getElem?_eq_some_iff.mp e).1
      rwa [List.length_set] at this
    rw [List.getElem?_set_self hl] at e
    cases e
  · rw [List.getElem?_set_ne hj] at e
    obtain ⟨w, h1, h2⟩ := h.2 j d' e
    exact ⟨w, by rw [List.getElem?_set_ne hj]; exact h1, h2⟩
theorem EnvOk.wipe (h : EnvOk L A σ H Γ) : ∀ vs : List Nat, EnvOk L A (wipe σ vs) H (wipeD Γ vs)
  | [] => h
  | v :: vs => (h.wipe vs).clear v
/-- a new address is avoided from now on -/
theorem EnvOk.avoid {q : Addr} {o : HO} (h : EnvOk L A σ H Γ) (e : H q = none) : EnvOk L (fun b => A b ∨ b = q) σ (upd H q o) Γ := ⟨h.1, fun i d ed => by
  obtain ⟨v, h1, h2⟩ := h.2 i d ed
  refine ⟨v, h1, h2.imp (fun x => x) fun x => x.map fun b u na eb _ => ?_⟩
  have ne : b ≠ q := ne_of_none eb e
  exact ⟨fun z => z.elim na ne, by rw [upd_ne ne]; exact eb⟩⟩
theorem kp_of (r : L.R n H H') : Kp H H' := fun b o e k => L.keep r e k
/-- an avoided object is written -/
theorem DvAll.off {q : Addr} {o : HO} {vs : List V} {ds : List PyData} (h : DvAll (fun b => A b ∨ b = q) H vs ds) : DvAll (fun b => A b ∨ b = q) (upd H q o) vs ds := h.map fun b u na e k => ⟨na, by rw [upd_ne (fun z => na (.inr z))]; exact e⟩
theorem EnvOk.off {q : Addr} {o : HO} (h : EnvOk L (fun b => A b ∨ b = q) σ H Γ) : EnvOk L (fun b => A b ∨ b = q) σ (upd H q o) Γ := ⟨h.1, fun i d ed => by
  obtain ⟨v, h1, h2⟩ := h.2 i d ed
  exact ⟨v, h1, h2.imp (fun x => x) fun x => x.map fun b u na e _ => ⟨na, by rw [upd_ne (fun z => na (.inr z))]; exact e⟩⟩⟩
/-- a new object -/
def EvF (L : Rl) (n : Nat) (te : TE) (Γ : List (Option PyData)) (P : PyData → Prop) : Prop := ∀ A σ H, Inn A H → EnvOk L A σ H Γ → L.G n H → ∀ Q : VK, (∀ p d H', L.R n H H' → H p = none → Dq L A H' (.ref p) d → P d → Q (.ref p) H') → te σ H Q
theorem EvF.eg (h : EvF L a te Γ P) : EvG L a te Γ P := fun A σ H hi he hg Q q => h A σ H hi he hg Q fun p d H' r _ hv hp => q (.ref p) d H' r hv hp
theorem eg_lcGF {wi : TI} {g : TG} {js vs : List Nat} {PI1 : List PyData → Prop} {Pt : List PyData → Nat → PyData → Prop} (hw : WkG L a wi Γ PI1) (hj : ∀ j ∈ js, j ∈ vs) (hlen : ∀ items, PI1 items → items.length ≤ b ∧ b ≤ 1000)
    (hb : ∀ items, PI1 items → ∀ (i : Nat) d, items[i]? = some d → ∃ Γ', TgG L g js d (wipeD Γ vs) Γ' ∧ EvG L c te Γ' (fun r => r ≠ mark ∧ Pt items i r)) :
    EvF L (a + b * c) (tLc wi g tYes te vs) Γ (fun r => ∃ items rs, PI1 items ∧ r = .list rs ∧ rs.length = items.length ∧ ∀ (i : Nat) d, rs[i]? = some d → Pt items i d) := fun A σ H hi he hg Q q => hw A σ H hi he (L.gle (Nat.le_add_right _ _) hg) _ fun J H1 items r1 hp jk D hD => by
  have hD0 : H D = none := L.free r1 hD
  obtain ⟨hl, hl2⟩ := hlen items hp
  have g1 : L.G (b * c) H1 := Rl.gR hg r1
  -- the walk's word
  refine ⟨fun i m H2 => m = items.length - i ∧ i ≤ items.length ∧ L.R (a + i * c) H H2 ∧ Kp H1 H2 ∧ ∃ acc rs, H2 D = some (.lst acc) ∧ DvAll (fun b => A b ∨ b = D) H2 acc rs ∧ rs.length = i ∧ ∀ (j : Nat) d, rs[j]? = some d → Pt items j d, ⟨items.length, ?_⟩, ?_⟩
  · refine ⟨by omega, Nat.zero_le _, ?_, fun b o e k => by rw [upd_ne (ne_of_none e hD)]; exact e, [], [], upd_same, .nil, rfl, fun j d e => by simp at e⟩
    have e0 : a + 0 * c = a := by rw [Nat.zero_mul, Nat.add_zero]
    rw [e0]
    exact L.fresh r1 hD0
  · rintro i m H2 ⟨rfl, hle, r2, k2, acc, rs, eD, dv, hrl, hpt⟩
    have naD : ∀ b, A b → H2 b ≠ none := fun b z => hi.r r2 b z
    by_cases hlt : i < items.length
    · refine .inr ⟨jk.go i H2 k2 hlt, fun H3 => i + 1 ≤ items.length ∧ L.R (a + (i + 1) * c) H H3 ∧ Kp H1 H3 ∧ ∃ acc rs, H3 D = some (.lst acc) ∧ DvAll (fun b => A b ∨ b = D) H3 acc rs ∧ rs.length = i + 1 ∧ ∀ (j : Nat) d, rs[j]? = some d → Pt items j d,
        fun H3 h3 => ⟨items.length - (i + 1), by omega, rfl, h3⟩, fun x H3 y => ?_⟩
      obtain ⟨d, hd, sm, hdv⟩ := jk.yld i H2 x H3 k2 naD y hlt
      obtain ⟨Γ', htg, hev⟩ := hb items hp i d hd
      have innA' : ∀ b, (A b ∨ b = D) → H2 b ≠ none := fun b z => z.elim (naD b) fun e => by rw [e, eD]; simp
      have dx : Dv (fun b => A b ∨ b = D) H3 x d := hdv _ innA' fun b o na e _ z => z.elim na (ne_of_none e hD)
      -- the names, away from the new list
      have ev2 : EnvOk L (fun b => A b ∨ b = D) (wipe σ vs) H3 (wipeD Γ vs) := by
        have h0 : EnvOk L (fun b => A b ∨ b = D) (wipe σ vs) (upd H1 D (.lst [])) (wipeD Γ vs) := ((he.r r1).wipe vs).avoid hD
        refine ⟨h0.1, fun j d' e => ?_⟩
        obtain ⟨v, e1, e2⟩ := h0.2 j d' e
        refine ⟨v, e1, e2.imp (fun z => z) fun z => z.map fun b o na eb kd => ⟨na, sm _ _ (k2 b o ?_ kd)⟩⟩
        rwa [upd_ne (fun w => na (.inr w))] at eb
      refine htg (fun b => A b ∨ b = D) x (wipe σ vs) H3 dx ev2 _ fun σ2 e3 w3 => ⟨?_, ?_⟩
      · rw [w3 vs hj, wipe_wipe vs fun v hv => hv]
      · show te σ2 H3 _
        have g0 : L.G (c + 0) H2 := by
          refine Rl.gR (a := a + i * c) ?_ r2
          refine L.gle ?_ hg
          have h1 : (i + 1) * c ≤ b * c := Nat.mul_le_mul_right _ (by omega)
          have h2 : (i + 1) * c = i * c + c := Nat.succ_mul _ _
          omega
        have r3 : L.R 0 H2 H3 := L.same (L.g0 g0) sm
        have g3 : L.G c H3 := Rl.gR (a := 0) (by rw [Nat.zero_add]; exact g0) r3
        refine hev (fun b => A b ∨ b = D) σ2 H3 (fun b z y => innA' b z (L.free r3 y)) e3 g3 _ fun y dy H4 r4 hy pw => ?_
        obtain ⟨hmk, hpt4⟩ := pw
        have eD4 : H4 D = some (.lst acc) := L.keep r4 (sm _ _ eD) (fun kvs z => by cases z)
        refine ⟨acc, eD4, Nat.lt_of_le_of_lt (show acc.length ≤ 1000 by rw [dv.length, hrl]; omega) (by decide), hlt, ?_, ?_, acc ++ [y], rs ++ [dy], upd_same, ?_, by rw [List.length_append, hrl]; rfl, fun j d' e => ?_⟩
        · have hh : L.R (a + i * c + 0 + c) H H4 := L.tr (L.tr r2 r3) r4
          have e5 : a + (i + 1) * c = a + i * c + 0 + c := by rw [Nat.succ_mul]; omega
          rw [e5]
          exact L.fresh hh hD0
        · intro b o e k
          have ne : b ≠ D := ne_of_none e hD
          rw [upd_ne ne]
          exact L.keep r4 (sm _ _ (k2 b o e k)) k
        · have dv4 : DvAll (fun b => A b ∨ b = D) H4 acc rs := (dv.map (fun b o na e k => ⟨na, sm _ _ e⟩) : DvAll (fun b => A b ∨ b = D) H3 acc rs).r r4
          exact (dv4.app (.cons (hy.ne hmk) .nil)).off
        · by_cases hj2 : j < rs.length
          · rw [List.getElem?_append_left hj2] at e
            exact hpt j d' e
          · rw [List.getElem?_append_right (by omega)] at e
            have hj3 : j - rs.length = 0 := by
              have := (List.getElem?_eq_some_iff.mp e).1
              simp at this
              omega
            rw [hj3] at e
            simp at e
            subst e
            have : j = i := by omega
            subst this
            exact hpt4
    · have e : i = items.length := by omega
      subst e
      refine .inl ⟨jk.stop H2 k2, ?_⟩
      have nD : ¬ A D := hi.no hD0
      refine q D (.list rs) H2 (L.rle ?_ r2) hD0 (.inr (.lst nD eD (dv.map fun b o na e _ => ⟨fun z => na (.inl z), e⟩))) ⟨items, rs, hp, rfl, hrl, hpt⟩
      have := Nat.mul_le_mul_right c hl
      omega
theorem eg_lcG {wi : TI} {g : TG} {js vs : List Nat} {PI1 : List PyData → Prop} {Pt : List PyData → Nat → PyData → Prop} (hw : WkG L a wi Γ PI1) (hj : ∀ j ∈ js, j ∈ vs) (hlen : ∀ items, PI1 items → items.length ≤ b ∧ b ≤ 1000)
    (hb : ∀ items, PI1 items → ∀ (i : Nat) d, items[i]? = some d → ∃ Γ', TgG L g js d (wipeD Γ vs) Γ' ∧ EvG L c te Γ' (fun r => r ≠ mark ∧ Pt items i r)) :
    EvG L (a + b * c) (tLc wi g tYes te vs) Γ (fun r => ∃ items rs, PI1 items ∧ r = .list rs ∧ rs.length = items.length ∧ ∀ (i : Nat) d, rs[i]? = some d → Pt items i d) := (eg_lcGF hw hj hlen hb).eg
/-- each item comes to one thing -/
theorem eg_lcF {wi : TI} {g : TG} {js vs : List Nat} {items rs : List PyData} (hw : WkD L wi Γ items) (hj : ∀ j ∈ js, j ∈ vs) (hlen : items.length ≤ 1000) (hr : rs.length = items.length)
    (hb : ∀ (i : Nat) d r, items[i]? = some d → rs[i]? = some r → r ≠ mark ∧ ∃ Γ', TgG L g js d (wipeD Γ vs) Γ' ∧ EvD L te Γ' r) : EvF L 0 (tLc wi g tYes te vs) Γ (fun x => x = .list rs) := by
  have h := eg_lcGF (a := 0) (b := items.length) (c := 0) (te := te) (Pt := fun its i r => rs[i]? = some r) hw hj (fun its e => by rw [e]; exact ⟨Nat.le_refl _, hlen⟩) (fun its e i d hd => by
    subst e
    have hi : i < rs.length := by rw [hr]; exact (List.getElem?_eq_some_iff.mp hd).1
    obtain ⟨nm, Γ', h1, h2⟩ := hb i d rs[i] hd (List.getElem?_eq_getElem hi)
    refine ⟨Γ', h1, EvG.mono h2 (Nat.le_refl _) fun r e => ?_⟩
    rw [e]
    exact ⟨nm, List.getElem?_eq_getElem hi⟩)
  intro A σ H hi he hg Q q
  refine h A σ H hi he (L.gle (Nat.le_of_eq (by simp)) hg) Q fun p r H' rr hp hv ⟨its, rs', e1, e2, e3, e4⟩ => q p r H' (L.rle (Nat.le_of_eq (by simp)) rr) hp hv ?_
  rw [e2]
  congr 1
  subst e1
  refine List.ext_getElem? fun i => ?_
  by_cases hi : i < rs'.length
  · have z := e4 i rs'[i] (List.getElem?_eq_getElem hi)
    rw [z, List.getElem?_eq_getElem hi]
  · rw [List.getElem?_eq_none (by omega), List.getElem?_eq_none (by omega)]
theorem eg_lc {wi : TI} {g : TG} {js vs : List Nat} {items rs : List PyData} (hw : WkD L wi Γ items) (hj : ∀ j ∈ js, j ∈ vs) (hlen : items.length ≤ 1000) (hr : rs.length = items.length)
    (hb : ∀ (i : Nat) d r, items[i]? = some d → rs[i]? = some r → r ≠ mark ∧ ∃ Γ', TgG L g js d (wipeD Γ vs) Γ' ∧ EvD L te Γ' r) : EvD L (tLc wi g tYes te vs) Γ (.list rs) := (eg_lcF hw hj hlen hr hb).eg
end
end V1
set_option Elab.async false
set_option linter.all false
set_option maxRecDepth 100000
set_option maxHeartbeats 4000000
/-! Statements and loops by data; a def's promise by its body. -/
namespace V1
open PySem PySem.Spec PyProof.Rows L2
section
variable {L : Rl} {A : Addr → Prop} {H H' H1 : Hp} {v : V} {d : PyData} {σ : L2.St} {Γ : List (Option PyData)} {n a b c : Nat} {te ta tb tl : TE} {t : TA} {tt tu : TT} {ts u z : TS} {P P1 P2 : PyData → Prop} {K : PySem.W.Frag} {N N1 : List (Option PyData) → Prop} {Rt : PyData → Prop}
theorem SG.mono {N' : List (Option PyData) → Prop} {Rt' : PyData → Prop} (h : SG L a ts Γ N Rt) (hn : a ≤ b) (h1 : ∀ G, N G → N' G) (h2 : ∀ d, Rt d → Rt' d) : SG L b ts Γ N' Rt' := fun A σ H hi he hg D q1 q2 =>
  h A σ H hi he (L.gle hn hg) D (fun σ' H' Γ' r e p => q1 σ' H' Γ' (L.rle hn r) e (h1 _ p)) fun v d H' r e p => q2 v d H' (L.rle hn r) e (h2 _ p)
theorem sg_seqG (h : SG L a ts Γ N1 Rt) (k : ∀ Γ', N1 Γ' → SG L b u Γ' N Rt) : SG L (a + b) (tSeq ts u) Γ N Rt := fun A σ H hi he hg D q1 q2 =>
  h A σ H hi he (L.gle (Nat.le_add_right _ _) hg) { D with nx := u D } (fun σ' H' Γ' r e p => k Γ' p A σ' H' (hi.r r) e (Rl.gR hg r) D (fun σ2 H2 Γ2 r2 e2 p2 => q1 σ2 H2 Γ2 (L.tr r r2) e2 p2) fun v d H2 r2 e2 p2 => q2 v d H2 (L.tr r r2) e2 p2)
    fun v d H' r e p => q2 v d H' (L.rle (Nat.le_add_right _ _) r) e p
theorem sg_seq (h : SG L 0 ts Γ N1 Rt) (k : ∀ Γ', N1 Γ' → SG L b u Γ' N Rt) : SG L b (tSeq ts u) Γ N Rt := (sg_seqG h k).mono (Nat.le_of_eq (Nat.zero_add _)) (fun _ x => x) fun _ x => x
theorem sq_asgG {i : Nat} (h : EvG L a te Γ P) (k : ∀ d, P d → SG L b u (Γ.set i (some d)) N Rt) : SG L (a + b) (tSeq (tAsg te (gName i)) u) Γ N Rt := fun A σ H hi he hg D q1 q2 =>
  h A σ H hi he (L.gle (Nat.le_add_right _ _) hg) _ fun v d H1 r hv p => k d p A _ H1 (hi.r r) ((he.r r).set hv i) (Rl.gR hg r) D (fun σ2 H2 Γ2 r2 e2 p2 => q1 σ2 H2 Γ2 (L.tr r r2) e2 p2) fun v d H2 r2 e2 p2 => q2 v d H2 (L.tr r r2) e2 p2
theorem sq_asg {i : Nat} (h : EvD L te Γ d) (k : SG L b u (Γ.set i (some d)) N Rt) : SG L b (tSeq (tAsg te (gName i)) u) Γ N Rt := (sq_asgG (a := 0) h fun d' e => by rw [e]; exact k).mono (Nat.le_of_eq (Nat.zero_add _)) (fun _ x => x) fun _ x => x
theorem sg_asgG {i : Nat} (h : EvG L a te Γ P) (k : ∀ d, P d → N (Γ.set i (some d))) : SG L a (tAsg te (gName i)) Γ N Rt := fun A σ H hi he hg D q1 q2 =>
  h A σ H hi he hg _ fun v d H1 r hv p => q1 _ H1 _ r ((he.r r).set hv i) (k d p)
theorem sg_asg {i : Nat} (h : EvD L te Γ d) (k : N (Γ.set i (some d))) : SG L 0 (tAsg te (gName i)) Γ N Rt := sg_asgG h fun d' e => by rw [e]; exact k
theorem sq_parG {i j : Nat} {PP : List PyData → Prop} (h : EaG L a t Γ PP) (h2 : ∀ ds, PP ds → ∃ d1 d2, ds = [d1, d2] ∧ SG L b u ((Γ.set i (some d1)).set j (some d2)) N Rt) : SG L (a + b) (tSeq (tPar i j t) u) Γ N Rt := fun A σ H hi he hg D q1 q2 =>
  h A σ H hi he (L.gle (Nat.le_add_right _ _) hg) _ fun vs ds H1 r hl hv p => by
    obtain ⟨d1, d2, rfl, k⟩ := h2 ds p
    obtain ⟨v, w, rfl, h3, h4⟩ := two_of hl hv
    exact ⟨v, w, rfl, k A _ H1 (hi.r r) (((he.r r).set h3 i).set h4 j) (Rl.gR hg r) D (fun σ2 H2 Γ2 r2 e2 p2 => q1 σ2 H2 Γ2 (L.tr r r2) e2 p2) fun v d H2 r2 e2 p2 => q2 v d H2 (L.tr r r2) e2 p2⟩
theorem sq_par {i j : Nat} {d1 d2 : PyData} (h : EaD L t Γ [d1, d2]) (k : SG L b u ((Γ.set i (some d1)).set j (some d2)) N Rt) : SG L b (tSeq (tPar i j t) u) Γ N Rt :=
  (sq_parG (a := 0) h fun ds e => ⟨d1, d2, e, k⟩).mono (Nat.le_of_eq (Nat.zero_add _)) (fun _ x => x) fun _ x => x
theorem sg_par {i j : Nat} {d1 d2 : PyData} (h : EaD L t Γ [d1, d2]) (k : N ((Γ.set i (some d1)).set j (some d2))) : SG L 0 (tPar i j t) Γ N Rt := fun A σ H hi he hg D q1 q2 =>
  h A σ H hi he hg _ fun vs ds H1 r hl hv p => by
    subst p
    obtain ⟨v, w, rfl, h3, h4⟩ := two_of hl hv
    exact ⟨v, w, rfl, q1 _ H1 _ r (((he.r r).set h3 i).set h4 j) k⟩
theorem sg_retG (h : EvG L a te Γ P) (k : ∀ d, P d → Rt d) : SG L a (tRet te) Γ N Rt := fun A σ H hi he hg D q1 q2 => h A σ H hi he hg _ fun v d H1 r hv p => q2 v d H1 r hv (k d p)
theorem sg_ret (h : EvD L te Γ d) (k : Rt d) : SG L 0 (tRet te) Γ N Rt := sg_retG h fun d' e => by rw [e]; exact k
theorem sg_retq (h : EvD L te Γ d) (k : Rt d) : SG L 0 (tSeq (tRet te) z) Γ N Rt := fun A σ H hi he hg D q1 q2 => h A σ H hi he hg _ fun v d H1 r hv p => q2 v d H1 r hv (by rw [p]; exact k)
theorem sg_next (k : N Γ) : SG L 0 tNext Γ N Rt := fun A σ H hi he hg D q1 q2 => q1 σ H Γ (Rl.refl hg) he k
theorem sq_next (h : SG L a z Γ N Rt) : SG L a (tSeq tNext z) Γ N Rt := h
theorem sg_if {k : Bool} (h : EtD L tt Γ k) (h1 : k = true → SG L a ts Γ N Rt) (h2 : k = false → SG L a u Γ N Rt) : SG L a (tIfS tt ts u) Γ N Rt := fun A σ H hi he hg D q1 q2 => h A σ H hi he (L.g0 hg) _ fun H1 r1 => by
  have fin : ∀ {tx : TS}, SG L a tx Γ N Rt → tx D σ H1 := fun {tx} hx => hx A σ H1 (hi.r r1) (he.r r1) (Rl.gR (a := 0) (by rw [Nat.zero_add]; exact hg) r1) D
    (fun σ2 H2 Γ2 r2 e2 p2 => q1 σ2 H2 Γ2 (L.rle (Nat.le_of_eq (Nat.zero_add _)) (L.tr r1 r2)) e2 p2) fun v d H2 r2 e2 p2 => q2 v d H2 (L.rle (Nat.le_of_eq (Nat.zero_add _)) (L.tr r1 r2)) e2 p2
  cases k with
  | true => exact fin (h1 rfl)
  | false => exact fin (h2 rfl)
theorem sq_if {k : Bool} (h : EtD L tt Γ k) (h1 : k = true → SG L a (tSeq ts z) Γ N Rt) (h2 : k = false → SG L a (tSeq u z) Γ N Rt) : SG L a (tSeq (tIfS tt ts u) z) Γ N Rt := fun A σ H hi he hg D q1 q2 => h A σ H hi he (L.g0 hg) _ fun H1 r1 => by
  have fin : ∀ {tx : TS}, SG L a tx Γ N Rt → tx D σ H1 := fun {tx} hx => hx A σ H1 (hi.r r1) (he.r r1) (Rl.gR (a := 0) (by rw [Nat.zero_add]; exact hg) r1) D
    (fun σ2 H2 Γ2 r2 e2 p2 => q1 σ2 H2 Γ2 (L.rle (Nat.le_of_eq (Nat.zero_add _)) (L.tr r1 r2)) e2 p2) fun v d H2 r2 e2 p2 => q2 v d H2 (L.rle (Nat.le_of_eq (Nat.zero_add _)) (L.tr r1 r2)) e2 p2
  cases k with
  | true => exact fin (h1 rfl)
  | false => exact fin (h2 rfl)
theorem sg_if_no (h : EtD L tt Γ false) (h2 : SG L a u Γ N Rt) : SG L a (tIfS tt ts u) Γ N Rt := sg_if h (fun e => nomatch e) fun _ => h2
theorem sq_if_no (h : EtD L tt Γ false) (h2 : SG L a z Γ N Rt) : SG L a (tSeq (tIfS tt ts tNext) z) Γ N Rt := sq_if h (fun e => nomatch e) fun _ => h2
theorem sg_ifG {P : Bool → Prop} (h : EtG L a tt Γ P) (h2 : ∀ k, P k → k = false) (h3 : SG L b u Γ N Rt) : SG L (a + b) (tIfS tt ts u) Γ N Rt := fun A σ H hi he hg D q1 q2 => h A σ H hi he (L.gle (Nat.le_add_right _ _) hg) _ fun k H1 r1 pk => by
  rw [h2 k pk]
  exact h3 A σ H1 (hi.r r1) (he.r r1) (Rl.gR hg r1) D (fun σ2 H2 Γ2 r2 e2 p2 => q1 σ2 H2 Γ2 (L.tr r1 r2) e2 p2) fun v d H2 r2 e2 p2 => q2 v d H2 (L.tr r1 r2) e2 p2

/-! ### loops -/
theorem sg_forG {wi : TI} {g : TG} {js : List Nat} {PI1 : List PyData → Prop} (I : List PyData → Nat → List (Option PyData) → Prop) (hw : WkG L a wi Γ PI1) (hlen : ∀ items, PI1 items → items.length ≤ b) (h0 : ∀ items, PI1 items → I items 0 Γ)
    (hb : ∀ items, PI1 items → ∀ (i : Nat) d Γi, items[i]? = some d → I items i Γi → ∃ Γ', TgG L g js d Γi Γ' ∧ SG L c ts Γ' (I items (i + 1)) Rt) (hN : ∀ items, PI1 items → ∀ Γe, I items items.length Γe → N Γe) : SG L (a + b * c) (tFor wi g ts) Γ N Rt := fun A σ H hi he hg D q1 q2 =>
  hw A σ H hi he (L.gle (Nat.le_add_right _ _) hg) _ fun J H1 items r1 hp jk => by
  have hl := hlen items hp
  refine ⟨fun i m σ2 H2 => m = items.length - i ∧ i ≤ items.length ∧ L.R (a + i * c) H H2 ∧ Kp H1 H2 ∧ ∃ Γi, EnvOk L A σ2 H2 Γi ∧ I items i Γi, ⟨items.length, ?_⟩, ?_⟩
  · refine ⟨by omega, Nat.zero_le _, ?_, fun b o e k => e, Γ, he.r r1, h0 items hp⟩
    have e0 : a + 0 * c = a := by rw [Nat.zero_mul, Nat.add_zero]
    rw [e0]
    exact r1
  · rintro i m σ2 H2 ⟨rfl, hle, r2, k2, Γi, e2, p2⟩
    by_cases hlt : i < items.length
    · refine .inr ⟨jk.go i H2 k2 hlt, fun σ3 H3 => i + 1 ≤ items.length ∧ L.R (a + (i + 1) * c) H H3 ∧ Kp H1 H3 ∧ ∃ Γi, EnvOk L A σ3 H3 Γi ∧ I items (i + 1) Γi, fun σ3 H3 h3 => ⟨items.length - (i + 1), by omega, rfl, h3⟩, fun x H3 y => ?_⟩
      have naD : ∀ b, A b → H2 b ≠ none := fun b z => hi.r r2 b z
      obtain ⟨d, hd, sm, hdv⟩ := jk.yld i H2 x H3 k2 naD y hlt
      obtain ⟨Γ', htg, hs⟩ := hb items hp i d Γi hd p2
      have e5 : a + (i + 1) * c = a + i * c + 0 + c := by rw [Nat.succ_mul]; omega
      have g0 : L.G (c + 0) H2 := by
        refine Rl.gR (a := a + i * c) ?_ r2
        refine L.gle ?_ hg
        have h1 : (i + 1) * c ≤ b * c := Nat.mul_le_mul_right _ (by omega)
        have h2 : (i + 1) * c = i * c + c := Nat.succ_mul _ _
        omega
      have r3 : L.R 0 H2 H3 := L.same (L.g0 g0) sm
      have g3 : L.G c H3 := Rl.gR (a := 0) (by rw [Nat.zero_add]; exact g0) r3
      have dx : Dv A H3 x d := hdv A naD fun b o na e _ => na
      refine htg A x σ2 H3 dx (e2.r r3) _ fun σ4 e4 _ => ?_
      refine hs A σ4 H3 (fun b z y => naD b z (L.free r3 y)) e4 g3 { D with nx := _, ct := _, bk := D.nx } (fun σ5 H5 Γ5 r5 e6 p5 => ?_) fun v d5 H5 r5 hv p5 => ?_
      · refine ⟨hlt, ?_, fun b o e k => L.keep r5 (sm _ _ (k2 b o e k)) k, Γ5, e6, p5⟩
        rw [e5]
        exact L.tr (L.tr r2 r3) r5
      · refine q2 v d5 H5 (L.rle ?_ (L.tr (L.tr r2 r3) r5)) hv p5
        have h1 : (i + 1) * c ≤ b * c := Nat.mul_le_mul_right _ (by omega)
        have h2 : (i + 1) * c = i * c + c := Nat.succ_mul _ _
        omega
    · have e : i = items.length := by omega
      subst e
      refine .inl ⟨jk.stop H2 k2, q1 σ2 H2 Γi (L.rle ?_ r2) e2 (hN items hp Γi p2)⟩
      have := Nat.mul_le_mul_right c hl
      omega
theorem sg_for {wi : TI} {g : TG} {js : List Nat} {items : List PyData} (I : Nat → List (Option PyData) → Prop) (hw : WkD L wi Γ items) (h0 : I 0 Γ)
    (hb : ∀ (i : Nat) d Γi, items[i]? = some d → I i Γi → ∃ Γ', TgG L g js d Γi Γ' ∧ SG L 0 ts Γ' (I (i + 1)) Rt) (hN : ∀ Γe, I items.length Γe → N Γe) : SG L 0 (tFor wi g ts) Γ N Rt :=
  (sg_forG (a := 0) (b := items.length) (c := 0) (fun _ => I) hw (fun its e => by rw [e]; exact Nat.le_refl _) (fun _ _ => h0) (fun its e i d Γi hd hI => by subst e; exact hb i d Γi hd hI) fun its e Γe hI => by subst e; exact hN Γe hI).mono (Nat.le_of_eq (by simp)) (fun _ x => x) fun _ x => x
theorem sg_while (I : List (Option PyData) → Prop) (μ : List (Option PyData) → Nat) (h0 : I Γ) (hs : ∀ Γi, I Γi → ∃ k, EtD L tt Γi k ∧ (k = true → SG L 0 ts Γi (fun Γ' => I Γ' ∧ μ Γ' < μ Γi) Rt) ∧ (k = false → N Γi)) : SG L 0 (tWhile tt ts) Γ N Rt := fun A σ H hi he hg D q1 q2 => by
  refine ⟨fun m σ2 H2 => L.R 0 H H2 ∧ ∃ Γi, EnvOk L A σ2 H2 Γi ∧ I Γi ∧ m = μ Γi, ⟨μ Γ, Rl.refl hg, Γ, he, h0, rfl⟩, ?_⟩
  rintro m σ2 H2 ⟨r2, Γi, e2, p2, rfl⟩
  obtain ⟨k, hk, h1, h2⟩ := hs Γi p2
  have g2 : L.G 0 H2 := Rl.gR (a := 0) (b := 0) hg r2
  refine hk A σ2 H2 (hi.r r2) e2 g2 _ fun H3 r3 => ?_
  have r23 : L.R 0 H H3 := L.tr (a := 0) (b := 0) r2 r3
  cases k with
  | true =>
    refine ⟨fun σ4 H4 => ∃ m', m' < μ Γi ∧ (L.R 0 H H4 ∧ ∃ Γi, EnvOk L A σ4 H4 Γi ∧ I Γi ∧ m' = μ Γi), fun σ4 H4 x => x, ?_⟩
    refine h1 rfl A σ2 H3 ((hi.r r2).r r3) (e2.r r3) (Rl.gR (a := 0) (b := 0) g2 r3) { D with nx := _, ct := _, bk := D.nx } (fun σ4 H4 Γ4 r4 e4 p4 => ⟨_, p4.2, L.tr (a := 0) (b := 0) r23 r4, Γ4, e4, p4.1, rfl⟩) fun v d H4 r4 hv p4 => q2 v d H4 (L.tr (a := 0) (b := 0) r23 r4) hv p4
  | false => exact q1 σ2 H3 Γi r23 (e2.r r3) (h2 rfl)
theorem et_orG {a b : Nat} (h : EtG L a tt Γ (fun k => k = false)) (h2 : EtG L b tu Γ (fun k => k = false)) : EtG L (a + b) (tOr tt tu) Γ (fun k => k = false) := fun A σ H hi he hg Q q => h A σ H hi he (L.gle (Nat.le_add_right _ _) hg) _ fun k H1 r1 e => by
  subst e
  show tu σ H1 Q
  exact h2 A σ H1 (hi.r r1) (he.r r1) (Rl.gR hg r1) Q fun k H2 r2 e => q k H2 (L.tr r1 r2) e
theorem et_notG {a : Nat} {te : TE} (h : EvG L a te Γ (fun d => d = .bool true)) : EtG L a (tNot (tB te)) Γ (fun k => k = false) := fun A σ H hi he hg Q q => h A σ H hi he hg _ fun v d H1 r1 hv p => by
  subst p
  obtain rfl := hv.bool
  exact ⟨true, rfl, q false H1 r1 rfl⟩
end

/-! ### a def's promise by its body -/
def Ga (m : Nat) (ds : List PyData) : List (Option PyData) := ds.map some ++ List.replicate (m - ds.length) none
theorem start_ok {L : Rl} {A : Addr → Prop} {H : Hp} {Nm : List Str} {vs : List V} {ds : List PyData} (hl : vs.length = ds.length) (h : ∀ (i : Nat) d, ds[i]? = some d → ∃ v, vs[i]? = some v ∧ Dq L A H v d) : EnvOk L A (L2.start Nm vs) H (Ga Nm.length ds) := by
  refine ⟨by unfold L2.start Ga; rw [List.length_append, List.length_append, List.length_map, List.length_map, List.length_replicate, List.length_replicate, hl], fun i d e => ?_⟩
  unfold Ga at e
  by_cases hi : i < ds.length
  · rw [List.getElem?_append_left (by rw [List.length_map]; exact hi), List.getElem?_map] at e
    cases e2 : ds[i]? with
    | none => rw [e2] at e; cases e
    | some d' =>
      rw [e2] at e
      have e3 : d' = d := Option.some.inj (Option.some.inj e)
      subst e3
      obtain ⟨v, h1, h2⟩ := h i d' e2
      refine ⟨v, ?_, h2⟩
      unfold L2.start
      rw [List.getElem?_append_left (by rw [List.length_map, hl]; exact hi), List.getElem?_map, h1]
      rfl
  · rw [List.getElem?_append_right (by rw [List.length_map]; omega), List.getElem?_replicate] at e
    split at e <;> cases e
section
variable {P : Program} {w : World} {K : PySem.W.Frag} {mg : Str → Option Value} {base : Heap}
theorem ok_of {S : Rl → Prop} {x : Str} {st : Stmt} {f : Addr} {fd : FuncData} {N ps : List Str} {k n : Nat} {Pre : List PyData → Prop} {Post : List PyData → PyData → Prop} (F : Fun K x x st f fd) (Sc : FnScope N ps (defScope st)) (hlen : ∀ ds, Pre ds → ds.length = ps.length)
    (hb : ∀ (cdv : Value) (A : Around) (outer : List Env) (s : Shared) (H : Hp) (E : XK), A.guards = some [] → Room k (A.deeper (envOfC x (defScope st) s.heap.objs.size f cdv)) →
      ∃ t, PSs (cxOf CX0 P w K mg base N x (defScope st) f cdv A outer s H E).nox (defBody st) t ∧ ∀ L, S L → ∀ ds, Pre ds → SG L n t (Ga N.length ds) (fun _ => Post ds .none) (Post ds)) : FnG P w K mg base (k + 1) f fd ps (spA S n Pre Post) := by
  refine okG F Sc (fun vs H Q E h => ?_) (fun cdv A outer s H vs Q E hg hr h => ?_)
  · obtain ⟨L, _, A, ds, _, hl, _, hp, _⟩ := h
    rw [hl, hlen ds hp]
  · obtain ⟨L, hS, Av, ds, hi, hl, hv, hp, hgg, q⟩ := h
    obtain ⟨t, h1, h2⟩ := hb cdv A outer s H E hg hr
    refine ⟨t, h1, h2 L hS ds hp Av (L2.start N vs) H hi (start_ok hl hv) hgg _ (fun σ' H' Γ' r e p => ?_) fun v d H' r hd p => q v d H' r hd p⟩
    exact q .non .none H' r (.inr .non) p
theorem FnG.imp {k : Nat} {f : Addr} {fd : FuncData} {ps : List Str} {sp sp' : Sp} (F : FnG P w K mg base k f fd ps sp) (h : ∀ vs H Q E, sp' vs H Q E → sp vs H Q E) : FnG P w K mg base k f fd ps sp' :=
  ⟨fun vs H Q E z => F.len vs H Q E (h _ _ _ _ z), fun A outer s H args us vs Q E hg hr e0 hb r z => F.run A outer s H args us vs Q E hg hr e0 hb r (h _ _ _ _ z)⟩
/-- a def that leaves the heap as it is, whose answer is F of its arguments -/
theorem ok_fn {x : Str} {st : Stmt} {f : Addr} {fd : FuncData} {N ps : List Str} {k : Nat} {Pre : List PyData → Prop} {Fv : List PyData → PyData} (F : Fun K x x st f fd) (Sc : FnScope N ps (defScope st)) (hlen : ∀ ds, Pre ds → ds.length = ps.length)
    (hb : ∀ (cdv : Value) (A : Around) (outer : List Env) (s : Shared) (H : Hp) (E : XK), A.guards = some [] → Room k (A.deeper (envOfC x (defScope st) s.heap.objs.size f cdv)) →
      ∃ t, PSs (cxOf CX0 P w K mg base N x (defScope st) f cdv A outer s H E).nox (defBody st) t ∧ ∀ ds, Pre ds → SG pureL 0 t (Ga N.length ds) (fun _ => .none = Fv ds) (fun d => d = Fv ds)) : FnG P w K mg base (k + 1) f fd ps (spL pureL 0 Pre fun ds d => d = Fv ds) :=
  (ok_of (S := fun L => L = pureL) F Sc hlen fun cdv A outer s H E hg hr => by
    obtain ⟨t, h1, h2⟩ := hb cdv A outer s H E hg hr
    exact ⟨t, h1, fun L e ds hp => by subst e; exact h2 ds hp⟩).imp fun vs H Q E h => ⟨pureL, rfl, h⟩
end
end V1
set_option Elab.async false
set_option linter.all false
set_option maxRecDepth 100000
set_option maxHeartbeats 4000000
/-! Fractions, points and rows as rational numbers. -/
namespace V1
open PySem

/-! ### greatest common divisors of lists -/
def gcdl (ns : List Int) : Nat := ns.foldl (fun g n => Nat.gcd g n.natAbs) 0
def lcml (bs : List Nat) : Nat := bs.foldl (fun l b => Nat.lcm l b) 1
theorem gcd_fold (ns : List Int) : ∀ g : Nat, ns.foldl (fun g n => Nat.gcd g n.natAbs) g = Nat.gcd g (gcdl ns) := by
  unfold gcdl
  induction ns with
  | nil => intro g; simp
  | cons n r ih =>
    intro g
    rw [List.foldl_cons, List.foldl_cons, ih, ih (Nat.gcd 0 n.natAbs), Nat.gcd_zero_left, Nat.gcd_assoc]
theorem gcdl_cons (n : Int) (r : List Int) : gcdl (n :: r) = Nat.gcd n.natAbs (gcdl r) := by
  show List.foldl _ (Nat.gcd 0 n.natAbs) r = _
  rw [gcd_fold, Nat.gcd_zero_left]
theorem gcdl_dvd {ns : List Int} : ∀ n ∈ ns, (gcdl ns : Int) ∣ n := by
  induction ns with
  | nil => intro n h; simp at h
  | cons a r ih =>
    intro n h
    rw [gcdl_cons]
    rcases List.mem_cons.mp h with rfl | h
    · exact Int.ofNat_dvd_left.mpr (Nat.gcd_dvd_left _ _)
    · exact Int.dvd_trans (Int.natCast_dvd_natCast.mpr (Nat.gcd_dvd_right _ _)) (ih n h)
theorem dvd_gcdl {ns : List Int} {k : Nat} (h : ∀ n ∈ ns, (k : Int) ∣ n) : k ∣ gcdl ns := by
  induction ns with
  | nil => exact Nat.dvd_zero k
  | cons a r ih =>
    rw [gcdl_cons]
    exact Nat.dvd_gcd (Int.ofNat_dvd_left.mp (h a List.mem_cons_self)) (ih fun n hn => h n (List.mem_cons_of_mem _ hn))
theorem gcdl_mul (c : Nat) (ns : List Int) : gcdl (ns.map fun n => (c : Int) * n) = c * gcdl ns := by
  induction ns with
  | nil => simp [gcdl]
  | cons a r ih => rw [List.map_cons, gcdl_cons, gcdl_cons, ih, Int.natAbs_mul, Int.natAbs_natCast, Nat.gcd_mul_left]
theorem gcdl_pos {ns : List Int} {n : Int} (h : n ∈ ns) (hn : n ≠ 0) : 0 < gcdl ns := by
  rcases Nat.eq_zero_or_pos (gcdl ns) with z | z
  · have := gcdl_dvd n h
    rw [z] at this
    exact absurd (Int.zero_dvd.mp this) hn
  · exact z
theorem lcm_fold (bs : List Nat) : ∀ l : Nat, bs.foldl (fun l b => Nat.lcm l b) l = Nat.lcm l (lcml bs) := by
  unfold lcml
  induction bs with
  | nil => intro l; simp
  | cons b r ih =>
    intro l
    rw [List.foldl_cons, List.foldl_cons, ih, ih (Nat.lcm 1 b), Nat.lcm_one_left, Nat.lcm_assoc]
theorem lcml_cons (b : Nat) (r : List Nat) : lcml (b :: r) = Nat.lcm b (lcml r) := by
  show List.foldl _ (Nat.lcm 1 b) r = _
  rw [lcm_fold, Nat.lcm_one_left]
theorem dvd_lcml {bs : List Nat} : ∀ b ∈ bs, b ∣ lcml bs := by
  induction bs with
  | nil => intro b h; simp at h
  | cons a r ih =>
    intro b h
    rw [lcml_cons]
    rcases List.mem_cons.mp h with rfl | h
    · exact Nat.dvd_lcm_left _ _
    · exact Nat.dvd_trans (ih b h) (Nat.dvd_lcm_right _ _)
theorem lcml_dvd {bs : List Nat} {k : Nat} (h : ∀ b ∈ bs, b ∣ k) : lcml bs ∣ k := by
  induction bs with
  | nil => exact Nat.one_dvd k
  | cons a r ih =>
    rw [lcml_cons]
    exact Nat.lcm_dvd (h a List.mem_cons_self) (ih fun b hb => h b (List.mem_cons_of_mem _ hb))
theorem lcml_pos {bs : List Nat} (h : ∀ b ∈ bs, 0 < b) : 0 < lcml bs := by
  induction bs with
  | nil => exact Nat.one_pos
  | cons a r ih =>
    rw [lcml_cons]
    exact Nat.lcm_pos (h a List.mem_cons_self) (ih fun b hb => h b (List.mem_cons_of_mem _ hb))

/-! ### fractions -/
def fq (q : Rat) : PyData := .tuple [.int q.num, .int (q.den : Int)]
abbrev rat (a : Int) (b : Nat) : Rat := mkRat a b
theorem fq_of {a : Int} {b : Nat} (hb : 0 < b) : PyData.tuple [.int (a / (Nat.gcd a.natAbs b : Nat)), .int ((b : Int) / (Nat.gcd a.natAbs b : Nat))] = fq (rat a b) := by
  unfold fq rat
  rw [Rat.num_mkRat, Rat.den_mkRat, if_neg (by omega), if_neg (by omega), Nat.gcd_comm]
  rfl
theorem rat_mul_den {a : Int} {b : Nat} (hb : 0 < b) : (rat a b).num * b = a * (rat a b).den := by
  have h := Rat.mkRat_self (rat a b)
  exact (Rat.mkRat_eq_iff (Rat.den_nz _) (by omega)).mp h
theorem den_dvd (a : Int) (b : Nat) (hb : 0 < b) : (rat a b).den ∣ b := by
  unfold rat
  rw [Rat.den_mkRat, if_neg (by omega)]
  exact Nat.div_dvd_of_dvd (Nat.gcd_dvd_left _ _)
theorem rat_eq {a c : Int} {b d : Nat} (hb : 0 < b) (hd : 0 < d) (h : a * d = c * b) : rat a b = rat c d := (Rat.mkRat_eq_iff (by omega) (by omega)).mpr h
theorem rat_div (a : Int) (b : Nat) : rat a b = (a : Rat) / (b : Rat) := Rat.mkRat_eq_div a b

/-! ### points and rows: the primitive integers of rational numbers -/
def lq (qs : List Rat) : Nat := lcml (qs.map fun q => q.den)
def topQ (qs : List Rat) : List Int := qs.map fun q => q.num * ((lq qs / q.den : Nat) : Int)
def rowQ (qs : List Rat) : List Int := topQ qs ++ [(lq qs : Int)]
def tI (ns : List Int) : PyData := .tuple (ns.map .int)
def lI (ns : List Int) : PyData := .list (ns.map .int)
def rowD (qs : List Rat) : PyData := tI (rowQ qs)
def prim (ns : List Int) : List Int := ns.map fun n => n / (gcdl ns : Int)
theorem lq_pos (qs : List Rat) : 0 < lq qs := lcml_pos fun b hb => by
  obtain ⟨q, _, rfl⟩ := List.mem_map.mp hb
  exact q.den_pos
theorem lq_dvd {qs : List Rat} {q : Rat} (h : q ∈ qs) : q.den ∣ lq qs := dvd_lcml _ (List.mem_map.mpr ⟨q, h, rfl⟩)
theorem topQ_len (qs : List Rat) : (topQ qs).length = qs.length := List.length_map _
theorem rowQ_len (qs : List Rat) : (rowQ qs).length = qs.length + 1 := by unfold rowQ; rw [List.length_append, topQ_len]; rfl
/-- n over w, the list of them -/
def over (ns : List Int) (w : Nat) : List Rat := ns.map fun n => rat n w
theorem prim_over (ns : List Int) {w : Nat} (hw : 0 < w) : prim (ns ++ [(w : Int)]) = rowQ (over ns w) := by
  generalize hg : gcdl (ns ++ [(w : Int)]) = g
  have hgp : 0 < g := by rw [← hg]; exact gcdl_pos (n := (w : Int)) (by simp) (by omega)
  have dv : ∀ n ∈ ns ++ [(w : Int)], (g : Int) ∣ n := by rw [← hg]; exact gcdl_dvd
  obtain ⟨k, hk⟩ : g ∣ w := Int.natCast_dvd_natCast.mp (dv w (by simp))
  have hkp : 0 < k := Nat.pos_of_ne_zero fun z => by rw [z] at hk; omega
  have hns : ∀ n ∈ ns, n = (g : Int) * (n / g) := fun n hn => (Int.mul_ediv_cancel' (dv n (by simp [hn]))).symm
  have hq : ∀ n ∈ ns, rat n w = rat (n / g) k := fun n hn => rat_eq hw hkp (by
    have e := hns n hn
    rw [hk, Int.natCast_mul]
    calc n * (k : Int) = ((g : Int) * (n / g)) * k := by rw [← e]
      _ = n / g * ((g : Int) * k) := by rw [Int.mul_comm (g : Int) (n / g), Int.mul_assoc])
  -- the primitive ones have no common divisor
  have g1 : gcdl (ns.map (fun n => n / (g : Int)) ++ [(k : Int)]) = 1 := by
    have e : (ns.map (fun n => n / (g : Int)) ++ [(k : Int)]).map (fun n => (g : Int) * n) = ns ++ [(w : Int)] := by
      rw [List.map_append, List.map_map]
      congr 1
      · calc ns.map ((fun n => (g : Int) * n) ∘ fun n => n / (g : Int)) = ns.map id := List.map_congr_left fun n hn => (hns n hn).symm
          _ = ns := List.map_id ns
      · show [(g : Int) * (k : Int)] = [(w : Int)]
        rw [hk, Int.natCast_mul]
    have h := gcdl_mul g (ns.map (fun n => n / (g : Int)) ++ [(k : Int)])
    rw [e, hg] at h
    exact Nat.eq_of_mul_eq_mul_left hgp (by rw [Nat.mul_one]; exact h.symm)
  -- the common bottom is k
  have hl : lq (over ns w) = k := by
    refine Nat.dvd_antisymm (lcml_dvd fun b hb => ?_) ?_
    · obtain ⟨q, hq1, rfl⟩ := List.mem_map.mp hb
      obtain ⟨n, hn, rfl⟩ := List.mem_map.mp hq1
      rw [hq n hn]
      exact den_dvd _ _ hkp
    · have key : k ∣ gcdl ((ns.map (fun n => n / (g : Int)) ++ [(k : Int)]).map fun n => ((lq (over ns w) : Nat) : Int) * n) := dvd_gcdl fun m hm => by
        obtain ⟨m', hm', rfl⟩ := List.mem_map.mp hm
        rcases List.mem_append.mp hm' with z | z
        · obtain ⟨n, hn, rfl⟩ := List.mem_map.mp z
          have hd : (rat n w).den ∣ lq (over ns w) := lq_dvd (List.mem_map.mpr ⟨n, hn, rfl⟩)
          obtain ⟨c, hc⟩ := hd
          have h1 := rat_mul_den (a := n / g) hkp
          rw [← hq n hn] at h1
          refine ⟨(rat n w).num * c, ?_⟩
          rw [hc, Int.natCast_mul]
          calc ((rat n w).den : Int) * c * (n / g) = (n / g * (rat n w).den) * c := by grind
            _ = ((rat n w).num * k) * c := by rw [h1]
            _ = (k : Int) * ((rat n w).num * c) := by grind
        · have e : m' = (k : Int) := by simpa using z
          subst e
          exact ⟨_, Int.mul_comm _ _⟩
      rw [gcdl_mul, g1, Nat.mul_one] at key
      exact key
  unfold prim rowQ
  rw [hg, List.map_append, hl]
  congr 1
  · unfold topQ over
    rw [List.map_map]
    refine List.map_congr_left fun n hn => ?_
    show n / (g : Int) = (rat n w).num * ((lq (over ns w) / (rat n w).den : Nat) : Int)
    rw [hl]
    have hd : (rat n w).den ∣ k := by rw [hq n hn]; exact den_dvd _ _ hkp
    obtain ⟨c, hc⟩ := hd
    have hdp := (rat n w).den_pos
    have e1 : k / (rat n w).den = c := by rw [hc, Nat.mul_div_cancel_left _ hdp]
    rw [e1]
    have h1 := rat_mul_den (a := n / g) hkp
    rw [← hq n hn, hc, Int.natCast_mul] at h1
    have h2 : ((rat n w).den : Int) * (n / g) = ((rat n w).den : Int) * ((rat n w).num * c) := by
      calc ((rat n w).den : Int) * (n / g) = n / g * (rat n w).den := Int.mul_comm _ _
        _ = (rat n w).num * (((rat n w).den : Int) * c) := h1.symm
        _ = ((rat n w).den : Int) * ((rat n w).num * c) := by grind
    exact Int.eq_of_mul_eq_mul_left (by omega) h2
  · show [(w : Int) / (g : Int)] = [(k : Int)]
    rw [hk, Int.natCast_mul, Int.mul_ediv_cancel_left _ (by omega)]
/-- the integers of a row, over the bottom, are its numbers -/
theorem over_top (qs : List Rat) : over (topQ qs) (lq qs) = qs := by
  unfold over topQ
  rw [List.map_map]
  calc qs.map ((fun n => rat n (lq qs)) ∘ fun q => q.num * ((lq qs / q.den : Nat) : Int)) = qs.map id := List.map_congr_left fun q hq => by
        show rat (q.num * ((lq qs / q.den : Nat) : Int)) (lq qs) = q
        have hd := lq_dvd hq
        obtain ⟨c, hc⟩ := hd
        have hdp := q.den_pos
        have hlp := lq_pos qs
        have e1 : lq qs / q.den = c := by rw [hc, Nat.mul_div_cancel_left _ hdp]
        rw [e1]
        calc rat (q.num * c) (lq qs) = rat q.num q.den := rat_eq hlp hdp (by rw [hc, Int.natCast_mul]; grind)
          _ = q := Rat.mkRat_self q
    _ = qs := List.map_id qs
theorem prim_rowQ (qs : List Rat) : prim (rowQ qs) = rowQ qs := by
  have h := prim_over (topQ qs) (lq_pos qs)
  rw [over_top] at h
  exact h
theorem gcdl_rowQ (qs : List Rat) : gcdl (rowQ qs) = 1 := by
  have h := prim_rowQ qs
  have hm : (lq qs : Int) ∈ rowQ qs := by simp [rowQ]
  have hp : 0 < gcdl (rowQ qs) := gcdl_pos hm (by have := lq_pos qs; omega)
  have e : (prim (rowQ qs)).getLast? = (rowQ qs).getLast? := by rw [h]
  unfold prim at e
  rw [List.getLast?_map] at e
  have e2 : (rowQ qs).getLast? = some (lq qs : Int) := by simp [rowQ]
  rw [e2] at e
  have e3 : (lq qs : Int) / (gcdl (rowQ qs) : Int) = (lq qs : Int) := by simpa using e
  have hl := lq_pos qs
  have d := gcdl_dvd _ hm
  obtain ⟨c, hc⟩ := d
  rw [hc, Int.mul_ediv_cancel_left _ (by omega)] at e3
  have h4 : (1 : Int) * c = (gcdl (rowQ qs) : Int) * c := by rw [Int.one_mul]; exact e3
  have hcz : c ≠ 0 := fun z => by rw [z] at hc; omega
  have h5 := Int.eq_of_mul_eq_mul_right hcz h4
  omega
end V1
set_option Elab.async false
set_option linter.all false
set_option maxRecDepth 100000
set_option maxHeartbeats 4000000
/-! The text of the law k02 by places; what the top has left. -/
namespace V1
open PySem PySem.Spec PyProof.Rows L2

def top (i : Nat) : Stmt := PySem.Challenge.pw_everyfont_k02_whole_rows_together.main.body.getD i (.Pass ⟨0, 0, 0, 0⟩)
/-- built-in names, and the two of math -/
structure Bt (K : PySem.W.Frag) (mg : Str → Option Value) : Prop where
  len : mg "len" = none
  abs : mg "abs" = none
  sum : mg "sum" = none
  min : mg "min" = none
  max : mg "max" = none
  repr : mg "repr" = none
  int : mg "int" = none
  bool : mg "bool" = none
  tuple : mg "tuple" = none
  zip : mg "zip" = none
  enumerate : mg "enumerate" = none
  range : mg "range" = none
  isinstance : mg "isinstance" = none
  gcd : mg "gcd" = some (.builtin "math.gcd")
  lcm : mg "lcm" = some (.builtin "math.lcm")
/-- a def of the top as it stands -/
structure Df (K : PySem.W.Frag) (mg : Str → Option Value) (x : Str) (st : Stmt) (ps : List Str) (f : Addr) (fd : FuncData) : Prop where
  gm : mg x = some (.ref f)
  F : Fun K x x st f fd
  b : Binds K fd ps []
/-- .. and what it promises -/
structure Cal (P : Program) (w : World) (K : PySem.W.Frag) (mg : Str → Option Value) (base : Heap) (x : Str) (st : Stmt) (ps : List Str) (k : Nat) (sp : Sp) (f : Addr) (fd : FuncData) : Prop where
  gm : mg x = some (.ref f)
  F : Fun K x x st f fd
  b : Binds K fd ps []
  G : FnG P w K mg base k f fd ps sp
theorem Cal.kp {P : Program} {w : World} {K : PySem.W.Frag} {mg : Str → Option Value} {base : Heap} {x : Str} {st : Stmt} {ps : List Str} {k : Nat} {sp : Sp} {f : Addr} {fd : FuncData} (c : Cal P w K mg base x st ps k sp f fd) : PySem.W.keepIn K (.ref f) = true := c.F.kp
/-- a list or a tuple, walked -/
def iAny (K : PySem.W.Frag) (tl : TE) : TI := fun σ H R => tl σ H fun x H1 => ∃ a, x = .ref a ∧ ((∃ xs, SqL K H1 a xs) ∧ R (Itl K a) H1 ∨ (∃ xs, SqT K H1 a xs) ∧ R (Itt K a) H1)
theorem pi_any {X : Cx} {tg l : Expr} {tl : TE} (hl : PE X l tl) : PI X tg l (iAny X.K tl) := by
  refine ⟨fun pins s σ H R I h => thn (hl.run pins s σ H _ I h) fun v s1 ⟨x, H1, I1, r1, q1⟩ => ?_⟩
  obtain ⟨a, rfl, q1⟩ := q1
  cases r1
  have fr : ∀ b ∈ [s1.heap.objs.size], FpOk X pins H1 b := fun b hb => by
    have e : b = s1.heap.objs.size := by simpa using hb
    subst e
    exact I1.fpOk (Nat.le_refl _) (I1.hok.fresh (Nat.le_refl _))
  rcases q1 with ⟨⟨xs, hq⟩, q⟩ | ⟨⟨xs, hq⟩, q⟩
  · obtain ⟨its, rv, p, hz⟩ := I1.list hq
    exact wpAny_pyIter_list p.isList ⟨s1.heap.objs.size, [s1.heap.objs.size], _, _, H1, rfl, I1.kept (t' := s1.toks) (fun b o e => Heap.get?_push_of_some _ e), turn_list a _, ⟨_, Heap.get?_push_size _ rfl, rfl, rfl⟩, fr, q⟩
  · obtain ⟨its, rv, p, hz⟩ := I1.tuple hq
    exact wpAny_pyIter_tuple (show s1.heap.IsTuple a its.toArray from p) ⟨s1.heap.objs.size, [s1.heap.objs.size], _, _, H1, rfl, I1.kept (t' := s1.toks) (fun b o e => Heap.get?_push_of_some _ e), turn_tuple a _, ⟨_, Heap.get?_push_size _ rfl, rfl, rfl⟩, fr, q⟩
section
variable {L : Rl} {Γ : List (Option PyData)} {K : PySem.W.Frag} {tl te : TE}
theorem wk_any {k : Bool} {ds : List PyData} (h : EvD L tl Γ (sqD k ds)) : WkD L (iAny K tl) Γ ds := fun A σ H hi he hg R q => h A σ H hi he hg _ fun x d H1 r1 hx p => by
  subst p
  obtain ⟨p, xs, rfl, na, e, r⟩ := sq_dq hx
  refine ⟨p, rfl, ?_⟩
  cases k with
  | true => exact .inl ⟨⟨xs, SqL.of e⟩, q _ H1 ds r1 rfl (jok_seq true (SqL.of e) e r _ rfl)⟩
  | false => exact .inr ⟨⟨xs, SqT.of e⟩, q _ H1 ds r1 rfl (jok_seq false (SqT.of e) e r _ rfl)⟩
theorem eg_isiI {i : Int} {b : Bool} {n : String} (h : EvD L te Γ (.int i)) (hk : kitB "int" n = some b) : EvD L (tCB (rIsi K) (tCons te (tCons (tC (.ty n)) tNil))) Γ (.bool b) := fun A σ H hi he hg Q q => h A σ H hi he hg _ fun x d H1 r1 hx p => by
  subst p
  obtain rfl := hx.int
  exact ⟨.int i, .ty n, .type "int", .type n, b, rfl, .ty n, .base (.int i), kit_ty hk, q _ _ H1 r1 (.inr (.bl b)) rfl⟩
theorem eg_isiT {ds : List PyData} {b : Bool} {n : String} (h : EvD L te Γ (.tuple ds)) (hk : kitB "tuple" n = some b) : EvD L (tCB (rIsi K) (tCons te (tCons (tC (.ty n)) tNil))) Γ (.bool b) := fun A σ H hi he hg Q q => h A σ H hi he hg _ fun x d H1 r1 hx p => by
  subst p
  obtain ⟨p, xs, rfl, na, e, r⟩ := hx.tuple
  exact ⟨.ref p, .ty n, .type "tuple", .type n, b, rfl, .ty n, .base (.tup e), kit_ty hk, q _ _ H1 r1 (.inr (.bl b)) rfl⟩
theorem eg_and {a b : Bool} {ta tb : TE} (ha : EvD L ta Γ (.bool a)) (hb : EvD L tb Γ (.bool b)) : EvD L (tAndV ta tb) Γ (.bool (a && b)) := fun A σ H hi he hg Q q => ha A σ H hi he hg _ fun x d H1 r1 hx p => by
  subst p
  obtain rfl := hx.bool
  refine ⟨a, rfl, ?_⟩
  cases a with
  | true => exact hb A σ H1 (hi.r r1) (he.r r1) (Rl.gR (b := 0) hg r1) _ fun y d H2 r2 hy p => q y d H2 (L.tr (a := 0) (b := 0) r1 r2) hy p
  | false => exact q _ _ H1 r1 (.inr (.bl false)) rfl
theorem eg_not {a : Bool} {ta : TE} (ha : EvD L ta Γ (.bool a)) : EvD L (tNotV ta) Γ (.bool (!a)) := fun A σ H hi he hg Q q => ha A σ H hi he hg _ fun x d H1 r1 hx p => by
  subst p
  obtain rfl := hx.bool
  exact ⟨a, rfl, q _ _ H1 r1 (.inr (.bl _)) rfl⟩
end
end V1
namespace V1
open PySem PySem.Spec PyProof.Rows L2
/-- a def whose answer is told for each a -/
def spR {α : Type} (args : α → List PyData) (ok : α → Prop) (val : α → PyData) : Sp := fun vs H Q E => ∃ a, ok a ∧ spL pureL 0 (fun ds => ds = args a) (fun _ d => d = val a) vs H Q E
section
variable {L : Rl} {Γ : List (Option PyData)} {t tk : TA} {E : XK} {α : Type} {args : α → List PyData} {ok : α → Prop} {val : α → PyData}
theorem eg_callR (a : α) (ha : EaD L t Γ (args a)) (ho : ok a) (hn : nomk (args a) = true := by rfl) : EvD L (tCall (spR args ok val) [] E t) Γ (val a) := fun A σ H hi he hg Q q => ha A σ H hi he hg _ fun vs ds H1 r1 l hv p => by
  subst p
  show spR args ok val (vs ++ []) H1 Q E
  rw [List.append_nil]
  refine ⟨a, ho, A, args a, hi.r r1, l, fun i d e => ?_, rfl, trivial, fun v d H2 r2 hd hpo => q v d H2 (L.tr (a := 0) (b := 0) r1 (L.same (Rl.gR (b := 0) hg r1) r2)) (pure_dq hd) hpo⟩
  obtain ⟨v, e1, e2⟩ := hv i d e
  exact ⟨v, e1, .inr (e2.ne (nomk_ne hn i d e))⟩
/-- with keywords alone, in an order of their own -/
theorem eg_callRK (a : α) {ds : List PyData} {gV : List V → List V → List V} (ha : EaD L tk Γ ds) (hg2 : ∀ zs : List V, zs.length = ds.length → (gV [] zs).length = (args a).length ∧ ∀ (i : Nat) d, (args a)[i]? = some d → ∃ j : Nat, ds[j]? = some d ∧ (gV [] zs)[i]? = zs[j]?) (ho : ok a) (hn : nomk (args a) = true := by rfl) :
    EvD L (tCallK (spR args ok val) gV E tNil tk) Γ (val a) := fun A σ H hi he hg Q q => ha A σ H hi he hg _ fun vs ds' H1 r1 l hv p => by
  subst p
  obtain ⟨g1, g2⟩ := hg2 vs l
  refine ⟨a, ho, A, args a, hi.r r1, g1, fun i d e => ?_, rfl, trivial, fun v d H2 r2 hd hpo => q v d H2 (L.tr (a := 0) (b := 0) r1 (L.same (Rl.gR (b := 0) hg r1) r2)) (pure_dq hd) hpo⟩
  obtain ⟨j, e1, e2⟩ := g2 i d e
  obtain ⟨v, e3, e4⟩ := hv j d e1
  exact ⟨v, by rw [e2]; exact e3, .inr (e4.ne (nomk_ne hn i d e))⟩
end
section
variable {P : Program} {w : World} {K : PySem.W.Frag} {mg : Str → Option Value} {base : Heap}
theorem ok_R {α : Type} {args : α → List PyData} {ok : α → Prop} {val : α → PyData} {x : Str} {st : Stmt} {f : Addr} {fd : FuncData} {N ps : List Str} {k : Nat} (D : Df K mg x st ps f fd) (Sc : FnScope N ps (defScope st)) (hlen : ∀ a, (args a).length = ps.length)
    (hb : ∀ (cdv : Value) (A : Around) (outer : List Env) (s : Shared) (H : Hp) (E : XK), (cxOf CX0 P w K mg base N x (defScope st) f cdv A outer s H E).nox.A.guards = some [] → Room k (cxOf CX0 P w K mg base N x (defScope st) f cdv A outer s H E).nox.A →
      ∃ t, PSs (cxOf CX0 P w K mg base N x (defScope st) f cdv A outer s H E).nox (defBody st) t ∧ ∀ a, ok a → SG pureL 0 t (Ga N.length (args a)) (fun _ => .none = val a) (fun d => d = val a)) : Cal P w K mg base x st ps (k + 1) (spR args ok val) f fd := by
  refine ⟨D.gm, D.F, D.b, okG D.F Sc (fun vs H Q E h => ?_) (fun cdv A outer s H vs Q E hg hr h => ?_)⟩
  · obtain ⟨a, _, Av, ds, _, hl, _, hp, _⟩ := h
    rw [hl, hp, hlen a]
  · obtain ⟨a, ho, Av, ds, hi, hl, hv, hp, hgg, q⟩ := h
    subst hp
    obtain ⟨t, h1, h2⟩ := hb cdv A outer s H E hg hr
    refine ⟨t, h1, h2 a ho Av _ H hi (start_ok hl hv) hgg _ (fun σ' H' Γ' r e p => ?_) fun v d H' r hd p => q v d H' r hd p⟩
    exact q .non .none H' r (.inr .non) p
end
def Bn (n : Nat) (ns : List Int) : Prop := ∀ z ∈ ns, z.natAbs < 2 ^ n
end V1
set_option Elab.async false
set_option linter.all false
set_option maxRecDepth 100000
set_option maxHeartbeats 4000000
namespace V1
open PySem PySem.Spec PyProof.Rows L2
variable {P : Program} {w : World} {K : PySem.W.Frag} {mg : Str → Option Value} {base : Heap}
abbrev s_is_int : Stmt := top 7
abbrev n_is_int : List Str := ["value"]
theorem sc_is_int : FnScope n_is_int ["value"] (defScope s_is_int) := ⟨rfl, rfl, rfl, by decide +kernel, rfl, by decide +kernel, by decide +kernel⟩
def sp_is_int : Sp := spR (fun i : Int => [.int i]) (fun _ => True) fun _ => .bool true
theorem ok_is_int {f : Addr} {fd : FuncData} (T : Bt K mg) (D : Df K mg "is_int" s_is_int ["value"] f fd) : Cal P w K mg base "is_int" s_is_int ["value"] 1 sp_is_int f fd := by
  refine ok_R D sc_is_int (fun _ => rfl) fun cdv A outer s H E hgd hr => ⟨_, (pss_one (ps_ret (pe_and (pe_callB call_isi (by rfl) T.isinstance (by decide +kernel) (pa_cons (pv 0) (pa_cons (pe_bltn (v := .ty "int") (by rfl) T.int (by decide +kernel) rfl) pa_nil))) (pe_one (pe_not (pe_callB call_isi (by rfl) T.isinstance (by decide +kernel) (pa_cons (pv 0) (pa_cons (pe_bltn (v := .ty "bool") (by rfl) T.bool (by decide +kernel) rfl) pa_nil)))))))), ?_⟩
  intro i _
  show SG pureL 0 _ [some (.int i)] _ _
  exact sg_ret (eg_and (eg_isiI (b := true) (eg_var rfl) (by decide +kernel)) (eg_not (eg_isiI (b := false) (eg_var rfl) (by decide +kernel)))) rfl

abbrev s_sign_of : Stmt := top 8
abbrev n_sign_of : List Str := ["number"]
theorem sc_sign_of : FnScope n_sign_of ["number"] (defScope s_sign_of) := ⟨rfl, rfl, rfl, by decide +kernel, rfl, by decide +kernel, by decide +kernel⟩
def sp_sign_of : Sp := spR (fun i : Int => [.int i]) (fun _ => True) fun i => .int i.sign
theorem ok_sign_of {f : Addr} {fd : FuncData} (T : Bt K mg) (D : Df K mg "sign_of" s_sign_of ["number"] f fd) : Cal P w K mg base "sign_of" s_sign_of ["number"] 1 sp_sign_of f fd := by
  refine ok_R D sc_sign_of (fun _ => rfl) fun cdv A outer s H E hgd hr => ⟨_, (pss_cons (ps_if (pt_cmpR op_lt (pv 0) pe_int (nomark _)) (pss_one (ps_ret (pe_un un_neg pe_int))) pss_nil)
        (pss_one (ps_ret (pe_ifExp (pt_cmpR op_gt (pv 0) pe_int (nomark _)) pe_int pe_int)))), ?_⟩
  intro i _
  show SG pureL 0 _ [some (.int i)] _ _
  refine sq_if (et_test (eg_lt (eg_var rfl) eg_int)) (fun h => ?_) fun h => ?_
  · refine sg_retq (eg_neg eg_int) ?_
    rw [Int.sign_eq_neg_one_of_neg (of_decide_eq_true h)]
  · have h0 := of_decide_eq_false h
    refine sq_next (sg_ret (eg_if (et_test (eg_gt (eg_var rfl) eg_int)) (fun h1 => ?_) fun h1 => ?_) rfl)
    · rw [Int.sign_eq_one_of_pos (of_decide_eq_true h1)]
      exact eg_int
    · have h2 := of_decide_eq_false h1
      have e : i = 0 := by omega
      rw [e]
      exact eg_int

abbrev s_lowest : Stmt := top 9
abbrev n_lowest : List Str := ["top", "bottom", "shared"]
theorem sc_lowest : FnScope n_lowest ["top", "bottom"] (defScope s_lowest) := ⟨rfl, rfl, rfl, by decide +kernel, rfl, by decide +kernel, by decide +kernel⟩
/-- the fraction a / b, b from 1 -/
def sp_lowest : Sp := spR (fun p : Int × Nat => [.int p.1, .int (p.2 : Int)]) (fun p => 0 < p.2 ∧ p.2 < 2 ^ 8000) fun p => fq (rat p.1 p.2)
theorem ok_lowest {f : Addr} {fd : FuncData} (T : Bt K mg) (D : Df K mg "lowest" s_lowest ["top", "bottom"] f fd) : Cal P w K mg base "lowest" s_lowest ["top", "bottom"] 1 sp_lowest f fd := by
  refine ok_R D sc_lowest (fun _ => rfl) fun cdv A outer s H E hgd hr => ⟨_, (pss_cons (ps_if (pt_cmpR op_eq (pv 1) pe_int (nomark _)) (pss_one ps_never) pss_nil)
        (pss_cons (ps_set (i := 2) sc_lowest.nd rfl (Or.inl rfl) (pe_callBfun cr_gcd (by rfl) T.gcd (pa_cons (pv 0) (pa_cons (pv 1) pa_nil))))
        (pss_cons (ps_if (pt_cmpR op_lt (pv 1) pe_int (nomark _)) (pss_one (ps_set (i := 2) sc_lowest.nd rfl (Or.inl rfl) (pe_un un_neg (pv 2)))) pss_nil)
        (pss_one (ps_ret (pe_tup (pa_cons (pe_op op_fdivW (pv 0) (pv 2)) (pa_cons (pe_op op_fdivW (pv 1) (pv 2)) pa_nil)))))))), ?_⟩
  rintro ⟨a, b⟩ ⟨h1, h2⟩
  show SG pureL 0 _ [some (.int a), some (.int (b : Int)), none] _ _
  have h1' : 0 < b := h1
  have hg : 0 < Nat.gcd a.natAbs b := Nat.gcd_pos_of_pos_right _ h1'
  have hle : Nat.gcd a.natAbs b ≤ b := Nat.le_of_dvd h1' (Nat.gcd_dvd_right _ _)
  have hd : CDivW a ((Nat.gcd a.natAbs b : Nat) : Int) := wide_div (b := 8000) (by omega) (by rw [Int.natAbs_natCast]; exact Nat.lt_of_le_of_lt hle h2) (by decide) (by decide)
  have hd2 : CDivW (b : Int) ((Nat.gcd a.natAbs b : Nat) : Int) := hd
  refine sq_if_no (et_is (et_test (eg_eqI (eg_var rfl) eg_int)) (decide_eq_false (by omega))) ?_
  refine sq_asg (eg_cb (ea_cons (eg_var rfl) (ea_cons (eg_var rfl) ea_nil)) cs_gcd) ?_
  refine sq_if_no (et_is (et_test (eg_lt (eg_var rfl) eg_int)) (decide_eq_false (by omega))) ?_
  rw [Int.natAbs_natCast]
  exact sg_ret (eg_tup (ea_cons (eg_div (eg_var rfl) (eg_var rfl) hd) (ea_cons (eg_div (eg_var rfl) (eg_var rfl) hd2) ea_nil))) (fq_of h1')

abbrev s_shared_divisor : Stmt := top 11
abbrev n_shared_divisor : List Str := ["integers", "shared", "integer"]
theorem sc_shared_divisor : FnScope n_shared_divisor ["integers"] (defScope s_shared_divisor) := ⟨rfl, rfl, rfl, by decide +kernel, rfl, by decide +kernel, by decide +kernel⟩
def sp_shared_divisor : Sp := spR (fun p : Bool × List Int => [sqD p.1 (p.2.map .int)]) (fun _ => True) fun p => .int (gcdl p.2)
theorem ok_shared_divisor {f : Addr} {fd : FuncData} (T : Bt K mg) (D : Df K mg "shared_divisor" s_shared_divisor ["integers"] f fd) : Cal P w K mg base "shared_divisor" s_shared_divisor ["integers"] 1 sp_shared_divisor f fd := by
  refine ok_R D sc_shared_divisor (fun _ => rfl) fun cdv A outer s H E hgd hr => ⟨_, (pss_cons (ps_set (i := 1) sc_shared_divisor.nd rfl (Or.inl rfl) pe_int)
        (pss_cons (ps_for PassesOwn.never rfl (pi_any (pv 0)) (pg_name (i := 2) sc_shared_divisor.nd rfl (Or.inl rfl))
        (pss_one (ps_set (i := 1) sc_shared_divisor.nd rfl (Or.inl rfl) (pe_callBfun cr_gcd (by rfl) T.gcd (pa_cons (pv 1) (pa_cons (pv 2) pa_nil))))))
        (pss_one (ps_ret (pv 1))))), ?_⟩
  rintro ⟨k, ns⟩ _
  show SG pureL 0 _ [some (sqD k (ns.map .int)), none, none] _ _
  refine sq_asg eg_int ?_
  refine sg_seq (N1 := fun G => G[1]? = some (some (.int (gcdl ns)))) (sg_for (js := [2]) (fun i G => ∃ x, G = [some (sqD k (ns.map .int)), some (.int (gcdl (ns.take i))), x]) (wk_any (k := k) (eg_var rfl)) ⟨none, rfl⟩ ?_ ?_) fun G hG => ?_
  · rintro i d G hd ⟨x, rfl⟩
    rw [List.getElem?_map] at hd
    cases hn : ns[i]? with
    | none => rw [hn] at hd; cases hd
    | some n =>
      rw [hn] at hd
      have hd' : PyData.int n = d := Option.some.inj hd
      subst hd'
      refine ⟨_, tg_name, sg_asg (eg_cb (ea_cons (eg_var rfl) (ea_cons (eg_var rfl) ea_nil)) cs_gcd) ⟨some (.int n), ?_⟩⟩
      have e : (ns.take (i + 1)) = ns.take i ++ [n] := by
        rw [List.take_add_one, hn]
        rfl
      have e2 : gcdl (ns.take (i + 1)) = Nat.gcd (gcdl (ns.take i)) n.natAbs := by rw [e]; unfold gcdl; rw [List.foldl_append]; rfl
      rw [e2]
      rfl
  · rintro G ⟨x, rfl⟩
    show some (some (PyData.int _)) = _
    rw [List.length_map, List.take_length]
  · exact sg_ret (eg_var hG) rfl

abbrev s_shared_bottom : Stmt := top 12
abbrev n_shared_bottom : List Str := ["bottoms", "bottom", "own"]
theorem sc_shared_bottom : FnScope n_shared_bottom ["bottoms"] (defScope s_shared_bottom) := ⟨rfl, rfl, rfl, by decide +kernel, rfl, by decide +kernel, by decide +kernel⟩
def sp_shared_bottom : Sp := spR (fun bs : List Nat => [.list (bs.map fun (b : Nat) => PyData.int (b : Int))]) (fun bs => (∀ b ∈ bs, 0 < b) ∧ lcml bs < 2 ^ 64) fun bs => .int (lcml bs)
theorem ok_shared_bottom {f : Addr} {fd : FuncData} (T : Bt K mg) (D : Df K mg "shared_bottom" s_shared_bottom ["bottoms"] f fd) : Cal P w K mg base "shared_bottom" s_shared_bottom ["bottoms"] 1 sp_shared_bottom f fd := by
  refine ok_R D sc_shared_bottom (fun _ => rfl) fun cdv A outer s H E hgd hr => ⟨_, (pss_cons (ps_set (i := 1) sc_shared_bottom.nd rfl (Or.inl rfl) pe_int)
        (pss_cons (ps_for PassesOwn.never rfl (pi_list (pv 0)) (pg_name (i := 2) sc_shared_bottom.nd rfl (Or.inl rfl))
        (pss_one (ps_set (i := 1) sc_shared_bottom.nd rfl (Or.inl rfl) (pe_callBfun call_lcm (by rfl) T.lcm (pa_cons (pv 1) (pa_cons (pv 2) pa_nil))))))
        (pss_one (ps_ret (pv 1))))), ?_⟩
  rintro bs ⟨h0, h1⟩
  show SG pureL 0 _ [some (.list (bs.map fun (b : Nat) => PyData.int (b : Int))), none, none] _ _
  refine sq_asg eg_int ?_
  refine sg_seq (N1 := fun G => G[1]? = some (some (.int (lcml bs)))) (sg_for (js := [2]) (fun i G => ∃ x, G = [some (.list (bs.map fun (b : Nat) => PyData.int (b : Int))), some (.int (lcml (bs.take i))), x]) (wk_list (eg_var rfl)) ⟨none, rfl⟩ ?_ ?_) fun G hG => ?_
  · rintro i d G hd ⟨x, rfl⟩
    rw [List.getElem?_map] at hd
    cases hn : bs[i]? with
    | none => rw [hn] at hd; cases hd
    | some n =>
      rw [hn] at hd
      have hd' : PyData.int (n : Int) = d := Option.some.inj hd
      subst hd'
      have e : (bs.take (i + 1)) = bs.take i ++ [n] := by
        rw [List.take_add_one, hn]
        rfl
      have e2 : lcml (bs.take (i + 1)) = Nat.lcm (lcml (bs.take i)) n := by rw [e]; unfold lcml; rw [List.foldl_append]; rfl
      have hdv : ∀ j, lcml (bs.take j) ≤ lcml bs := fun j => Nat.le_of_dvd (lcml_pos h0) (lcml_dvd fun b hb => dvd_lcml b (List.mem_of_mem_take hb))
      have hn2 : n ≤ lcml bs := Nat.le_of_dvd (lcml_pos h0) (dvd_lcml n (List.mem_of_getElem? hn))
      refine ⟨_, tg_name, sg_asg (eg_cb (ea_cons (eg_var rfl) (ea_cons (eg_var rfl) ea_nil)) (cs_lcm (by rw [Int.natAbs_natCast]; exact Nat.lt_of_le_of_lt (hdv i) h1) (by rw [Int.natAbs_natCast]; exact Nat.lt_of_le_of_lt hn2 h1))) ⟨some (.int n), ?_⟩⟩
      rw [e2, Int.natAbs_natCast, Int.natAbs_natCast]
      rfl
  · rintro G ⟨x, rfl⟩
    show some (some (PyData.int _)) = _
    rw [List.length_map, List.take_length]
  · exact sg_ret (eg_var hG) rfl

abbrev s_without_divisor : Stmt := top 13
abbrev n_without_divisor : List Str := ["integers", "shared", "integer"]
theorem sc_without_divisor : FnScope n_without_divisor ["integers"] (defScope s_without_divisor) := ⟨rfl, rfl, rfl, by decide +kernel, rfl, by decide +kernel, by decide +kernel⟩
def sp_without_divisor : Sp := spR (fun p : List Int × Nat => [lI (p.1 ++ [(p.2 : Int)])]) (fun p => 0 < p.2 ∧ p.2 < 2 ^ 8000 ∧ p.1.length ≤ 100) fun p => rowD (over p.1 p.2)
theorem ok_without_divisor {f : Addr} {fd : FuncData} (T : Bt K mg) (D : Df K mg "without_divisor" s_without_divisor ["integers"] f fd)
    {f_shared_divisor : Addr} {d_shared_divisor : FuncData} (h_shared_divisor : Cal P w K mg base "shared_divisor" s_shared_divisor ["integers"] 1 sp_shared_divisor f_shared_divisor d_shared_divisor) : Cal P w K mg base "without_divisor" s_without_divisor ["integers"] 2 sp_without_divisor f fd := by
  refine ok_R D sc_without_divisor (fun _ => rfl) fun cdv A outer s H E hgd hr => ⟨_, (pss_cons (ps_set (i := 1) sc_without_divisor.nd rfl (Or.inr rfl) (pe_fn (E := E0) h_shared_divisor.G hgd (hr.mono (by decide)) (by rfl) h_shared_divisor.gm h_shared_divisor.kp h_shared_divisor.b (pa_cons (pv 0) pa_nil)))
        (pss_one (ps_ret (pe_callTy call_tuple_of (by rfl) T.tuple (by decide +kernel) (pa_cons (pe_lc (own := [("integer", 2)]) (g := gName 2) (tt := tYes) rfl sc_without_divisor.nd (pi_list (pv 0)) (blkOk_by (own := [("integer", 2)]) (N := n_without_divisor) (sc := defScope s_without_divisor) (by decide +kernel)) (fun _ _ _ _ _ => (pg_name (i := 2) sc_without_divisor.nd rfl (Or.inl rfl))) (fun _ _ _ _ _ => pts_nil) (fun _ _ _ _ _ => (pe_op op_fdivW (pv 2) (pv 1)))) pa_nil))))), ?_⟩
  rintro ⟨ns, w⟩ ⟨h0, h1, h2⟩
  have h0' : 0 < w := h0
  generalize hms : ns ++ [(w : Int)] = ms
  show SG pureL 0 _ [some (lI ms), none, none] _ _
  have hg : 0 < gcdl ms := by rw [← hms]; exact gcdl_pos (n := (w : Int)) (by simp) (by omega)
  have hgw : gcdl ms ≤ w := Nat.le_of_dvd h0' (Int.natCast_dvd_natCast.mp (by rw [← hms]; exact gcdl_dvd _ (by simp)))
  have hcd : ∀ n : Int, CDivW n ((gcdl ms : Nat) : Int) := fun n => wide_div (b := 8000) (by omega) (by rw [Int.natAbs_natCast]; exact Nat.lt_of_le_of_lt hgw h1) (by decide) (by decide)
  refine sq_asg (eg_callR (true, ms) (ea_cons (eg_var rfl) ea_nil) trivial) ?_
  have hv : rowD (over ns w) = .tuple ((ms.map fun n => n / (gcdl ms : Int)).map .int) := by
    unfold rowD tI
    rw [← prim_over ns h0', ← hms]
    rfl
  rw [hv]
  refine sg_ret (eg_cb (ea_cons (eg_lc (js := [2]) (rs := (ms.map fun n => n / (gcdl ms : Int)).map .int) (wk_list (eg_var rfl)) (by simp) (by rw [List.length_map, ← hms, List.length_append]; have : ns.length ≤ 100 := h2; simp; omega) (by simp) fun i d r hd hr => ?_) ea_nil) cs_tuple) rfl
  rw [List.getElem?_map] at hd
  rw [List.getElem?_map, List.getElem?_map] at hr
  cases hn : ms[i]? with
  | none => rw [hn] at hd; cases hd
  | some n =>
    rw [hn] at hd hr
    have hd' : PyData.int n = d := Option.some.inj hd
    have hr' : PyData.int (n / (gcdl ms : Int)) = r := Option.some.inj hr
    subst hd' hr'
    exact ⟨(fun z => by cases z), _, tg_name, eg_div (eg_var rfl) (eg_var rfl) (hcd n)⟩

abbrev s_fault_in_integers : Stmt := top 14
abbrev n_fault_in_integers : List Str := ["count", "value", "place", "integer"]
theorem sc_fault_in_integers : FnScope n_fault_in_integers ["count", "value"] (defScope s_fault_in_integers) := ⟨rfl, rfl, rfl, by decide +kernel, rfl, by decide +kernel, by decide +kernel⟩
def sp_fault_in_integers : Sp := spR (fun p : List Int × Nat => [.int ((p.1.length + 1 : Nat) : Int), tI (p.1 ++ [(p.2 : Int)])]) (fun p => 0 < p.2 ∧ gcdl (p.1 ++ [(p.2 : Int)]) = 1) fun _ => .none
theorem ok_fault_in_integers {f : Addr} {fd : FuncData} (T : Bt K mg) (D : Df K mg "fault_in_integers" s_fault_in_integers ["count", "value"] f fd)
    {f_is_int : Addr} {d_is_int : FuncData} (h_is_int : Cal P w K mg base "is_int" s_is_int ["value"] 1 sp_is_int f_is_int d_is_int)
    {f_shared_divisor : Addr} {d_shared_divisor : FuncData} (h_shared_divisor : Cal P w K mg base "shared_divisor" s_shared_divisor ["integers"] 1 sp_shared_divisor f_shared_divisor d_shared_divisor) : Cal P w K mg base "fault_in_integers" s_fault_in_integers ["count", "value"] 2 sp_fault_in_integers f fd := by
  refine ok_R D sc_fault_in_integers (fun _ => rfl) fun cdv A outer s H E hgd hr => ⟨_, (pss_cons (ps_if (PW.pt (pw_or (pt_not (pt_val (pe_callB call_isi (by rfl) T.isinstance (by decide +kernel) (pa_cons (pv 1) (pa_cons (pe_bltn (v := .ty "tuple") (by rfl) T.tuple (by decide +kernel) rfl) pa_nil))))) (pw_or1 (pt_cmpR op_ne (pe_callB call_len_seq (by rfl) T.len PySem.boot_len (pa_cons (pv 1) pa_nil)) (pv 0) (nomark _))))) (pss_one (ps_ret (pe_un un_neg pe_int))) pss_nil)
        (pss_cons (ps_for PassesOwn.never rfl (pi_enumP false (by rfl) T.enumerate (pa_cons (pv 1) pa_nil)) (pg_tup rfl (pgs_cons (pg_name (i := 2) sc_fault_in_integers.nd rfl (Or.inl rfl)) (pgs_cons (pg_name (i := 3) sc_fault_in_integers.nd rfl (Or.inl rfl)) pgs_nil)))
        (pss_one (ps_if (pt_not (pt_val (pe_fn (E := E0) h_is_int.G hgd (hr.mono (by decide)) (by rfl) h_is_int.gm h_is_int.kp h_is_int.b (pa_cons (pv 3) pa_nil)))) (pss_one (ps_ret (pv 2))) pss_nil)))
        (pss_cons (ps_if (pt_cmpR op_lt (pe_ix ix_tup (pv 1) (pe_un un_neg pe_int) (fun _ _ => rfl)) pe_int (nomark _)) (pss_one (ps_ret (pe_op op_sub (pv 0) pe_int))) pss_nil)
        (pss_cons (ps_if (pt_cmpR op_gt (pe_fn (E := E0) h_shared_divisor.G hgd (hr.mono (by decide)) (by rfl) h_shared_divisor.gm h_shared_divisor.kp h_shared_divisor.b (pa_cons (pv 1) pa_nil)) pe_int (nomark _)) (pss_one (ps_ret (pe_un un_neg pe_int))) pss_nil)
        (pss_one (ps_ret pe_non)))))), ?_⟩
  rintro ⟨ns, w⟩ ⟨h0, h1⟩
  have h0' : 0 < w := h0
  have h1' : gcdl (ns ++ [(w : Int)]) = 1 := h1
  have hl : (ns ++ [(w : Int)]).length = ns.length + 1 := by simp
  have hlast : atI ((ns ++ [(w : Int)]).map PyData.int) (-1) = some (.int w) := by
    rw [List.map_append]
    exact atI_last (ns.map PyData.int) (.int (w : Int))
  generalize ns ++ [(w : Int)] = ms at h1' hl hlast
  show SG pureL 0 _ [some (.int ((ns.length + 1 : Nat) : Int)), some (tI ms), none, none] _ _
  refine sq_if_no (et_or0 (et_is (et_not (et_B (eg_isiT (b := true) (eg_var rfl) (by decide +kernel)))) rfl) (et_is (et_test (eg_neI (eg_cb (ea_cons (eg_var rfl) ea_nil) cs_lenT) (eg_var rfl))) ?_)) ?_
  · rw [List.length_map, hl, decide_eq_true rfl]
    rfl
  refine sg_seq (N1 := fun G => ∃ x y, G = [some (.int ((ns.length + 1 : Nat) : Int)), some (tI ms), x, y]) (sg_for (js := [2, 3]) (fun i G => ∃ x y, G = [some (.int ((ns.length + 1 : Nat) : Int)), some (tI ms), x, y]) (wk_enum (k := false) (ea_cons (eg_var rfl) ea_nil)) ⟨none, none, rfl⟩ ?_ fun G hG => hG) ?_
  · rintro i d G hd ⟨x, y, rfl⟩
    rw [List.getElem?_mapIdx, List.getElem?_map] at hd
    cases hn : ms[i]? with
    | none => rw [hn] at hd; cases hd
    | some n =>
      rw [hn] at hd
      have hd' : PyData.tuple [.int (i : Nat), .int n] = d := Option.some.inj hd
      subst hd'
      refine ⟨_, tg_two, sg_if_no (et_is (et_not (et_B (eg_callR n (ea_cons (eg_var rfl) ea_nil) trivial))) rfl) (sg_next ⟨_, _, rfl⟩)⟩
  · rintro G ⟨x, y, rfl⟩
    refine sq_if_no (et_is (et_test (eg_lt (eg_ixT (eg_var rfl) (eg_neg eg_int) hlast) eg_int)) (decide_eq_false (by omega))) ?_
    refine sq_if_no (et_is (et_test (eg_gt (eg_callR (false, ms) (ea_cons (eg_var rfl) ea_nil) trivial) eg_int)) (decide_eq_false ?_)) (sg_ret eg_non rfl)
    rw [h1']
    decide

end V1
set_option Elab.async false
set_option linter.all false
set_option maxRecDepth 100000
set_option maxHeartbeats 4000000
/-! Rows as data; slices of them; helpers for comprehensions. -/
namespace V1
open PySem PySem.Spec PyProof.Rows L2
/-- the integer of q over the bottom l -/
def tq (l : Nat) (q : Rat) : Int := q.num * ((l / q.den : Nat) : Int)
theorem tq_rat {l : Nat} {q : Rat} (hl : 0 < l) (h : q.den ∣ l) : rat (tq l q) l = q := by
  obtain ⟨c, hc⟩ := h
  have hdp := q.den_pos
  have e1 : l / q.den = c := by rw [hc, Nat.mul_div_cancel_left _ hdp]
  unfold tq
  rw [e1]
  calc rat (q.num * c) l = rat q.num q.den := rat_eq hl hdp (by rw [hc, Int.natCast_mul]; grind)
    _ = q := Rat.mkRat_self q
theorem rat_cast {a : Int} {b : Nat} (hb : 0 < b) : ((a : Int) : Rat) = rat a b * (b : Rat) := by
  rw [rat_div]
  have : (b : Rat) ≠ 0 := by
    intro z
    have : b = 0 := by exact_mod_cast z
    omega
  grind
theorem tq_cast {l : Nat} {q : Rat} (hl : 0 < l) (h : q.den ∣ l) : ((tq l q : Int) : Rat) = q * (l : Rat) := by
  rw [rat_cast (a := tq l q) hl, tq_rat hl h]
theorem natne {b : Nat} (hb : 0 < b) : (b : Rat) ≠ 0 := by
  intro z
  have : b = 0 := by exact_mod_cast z
  omega
/-- an integer over a bottom is q if it is q times the bottom -/
theorem rat_of {a : Int} {b : Nat} {q : Rat} (hb : 0 < b) (h : ((a : Int) : Rat) = q * (b : Rat)) : rat a b = q := by
  rw [rat_div, h]
  have := natne hb
  grind
theorem topQ_eq (qs : List Rat) : topQ qs = qs.map (tq (lq qs)) := rfl
def iv (l : Nat) (q : Rat) : PyData := .int (tq l q)
theorem rowD_one (x : List Rat) : rowD x = .tuple (x.map (iv (lq x)) ++ [.int (lq x : Int)]) := by
  unfold rowD tI rowQ
  rw [topQ_eq, List.map_append, List.map_map]
  rfl
theorem rowD_two (r : List Rat) (c : Rat) : rowD (r ++ [c]) = .tuple (r.map (iv (lq (r ++ [c]))) ++ [iv (lq (r ++ [c])) c, .int (lq (r ++ [c]) : Int)]) := by
  rw [rowD_one, List.map_append, List.append_assoc]
  rfl
/-- bounds -/
def rb (n : Nat) (r : List Rat) : Prop := r.length ≤ 50 ∧ Bn n (rowQ r)
theorem rb_lq {n : Nat} {r : List Rat} (h : rb n r) : lq r < 2 ^ n := by
  have := h.2 (lq r : Int) (by simp [rowQ])
  simpa using this
theorem rb_tq {n : Nat} {r : List Rat} (h : rb n r) {q : Rat} (hq : q ∈ r) : (tq (lq r) q).natAbs < 2 ^ n := h.2 _ (by
  unfold rowQ
  rw [topQ_eq]
  exact List.mem_append_left _ (List.mem_map.mpr ⟨q, hq, rfl⟩))
theorem bn_prim {n : Nat} {ns : List Int} (h : Bn n ns) : Bn n (prim ns) := fun z hz => by
  unfold prim at hz
  obtain ⟨m, hm, rfl⟩ := List.mem_map.mp hz
  have h1 := h m hm
  have h2 := Int.natAbs_ediv_le_natAbs m (gcdl ns : Int)
  omega
theorem rb_over {n : Nat} {ns : List Int} {w : Nat} (hw : 0 < w) (h : Bn n (ns ++ [(w : Int)])) (hl : ns.length ≤ 50) : rb n (over ns w) := by
  refine ⟨by unfold over; rw [List.length_map]; exact hl, ?_⟩
  rw [← prim_over ns hw]
  exact bn_prim h
theorem Bn.mono {a b : Nat} {ns : List Int} (h : Bn a ns) (hab : a ≤ b) : Bn b ns := fun z hz => Nat.lt_of_lt_of_le (h z hz) (Nat.pow_le_pow_right (by decide) hab)
theorem rb.mono {a b : Nat} {r : List Rat} (h : rb a r) (hab : a ≤ b) : rb b r := ⟨h.1, h.2.mono hab⟩

theorem ix_tupK {X : Cx} {K : PySem.W.Frag} (h : X.K = K) : IxR X (rIxT K) := h ▸ ix_tup
theorem ix_listK {X : Cx} {K : PySem.W.Frag} (h : X.K = K) : IxR X (rIxL K) := h ▸ ix_list
section
variable {L : Rl} {Γ : List (Option PyData)} {te : TE} {K : PySem.W.Frag} {t : TA}
theorem cut1 (xs : List PyData) (a : PyData) : cutD (xs ++ [a]) none (some (-1)) = xs := by
  rw [show (-1 : Int) = -((1 : Nat) : Int) from rfl, cut_neg (by decide) (by simp)]
  simp
theorem cut2 (xs : List PyData) (a b : PyData) : cutD (xs ++ [a, b]) none (some (-2)) = xs := by
  rw [show (-2 : Int) = -((2 : Nat) : Int) from rfl, cut_neg (by decide) (by simp)]
  simp
theorem eg_init1 {xs : List PyData} {a : PyData} (h : EvD L te Γ (.tuple (xs ++ [a]))) : EvD L (tSl (rSlT K) te tNoPart (tPart (tUn (rU fun i => .int (-i)) (tC (.int 1))))) Γ (.tuple xs) := by
  have h1 := eg_slT (K := K) h eo_none (eo_some (eg_neg (eg_int (i := 1)))) (by
    rintro ⟨_, z⟩
    have z2 : (if (-1 : Int) < 0 then ((-1 : Int) + ((xs ++ [a]).length : Int)).toNat else min (-1 : Int).toNat (xs ++ [a]).length) = (xs ++ [a]).length := z
    rw [if_pos (by omega)] at z2
    simp at z2
    omega)
  rw [cut1] at h1
  exact h1
theorem eg_init2 {xs : List PyData} {a b : PyData} (h : EvD L te Γ (.tuple (xs ++ [a, b]))) : EvD L (tSl (rSlT K) te tNoPart (tPart (tUn (rU fun i => .int (-i)) (tC (.int 2))))) Γ (.tuple xs) := by
  have h1 := eg_slT (K := K) h eo_none (eo_some (eg_neg (eg_int (i := 2)))) (by
    rintro ⟨_, z⟩
    have z2 : (if (-2 : Int) < 0 then ((-2 : Int) + ((xs ++ [a, b]).length : Int)).toNat else min (-2 : Int).toNat (xs ++ [a, b]).length) = (xs ++ [a, b]).length := z
    rw [if_pos (by omega)] at z2
    simp at z2
    omega)
  rw [cut2] at h1
  exact h1
theorem at_last2 (xs : List PyData) (a b : PyData) : atI (xs ++ [a, b]) (-1) = some b := by
  rw [show xs ++ [a, b] = (xs ++ [a]) ++ [b] by simp]
  exact atI_last _ _
theorem at_last3 (xs : List PyData) (a b : PyData) : atI (xs ++ [a, b]) (-2) = some a := by
  have e : ixN (xs ++ [a, b]).length (-2) = some xs.length := by
    unfold ixN
    rw [if_neg (by omega), if_pos (by simp; omega)]
    simp
    omega
  unfold atI
  rw [e]
  simp
/-- a comprehension over things that stand for data -/
theorem eg_lcm {α : Type} {wi : TI} {g : TG} {js vs : List Nat} {xs : List α} {enc res : α → PyData} (hw : WkD L wi Γ (xs.map enc)) (hj : ∀ j ∈ js, j ∈ vs) (hlen : xs.length ≤ 1000)
    (hb : ∀ x ∈ xs, res x ≠ mark ∧ ∃ Γ', TgG L g js (enc x) (wipeD Γ vs) Γ' ∧ EvD L te Γ' (res x)) : EvD L (tLc wi g tYes te vs) Γ (.list (xs.map res)) :=
  eg_lc hw hj (by rw [List.length_map]; exact hlen) (by rw [List.length_map, List.length_map]) fun i d r hd hr => by
    rw [List.getElem?_map] at hd hr
    cases hx : xs[i]? with
    | none => rw [hx] at hd; cases hd
    | some x =>
      rw [hx] at hd hr
      have e1 : enc x = d := Option.some.inj hd
      have e2 : res x = r := Option.some.inj hr
      subst e1 e2
      exact hb x (List.mem_of_getElem? hx)
theorem zipD_map {α β : Type} (e1 : α → PyData) (e2 : β → PyData) : ∀ (xs : List α) (ys : List β), zipD (xs.map e1) (ys.map e2) = (xs.zip ys).map fun p => PyData.tuple [e1 p.1, e2 p.2]
  | [], ys => by cases ys <;> rfl
  | x :: xs, [] => rfl
  | x :: xs, y :: ys => by
    have h := zipD_map e1 e2 xs ys
    unfold zipD at h ⊢
    rw [List.map_cons, List.map_cons, List.zipWith_cons_cons, h, List.zip_cons_cons, List.map_cons]
theorem eg_notN (h : EvD L te Γ .none) : EvD L (tOp (fun x y H Q => y = V.non ∧ Q (.bl (!decide (x = .non))) H) te (tC .non)) Γ (.bool false) := fun A σ H hi he hg Q q => h A σ H hi he hg _ fun x d H1 r1 hx p => by
  subst p
  have hx1 := hx.ne (by intro z; cases z)
  cases hx1
  exact ⟨rfl, q _ _ H1 r1 (.inr (.bl false)) rfl⟩
theorem eg_mulN {C : Int → Int → Prop} {i j : Int} {ta tb : TE} (ha : EvD L ta Γ (.int i)) (hb : EvD L tb Γ (.int j)) (hc : C i j) : EvD L (tOp (rI C fun i j => .int (i * j)) ta tb) Γ (.int (i * j)) := eg_op ha hb (os_I hc)
end
/-- products of bounded numbers -/
theorem mw {i j : Int} {a b : Nat} (ha : i.natAbs < 2 ^ a) (hb : j.natAbs < 2 ^ b) (h0 : 0 < a := by decide) (h1 : 0 < b := by decide) (h : a + b ≤ 1000000 := by decide) : CMulW i j := wide_mul ha hb h0 h1 h
theorem nb {b n : Nat} (h : b < 2 ^ n) : ((b : Int)).natAbs < 2 ^ n := by rw [Int.natAbs_natCast]; exact h
theorem nat_mul_lt {a b n m : Nat} (ha : a < 2 ^ n) (hb : b < 2 ^ m) : a * b < 2 ^ (n + m) := by
  rw [Nat.pow_add]
  exact Nat.mul_lt_mul'' ha hb
/-! ### the inner product -/
def dot (r x : List Rat) : Rat := (List.zipWith (fun a b => a * b) r x).sum
def dotI (l w : Nat) (r x : List Rat) : Int := ((r.zip x).map fun p => tq l p.1 * tq w p.2).sum
theorem dotI_cast {l w : Nat} (hl : 0 < l) (hw : 0 < w) : ∀ (r x : List Rat), (∀ q ∈ r, q.den ∣ l) → (∀ q ∈ x, q.den ∣ w) → ((dotI l w r x : Int) : Rat) = dot r x * ((l : Rat) * (w : Rat))
  | [], x, _, _ => by simp [dotI, dot]
  | a :: r, [], _, _ => by simp [dotI, dot]
  | a :: r, b :: x, h1, h2 => by
    have ih := dotI_cast hl hw r x (fun q hq => h1 q (List.mem_cons_of_mem _ hq)) (fun q hq => h2 q (List.mem_cons_of_mem _ hq))
    have e1 : dotI l w (a :: r) (b :: x) = tq l a * tq w b + dotI l w r x := by simp [dotI]
    have e2 : dot (a :: r) (b :: x) = a * b + dot r x := by simp [dot]
    rw [e1, e2, Rat.intCast_add, Rat.intCast_mul, ih, tq_cast hl (h1 a List.mem_cons_self), tq_cast hw (h2 b List.mem_cons_self)]
    grind
end V1
set_option Elab.async false
set_option linter.all false
set_option maxRecDepth 100000
set_option maxHeartbeats 4000000
namespace V1
open PySem PySem.Spec PyProof.Rows L2
variable {P : Program} {w : World} {K : PySem.W.Frag} {mg : Str → Option Value} {base : Heap}
abbrev s_point_of : Stmt := top 15
abbrev n_point_of : List Str := ["numbers", "bottom", "number"]
theorem sc_point_of : FnScope n_point_of ["numbers"] (defScope s_point_of) := ⟨rfl, rfl, rfl, by decide +kernel, rfl, by decide +kernel, by decide +kernel⟩
def sp_point_of : Sp := spR (fun qs : List Rat => [.tuple (qs.map fq)]) (fun qs => rb 1500 qs ∧ lq qs < 2 ^ 64) fun qs => rowD qs
theorem ok_point_of {f : Addr} {fd : FuncData} (T : Bt K mg) (D : Df K mg "point_of" s_point_of ["numbers"] f fd)
    {f_shared_bottom : Addr} {d_shared_bottom : FuncData} (h_shared_bottom : Cal P w K mg base "shared_bottom" s_shared_bottom ["bottoms"] 1 sp_shared_bottom f_shared_bottom d_shared_bottom) : Cal P w K mg base "point_of" s_point_of ["numbers"] 2 sp_point_of f fd := by
  refine ok_R D sc_point_of (fun _ => rfl) fun cdv A outer s H E hgd hr => ⟨_, (pss_cons (ps_set (i := 1) sc_point_of.nd rfl (Or.inr rfl) (pe_fn (E := E0) h_shared_bottom.G hgd (hr.mono (by decide)) (by rfl) h_shared_bottom.gm h_shared_bottom.kp h_shared_bottom.b (pa_cons (pe_lc (own := [("number", 2)]) (g := gName 2) (tt := tYes) rfl sc_point_of.nd (pi_tup (pv 0)) (blkOk_by (own := [("number", 2)]) (N := n_point_of) (sc := defScope s_point_of) (by decide +kernel)) (fun _ _ _ _ _ => (pg_name (i := 2) sc_point_of.nd rfl (Or.inl rfl))) (fun _ _ _ _ _ => pts_nil) (fun _ _ _ _ _ => (pe_ix (ix_tupK (K := K) rfl) (pv 2) pe_int (fun _ _ => rfl)))) pa_nil)))
        (pss_one (ps_ret (pe_callTy call_tuple_of (by rfl) T.tuple (by decide +kernel) (pa_cons (pe_op op_cat (pe_lc (own := [("number", 2)]) (g := gName 2) (tt := tYes) rfl sc_point_of.nd (pi_tup (pv 0)) (blkOk_by (own := [("number", 2)]) (N := n_point_of) (sc := defScope s_point_of) (by decide +kernel)) (fun _ _ _ _ _ => (pg_name (i := 2) sc_point_of.nd rfl (Or.inl rfl))) (fun _ _ _ _ _ => pts_nil) (fun _ _ _ _ _ => (pe_op op_mulW (pe_ix (ix_tupK (K := K) rfl) (pv 2) pe_int (fun _ _ => rfl)) (pe_op op_fdivW (pv 1) (pe_ix (ix_tupK (K := K) rfl) (pv 2) pe_int (fun _ _ => rfl)))))) (pe_lst (pa_cons (pv 1) pa_nil))) pa_nil))))), ?_⟩
  rintro qs ⟨h0, h1⟩
  show SG pureL 0 _ [some (.tuple (qs.map fq)), none, none] _ _
  have hbs : EvD pureL (tLc (iTup K (tVar 0)) (gName 2) tYes (tOp (rIxT K) (tVar 2) (tC (.int 1))) [2]) [some (.tuple (qs.map fq)), none, none] (.list (qs.map fun q => .int (q.den : Int))) :=
    eg_lcm (js := [2]) (wk_tup (eg_var rfl)) (by simp) (by have := h0.1; omega) fun q hq => ⟨(fun z => by cases z), _, tg_name, eg_ixT (ds := [.int q.num, .int (q.den : Int)]) (eg_var rfl) eg_int rfl⟩
  have e1 : (PyData.list (qs.map fun q => .int (q.den : Int))) = .list ((qs.map fun q => q.den).map fun (b : Nat) => PyData.int (b : Int)) := by rw [List.map_map]; rfl
  rw [e1] at hbs
  refine sq_asg (eg_callR (qs.map fun (q : Rat) => q.den) (ea_cons hbs ea_nil) ⟨fun b hb => ?_, h1⟩) ?_
  · obtain ⟨q, _, rfl⟩ := List.mem_map.mp hb
    exact q.den_pos
  have hl := lq_pos qs
  have e2 : rowD qs = .tuple (qs.map (iv (lq qs)) ++ [.int (lq qs : Int)]) := rowD_one qs
  rw [e2]
  refine sg_ret (eg_cb (ea_cons (eg_cat (eg_lcm (js := [2]) (wk_tup (eg_var rfl)) (by simp) (by have := h0.1; omega) fun q hq => ?_) (eg_lst (ea_cons (eg_var rfl) ea_nil)) (by have := h0.1; simp; omega)) ea_nil) cs_tuple) rfl
  have hd : q.den ≤ lq qs := Nat.le_of_dvd hl (lq_dvd hq)
  have hnum : q.num.natAbs < 2 ^ 1500 := by
    have h2 := rb_tq h0 hq
    have h3 := Int.natAbs_mul q.num ((lq qs / q.den : Nat) : Int)
    have h4 : 0 < lq qs / q.den := Nat.div_pos hd q.den_pos
    unfold tq at h2
    rw [h3, Int.natAbs_natCast] at h2
    exact Nat.lt_of_le_of_lt (Nat.le_mul_of_pos_right _ h4) h2
  have hdd : q.den < 2 ^ 64 := Nat.lt_of_le_of_lt hd h1
  refine ⟨(fun z => by cases z), _, tg_name, (eg_mul (eg_ixT (ds := [.int q.num, .int (q.den : Int)]) (eg_var rfl) eg_int rfl) (eg_div (i := (lq qs : Int)) (j := (q.den : Int)) (eg_var rfl) (eg_ixT (ds := [.int q.num, .int (q.den : Int)]) (eg_var rfl) eg_int rfl)
    (wide_div (b := 64) (by have := q.den_pos; omega) (nb hdd) (by decide) (by decide))) (mw (a := 1500) (b := 64) hnum ?_)).to rfl⟩
  have e3 : ((lq qs : Int) / (q.den : Int)) = ((lq qs / q.den : Nat) : Int) := rfl
  rw [e3, Int.natAbs_natCast]
  exact Nat.lt_of_le_of_lt (Nat.div_le_self _ _) h1

abbrev s_numbers_of : Stmt := top 16
abbrev n_numbers_of : List Str := ["point", "top"]
theorem sc_numbers_of : FnScope n_numbers_of ["point"] (defScope s_numbers_of) := ⟨rfl, rfl, rfl, by decide +kernel, rfl, by decide +kernel, by decide +kernel⟩
def sp_numbers_of : Sp := spR (fun qs : List Rat => [rowD qs]) (fun qs => rb 1500 qs) fun qs => .tuple (qs.map fq)
theorem ok_numbers_of {f : Addr} {fd : FuncData} (T : Bt K mg) (D : Df K mg "numbers_of" s_numbers_of ["point"] f fd)
    {f_lowest : Addr} {d_lowest : FuncData} (h_lowest : Cal P w K mg base "lowest" s_lowest ["top", "bottom"] 1 sp_lowest f_lowest d_lowest) : Cal P w K mg base "numbers_of" s_numbers_of ["point"] 2 sp_numbers_of f fd := by
  refine ok_R D sc_numbers_of (fun _ => rfl) fun cdv A outer s H E hgd hr => ⟨_, (pss_one (ps_ret (pe_callTy call_tuple_of (by rfl) T.tuple (by decide +kernel) (pa_cons (pe_lc (own := [("top", 1)]) (g := gName 1) (tt := tYes) rfl sc_numbers_of.nd (pi_tup (pe_slice sl_tup (pv 0) po_none (po_some (pe_un un_neg pe_int)))) (blkOk_by (own := [("top", 1)]) (N := n_numbers_of) (sc := defScope s_numbers_of) (by decide +kernel)) (fun _ _ _ _ _ => (pg_name (i := 1) sc_numbers_of.nd rfl (Or.inl rfl))) (fun _ _ _ _ _ => pts_nil) (fun _ _ _ _ _ => (pe_fn (E := E0) h_lowest.G hgd (hr.mono (by decide)) (by rfl) h_lowest.gm h_lowest.kp h_lowest.b (pa_cons (pv 1) (pa_cons (pe_ix (ix_tupK (K := K) rfl) (pv 0) (pe_un un_neg pe_int) (fun _ _ => rfl)) pa_nil))))) pa_nil)))), ?_⟩
  rintro qs h0
  have h0' : rb 1500 qs := h0
  show SG pureL 0 _ [some (rowD qs), none] _ _
  rw [rowD_one]
  have hl := lq_pos qs
  refine sg_ret (eg_cb (ea_cons (eg_lcm (xs := qs) (enc := iv (lq qs)) (res := fq) (js := [1]) (wk_tup (eg_init1 (eg_var rfl))) (by simp) (by have := h0'.1; omega) fun q hq => ?_) ea_nil) cs_tuple) rfl
  have hr := eg_callR (L := pureL) (Γ := [some (.tuple (qs.map (iv (lq qs)) ++ [.int (lq qs : Int)])), some (iv (lq qs) q)]) (E := E0) (args := fun p : Int × Nat => [.int p.1, .int (p.2 : Int)]) (ok := fun p => 0 < p.2 ∧ p.2 < 2 ^ 8000) (val := fun p => fq (rat p.1 p.2)) (tq (lq qs) q, lq qs)
    (ea_cons (eg_var (i := 1) rfl) (ea_cons (eg_ixT (K := K) (eg_var (i := 0) rfl) (eg_neg (eg_int (i := 1))) (atI_last _ _)) ea_nil)) ⟨hl, Nat.lt_of_lt_of_le (rb_lq h0') (Nat.pow_le_pow_right (by decide) (by decide))⟩
  exact ⟨(fun z => by cases z), _, tg_name, hr.to (by show fq (rat (tq (lq qs) q) (lq qs)) = fq q; rw [tq_rat hl (lq_dvd hq)])⟩

abbrev s_check_row : Stmt := top 18
abbrev n_check_row : List Str := ["size", "value", "place"]
theorem sc_check_row : FnScope n_check_row ["size", "value"] (defScope s_check_row) := ⟨rfl, rfl, rfl, by decide +kernel, rfl, by decide +kernel, by decide +kernel⟩
def sp_check_row : Sp := spR (fun qs : List Rat => [.int ((qs.length : Int) - 1), rowD qs]) (fun _ => True) fun qs => rowD qs
theorem ok_check_row {f : Addr} {fd : FuncData} (T : Bt K mg) (D : Df K mg "check_row" s_check_row ["size", "value"] f fd)
    {f_fault_in_integers : Addr} {d_fault_in_integers : FuncData} (h_fault_in_integers : Cal P w K mg base "fault_in_integers" s_fault_in_integers ["count", "value"] 2 sp_fault_in_integers f_fault_in_integers d_fault_in_integers) : Cal P w K mg base "check_row" s_check_row ["size", "value"] 3 sp_check_row f fd := by
  refine ok_R D sc_check_row (fun _ => rfl) fun cdv A outer s H E hgd hr => ⟨_, (pss_cons (ps_set (i := 2) sc_check_row.nd rfl (Or.inl rfl) (pe_fn (E := E0) h_fault_in_integers.G hgd (hr.mono (by decide)) (by rfl) h_fault_in_integers.gm h_fault_in_integers.kp h_fault_in_integers.b (pa_cons (pe_op op_add (pv 0) pe_int) (pa_cons (pv 1) pa_nil))))
        (pss_cons (ps_if (pt_cmpR op_notN (pv 2) pe_non (nomark _)) (pss_one ps_never) pss_nil)
        (pss_one (ps_ret (pv 1))))), ?_⟩
  rintro qs _
  show SG pureL 0 _ [some (.int ((qs.length : Int) - 1)), some (rowD qs), none] _ _
  have e0 : (qs.length : Int) - 1 + 2 = (((topQ qs).length + 1 : Nat) : Int) := by rw [topQ_len]; omega
  refine sq_asg (eg_callR (topQ qs, lq qs) (ea_cons ((eg_add (eg_var rfl) (eg_int (i := 2))).to (by rw [e0])) (ea_cons (eg_var rfl) ea_nil)) ⟨lq_pos qs, gcdl_rowQ qs⟩) ?_
  exact sq_if_no (et_test (eg_notN (eg_var rfl))) (sg_ret (eg_var rfl) rfl)

abbrev s_row_of : Stmt := top 19
abbrev n_row_of : List Str := ["numbers"]
theorem sc_row_of : FnScope n_row_of ["numbers"] (defScope s_row_of) := ⟨rfl, rfl, rfl, by decide +kernel, rfl, by decide +kernel, by decide +kernel⟩
def sp_row_of : Sp := sp_point_of
theorem ok_row_of {f : Addr} {fd : FuncData} (T : Bt K mg) (D : Df K mg "row_of" s_row_of ["numbers"] f fd)
    {f_point_of : Addr} {d_point_of : FuncData} (h_point_of : Cal P w K mg base "point_of" s_point_of ["numbers"] 2 sp_point_of f_point_of d_point_of) : Cal P w K mg base "row_of" s_row_of ["numbers"] 3 sp_row_of f fd := by
  refine ok_R D sc_row_of (fun _ => rfl) fun cdv A outer s H E hgd hr => ⟨_, (pss_one (ps_ret (pe_fn (E := E0) h_point_of.G hgd (hr.mono (by decide)) (by rfl) h_point_of.gm h_point_of.kp h_point_of.b (pa_cons (pv 0) pa_nil)))), ?_⟩
  rintro qs h
  exact sg_ret (eg_callR qs (ea_cons (eg_var rfl) ea_nil) h) rfl

abbrev s_coefficients_of : Stmt := top 20
abbrev n_coefficients_of : List Str := ["row"]
theorem sc_coefficients_of : FnScope n_coefficients_of ["row"] (defScope s_coefficients_of) := ⟨rfl, rfl, rfl, by decide +kernel, rfl, by decide +kernel, by decide +kernel⟩
def sp_coefficients_of : Sp := sp_numbers_of
theorem ok_coefficients_of {f : Addr} {fd : FuncData} (T : Bt K mg) (D : Df K mg "coefficients_of" s_coefficients_of ["row"] f fd)
    {f_numbers_of : Addr} {d_numbers_of : FuncData} (h_numbers_of : Cal P w K mg base "numbers_of" s_numbers_of ["point"] 2 sp_numbers_of f_numbers_of d_numbers_of) : Cal P w K mg base "coefficients_of" s_coefficients_of ["row"] 3 sp_coefficients_of f fd := by
  refine ok_R D sc_coefficients_of (fun _ => rfl) fun cdv A outer s H E hgd hr => ⟨_, (pss_one (ps_ret (pe_fn (E := E0) h_numbers_of.G hgd (hr.mono (by decide)) (by rfl) h_numbers_of.gm h_numbers_of.kp h_numbers_of.b (pa_cons (pv 0) pa_nil)))), ?_⟩
  rintro qs h
  exact sg_ret (eg_callR qs (ea_cons (eg_var rfl) ea_nil) h) rfl

abbrev s_top_at : Stmt := top 21
abbrev n_top_at : List Str := ["row", "point", "weight", "top"]
theorem sc_top_at : FnScope n_top_at ["row", "point"] (defScope s_top_at) := ⟨rfl, rfl, rfl, by decide +kernel, rfl, by decide +kernel, by decide +kernel⟩
/-- the integer value of a row at a point, over both bottoms -/
def valI (r : List Rat) (c : Rat) (x : List Rat) : Int := tq (lq (r ++ [c])) c * (lq x : Int) + dotI (lq (r ++ [c])) (lq x) r x
structure RX where
  r : List Rat
  c : Rat
  x : List Rat
def okRX (a : RX) : Prop := rb 1500 (a.r ++ [a.c]) ∧ rb 1500 a.x ∧ a.r.length = a.x.length
def sp_top_at : Sp := spR (fun a : RX => [rowD (a.r ++ [a.c]), rowD a.x]) okRX fun a => .int (valI a.r a.c a.x)
theorem ok_top_at {f : Addr} {fd : FuncData} (T : Bt K mg) (D : Df K mg "top_at" s_top_at ["row", "point"] f fd) : Cal P w K mg base "top_at" s_top_at ["row", "point"] 1 sp_top_at f fd := by
  refine ok_R D sc_top_at (fun _ => rfl) fun cdv A outer s H E hgd hr => ⟨_, (pss_one (ps_ret (pe_op op_add (pe_op op_mulW (pe_ix (ix_tupK (K := K) rfl) (pv 0) (pe_un un_neg pe_int) (fun _ _ => rfl)) (pe_ix (ix_tupK (K := K) rfl) (pv 1) (pe_un un_neg pe_int) (fun _ _ => rfl))) (pe_callB (cr_sum rfl) (by rfl) T.sum (by decide +kernel) (pa_cons (pe_lc (own := [("weight", 2), ("top", 3)]) (g := gTup K 2 (gCons (gName 2) (gCons (gName 3) gNil))) (tt := tYes) rfl sc_top_at.nd (pi_zipP false false (by rfl) T.zip (pa_cons (pe_slice sl_tup (pv 0) po_none (po_some (pe_un un_neg pe_int))) (pa_cons (pe_slice sl_tup (pv 1) po_none (po_some (pe_un un_neg pe_int))) pa_nil))) (blkOk_by (own := [("weight", 2), ("top", 3)]) (N := n_top_at) (sc := defScope s_top_at) (by decide +kernel)) (fun _ _ _ _ _ => (pg_tup rfl (pgs_cons (pg_name (i := 2) sc_top_at.nd rfl (Or.inl rfl)) (pgs_cons (pg_name (i := 3) sc_top_at.nd rfl (Or.inl rfl)) pgs_nil)))) (fun _ _ _ _ _ => pts_nil) (fun _ _ _ _ _ => (pe_op op_mulW (pv 2) (pv 3)))) pa_nil))))), ?_⟩
  rintro ⟨r, c, x⟩ ⟨h0, h1, h2⟩
  have h0' : rb 1500 (r ++ [c]) := h0
  have h1' : rb 1500 x := h1
  show SG pureL 0 _ [some (rowD (r ++ [c])), some (rowD x), none, none] _ _
  rw [rowD_two, rowD_one]
  refine sg_ret (eg_add (eg_mul (eg_ixT (eg_var rfl) (eg_neg eg_int) (at_last3 _ _ _)) (eg_ixT (eg_var rfl) (eg_neg eg_int) (atI_last _ _)) (mw (a := 1500) (b := 1500) (rb_tq h0' (by simp)) (nb (rb_lq h1')))) (eg_cb (ea_cons ?_ ea_nil) (cs_sum (ns := (r.zip x).map fun p => tq (lq (r ++ [c])) p.1 * tq (lq x) p.2)))) rfl
  rw [List.map_map]
  have hz := wk_zip (L := pureL) (K := K) (k1 := false) (k2 := false) (Γ := [some (.tuple (r.map (iv (lq (r ++ [c]))) ++ [iv (lq (r ++ [c])) c, .int (lq (r ++ [c]) : Int)])), some (.tuple (x.map (iv (lq x)) ++ [.int (lq x : Int)])), none, none]) (ea_cons (eg_init2 (K := K) (eg_var (i := 0) rfl)) (ea_cons (eg_init1 (K := K) (eg_var (i := 1) rfl)) ea_nil))
  rw [zipD_map] at hz
  refine eg_lcm (js := [2, 3]) hz (by simp) (by have := h1'.1; rw [List.length_zip]; omega) fun p hp => ⟨(fun z => by cases z), _, tg_two, eg_mul (eg_var rfl) (eg_var rfl) (mw (a := 1500) (b := 1500) (rb_tq h0' ?_) (rb_tq h1' (List.of_mem_zip hp).2))⟩
  exact List.mem_append_left _ (List.of_mem_zip hp).1

abbrev s_row_value : Stmt := top 22
abbrev n_row_value : List Str := ["row", "point"]
theorem sc_row_value : FnScope n_row_value ["row", "point"] (defScope s_row_value) := ⟨rfl, rfl, rfl, by decide +kernel, rfl, by decide +kernel, by decide +kernel⟩
theorem rat_val {a : RX} : rat (valI a.r a.c a.x) (lq (a.r ++ [a.c]) * lq a.x) = dot a.r a.x + a.c := by
  have hl := lq_pos (a.r ++ [a.c])
  have hw := lq_pos a.x
  refine rat_of (Nat.mul_pos hl hw) ?_
  unfold valI
  rw [Rat.intCast_add, Rat.intCast_mul, tq_cast hl (lq_dvd (by simp)), dotI_cast hl hw _ _ (fun q hq => lq_dvd (List.mem_append_left _ hq)) (fun q hq => lq_dvd hq), Rat.intCast_natCast, Rat.natCast_mul]
  grind
def sp_row_value : Sp := spR (fun a : RX => [rowD (a.r ++ [a.c]), rowD a.x]) okRX fun a => fq (dot a.r a.x + a.c)
theorem ok_row_value {f : Addr} {fd : FuncData} (T : Bt K mg) (D : Df K mg "row_value" s_row_value ["row", "point"] f fd)
    {f_lowest : Addr} {d_lowest : FuncData} (h_lowest : Cal P w K mg base "lowest" s_lowest ["top", "bottom"] 1 sp_lowest f_lowest d_lowest)
    {f_top_at : Addr} {d_top_at : FuncData} (h_top_at : Cal P w K mg base "top_at" s_top_at ["row", "point"] 1 sp_top_at f_top_at d_top_at) : Cal P w K mg base "row_value" s_row_value ["row", "point"] 2 sp_row_value f fd := by
  refine ok_R D sc_row_value (fun _ => rfl) fun cdv A outer s H E hgd hr => ⟨_, (pss_one (ps_ret (pe_fn (E := E0) h_lowest.G hgd (hr.mono (by decide)) (by rfl) h_lowest.gm h_lowest.kp h_lowest.b (pa_cons (pe_fn (E := E0) h_top_at.G hgd (hr.mono (by decide)) (by rfl) h_top_at.gm h_top_at.kp h_top_at.b (pa_cons (pv 0) (pa_cons (pv 1) pa_nil))) (pa_cons (pe_op op_mulW (pe_ix (ix_tupK (K := K) rfl) (pv 0) (pe_un un_neg pe_int) (fun _ _ => rfl)) (pe_ix (ix_tupK (K := K) rfl) (pv 1) (pe_un un_neg pe_int) (fun _ _ => rfl))) pa_nil))))), ?_⟩
  rintro a h
  have h0' : rb 1500 (a.r ++ [a.c]) := h.1
  have h1' : rb 1500 a.x := h.2.1
  show SG pureL 0 _ [some (rowD (a.r ++ [a.c])), some (rowD a.x)] _ _
  have hl := lq_pos (a.r ++ [a.c])
  have hw := lq_pos a.x
  have hlt : lq (a.r ++ [a.c]) * lq a.x < 2 ^ 8000 := Nat.lt_of_lt_of_le (nat_mul_lt (rb_lq h0') (rb_lq h1')) (Nat.pow_le_pow_right (by decide) (by decide))
  refine sg_ret ((eg_callR (valI a.r a.c a.x, lq (a.r ++ [a.c]) * lq a.x) (ea_cons (eg_callR a (ea_cons (eg_var rfl) (ea_cons (eg_var rfl) ea_nil)) h) (ea_cons ?_ ea_nil)) ⟨Nat.mul_pos hl hw, hlt⟩).to (by show fq (rat _ _) = _; rw [rat_val])) rfl
  rw [rowD_two, rowD_one]
  exact (eg_mul (eg_ixT (eg_var rfl) (eg_neg eg_int) (at_last2 _ _ _)) (eg_ixT (eg_var rfl) (eg_neg eg_int) (atI_last _ _)) (mw (a := 1500) (b := 1500) (nb (rb_lq h0')) (nb (rb_lq h1')))).to (by rw [Int.natCast_mul])

abbrev s_row_sign : Stmt := top 23
abbrev n_row_sign : List Str := ["row", "point"]
theorem sc_row_sign : FnScope n_row_sign ["row", "point"] (defScope s_row_sign) := ⟨rfl, rfl, rfl, by decide +kernel, rfl, by decide +kernel, by decide +kernel⟩
def sp_row_sign : Sp := spR (fun a : RX => [rowD (a.r ++ [a.c]), rowD a.x]) okRX fun a => .int (valI a.r a.c a.x).sign
theorem ok_row_sign {f : Addr} {fd : FuncData} (T : Bt K mg) (D : Df K mg "row_sign" s_row_sign ["row", "point"] f fd)
    {f_sign_of : Addr} {d_sign_of : FuncData} (h_sign_of : Cal P w K mg base "sign_of" s_sign_of ["number"] 1 sp_sign_of f_sign_of d_sign_of)
    {f_top_at : Addr} {d_top_at : FuncData} (h_top_at : Cal P w K mg base "top_at" s_top_at ["row", "point"] 1 sp_top_at f_top_at d_top_at) : Cal P w K mg base "row_sign" s_row_sign ["row", "point"] 2 sp_row_sign f fd := by
  refine ok_R D sc_row_sign (fun _ => rfl) fun cdv A outer s H E hgd hr => ⟨_, (pss_one (ps_ret (pe_fn (E := E0) h_sign_of.G hgd (hr.mono (by decide)) (by rfl) h_sign_of.gm h_sign_of.kp h_sign_of.b (pa_cons (pe_fn (E := E0) h_top_at.G hgd (hr.mono (by decide)) (by rfl) h_top_at.gm h_top_at.kp h_top_at.b (pa_cons (pv 0) (pa_cons (pv 1) pa_nil))) pa_nil)))), ?_⟩
  rintro a h
  show SG pureL 0 _ [some (rowD (a.r ++ [a.c])), some (rowD a.x)] _ _
  exact sg_ret (eg_callR (valI a.r a.c a.x) (ea_cons (eg_callR a (ea_cons (eg_var rfl) (ea_cons (eg_var rfl) ea_nil)) h) ea_nil) trivial) rfl

abbrev s_row_added : Stmt := top 24
abbrev n_row_added : List Str := ["one", "other", "tops", "top", "added_top"]
theorem sc_row_added : FnScope n_row_added ["one", "other"] (defScope s_row_added) := ⟨rfl, rfl, rfl, by decide +kernel, rfl, by decide +kernel, by decide +kernel⟩
structure RR where
  r : List Rat
  s : List Rat
def okRR (a : RR) : Prop := rb 1500 a.r ∧ rb 1500 a.s ∧ a.r.length = a.s.length
def addI (r s : List Rat) : List Int := (r.zip s).map fun p => tq (lq r) p.1 * (lq s : Int) + tq (lq s) p.2 * (lq r : Int)
theorem over_addI (r s : List Rat) : over (addI r s) (lq r * lq s) = (r.zip s).map fun p => p.1 + p.2 := by
  unfold over addI
  rw [List.map_map]
  refine List.map_congr_left fun p hp => rat_of (Nat.mul_pos (lq_pos r) (lq_pos s)) ?_
  have h1 := lq_dvd (List.of_mem_zip hp).1
  have h2 := lq_dvd (List.of_mem_zip hp).2
  rw [Rat.intCast_add, Rat.intCast_mul, Rat.intCast_mul, tq_cast (lq_pos r) h1, tq_cast (lq_pos s) h2, Rat.intCast_natCast, Rat.intCast_natCast, Rat.natCast_mul]
  grind
def addQ (r s : List Rat) : List Rat := (r.zip s).map fun p => p.1 + p.2
def sp_row_added : Sp := spR (fun a : RR => [rowD a.r, rowD a.s]) okRR fun a => rowD (addQ a.r a.s)
theorem ok_row_added {f : Addr} {fd : FuncData} (T : Bt K mg) (D : Df K mg "row_added" s_row_added ["one", "other"] f fd)
    {f_without_divisor : Addr} {d_without_divisor : FuncData} (h_without_divisor : Cal P w K mg base "without_divisor" s_without_divisor ["integers"] 2 sp_without_divisor f_without_divisor d_without_divisor) : Cal P w K mg base "row_added" s_row_added ["one", "other"] 3 sp_row_added f fd := by
  refine ok_R D sc_row_added (fun _ => rfl) fun cdv A outer s H E hgd hr => ⟨_, (pss_cons (ps_setLc (i := 2) (own := [("top", 3), ("added_top", 4)]) (g := gTup K 2 (gCons (gName 3) (gCons (gName 4) gNil))) (tt := tYes) rfl sc_row_added.nd rfl rfl (sw_true rfl rfl rfl (by decide +kernel)) (pi_zipP false false (by rfl) T.zip (pa_cons (pe_slice sl_tup (pv 0) po_none (po_some (pe_un un_neg pe_int))) (pa_cons (pe_slice sl_tup (pv 1) po_none (po_some (pe_un un_neg pe_int))) pa_nil))) (blkOk_by (own := [("top", 3), ("added_top", 4)]) (N := n_row_added) (sc := defScope s_row_added) (by decide +kernel)) (fun _ _ _ _ _ => (pg_tup rfl (pgs_cons (pg_name (i := 3) sc_row_added.nd rfl (Or.inl rfl)) (pgs_cons (pg_name (i := 4) sc_row_added.nd rfl (Or.inl rfl)) pgs_nil)))) (fun _ _ _ _ _ => pts_nil) (fun _ _ _ _ _ => (pe_op op_add (pe_op op_mulW (pv 3) (pe_ix (ix_tupK (K := K) rfl) (pv 1) (pe_un un_neg pe_int) (fun _ _ => rfl))) (pe_op op_mulW (pv 4) (pe_ix (ix_tupK (K := K) rfl) (pv 0) (pe_un un_neg pe_int) (fun _ _ => rfl))))))
        (pss_one (ps_ret (pe_fn (E := E0) h_without_divisor.G hgd (hr.mono (by decide)) (by rfl) h_without_divisor.gm h_without_divisor.kp h_without_divisor.b (pa_cons (pe_op op_cat (pv 2) (pe_lst (pa_cons (pe_op op_mulW (pe_ix (ix_tupK (K := K) rfl) (pv 0) (pe_un un_neg pe_int) (fun _ _ => rfl)) (pe_ix (ix_tupK (K := K) rfl) (pv 1) (pe_un un_neg pe_int) (fun _ _ => rfl))) pa_nil))) pa_nil))))), ?_⟩
  rintro ⟨r, s⟩ ⟨h0, h1, h2⟩
  have h0' : rb 1500 r := h0
  have h1' : rb 1500 s := h1
  show SG pureL 0 _ [some (rowD r), some (rowD s), none, none, none] _ _
  have hr := lq_pos r
  have hs := lq_pos s
  have hz := wk_zip (L := pureL) (K := K) (k1 := false) (k2 := false) (Γ := [some (.tuple (r.map (iv (lq r)) ++ [.int (lq r : Int)])), some (.tuple (s.map (iv (lq s)) ++ [.int (lq s : Int)])), none, none, none]) (ea_cons (eg_init1 (K := K) (eg_var (i := 0) rfl)) (ea_cons (eg_init1 (K := K) (eg_var (i := 1) rfl)) ea_nil))
  rw [zipD_map, ← rowD_one, ← rowD_one] at hz
  have hlen : (r.zip s).length ≤ 50 := by have := h1'.1; rw [List.length_zip]; omega
  have hv : rowD (addQ r s) = rowD (over (addI r s) (lq r * lq s)) := by rw [over_addI]; rfl
  rw [hv]
  refine sq_asg (eg_lcm (js := [3, 4]) (res := fun p => .int (tq (lq r) p.1 * (lq s : Int) + tq (lq s) p.2 * (lq r : Int))) hz (by simp) (by omega) fun p hp => ⟨(fun z => by cases z), _, tg_two, ?_⟩) ?_
  · rw [rowD_one, rowD_one]
    exact eg_add (eg_mul (eg_var rfl) (eg_ixT (eg_var rfl) (eg_neg eg_int) (atI_last _ _)) (mw (a := 1500) (b := 1500) (rb_tq h0' (List.of_mem_zip hp).1) (nb (rb_lq h1')))) (eg_mul (eg_var rfl) (eg_ixT (eg_var rfl) (eg_neg eg_int) (atI_last _ _)) (mw (a := 1500) (b := 1500) (rb_tq h1' (List.of_mem_zip hp).2) (nb (rb_lq h0'))))
  have hlt : lq r * lq s < 2 ^ 8000 := Nat.lt_of_lt_of_le (nat_mul_lt (rb_lq h0') (rb_lq h1')) (Nat.pow_le_pow_right (by decide) (by decide))
  refine sg_ret (eg_callR (addI r s, lq r * lq s) (ea_cons ?_ ea_nil) ⟨Nat.mul_pos hr hs, hlt, by unfold addI; rw [List.length_map]; omega⟩) rfl
  show EvD pureL _ [some (rowD r), some (rowD s), some (.list ((r.zip s).map _)), none, none] _
  rw [rowD_one, rowD_one]
  refine (eg_cat (eg_var rfl) (eg_lst (ea_cons (eg_mul (eg_ixT (eg_var rfl) (eg_neg eg_int) (atI_last _ _)) (eg_ixT (eg_var rfl) (eg_neg eg_int) (atI_last _ _)) (mw (a := 1500) (b := 1500) (nb (rb_lq h0')) (nb (rb_lq h1')))) ea_nil)) (by rw [List.length_map]; show _ + 1 ≤ _; omega)).to ?_
  unfold lI addI
  rw [List.map_append, List.map_map, Int.natCast_mul]
  rfl

abbrev s_row_times : Stmt := top 26
abbrev n_row_times : List Str := ["row", "value", "top"]
theorem sc_row_times : FnScope n_row_times ["row", "value"] (defScope s_row_times) := ⟨rfl, rfl, rfl, by decide +kernel, rfl, by decide +kernel, by decide +kernel⟩
structure RQ where
  r : List Rat
  q : Rat
def okRQ (a : RQ) : Prop := rb 1500 a.r ∧ a.q.num.natAbs < 2 ^ 1500 ∧ a.q.den < 2 ^ 1500
def mulI (r : List Rat) (q : Rat) : List Int := r.map fun x => tq (lq r) x * q.num
theorem over_mulI (r : List Rat) (q : Rat) : over (mulI r q) (lq r * q.den) = r.map fun x => x * q := by
  unfold over mulI
  rw [List.map_map]
  refine List.map_congr_left fun x hx => rat_of (Nat.mul_pos (lq_pos r) q.den_pos) ?_
  have e : ((q.num : Int) : Rat) = q * (q.den : Rat) := by
    have h := rat_cast (a := q.num) q.den_pos
    rw [show rat q.num q.den = q from Rat.mkRat_self q] at h
    exact h
  rw [Rat.intCast_mul, tq_cast (lq_pos r) (lq_dvd hx), e, Rat.natCast_mul]
  grind
def sp_row_times : Sp := spR (fun a : RQ => [rowD a.r, fq a.q]) okRQ fun a => rowD (a.r.map fun x => x * a.q)
theorem ok_row_times {f : Addr} {fd : FuncData} (T : Bt K mg) (D : Df K mg "row_times" s_row_times ["row", "value"] f fd)
    {f_without_divisor : Addr} {d_without_divisor : FuncData} (h_without_divisor : Cal P w K mg base "without_divisor" s_without_divisor ["integers"] 2 sp_without_divisor f_without_divisor d_without_divisor) : Cal P w K mg base "row_times" s_row_times ["row", "value"] 3 sp_row_times f fd := by
  refine ok_R D sc_row_times (fun _ => rfl) fun cdv A outer s H E hgd hr => ⟨_, (pss_one (ps_ret (pe_fn (E := E0) h_without_divisor.G hgd (hr.mono (by decide)) (by rfl) h_without_divisor.gm h_without_divisor.kp h_without_divisor.b (pa_cons (pe_op op_cat (pe_lc (own := [("top", 2)]) (g := gName 2) (tt := tYes) rfl sc_row_times.nd (pi_tup (pe_slice sl_tup (pv 0) po_none (po_some (pe_un un_neg pe_int)))) (blkOk_by (own := [("top", 2)]) (N := n_row_times) (sc := defScope s_row_times) (by decide +kernel)) (fun _ _ _ _ _ => (pg_name (i := 2) sc_row_times.nd rfl (Or.inl rfl))) (fun _ _ _ _ _ => pts_nil) (fun _ _ _ _ _ => (pe_op op_mulW (pv 2) (pe_ix (ix_tupK (K := K) rfl) (pv 1) pe_int (fun _ _ => rfl))))) (pe_lst (pa_cons (pe_op op_mulW (pe_ix (ix_tupK (K := K) rfl) (pv 0) (pe_un un_neg pe_int) (fun _ _ => rfl)) (pe_ix (ix_tupK (K := K) rfl) (pv 1) pe_int (fun _ _ => rfl))) pa_nil))) pa_nil)))), ?_⟩
  rintro ⟨r, q⟩ ⟨h0, h1, h2⟩
  have h0' : rb 1500 r := h0
  have h1' : q.num.natAbs < 2 ^ 1500 := h1
  have h2' : q.den < 2 ^ 1500 := h2
  show SG pureL 0 _ [some (rowD r), some (.tuple [.int q.num, .int (q.den : Int)]), none] _ (fun d => d = rowD (r.map fun x => x * q))
  have hr := lq_pos r
  have hv : rowD (r.map fun x => x * q) = rowD (over (mulI r q) (lq r * q.den)) := by rw [over_mulI]
  rw [hv, rowD_one r]
  have hlt : lq r * q.den < 2 ^ 8000 := Nat.lt_of_lt_of_le (nat_mul_lt (rb_lq h0') h2') (Nat.pow_le_pow_right (by decide) (by decide))
  refine sg_ret (eg_callR (mulI r q, lq r * q.den) (ea_cons ?_ ea_nil) ⟨Nat.mul_pos hr q.den_pos, hlt, by unfold mulI; rw [List.length_map]; have := h0'.1; omega⟩) rfl
  refine (eg_cat (eg_lcm (xs := r) (enc := iv (lq r)) (res := fun x => .int (tq (lq r) x * q.num)) (js := [2]) (wk_tup (eg_init1 (eg_var rfl))) (by simp) (by have := h0'.1; omega) fun x hx => ⟨(fun z => by cases z), _, tg_name, eg_mul (eg_var rfl) (eg_ixT (eg_var rfl) eg_int rfl) (mw (a := 1500) (b := 1500) (rb_tq h0' hx) h1')⟩)
    (eg_lst (ea_cons (eg_mul (eg_ixT (eg_var rfl) (eg_neg eg_int) (atI_last _ _)) (eg_ixT (eg_var rfl) eg_int rfl) (mw (a := 1500) (b := 1500) (nb (rb_lq h0')) (nb h2'))) ea_nil)) (by have := h0'.1; simp; omega)).to ?_
  unfold lI mulI
  rw [List.map_append, List.map_map, Int.natCast_mul]
  rfl

abbrev s_row_minus : Stmt := top 25
abbrev n_row_minus : List Str := ["one", "other"]
theorem sc_row_minus : FnScope n_row_minus ["one", "other"] (defScope s_row_minus) := ⟨rfl, rfl, rfl, by decide +kernel, rfl, by decide +kernel, by decide +kernel⟩
theorem rb_neg {n : Nat} {s : List Rat} (h : rb n s) : rb n (s.map fun x => x * (-1)) := by
  have e := over_mulI s (-1)
  have ed : ((-1 : Rat)).den = 1 := rfl
  rw [ed, Nat.mul_one] at e
  rw [← e]
  refine rb_over (lq_pos s) (fun z hz => ?_) (by unfold mulI; rw [List.length_map]; exact h.1)
  rcases List.mem_append.mp hz with hz | hz
  · unfold mulI at hz
    obtain ⟨x, hx, rfl⟩ := List.mem_map.mp hz
    have h1 := rb_tq h hx
    have en : ((-1 : Rat)).num = -1 := rfl
    rw [en]
    omega
  · have e2 : z = (lq s : Int) := by simpa using hz
    rw [e2]
    exact nb (rb_lq h)
def subQ (r s : List Rat) : List Rat := (r.zip s).map fun p => p.1 - p.2
theorem subQ_eq (r s : List Rat) : addQ r (s.map fun x => x * (-1)) = subQ r s := by
  unfold addQ subQ
  rw [List.zip_map_right, List.map_map]
  refine List.map_congr_left fun p _ => ?_
  show p.1 + p.2 * (-1) = p.1 - p.2
  grind
/-! the number of the top: a tuple beside the heap, told by a mark -/
structure CstM (K : PySem.W.Frag) (mg : Str → Option Value) where
  mo : Addr
  h_MINUS_ONE : mg "MINUS_ONE" = some (.ref mo)
  s_mo : ∀ H, SqT K H mo [.int (-1), .int 1]
def cL (mo : Addr) : Rl := { pureL with M := fun v => v = .ref mo, mref := fun h => ⟨mo, h⟩ }
theorem eg_cix {mo : Addr} (hs : ∀ H, SqT K H mo [.int (-1), .int 1]) {Γ : List (Option PyData)} {n : Nat} {i z : Int} (hΓ : Γ[n]? = some (some mark)) (hz : i = 0 ∧ z = -1 ∨ i = 1 ∧ z = 1) : EvD (cL mo) (tOp (rIxT K) (tVar n) (tC (.int i))) Γ (.int z) := fun A σ H hi he hg Q q => by
  obtain ⟨v, e1, e2⟩ := he.2 n _ hΓ
  have ev : v = .ref mo := e2.elim (fun h => h.2) fun h => by cases h
  subst ev
  refine ⟨_, e1, ?_⟩
  rcases hz with ⟨rfl, rfl⟩ | ⟨rfl, rfl⟩
  · exact ⟨mo, _, 0, .int (-1), rfl, rfl, hs H, rfl, q _ _ H (fun _ _ e => e) (.inr (.int _)) rfl⟩
  · exact ⟨mo, _, 1, .int 1, rfl, rfl, hs H, rfl, q _ _ H (fun _ _ e => e) (.inr (.int _)) rfl⟩
def sp_row_timesC (mo : Addr) : Sp := fun vs H Q E => ∃ r : List Rat, rb 1500 r ∧ spL (cL mo) 0 (fun ds => ds = [rowD r, mark]) (fun _ d => d = rowD (r.map fun x => x * (-1))) vs H Q E
theorem ok_row_timesC {f : Addr} {fd : FuncData} (T : Bt K mg) (C : CstM K mg) (D : Df K mg "row_times" s_row_times ["row", "value"] f fd)
    {f_without_divisor : Addr} {d_without_divisor : FuncData} (h_without_divisor : Cal P w K mg base "without_divisor" s_without_divisor ["integers"] 2 sp_without_divisor f_without_divisor d_without_divisor) : Cal P w K mg base "row_times" s_row_times ["row", "value"] 3 (sp_row_timesC C.mo) f fd := by
  refine ⟨D.gm, D.F, D.b, okG D.F sc_row_times (fun vs H Q E h => ?_) (fun cdv A outer s H vs Q E hgd hr h => ⟨_, (pss_one (ps_ret (pe_fn (E := E0) h_without_divisor.G hgd (hr.mono (by decide)) (by rfl) h_without_divisor.gm h_without_divisor.kp h_without_divisor.b (pa_cons (pe_op op_cat (pe_lc (own := [("top", 2)]) (g := gName 2) (tt := tYes) rfl sc_row_times.nd (pi_tup (pe_slice sl_tup (pv 0) po_none (po_some (pe_un un_neg pe_int)))) (blkOk_by (own := [("top", 2)]) (N := n_row_times) (sc := defScope s_row_times) (by decide +kernel)) (fun _ _ _ _ _ => (pg_name (i := 2) sc_row_times.nd rfl (Or.inl rfl))) (fun _ _ _ _ _ => pts_nil) (fun _ _ _ _ _ => (pe_op op_mulW (pv 2) (pe_ix (ix_tupK (K := K) rfl) (pv 1) pe_int (fun _ _ => rfl))))) (pe_lst (pa_cons (pe_op op_mulW (pe_ix (ix_tupK (K := K) rfl) (pv 0) (pe_un un_neg pe_int) (fun _ _ => rfl)) (pe_ix (ix_tupK (K := K) rfl) (pv 1) pe_int (fun _ _ => rfl))) pa_nil))) pa_nil)))), ?_⟩)⟩
  · obtain ⟨r, _, Av, ds, _, hl, _, hp, _⟩ := h
    rw [hl, hp]
    rfl
  obtain ⟨r, h0', Av, ds, hi, hl, hv, hp, hgg, q⟩ := h
  subst hp
  have h1' : ((-1 : Rat)).num.natAbs < 2 ^ 1500 := Nat.one_lt_two_pow (n := 1500) (by decide)
  have h2' : ((-1 : Rat)).den < 2 ^ 1500 := Nat.one_lt_two_pow (n := 1500) (by decide)
  refine (show SG (cL C.mo) 0 _ [some (rowD r), some mark, none] (fun _ => .none = rowD (r.map fun x => x * (-1))) (fun d => d = rowD (r.map fun x => x * (-1))) from ?_) Av _ H hi (start_ok hl hv) hgg _ (fun σ' H' Γ' r e p => q .non .none H' r (.inr .non) p) fun v d H' r hd p => q v d H' r hd p
  have hr := lq_pos r
  have hv : rowD (r.map fun x => x * (-1)) = rowD (over (mulI r (-1)) (lq r * ((-1 : Rat)).den)) := by rw [over_mulI]
  rw [hv, rowD_one r]
  have hlt : lq r * ((-1 : Rat)).den < 2 ^ 8000 := Nat.lt_of_lt_of_le (nat_mul_lt (rb_lq h0') h2') (Nat.pow_le_pow_right (by decide) (by decide))
  refine sg_ret (eg_callR (mulI r (-1), lq r * ((-1 : Rat)).den) (ea_cons ?_ ea_nil) ⟨Nat.mul_pos hr (Rat.den_pos _), hlt, by unfold mulI; rw [List.length_map]; have := h0'.1; omega⟩) rfl
  refine (eg_cat (eg_lcm (xs := r) (enc := iv (lq r)) (res := fun x => .int (tq (lq r) x * ((-1 : Rat)).num)) (js := [2]) (wk_tup (eg_init1 (eg_var rfl))) (by simp) (by have := h0'.1; omega) fun x hx => ⟨(fun z => by cases z), _, tg_name, eg_mul (eg_var rfl) (eg_cix C.s_mo rfl (.inl ⟨rfl, rfl⟩)) (mw (a := 1500) (b := 1500) (rb_tq h0' hx) h1')⟩)
    (eg_lst (ea_cons (eg_mul (eg_ixT (eg_var rfl) (eg_neg eg_int) (atI_last _ _)) (eg_cix C.s_mo rfl (.inr ⟨rfl, rfl⟩)) (mw (a := 1500) (b := 1500) (nb (rb_lq h0')) (nb h2'))) ea_nil)) (by have := h0'.1; simp; omega)).to ?_
  unfold lI mulI
  rw [List.map_append, List.map_map, Int.natCast_mul]
  rfl
theorem eg_timesC {mo : Addr} {E : XK} {Γ : List (Option PyData)} {r : List Rat} {n : Nat} (hΓ : Γ[n]? = some (some (rowD r))) (hr : rb 1500 r) : EvD pureL (tCall (sp_row_timesC mo) [] E (tCons (tVar n) (tCons (tC (.ref mo)) tNil))) Γ (rowD (r.map fun x => x * (-1))) := fun A σ H hi he hg Q q => by
  obtain ⟨v, e1, e2⟩ := he.2 n _ hΓ
  have e3 : Dv A H v (rowD r) := e2.ne (by intro z; cases z)
  refine ⟨_, e1, ?_⟩
  show sp_row_timesC mo ([v, .ref mo] ++ []) H Q E
  refine ⟨r, hr, A, [rowD r, mark], hi, rfl, fun i d e => ?_, rfl, trivial, fun u d H' rr hd p => q u d H' rr (.inr (hd.ne (by rw [p]; intro z; cases z))) p⟩
  match i, e with
  | 0, e =>
    have e4 : rowD r = d := Option.some.inj e
    subst e4
    exact ⟨v, rfl, .inr e3⟩
  | 1, e =>
    have e4 : mark = d := Option.some.inj e
    subst e4
    exact ⟨_, rfl, .inl ⟨rfl, rfl⟩⟩
  | i + 2, e => cases e
def sp_row_minus : Sp := spR (fun a : RR => [rowD a.r, rowD a.s]) okRR fun a => rowD (subQ a.r a.s)
theorem ok_row_minus {f : Addr} {fd : FuncData} (T : Bt K mg) (C : CstM K mg) (D : Df K mg "row_minus" s_row_minus ["one", "other"] f fd)
    {f_row_added : Addr} {d_row_added : FuncData} (h_row_added : Cal P w K mg base "row_added" s_row_added ["one", "other"] 3 sp_row_added f_row_added d_row_added)
    {f_row_times : Addr} {d_row_times : FuncData} (h_row_times : Cal P w K mg base "row_times" s_row_times ["row", "value"] 3 (sp_row_timesC C.mo) f_row_times d_row_times) : Cal P w K mg base "row_minus" s_row_minus ["one", "other"] 4 sp_row_minus f fd := by
  refine ok_R D sc_row_minus (fun _ => rfl) fun cdv A outer s H E hgd hr => ⟨_, (pss_one (ps_ret (pe_fn (E := E0) h_row_added.G hgd (hr.mono (by decide)) (by rfl) h_row_added.gm h_row_added.kp h_row_added.b (pa_cons (pv 0) (pa_cons (pe_fn (E := E0) h_row_times.G hgd (hr.mono (by decide)) (by rfl) h_row_times.gm h_row_times.kp h_row_times.b (pa_cons (pv 1) (pa_cons (pe_glob (v := .ref C.mo) (by rfl) C.h_MINUS_ONE rfl) pa_nil))) pa_nil))))), ?_⟩
  rintro ⟨r, s⟩ ⟨h0, h1, h2⟩
  have h0' : rb 1500 r := h0
  have h1' : rb 1500 s := h1
  have h2' : r.length = s.length := h2
  show SG pureL 0 _ [some (rowD r), some (rowD s)] _ _
  refine sg_ret ((eg_callR (RR.mk r (s.map fun x => x * (-1))) (ea_cons (eg_var rfl) (ea_cons (eg_timesC rfl h1') ea_nil)) ⟨h0', rb_neg h1', by rw [List.length_map]; exact h2'⟩).to ?_) rfl
  show rowD (addQ r (s.map fun x => x * (-1))) = rowD (subQ r s)
  rw [subQ_eq]

end V1
set_option Elab.async false
set_option linter.all false
set_option maxRecDepth 100000
set_option maxHeartbeats 4000000
namespace V1
open PySem PySem.Spec PyProof.Rows L2
variable {P : Program} {w : World} {K : PySem.W.Frag} {mg : Str → Option Value} {base : Heap}
theorem take_next {α : Type} {xs : List α} {i : Nat} {x : α} (h : xs[i]? = some x) : xs.take (i + 1) = xs.take i ++ [x] := by
  rw [List.take_add_one, h]
  rfl
theorem map_at {α : Type} {xs : List α} {enc : α → PyData} {i : Nat} {d : PyData} (h : (xs.map enc)[i]? = some d) : ∃ x, xs[i]? = some x ∧ x ∈ xs ∧ d = enc x := by
  rw [List.getElem?_map] at h
  cases hx : xs[i]? with
  | none => rw [hx] at h; cases h
  | some x =>
    rw [hx] at h
    exact ⟨x, rfl, List.mem_of_getElem? hx, (Option.some.inj h).symm⟩
theorem fq_row (q : Rat) : fq q = rowD [q] := by
  have h : lq [q] = q.den := by
    show lcml [q.den] = q.den
    rw [lcml_cons]
    exact Nat.lcm_one_right _
  rw [rowD_one, h]
  show fq q = .tuple [.int (q.num * ((q.den / q.den : Nat) : Int)), .int (q.den : Int)]
  rw [Nat.div_self q.den_pos]
  show fq q = .tuple [.int (q.num * 1), .int (q.den : Int)]
  rw [Int.mul_one]
  rfl
/-- what repr may be asked of -/
structure Sh (d : PyData) : Prop where
  seq : (∃ ds, d = .list ds) ∨ ∃ ds, d = .tuple ds
  show1 : d.showable = true
  nd : d.hasDict = false
  dep : d.depth ≤ 60
  len : d.shown.length ≤ sizeLine

abbrev s_law_like : Stmt := top 31
abbrev n_law_like : List Str := ["told", "due"]
theorem sc_law_like : FnScope n_law_like ["told", "due"] (defScope s_law_like) := ⟨rfl, rfl, rfl, by decide +kernel, rfl, by decide +kernel, by decide +kernel⟩
def sp_law_like : Sp := spR (fun d : PyData => [d, d]) Sh fun _ => .bool true
theorem ok_law_like {f : Addr} {fd : FuncData} (T : Bt K mg) (D : Df K mg "_law_like" s_law_like ["told", "due"] f fd) : Cal P w K mg base "_law_like" s_law_like ["told", "due"] 1 sp_law_like f fd := by
  refine ok_R D sc_law_like (fun _ => rfl) fun cdv A outer s H E hgd hr => ⟨_, (pss_one (ps_ret (pe_cmpR op_eq (pe_callB (call_repr hgd hr.units) (by rfl) T.repr (by decide +kernel) (pa_cons (pv 0) pa_nil)) (pe_callB (call_repr hgd hr.units) (by rfl) T.repr (by decide +kernel) (pa_cons (pv 1) pa_nil)) (nomark _)))), ?_⟩
  rintro d ⟨h0, h1, h2, h3, h4⟩
  show SG pureL 0 _ [some d, some d] _ _
  have e : PyData.bool (decide (d.shown = d.shown)) = .bool true := by rw [decide_eq_true rfl]
  rcases h0 with ⟨ds, rfl⟩ | ⟨ds, rfl⟩
  · exact sg_ret ((eg_eqS (eg_cb (ea_cons (eg_var rfl) ea_nil) (cs_reprL h1 h2 h3 h4)) (eg_cb (ea_cons (eg_var rfl) ea_nil) (cs_reprL h1 h2 h3 h4))).to e) rfl
  · exact sg_ret ((eg_eqS (eg_cb (ea_cons (eg_var rfl) ea_nil) (cs_reprT h1 h2 h3 h4)) (eg_cb (ea_cons (eg_var rfl) ea_nil) (cs_reprT h1 h2 h3 h4))).to e) rfl

abbrev s_law_sign : Stmt := top 32
abbrev n_law_sign : List Str := ["number"]
theorem sc_law_sign : FnScope n_law_sign ["number"] (defScope s_law_sign) := ⟨rfl, rfl, rfl, by decide +kernel, rfl, by decide +kernel, by decide +kernel⟩
def sp_law_sign : Sp := spR (fun i : Int => [.int i]) (fun _ => True) fun i => .int i.sign
theorem ok_law_sign {f : Addr} {fd : FuncData} (T : Bt K mg) (D : Df K mg "_law_sign" s_law_sign ["number"] f fd) : Cal P w K mg base "_law_sign" s_law_sign ["number"] 1 sp_law_sign f fd := by
  refine ok_R D sc_law_sign (fun _ => rfl) fun cdv A outer s H E hgd hr => ⟨_, (pss_one (ps_ret (pe_op op_sub (pe_callTy call_int1 (by rfl) T.int (by decide +kernel) (pa_cons (pe_cmpR op_gt (pv 0) pe_int (nomark _)) pa_nil)) (pe_callTy call_int1 (by rfl) T.int (by decide +kernel) (pa_cons (pe_cmpR op_lt (pv 0) pe_int (nomark _)) pa_nil))))), ?_⟩
  intro i _
  show SG pureL 0 _ [some (.int i)] _ _
  refine sg_ret ((eg_sub (eg_cb (ea_cons (eg_gt (eg_var rfl) eg_int) ea_nil) cs_intB) (eg_cb (ea_cons (eg_lt (eg_var rfl) eg_int) ea_nil) cs_intB)).to ?_) rfl
  congr 1
  by_cases h : i < 0
  · rw [Int.sign_eq_neg_one_of_neg h, decide_eq_true h, decide_eq_false (show ¬ (0 : Int) < i by omega)]
    rfl
  · by_cases h2 : 0 < i
    · rw [Int.sign_eq_one_of_pos h2, decide_eq_true h2, decide_eq_false h]
      rfl
    · have e : i = 0 := by omega
      subst e
      rfl

abbrev s_law_common : Stmt := top 33
abbrev n_law_common : List Str := ["numbers_so", "found", "number", "remnant"]
theorem sc_law_common : FnScope n_law_common ["numbers_so"] (defScope s_law_common) := ⟨rfl, rfl, rfl, by decide +kernel, rfl, by decide +kernel, by decide +kernel⟩
def sp_law_common : Sp := spR (fun ns : List Int => [lI ns]) (fun _ => True) fun ns => .int (gcdl ns)
theorem ok_law_common {f : Addr} {fd : FuncData} (T : Bt K mg) (D : Df K mg "_law_common" s_law_common ["numbers_so"] f fd) : Cal P w K mg base "_law_common" s_law_common ["numbers_so"] 1 sp_law_common f fd := by
  refine ok_R D sc_law_common (fun _ => rfl) fun cdv A outer s H E hgd hr => ⟨_, (pss_cons (ps_set (i := 1) sc_law_common.nd rfl (Or.inl rfl) pe_int)
        (pss_cons (ps_for PassesOwn.never rfl (pi_list (pv 0)) (pg_name (i := 2) sc_law_common.nd rfl (Or.inl rfl))
        (pss_cons (ps_set (i := 3) sc_law_common.nd rfl (Or.inl rfl) (pe_callB call_abs (by rfl) T.abs (by decide +kernel) (pa_cons (pv 2) pa_nil)))
        (pss_one (ps_while PassesOwn.never (pt_cmpR op_ne (pv 3) pe_int (nomark _))
        (pss_one (ps_par (i := 1) (j := 3) rfl sc_law_common.nd rfl rfl (by decide) rfl rfl (pa_cons (pv 3) (pa_cons (pe_op op_modN (pe_callTy call_int1 (by rfl) T.int (by decide +kernel) (pa_cons (pv 1) pa_nil)) (pv 3)) pa_nil)) (by rfl)))))))
        (pss_one (ps_ret (pv 1))))), ?_⟩
  intro ns _
  show SG pureL 0 _ [some (lI ns), none, none, none] _ _
  refine sq_asg eg_int ?_
  refine sg_seq (N1 := fun G => G[1]? = some (some (.int (gcdl ns)))) (sg_for (js := [2]) (fun i G => ∃ x y, G = [some (lI ns), some (.int (gcdl (ns.take i))), x, y]) (wk_list (eg_var rfl)) ⟨none, none, rfl⟩ ?_ ?_) fun G hG => sg_ret (eg_var hG) rfl
  · rintro i d G hd ⟨x, y, rfl⟩
    obtain ⟨n, hn, _, rfl⟩ := map_at hd
    have e2 : gcdl (ns.take (i + 1)) = Nat.gcd (gcdl (ns.take i)) n.natAbs := by rw [take_next hn]; unfold gcdl; rw [List.foldl_append]; rfl
    refine ⟨_, tg_name, sq_asg (eg_cb (ea_cons (eg_var rfl) ea_nil) cs_abs) ?_⟩
    refine sg_while (fun G => ∃ f r : Nat, G = [some (lI ns), some (.int (f : Int)), some (.int n), some (.int (r : Int))] ∧ Nat.gcd f r = gcdl (ns.take (i + 1))) (fun G => match G with | [_, _, _, some (.int r)] => r.toNat | _ => 0) ⟨gcdl (ns.take i), n.natAbs, rfl, e2.symm⟩ ?_
    rintro G ⟨f, r, rfl, hg⟩
    refine ⟨!decide ((r : Int) = 0), et_test (eg_neI (eg_var rfl) eg_int), fun hk => ?_, fun hk => ?_⟩
    · have hr : (r : Int) ≠ 0 := by simpa using hk
      refine sg_par (ea_cons (eg_var rfl) (ea_cons (eg_mod (eg_cb (ea_cons (eg_var rfl) ea_nil) cs_int) (eg_var rfl) hr) ea_nil)) ⟨⟨r, f % r, ?_, ?_⟩, ?_⟩
      · have e3 : (f : Int).fmod (r : Int) = ((f % r : Nat) : Int) := by rw [Int.fmod_eq_emod_of_nonneg _ (by omega)]; rfl
        rw [e3]
        rfl
      · rw [← hg, Nat.gcd_comm f r, Nat.gcd_rec r f, Nat.gcd_comm]
      · show ((f : Int).fmod (r : Int)).toNat < (r : Int).toNat
        have e3 : (f : Int).fmod (r : Int) = ((f % r : Nat) : Int) := by rw [Int.fmod_eq_emod_of_nonneg _ (by omega)]; rfl
        rw [e3]
        have := Nat.mod_lt f (show 0 < r by omega)
        show ((f % r : Nat) : Int).toNat < (r : Int).toNat
        rw [Int.toNat_natCast, Int.toNat_natCast]
        exact this
    · have hr : (r : Int) = 0 := by simpa using hk
      have hr0 : r = 0 := by omega
      subst hr0
      rw [Nat.gcd_zero_right] at hg
      subst hg
      exact ⟨_, _, rfl⟩
  · rintro G ⟨x, y, rfl⟩
    show some (some (PyData.int _)) = _
    rw [List.length_map, List.take_length]

abbrev s_law_lowered : Stmt := top 34
abbrev n_law_lowered : List Str := ["numbers_so", "whole", "number"]
theorem sc_law_lowered : FnScope n_law_lowered ["numbers_so"] (defScope s_law_lowered) := ⟨rfl, rfl, rfl, by decide +kernel, rfl, by decide +kernel, by decide +kernel⟩
def sp_law_lowered : Sp := spR (fun p : List Int × Nat => [lI (p.1 ++ [(p.2 : Int)])]) (fun p => 0 < p.2 ∧ p.2 < 2 ^ 8000 ∧ p.1.length ≤ 100) fun p => rowD (over p.1 p.2)
theorem ok_law_lowered {f : Addr} {fd : FuncData} (T : Bt K mg) (D : Df K mg "_law_lowered" s_law_lowered ["numbers_so"] f fd)
    {f_law_common : Addr} {d_law_common : FuncData} (h_law_common : Cal P w K mg base "_law_common" s_law_common ["numbers_so"] 1 sp_law_common f_law_common d_law_common) : Cal P w K mg base "_law_lowered" s_law_lowered ["numbers_so"] 2 sp_law_lowered f fd := by
  refine ok_R D sc_law_lowered (fun _ => rfl) fun cdv A outer s H E hgd hr => ⟨_, (pss_cons (ps_set (i := 1) sc_law_lowered.nd rfl (Or.inr rfl) (pe_fn (E := E0) h_law_common.G hgd (hr.mono (by decide)) (by rfl) h_law_common.gm h_law_common.kp h_law_common.b (pa_cons (pv 0) pa_nil)))
        (pss_one (ps_ret (pe_ifExp (pt_cmpR op_gt (pv 1) pe_int (nomark _)) (pe_callTy call_tuple_of (by rfl) T.tuple (by decide +kernel) (pa_cons (pe_lc (own := [("number", 2)]) (g := gName 2) (tt := tYes) rfl sc_law_lowered.nd (pi_list (pv 0)) (blkOk_by (own := [("number", 2)]) (N := n_law_lowered) (sc := defScope s_law_lowered) (by decide +kernel)) (fun _ _ _ _ _ => (pg_name (i := 2) sc_law_lowered.nd rfl (Or.inl rfl))) (fun _ _ _ _ _ => pts_nil) (fun _ _ _ _ _ => (pe_op op_fdivW (pv 2) (pv 1)))) pa_nil)) (pe_callTy call_tuple_of (by rfl) T.tuple (by decide +kernel) (pa_cons (pv 0) pa_nil)))))), ?_⟩
  rintro ⟨ns, w⟩ ⟨h0, h1, h2⟩
  have h0' : 0 < w := h0
  generalize hms : ns ++ [(w : Int)] = ms
  show SG pureL 0 _ [some (lI ms), none, none] _ _
  have hg : 0 < gcdl ms := by rw [← hms]; exact gcdl_pos (n := (w : Int)) (by simp) (by omega)
  have hgw : gcdl ms ≤ w := Nat.le_of_dvd h0' (Int.natCast_dvd_natCast.mp (by rw [← hms]; exact gcdl_dvd _ (by simp)))
  have hv : rowD (over ns w) = .tuple ((ms.map fun n => n / (gcdl ms : Int)).map .int) := by
    unfold rowD tI
    rw [← prim_over ns h0', ← hms]
    rfl
  rw [hv]
  have hcd : ∀ n : Int, CDivW n ((gcdl ms : Nat) : Int) := fun n => wide_div (b := 8000) (by omega) (by rw [Int.natAbs_natCast]; exact Nat.lt_of_le_of_lt hgw h1) (by decide) (by decide)
  refine sq_asg (eg_callR ms (ea_cons (eg_var rfl) ea_nil) trivial) ?_
  have hml : ms.length ≤ 1000 := by rw [← hms, List.length_append]; have : ns.length ≤ 100 := h2; show _ + 1 ≤ _; omega
  refine sg_ret (eg_if (et_test (eg_gt (eg_var rfl) eg_int)) (fun hk => ?_) fun hk => ?_) rfl
  · refine eg_cb (ea_cons ?_ ea_nil) cs_tuple
    rw [List.map_map]
    exact eg_lcm (js := [2]) (xs := ms) (enc := PyData.int) (wk_list (eg_var rfl)) (by simp) hml fun n _ => ⟨(fun z => by cases z), _, tg_name, eg_div (eg_var rfl) (eg_var rfl) (hcd n)⟩
  · have hk' : ¬ ((1 : Int) < (gcdl ms : Int)) := of_decide_eq_false hk
    have e1 : gcdl ms = 1 := by omega
    refine (eg_cb (ea_cons (eg_var rfl) ea_nil) cs_tuple).to ?_
    rw [e1]
    congr 1
    rw [List.map_map]
    refine List.map_congr_left fun n _ => ?_
    show PyData.int n = .int (n / 1)
    rw [Int.ediv_one]

abbrev s_law_fraction : Stmt := top 35
abbrev n_law_fraction : List Str := ["top", "bottom", "found"]
theorem sc_law_fraction : FnScope n_law_fraction ["top", "bottom"] (defScope s_law_fraction) := ⟨rfl, rfl, rfl, by decide +kernel, rfl, by decide +kernel, by decide +kernel⟩
def sp_law_fraction : Sp := spR (fun p : Int × Nat => [.int p.1, .int (p.2 : Int)]) (fun p => 0 < p.2 ∧ p.2 < 2 ^ 8000) fun p => fq (rat p.1 p.2)
theorem ok_law_fraction {f : Addr} {fd : FuncData} (T : Bt K mg) (D : Df K mg "_law_fraction" s_law_fraction ["top", "bottom"] f fd)
    {f_law_lowered : Addr} {d_law_lowered : FuncData} (h_law_lowered : Cal P w K mg base "_law_lowered" s_law_lowered ["numbers_so"] 2 sp_law_lowered f_law_lowered d_law_lowered) : Cal P w K mg base "_law_fraction" s_law_fraction ["top", "bottom"] 3 sp_law_fraction f fd := by
  refine ok_R D sc_law_fraction (fun _ => rfl) fun cdv A outer s H E hgd hr => ⟨_, (pss_cons (ps_set (i := 2) sc_law_fraction.nd rfl (Or.inl rfl) (pe_fn (E := E0) h_law_lowered.G hgd (hr.mono (by decide)) (by rfl) h_law_lowered.gm h_law_lowered.kp h_law_lowered.b (pa_cons (pe_lst (pa_cons (pv 0) (pa_cons (pv 1) pa_nil))) pa_nil)))
        (pss_one (ps_ret (pe_ifExp (pt_cmpR op_gt (pv 1) pe_int (nomark _)) (pv 2) (pe_tup (pa_cons (pe_un un_neg (pe_ix (ix_tupK (K := K) rfl) (pv 2) pe_int (fun _ _ => rfl))) (pa_cons (pe_un un_neg (pe_ix (ix_tupK (K := K) rfl) (pv 2) pe_int (fun _ _ => rfl))) pa_nil))))))), ?_⟩
  rintro ⟨a, b⟩ ⟨h0, h1⟩
  have h0' : 0 < b := h0
  show SG pureL 0 _ [some (.int a), some (.int (b : Int)), none] _ _
  refine sq_asg ((eg_callR ([a], b) (ea_cons (eg_lst (ds := [.int a, .int (b : Int)]) (ea_cons (eg_var rfl) (ea_cons (eg_var rfl) ea_nil))) ea_nil) ⟨h0, h1, (show 1 ≤ 100 by decide)⟩).to (d' := fq (rat a b)) (by rw [fq_row]; rfl)) ?_
  refine sg_ret (eg_if (et_test (eg_gt (eg_var rfl) eg_int)) (fun _ => eg_var rfl) fun hk => ?_) rfl
  have hk' : ¬ ((0 : Int) < (b : Int)) := of_decide_eq_false hk
  omega

abbrev s_law_point : Stmt := top 36
abbrev n_law_point : List Str := ["numbers_so", "bottom", "sign", "number"]
theorem sc_law_point : FnScope n_law_point ["numbers_so", "bottom"] (defScope s_law_point) := ⟨rfl, rfl, rfl, by decide +kernel, rfl, by decide +kernel, by decide +kernel⟩
def sp_law_point : Sp := spR (fun p : List Int × Nat => [lI p.1, .int (p.2 : Int)]) (fun p => 0 < p.2 ∧ p.2 < 2 ^ 8000 ∧ p.1.length ≤ 100 ∧ Bn 9000 p.1) fun p => rowD (over p.1 p.2)
theorem ok_law_point {f : Addr} {fd : FuncData} (T : Bt K mg) (D : Df K mg "_law_point" s_law_point ["numbers_so", "bottom"] f fd)
    {f_law_lowered : Addr} {d_law_lowered : FuncData} (h_law_lowered : Cal P w K mg base "_law_lowered" s_law_lowered ["numbers_so"] 2 sp_law_lowered f_law_lowered d_law_lowered) : Cal P w K mg base "_law_point" s_law_point ["numbers_so", "bottom"] 3 sp_law_point f fd := by
  refine ok_R D sc_law_point (fun _ => rfl) fun cdv A outer s H E hgd hr => ⟨_, (pss_cons (ps_set (i := 2) sc_law_point.nd rfl (Or.inr rfl) (pe_ifExp (pt_cmpR op_gt (pv 1) pe_int (nomark _)) pe_int (pe_un un_neg pe_int)))
        (pss_one (ps_ret (pe_fn (E := E0) h_law_lowered.G hgd (hr.mono (by decide)) (by rfl) h_law_lowered.gm h_law_lowered.kp h_law_lowered.b (pa_cons (pe_op op_cat (pe_lc (own := [("number", 3)]) (g := gName 3) (tt := tYes) rfl sc_law_point.nd (pi_list (pv 0)) (blkOk_by (own := [("number", 3)]) (N := n_law_point) (sc := defScope s_law_point) (by decide +kernel)) (fun _ _ _ _ _ => (pg_name (i := 3) sc_law_point.nd rfl (Or.inl rfl))) (fun _ _ _ _ _ => pts_nil) (fun _ _ _ _ _ => (pe_op op_mulW (pv 2) (pv 3)))) (pe_lst (pa_cons (pe_op op_mulW (pv 2) (pv 1)) pa_nil))) pa_nil))))), ?_⟩
  rintro ⟨ns, w⟩ ⟨h0, h1, h2, h3⟩
  have h0' : 0 < w := h0
  have h2' : ns.length ≤ 100 := h2
  show SG pureL 0 _ [some (lI ns), some (.int (w : Int)), none, none] _ _
  refine sq_asg (eg_if (d := .int 1) (et_test (eg_gt (eg_var rfl) eg_int)) (fun _ => eg_int) fun hk => ?_) ?_
  · have hk' : ¬ ((0 : Int) < (w : Int)) := of_decide_eq_false hk
    omega
  refine sg_ret (eg_callR (ns, w) (ea_cons ((eg_cat (eg_lcm (js := [3]) (xs := ns) (enc := PyData.int) (res := fun n => .int (1 * n)) (wk_list (eg_var rfl)) (by simp) (by omega) fun n hn => ⟨(fun z => by cases z), _, tg_name, eg_mul (eg_var rfl) (eg_var rfl) (mw (a := 1) (b := 9000) (by decide) (h3 n hn))⟩)
    (eg_lst (ea_cons (eg_mul (eg_var rfl) (eg_var rfl) (mw (a := 1) (b := 8000) (by decide) (nb h1))) ea_nil)) (by rw [List.length_map]; show _ + 1 ≤ _; omega)).to ?_) ea_nil) ⟨h0, h1, h2⟩) rfl
  unfold lI
  rw [List.map_append, Int.one_mul]
  congr 2
  exact List.map_congr_left fun n _ => by rw [Int.one_mul]

abbrev s_law_rowed : Stmt := top 37
abbrev n_law_rowed : List Str := ["numbers_so", "bottom", "sign", "number"]
theorem sc_law_rowed : FnScope n_law_rowed ["numbers_so", "bottom"] (defScope s_law_rowed) := ⟨rfl, rfl, rfl, by decide +kernel, rfl, by decide +kernel, by decide +kernel⟩
def sp_law_rowed : Sp := sp_law_point
theorem ok_law_rowed {f : Addr} {fd : FuncData} (T : Bt K mg) (D : Df K mg "_law_rowed" s_law_rowed ["numbers_so", "bottom"] f fd)
    {f_law_lowered : Addr} {d_law_lowered : FuncData} (h_law_lowered : Cal P w K mg base "_law_lowered" s_law_lowered ["numbers_so"] 2 sp_law_lowered f_law_lowered d_law_lowered) : Cal P w K mg base "_law_rowed" s_law_rowed ["numbers_so", "bottom"] 3 sp_law_rowed f fd := by
  refine ok_R D sc_law_rowed (fun _ => rfl) fun cdv A outer s H E hgd hr => ⟨_, (pss_cons (ps_set (i := 2) sc_law_rowed.nd rfl (Or.inr rfl) (pe_ifExp (pt_cmpR op_gt (pv 1) pe_int (nomark _)) pe_int (pe_un un_neg pe_int)))
        (pss_one (ps_ret (pe_fn (E := E0) h_law_lowered.G hgd (hr.mono (by decide)) (by rfl) h_law_lowered.gm h_law_lowered.kp h_law_lowered.b (pa_cons (pe_op op_cat (pe_lc (own := [("number", 3)]) (g := gName 3) (tt := tYes) rfl sc_law_rowed.nd (pi_list (pv 0)) (blkOk_by (own := [("number", 3)]) (N := n_law_rowed) (sc := defScope s_law_rowed) (by decide +kernel)) (fun _ _ _ _ _ => (pg_name (i := 3) sc_law_rowed.nd rfl (Or.inl rfl))) (fun _ _ _ _ _ => pts_nil) (fun _ _ _ _ _ => (pe_op op_mulW (pv 2) (pv 3)))) (pe_lst (pa_cons (pe_op op_mulW (pv 2) (pv 1)) pa_nil))) pa_nil))))), ?_⟩
  rintro ⟨ns, w⟩ ⟨h0, h1, h2, h3⟩
  have h0' : 0 < w := h0
  have h2' : ns.length ≤ 100 := h2
  show SG pureL 0 _ [some (lI ns), some (.int (w : Int)), none, none] _ _
  refine sq_asg (eg_if (d := .int 1) (et_test (eg_gt (eg_var rfl) eg_int)) (fun _ => eg_int) fun hk => ?_) ?_
  · have hk' : ¬ ((0 : Int) < (w : Int)) := of_decide_eq_false hk
    omega
  refine sg_ret (eg_callR (ns, w) (ea_cons ((eg_cat (eg_lcm (js := [3]) (xs := ns) (enc := PyData.int) (res := fun n => .int (1 * n)) (wk_list (eg_var rfl)) (by simp) (by omega) fun n hn => ⟨(fun z => by cases z), _, tg_name, eg_mul (eg_var rfl) (eg_var rfl) (mw (a := 1) (b := 9000) (by decide) (h3 n hn))⟩)
    (eg_lst (ea_cons (eg_mul (eg_var rfl) (eg_var rfl) (mw (a := 1) (b := 8000) (by decide) (nb h1))) ea_nil)) (by rw [List.length_map]; show _ + 1 ≤ _; omega)).to ?_) ea_nil) ⟨h0, h1, h2⟩) rfl
  unfold lI
  rw [List.map_append, Int.one_mul]
  congr 2
  exact List.map_congr_left fun n _ => by rw [Int.one_mul]

abbrev s_law_total : Stmt := top 38
abbrev n_law_total : List Str := ["row_so", "point_so", "one_so", "other_so"]
theorem sc_law_total : FnScope n_law_total ["row_so", "point_so"] (defScope s_law_total) := ⟨rfl, rfl, rfl, by decide +kernel, rfl, by decide +kernel, by decide +kernel⟩
def sp_law_total : Sp := sp_top_at
theorem ok_law_total {f : Addr} {fd : FuncData} (T : Bt K mg) (D : Df K mg "_law_total" s_law_total ["row_so", "point_so"] f fd) : Cal P w K mg base "_law_total" s_law_total ["row_so", "point_so"] 1 sp_law_total f fd := by
  refine ok_R D sc_law_total (fun _ => rfl) fun cdv A outer s H E hgd hr => ⟨_, (pss_one (ps_ret (pe_callB (cr_sum rfl) (by rfl) T.sum (by decide +kernel) (pa_cons (pe_lc (own := [("one_so", 2), ("other_so", 3)]) (g := gTup K 2 (gCons (gName 2) (gCons (gName 3) gNil))) (tt := tYes) rfl sc_law_total.nd (pi_zipP false false (by rfl) T.zip (pa_cons (pe_slice sl_tup (pv 0) po_none (po_some (pe_un un_neg pe_int))) (pa_cons (pv 1) pa_nil))) (blkOk_by (own := [("one_so", 2), ("other_so", 3)]) (N := n_law_total) (sc := defScope s_law_total) (by decide +kernel)) (fun _ _ _ _ _ => (pg_tup rfl (pgs_cons (pg_name (i := 2) sc_law_total.nd rfl (Or.inl rfl)) (pgs_cons (pg_name (i := 3) sc_law_total.nd rfl (Or.inl rfl)) pgs_nil)))) (fun _ _ _ _ _ => pts_nil) (fun _ _ _ _ _ => (pe_op op_mulW (pv 2) (pv 3)))) pa_nil)))), ?_⟩
  rintro ⟨r, c, x⟩ ⟨h0, h1, h2⟩
  have h0' : rb 1500 (r ++ [c]) := h0
  have h1' : rb 1500 x := h1
  have h2' : r.length = x.length := h2
  show SG pureL 0 _ [some (rowD (r ++ [c])), some (rowD x), none, none] _ (fun d => d = .int (valI r c x))
  rw [rowD_one (r ++ [c]), rowD_one x]
  have e1 : (r ++ [c]).map (iv (lq (r ++ [c]))) = ((r ++ [c]).map (tq (lq (r ++ [c])))).map .int := by rw [List.map_map]; rfl
  have e2 : x.map (iv (lq x)) ++ [PyData.int (lq x : Int)] = (x.map (tq (lq x)) ++ [(lq x : Int)]).map .int := by rw [List.map_append, List.map_map]; rfl
  have hz := wk_zip (L := pureL) (K := K) (k1 := false) (k2 := false) (Γ := [some (.tuple ((r ++ [c]).map (iv (lq (r ++ [c]))) ++ [.int (lq (r ++ [c]) : Int)])), some (.tuple (x.map (iv (lq x)) ++ [.int (lq x : Int)])), none, none]) (ea_cons (eg_init1 (K := K) (eg_var (i := 0) rfl)) (ea_cons (eg_var (i := 1) rfl) ea_nil))
  rw [e1, e2, zipD_map, ← e1, ← e2] at hz
  have key : valI r c x = ((((r ++ [c]).map (tq (lq (r ++ [c])))).zip (x.map (tq (lq x)) ++ [(lq x : Int)])).map fun p => p.1 * p.2).sum := by
    rw [List.map_append, List.zip_append (by simp [h2']), List.map_append, List.sum_append, List.zip_map, List.map_map]
    show _ = _ + (tq (lq (r ++ [c])) c * (lq x : Int) + 0)
    unfold valI dotI
    rw [Int.add_zero, Int.add_comm]
    rfl
  rw [key]
  refine sg_ret (eg_cb (ea_cons ?_ ea_nil) (cs_sum (ns := (((r ++ [c]).map (tq (lq (r ++ [c])))).zip (x.map (tq (lq x)) ++ [(lq x : Int)])).map fun p => p.1 * p.2))) rfl
  rw [List.map_map]
  refine eg_lcm (js := [2, 3]) hz (by simp) (by have := h1'.1; rw [List.length_zip]; refine Nat.le_trans (Nat.min_le_left _ _) ?_; rw [List.length_map]; have := h0'.1; omega) fun p hp => ⟨(fun z => by cases z), _, tg_two, eg_mul (eg_var rfl) (eg_var rfl) (mw (a := 1500) (b := 1500) ?_ ?_)⟩
  · obtain ⟨q, hq, e⟩ := List.mem_map.mp (List.of_mem_zip hp).1
    rw [← e]
    exact rb_tq h0' hq
  · rcases List.mem_append.mp (List.of_mem_zip hp).2 with z | z
    · obtain ⟨q, hq, e⟩ := List.mem_map.mp z
      rw [← e]
      exact rb_tq h1' hq
    · have e : p.2 = (lq x : Int) := by simpa using z
      rw [e]
      exact nb (rb_lq h1')

abbrev s_law_value : Stmt := top 39
abbrev n_law_value : List Str := ["row_so", "point_so"]
theorem sc_law_value : FnScope n_law_value ["row_so", "point_so"] (defScope s_law_value) := ⟨rfl, rfl, rfl, by decide +kernel, rfl, by decide +kernel, by decide +kernel⟩
def sp_law_value : Sp := sp_row_value
theorem ok_law_value {f : Addr} {fd : FuncData} (T : Bt K mg) (D : Df K mg "_law_value" s_law_value ["row_so", "point_so"] f fd)
    {f_law_fraction : Addr} {d_law_fraction : FuncData} (h_law_fraction : Cal P w K mg base "_law_fraction" s_law_fraction ["top", "bottom"] 3 sp_law_fraction f_law_fraction d_law_fraction)
    {f_law_total : Addr} {d_law_total : FuncData} (h_law_total : Cal P w K mg base "_law_total" s_law_total ["row_so", "point_so"] 1 sp_law_total f_law_total d_law_total) : Cal P w K mg base "_law_value" s_law_value ["row_so", "point_so"] 4 sp_law_value f fd := by
  refine ok_R D sc_law_value (fun _ => rfl) fun cdv A outer s H E hgd hr => ⟨_, (pss_one (ps_ret (pe_fn (E := E0) h_law_fraction.G hgd (hr.mono (by decide)) (by rfl) h_law_fraction.gm h_law_fraction.kp h_law_fraction.b (pa_cons (pe_fn (E := E0) h_law_total.G hgd (hr.mono (by decide)) (by rfl) h_law_total.gm h_law_total.kp h_law_total.b (pa_cons (pv 0) (pa_cons (pv 1) pa_nil))) (pa_cons (pe_op op_mulW (pe_ix (ix_tupK (K := K) rfl) (pv 0) (pe_un un_neg pe_int) (fun _ _ => rfl)) (pe_ix (ix_tupK (K := K) rfl) (pv 1) (pe_un un_neg pe_int) (fun _ _ => rfl))) pa_nil))))), ?_⟩
  rintro a h
  have h0' : rb 1500 (a.r ++ [a.c]) := h.1
  have h1' : rb 1500 a.x := h.2.1
  show SG pureL 0 _ [some (rowD (a.r ++ [a.c])), some (rowD a.x)] _ _
  have hl := lq_pos (a.r ++ [a.c])
  have hw := lq_pos a.x
  have hlt : lq (a.r ++ [a.c]) * lq a.x < 2 ^ 8000 := Nat.lt_of_lt_of_le (nat_mul_lt (rb_lq h0') (rb_lq h1')) (Nat.pow_le_pow_right (by decide) (by decide))
  refine sg_ret ((eg_callR (valI a.r a.c a.x, lq (a.r ++ [a.c]) * lq a.x) (ea_cons (eg_callR a (ea_cons (eg_var rfl) (ea_cons (eg_var rfl) ea_nil)) h) (ea_cons ?_ ea_nil)) ⟨Nat.mul_pos hl hw, hlt⟩).to (by show fq (rat _ _) = _; rw [rat_val])) rfl
  rw [rowD_two, rowD_one]
  exact (eg_mul (eg_ixT (eg_var rfl) (eg_neg eg_int) (at_last2 _ _ _)) (eg_ixT (eg_var rfl) (eg_neg eg_int) (atI_last _ _)) (mw (a := 1500) (b := 1500) (nb (rb_lq h0')) (nb (rb_lq h1')))).to (by rw [Int.natCast_mul])

abbrev s_law_joint : Stmt := top 40
abbrev n_law_joint : List Str := ["fractions", "bottom", "one_so"]
theorem sc_law_joint : FnScope n_law_joint ["fractions"] (defScope s_law_joint) := ⟨rfl, rfl, rfl, by decide +kernel, rfl, by decide +kernel, by decide +kernel⟩
theorem num_le {n : Nat} {qs : List Rat} (h : rb n qs) {q : Rat} (hq : q ∈ qs) : q.num.natAbs < 2 ^ n := by
  have h2 := rb_tq h hq
  have h3 := Int.natAbs_mul q.num ((lq qs / q.den : Nat) : Int)
  have h4 : 0 < lq qs / q.den := Nat.div_pos (Nat.le_of_dvd (lq_pos qs) (lq_dvd hq)) q.den_pos
  unfold tq at h2
  rw [h3, Int.natAbs_natCast] at h2
  exact Nat.lt_of_le_of_lt (Nat.le_mul_of_pos_right _ h4) h2
theorem den_le {n : Nat} {qs : List Rat} (h : rb n qs) {q : Rat} (hq : q ∈ qs) : q.den < 2 ^ n := Nat.lt_of_le_of_lt (Nat.le_of_dvd (lq_pos qs) (lq_dvd hq)) (rb_lq h)
def sp_law_joint : Sp := spR (fun qs : List Rat => [.list (qs.map fq)]) (fun qs => rb 1500 qs) fun qs => rowD qs
theorem ok_law_joint {f : Addr} {fd : FuncData} (T : Bt K mg) (D : Df K mg "_law_joint" s_law_joint ["fractions"] f fd)
    {f_law_common : Addr} {d_law_common : FuncData} (h_law_common : Cal P w K mg base "_law_common" s_law_common ["numbers_so"] 1 sp_law_common f_law_common d_law_common)
    {f_law_point : Addr} {d_law_point : FuncData} (h_law_point : Cal P w K mg base "_law_point" s_law_point ["numbers_so", "bottom"] 3 sp_law_point f_law_point d_law_point) : Cal P w K mg base "_law_joint" s_law_joint ["fractions"] 4 sp_law_joint f fd := by
  refine ok_R D sc_law_joint (fun _ => rfl) fun cdv A outer s H E hgd hr => ⟨_, (pss_cons (ps_set (i := 1) sc_law_joint.nd rfl (Or.inr rfl) pe_int)
        (pss_cons (ps_for PassesOwn.never rfl (pi_list (pv 0)) (pg_name (i := 2) sc_law_joint.nd rfl (Or.inl rfl))
        (pss_one (ps_set (i := 1) sc_law_joint.nd rfl (Or.inr rfl) (pe_op op_fdivW (pe_op op_mulW (pv 1) (pe_ix (ix_tupK (K := K) rfl) (pv 2) pe_int (fun _ _ => rfl))) (pe_fn (E := E0) h_law_common.G hgd (hr.mono (by decide)) (by rfl) h_law_common.gm h_law_common.kp h_law_common.b (pa_cons (pe_lst (pa_cons (pv 1) (pa_cons (pe_ix (ix_tupK (K := K) rfl) (pv 2) pe_int (fun _ _ => rfl)) pa_nil))) pa_nil))))))
        (pss_one (ps_ret (pe_fn (E := E0) h_law_point.G hgd (hr.mono (by decide)) (by rfl) h_law_point.gm h_law_point.kp h_law_point.b (pa_cons (pe_lc (own := [("one_so", 2)]) (g := gName 2) (tt := tYes) rfl sc_law_joint.nd (pi_list (pv 0)) (blkOk_by (own := [("one_so", 2)]) (N := n_law_joint) (sc := defScope s_law_joint) (by decide +kernel)) (fun _ _ _ _ _ => (pg_name (i := 2) sc_law_joint.nd rfl (Or.inl rfl))) (fun _ _ _ _ _ => pts_nil) (fun _ _ _ _ _ => (pe_op op_mulW (pe_ix (ix_tupK (K := K) rfl) (pv 2) pe_int (fun _ _ => rfl)) (pe_op op_fdivW (pv 1) (pe_ix (ix_tupK (K := K) rfl) (pv 2) pe_int (fun _ _ => rfl)))))) (pa_cons (pv 1) pa_nil))))))), ?_⟩
  rintro qs h0
  have h0' : rb 1500 qs := h0
  show SG pureL 0 _ [some (.list (qs.map fq)), none, none] _ _
  refine sq_asg eg_int ?_
  have hle : ∀ j, lcml ((qs.map fun (q : Rat) => q.den).take j) ≤ lq qs := fun j => Nat.le_of_dvd (lq_pos qs) (lcml_dvd fun b hb => dvd_lcml b (List.mem_of_mem_take hb))
  have hps : ∀ j, 0 < lcml ((qs.map fun (q : Rat) => q.den).take j) := fun j => lcml_pos fun b hb => by
    obtain ⟨q, _, rfl⟩ := List.mem_map.mp (List.mem_of_mem_take hb)
    exact q.den_pos
  refine sg_seq (N1 := fun G => ∃ x, G = [some (.list (qs.map fq)), some (.int (lq qs : Int)), x]) (sg_for (js := [2]) (fun i G => ∃ x, G = [some (.list (qs.map fq)), some (.int (lcml ((qs.map fun (q : Rat) => q.den).take i) : Nat)), x]) (wk_list (eg_var rfl)) ⟨none, rfl⟩ ?_ ?_) ?_
  · rintro i d G hd ⟨x, rfl⟩
    obtain ⟨q, hn, hq, rfl⟩ := map_at hd
    have hn2 : (qs.map fun (q : Rat) => q.den)[i]? = some q.den := by rw [List.getElem?_map, hn]; rfl
    generalize hL : lcml ((qs.map fun (q : Rat) => q.den).take i) = Li
    have e2 : lcml ((qs.map fun (q : Rat) => q.den).take (i + 1)) = Nat.lcm Li q.den := by rw [take_next hn2, ← hL]; unfold lcml; rw [List.foldl_append]; rfl
    have hLi : Li < 2 ^ 1500 := by rw [← hL]; exact Nat.lt_of_le_of_lt (hle i) (rb_lq h0')
    have hLp : 0 < Li := by rw [← hL]; exact hps i
    have hqd := den_le h0' hq
    have hg : gcdl [(Li : Int), (q.den : Int)] = Nat.gcd Li q.den := by
      rw [gcdl_cons, gcdl_cons]
      show Nat.gcd Li (Nat.gcd q.den 0) = _
      rw [Nat.gcd_zero_right]
    have hgp : 0 < Nat.gcd Li q.den := Nat.gcd_pos_of_pos_left _ hLp
    have hgl : Nat.gcd Li q.den < 2 ^ 1500 := Nat.lt_of_le_of_lt (Nat.le_of_dvd hLp (Nat.gcd_dvd_left _ _)) hLi
    refine ⟨_, tg_name, sg_asg ((eg_div (eg_mul (eg_var rfl) (eg_ixT (ds := [.int q.num, .int (q.den : Int)]) (eg_var rfl) eg_int rfl) (mw (a := 1500) (b := 1500) (nb hLi) (nb hqd)))
      ((eg_callR [(Li : Int), (q.den : Int)] (ea_cons (eg_lst (ds := [.int (Li : Int), .int (q.den : Int)]) (ea_cons (eg_var rfl) (ea_cons (eg_ixT (ds := [.int q.num, .int (q.den : Int)]) (eg_var rfl) eg_int rfl) ea_nil))) ea_nil) trivial).to (by rw [hg])) (wide_div (b := 1500) (by omega) (nb hgl) (by decide) (by decide))).to (d' := .int ((Nat.lcm Li q.den : Nat) : Int)) ?_) ⟨_, by rw [e2]; rfl⟩⟩
    show PyData.int ((Li : Int) * (q.den : Int) / ((Nat.gcd Li q.den : Nat) : Int)) = _
    rw [← Int.natCast_mul]
    rfl
  · rintro G ⟨x, rfl⟩
    refine ⟨x, ?_⟩
    rw [List.take_of_length_le (by simp)]
    rfl
  · rintro G ⟨x, rfl⟩
    refine sg_ret ((eg_callR (topQ qs, lq qs) (ea_cons ((eg_lcm (js := [2]) (res := iv (lq qs)) (wk_list (eg_var rfl)) (by simp) (by have := h0'.1; omega) fun q hq => ⟨(fun z => by cases z), _, tg_name, ?_⟩).to ?_) (ea_cons (eg_var rfl) ea_nil)) ⟨lq_pos qs, Nat.lt_of_lt_of_le (rb_lq h0') (Nat.pow_le_pow_right (by decide) (by decide)), by rw [topQ_len]; have := h0'.1; omega, fun z hz => ?_⟩).to ?_) rfl
    · have hd : q.den ≤ lq qs := Nat.le_of_dvd (lq_pos qs) (lq_dvd hq)
      refine (eg_mul (eg_ixT (ds := [.int q.num, .int (q.den : Int)]) (eg_var rfl) eg_int rfl) (eg_div (i := (lq qs : Int)) (j := (q.den : Int)) (eg_var rfl) (eg_ixT (ds := [.int q.num, .int (q.den : Int)]) (eg_var rfl) eg_int rfl)
        (wide_div (b := 1500) (by have := q.den_pos; omega) (nb (den_le h0' hq)) (by decide) (by decide))) (mw (a := 1500) (b := 1500) (num_le h0' hq) ?_)).to rfl
      have e3 : ((lq qs : Int) / (q.den : Int)) = ((lq qs / q.den : Nat) : Int) := rfl
      rw [e3, Int.natAbs_natCast]
      exact Nat.lt_of_le_of_lt (Nat.div_le_self _ _) (rb_lq h0')
    · unfold lI
      rw [topQ_eq, List.map_map]
      rfl
    · show rowD (over (topQ qs) (lq qs)) = rowD qs
      rw [over_top]
    · rw [topQ_eq] at hz
      obtain ⟨q, hq, rfl⟩ := List.mem_map.mp hz
      exact Nat.lt_of_lt_of_le (rb_tq h0' hq) (Nat.pow_le_pow_right (by decide) (by decide))

abbrev s_law_added : Stmt := top 41
abbrev n_law_added : List Str := ["one_so", "other_so", "times"]
theorem sc_law_added : FnScope n_law_added ["one_so", "other_so", "times"] (defScope s_law_added) := ⟨rfl, rfl, rfl, by decide +kernel, rfl, by decide +kernel, by decide +kernel⟩
structure AQ where
  p : Rat
  q : Rat
  t : Int
def sp_law_added : Sp := spR (fun a : AQ => [fq a.p, fq a.q, .int a.t]) (fun a => a.p.num.natAbs < 2 ^ 3000 ∧ a.p.den < 2 ^ 3000 ∧ a.q.num.natAbs < 2 ^ 3000 ∧ a.q.den < 2 ^ 3000 ∧ a.t.natAbs < 2 ^ 2) fun a => fq (a.p + a.t * a.q)
theorem rat_added (p q : Rat) (t : Int) : rat (p.num * (q.den : Int) + t * q.num * (p.den : Int)) (p.den * q.den) = p + t * q := by
  have e : ∀ q : Rat, ((q.num : Int) : Rat) = q * (q.den : Rat) := fun q => by
    have h := rat_cast (a := q.num) q.den_pos
    rw [show rat q.num q.den = q from Rat.mkRat_self q] at h
    exact h
  refine rat_of (Nat.mul_pos p.den_pos q.den_pos) ?_
  rw [Rat.intCast_add, Rat.intCast_mul, Rat.intCast_mul, Rat.intCast_mul, e p, e q, Rat.natCast_mul, Rat.intCast_natCast, Rat.intCast_natCast]
  grind
theorem ok_law_added {f : Addr} {fd : FuncData} (T : Bt K mg) (D : Df K mg "_law_added" s_law_added ["one_so", "other_so", "times"] f fd)
    {f_law_fraction : Addr} {d_law_fraction : FuncData} (h_law_fraction : Cal P w K mg base "_law_fraction" s_law_fraction ["top", "bottom"] 3 sp_law_fraction f_law_fraction d_law_fraction) : Cal P w K mg base "_law_added" s_law_added ["one_so", "other_so", "times"] 4 sp_law_added f fd := by
  refine ok_R D sc_law_added (fun _ => rfl) fun cdv A outer s H E hgd hr => ⟨_, (pss_one (ps_ret (pe_fn (E := E0) h_law_fraction.G hgd (hr.mono (by decide)) (by rfl) h_law_fraction.gm h_law_fraction.kp h_law_fraction.b (pa_cons (pe_op op_add (pe_op op_mulW (pe_ix (ix_tupK (K := K) rfl) (pv 0) pe_int (fun _ _ => rfl)) (pe_ix (ix_tupK (K := K) rfl) (pv 1) pe_int (fun _ _ => rfl))) (pe_op op_mulW (pe_op op_mulW (pv 2) (pe_ix (ix_tupK (K := K) rfl) (pv 1) pe_int (fun _ _ => rfl))) (pe_ix (ix_tupK (K := K) rfl) (pv 0) pe_int (fun _ _ => rfl)))) (pa_cons (pe_op op_mulW (pe_ix (ix_tupK (K := K) rfl) (pv 0) pe_int (fun _ _ => rfl)) (pe_ix (ix_tupK (K := K) rfl) (pv 1) pe_int (fun _ _ => rfl))) pa_nil))))), ?_⟩
  rintro ⟨p, q, t⟩ ⟨h0, h1, h2, h3, h4⟩
  have h0' : p.num.natAbs < 2 ^ 3000 := h0
  have h1' : p.den < 2 ^ 3000 := h1
  have h2' : q.num.natAbs < 2 ^ 3000 := h2
  have h3' : q.den < 2 ^ 3000 := h3
  have h4' : t.natAbs < 2 ^ 2 := h4
  show SG pureL 0 _ [some (.tuple [.int p.num, .int (p.den : Int)]), some (.tuple [.int q.num, .int (q.den : Int)]), some (.int t)] _ (fun d => d = fq (p + t * q))
  refine sg_ret ((eg_callR (p.num * (q.den : Int) + t * q.num * (p.den : Int), p.den * q.den) (ea_cons (eg_add (eg_mul (eg_ixT (eg_var rfl) eg_int rfl) (eg_ixT (eg_var rfl) eg_int rfl) (mw (a := 3000) (b := 3000) h0' (nb h3'))) (eg_mul (eg_mul (eg_var rfl) (eg_ixT (eg_var rfl) eg_int rfl) (mw (a := 2) (b := 3000) h4' h2')) (eg_ixT (eg_var rfl) eg_int rfl) (mw (a := 3002) (b := 3000) (wide_lt h4' h2') (nb h1'))))
    (ea_cons ((eg_mul (eg_ixT (eg_var rfl) eg_int rfl) (eg_ixT (eg_var rfl) eg_int rfl) (mw (a := 3000) (b := 3000) (nb h1') (nb h3'))).to (by rw [Int.natCast_mul])) ea_nil)) ⟨Nat.mul_pos p.den_pos q.den_pos, Nat.lt_of_lt_of_le (nat_mul_lt h1' h3') (Nat.pow_le_pow_right (by decide) (by decide))⟩).to ?_) rfl
  show fq (rat _ _) = _
  rw [rat_added]

abbrev s_law_shares : Stmt := top 44
abbrev n_law_shares : List Str := ["line", "number"]
theorem sc_law_shares : FnScope n_law_shares ["line"] (defScope s_law_shares) := ⟨rfl, rfl, rfl, by decide +kernel, rfl, by decide +kernel, by decide +kernel⟩
def sp_law_shares : Sp := spR (fun qs : List Rat => [rowD qs]) (fun qs => rb 1500 qs) fun qs => .list (qs.map fq)
theorem ok_law_shares {f : Addr} {fd : FuncData} (T : Bt K mg) (D : Df K mg "_law_shares" s_law_shares ["line"] f fd)
    {f_law_fraction : Addr} {d_law_fraction : FuncData} (h_law_fraction : Cal P w K mg base "_law_fraction" s_law_fraction ["top", "bottom"] 3 sp_law_fraction f_law_fraction d_law_fraction) : Cal P w K mg base "_law_shares" s_law_shares ["line"] 4 sp_law_shares f fd := by
  refine ok_R D sc_law_shares (fun _ => rfl) fun cdv A outer s H E hgd hr => ⟨_, (pss_one (ps_ret (pe_lc (own := [("number", 1)]) (g := gName 1) (tt := tYes) rfl sc_law_shares.nd (pi_tup (pe_slice sl_tup (pv 0) po_none (po_some (pe_un un_neg pe_int)))) (blkOk_by (own := [("number", 1)]) (N := n_law_shares) (sc := defScope s_law_shares) (by decide +kernel)) (fun _ _ _ _ _ => (pg_name (i := 1) sc_law_shares.nd rfl (Or.inl rfl))) (fun _ _ _ _ _ => pts_nil) (fun _ _ _ _ _ => (pe_fn (E := E0) h_law_fraction.G hgd (hr.mono (by decide)) (by rfl) h_law_fraction.gm h_law_fraction.kp h_law_fraction.b (pa_cons (pv 1) (pa_cons (pe_ix (ix_tupK (K := K) rfl) (pv 0) (pe_un un_neg pe_int) (fun _ _ => rfl)) pa_nil))))))), ?_⟩
  rintro qs h0
  have h0' : rb 1500 qs := h0
  show SG pureL 0 _ [some (rowD qs), none] _ _
  rw [rowD_one]
  have hl := lq_pos qs
  refine sg_ret (eg_lcm (xs := qs) (enc := iv (lq qs)) (res := fq) (js := [1]) (wk_tup (eg_init1 (eg_var rfl))) (by simp) (by have := h0'.1; omega) fun q hq => ?_) rfl
  have hr := eg_callR (L := pureL) (Γ := [some (.tuple (qs.map (iv (lq qs)) ++ [.int (lq qs : Int)])), some (iv (lq qs) q)]) (E := E0) (args := fun p : Int × Nat => [.int p.1, .int (p.2 : Int)]) (ok := fun p => 0 < p.2 ∧ p.2 < 2 ^ 8000) (val := fun p => fq (rat p.1 p.2)) (tq (lq qs) q, lq qs)
    (ea_cons (eg_var (i := 1) rfl) (ea_cons (eg_ixT (K := K) (eg_var (i := 0) rfl) (eg_neg (eg_int (i := 1))) (atI_last _ _)) ea_nil)) ⟨hl, Nat.lt_of_lt_of_le (rb_lq h0') (Nat.pow_le_pow_right (by decide) (by decide))⟩
  exact ⟨(fun z => by cases z), _, tg_name, hr.to (by show fq (rat (tq (lq qs) q) (lq qs)) = fq q; rw [tq_rat hl (lq_dvd hq)])⟩

abbrev s_law_made : Stmt := top 45
abbrev n_law_made : List Str := ["parts", "low", "pair"]
theorem sc_law_made : FnScope n_law_made ["parts"] (defScope s_law_made) := ⟨rfl, rfl, rfl, by decide +kernel, rfl, by decide +kernel, by decide +kernel⟩
def lowP (qs : List Rat) : Nat := (qs.map fun (q : Rat) => q.den).foldl (fun l b => l * b) 1
theorem lowP_snoc (qs : List Rat) (q : Rat) : lowP (qs ++ [q]) = lowP qs * q.den := by
  unfold lowP
  rw [List.map_append, List.foldl_append]
  rfl
theorem lowP_lt {n : Nat} : ∀ {qs : List Rat}, (∀ q ∈ qs, q.den < 2 ^ n) → 0 < n → lowP qs < 2 ^ (n * qs.length + 1) := by
  intro qs
  have key : ∀ (qs : List Rat) (l m : Nat), l < 2 ^ m → (∀ q ∈ qs, q.den < 2 ^ n) → (qs.map fun (q : Rat) => q.den).foldl (fun l b => l * b) l < 2 ^ (n * qs.length + m) := by
    intro qs
    induction qs with
    | nil => intro l m hl _; simpa using hl
    | cons q r ih =>
      intro l m hl hq
      rw [List.map_cons, List.foldl_cons, List.length_cons]
      have h := ih (l * q.den) (m + n) (nat_mul_lt hl (hq q List.mem_cons_self)) fun x hx => hq x (List.mem_cons_of_mem _ hx)
      have e : n * r.length + (m + n) = n * (r.length + 1) + m := by rw [Nat.mul_succ]; omega
      rw [e] at h
      exact h
  intro h _
  exact key qs 1 1 (by decide) h
theorem lowP_dvd : ∀ {qs : List Rat} {q : Rat}, q ∈ qs → q.den ∣ lowP qs := by
  intro qs q hq
  have key : ∀ (qs : List Rat) (l : Nat), l ∣ (qs.map fun (q : Rat) => q.den).foldl (fun l b => l * b) l ∧ ∀ q ∈ qs, q.den ∣ (qs.map fun (q : Rat) => q.den).foldl (fun l b => l * b) l := by
    intro qs
    induction qs with
    | nil => intro l; exact ⟨Nat.dvd_refl _, fun q hq => by simp at hq⟩
    | cons x r ih =>
      intro l
      rw [List.map_cons, List.foldl_cons]
      obtain ⟨h1, h2⟩ := ih (l * x.den)
      refine ⟨Nat.dvd_trans (Nat.dvd_mul_right _ _) h1, fun q hq => ?_⟩
      rcases List.mem_cons.mp hq with rfl | hq
      · exact Nat.dvd_trans (Nat.dvd_mul_left _ _) h1
      · exact h2 q hq
  exact (key qs 1).2 q hq
theorem lowP_pos (qs : List Rat) : 0 < lowP qs := by
  have key : ∀ (qs : List Rat) (l : Nat), 0 < l → 0 < (qs.map fun (q : Rat) => q.den).foldl (fun l b => l * b) l := by
    intro qs
    induction qs with
    | nil => intro l h; exact h
    | cons x r ih => intro l h; rw [List.map_cons, List.foldl_cons]; exact ih _ (Nat.mul_pos h x.den_pos)
  exact key qs 1 Nat.one_pos
theorem over_low (qs : List Rat) : over (qs.map (tq (lowP qs))) (lowP qs) = qs := by
  unfold over
  rw [List.map_map]
  calc qs.map ((fun n => rat n (lowP qs)) ∘ tq (lowP qs)) = qs.map id := List.map_congr_left fun q hq => tq_rat (lowP_pos qs) (lowP_dvd hq)
    _ = qs := List.map_id qs
def okM (qs : List Rat) : Prop := qs.length ≤ 6 ∧ ∀ q ∈ qs, q.num.natAbs < 2 ^ 1000 ∧ q.den < 2 ^ 1000
def sp_law_made : Sp := spR (fun qs : List Rat => [.list (qs.map fq)]) okM fun qs => rowD qs
theorem ok_law_made {f : Addr} {fd : FuncData} (T : Bt K mg) (D : Df K mg "_law_made" s_law_made ["parts"] f fd)
    {f_law_rowed : Addr} {d_law_rowed : FuncData} (h_law_rowed : Cal P w K mg base "_law_rowed" s_law_rowed ["numbers_so", "bottom"] 3 sp_law_rowed f_law_rowed d_law_rowed) : Cal P w K mg base "_law_made" s_law_made ["parts"] 4 sp_law_made f fd := by
  refine ok_R D sc_law_made (fun _ => rfl) fun cdv A outer s H E hgd hr => ⟨_, (pss_cons (ps_set (i := 1) sc_law_made.nd rfl (Or.inr rfl) pe_int)
        (pss_cons (ps_for PassesOwn.never rfl (pi_list (pv 0)) (pg_name (i := 2) sc_law_made.nd rfl (Or.inl rfl))
        (pss_one (ps_set (i := 1) sc_law_made.nd rfl (Or.inr rfl) (pe_op op_mulW (pv 1) (pe_ix (ix_tupK (K := K) rfl) (pv 2) pe_int (fun _ _ => rfl))))))
        (pss_one (ps_ret (pe_fn (E := E0) h_law_rowed.G hgd (hr.mono (by decide)) (by rfl) h_law_rowed.gm h_law_rowed.kp h_law_rowed.b (pa_cons (pe_lc (own := [("pair", 2)]) (g := gName 2) (tt := tYes) rfl sc_law_made.nd (pi_list (pv 0)) (blkOk_by (own := [("pair", 2)]) (N := n_law_made) (sc := defScope s_law_made) (by decide +kernel)) (fun _ _ _ _ _ => (pg_name (i := 2) sc_law_made.nd rfl (Or.inl rfl))) (fun _ _ _ _ _ => pts_nil) (fun _ _ _ _ _ => (pe_op op_mulW (pe_ix (ix_tupK (K := K) rfl) (pv 2) pe_int (fun _ _ => rfl)) (pe_op op_fdivW (pv 1) (pe_ix (ix_tupK (K := K) rfl) (pv 2) pe_int (fun _ _ => rfl)))))) (pa_cons (pv 1) pa_nil))))))), ?_⟩
  rintro qs ⟨h0, h1⟩
  show SG pureL 0 _ [some (.list (qs.map fq)), none, none] _ _
  have hlow : ∀ i, lowP (qs.take i) < 2 ^ 6001 := fun i => Nat.lt_of_lt_of_le (lowP_lt (n := 1000) (fun q hq => (h1 q (List.mem_of_mem_take hq)).2) (by decide)) (Nat.pow_le_pow_right (by decide) (by
    have : (qs.take i).length ≤ 6 := by rw [List.length_take]; omega
    omega))
  have hl6 : lowP qs < 2 ^ 6001 := by
    have := hlow qs.length
    rwa [List.take_length] at this
  refine sq_asg eg_int ?_
  refine sg_seq (N1 := fun G => ∃ x, G = [some (.list (qs.map fq)), some (.int (lowP qs : Int)), x]) (sg_for (js := [2]) (fun i G => ∃ x, G = [some (.list (qs.map fq)), some (.int (lowP (qs.take i) : Nat)), x]) (wk_list (eg_var rfl)) ⟨none, rfl⟩ ?_ ?_) ?_
  · rintro i d G hd ⟨x, rfl⟩
    obtain ⟨q, hn, hq, rfl⟩ := map_at hd
    refine ⟨_, tg_name, sg_asg ((eg_mul (eg_var rfl) (eg_ixT (ds := [.int q.num, .int (q.den : Int)]) (eg_var rfl) eg_int rfl) (mw (a := 6001) (b := 1000) (nb (hlow i)) (nb (h1 q hq).2))).to (d' := .int ((lowP (qs.take (i + 1)) : Nat) : Int)) ?_) ⟨_, rfl⟩⟩
    rw [take_next hn, lowP_snoc, Int.natCast_mul]
  · rintro G ⟨x, rfl⟩
    refine ⟨x, ?_⟩
    rw [List.length_map, List.take_length]
  · rintro G ⟨x, rfl⟩
    refine sg_ret ((eg_callR (qs.map (tq (lowP qs)), lowP qs) (ea_cons ((eg_lcm (js := [2]) (res := iv (lowP qs)) (wk_list (eg_var rfl)) (by simp) (by omega) fun q hq => ⟨(fun z => by cases z), _, tg_name, ?_⟩).to ?_) (ea_cons (eg_var rfl) ea_nil)) ⟨lowP_pos qs, Nat.lt_of_lt_of_le hl6 (Nat.pow_le_pow_right (by decide) (by decide)), by rw [List.length_map]; omega, fun z hz => ?_⟩).to ?_) rfl
    · refine (eg_mul (eg_ixT (ds := [.int q.num, .int (q.den : Int)]) (eg_var rfl) eg_int rfl) (eg_div (i := (lowP qs : Int)) (j := (q.den : Int)) (eg_var rfl) (eg_ixT (ds := [.int q.num, .int (q.den : Int)]) (eg_var rfl) eg_int rfl)
        (wide_div (b := 1000) (by have := q.den_pos; omega) (nb (h1 q hq).2) (by decide) (by decide))) (mw (a := 1000) (b := 6001) (h1 q hq).1 ?_)).to rfl
      have e3 : ((lowP qs : Int) / (q.den : Int)) = ((lowP qs / q.den : Nat) : Int) := rfl
      rw [e3, Int.natAbs_natCast]
      exact Nat.lt_of_le_of_lt (Nat.div_le_self _ _) hl6
    · unfold lI
      rw [List.map_map]
      rfl
    · show rowD (over (qs.map (tq (lowP qs))) (lowP qs)) = rowD qs
      rw [over_low]
    · obtain ⟨q, hq, rfl⟩ := List.mem_map.mp hz
      unfold tq
      rw [Int.natAbs_mul, Int.natAbs_natCast]
      exact Nat.lt_of_lt_of_le (nat_mul_lt (h1 q hq).1 (Nat.lt_of_le_of_lt (Nat.div_le_self _ _) hl6)) (Nat.pow_le_pow_right (by decide) (by decide))

end V1
set_option Elab.async false
set_option linter.all false
set_option maxRecDepth 100000
set_option maxHeartbeats 4000000
/-! A list made here is written. -/
namespace V1
open PySem PySem.Spec PyProof.Rows L2
def FrS (H0 : Hp) (j : Nat) (σ : L2.St) : Prop := ∃ p, σ[j]? = some (some (V.ref p)) ∧ H0 p = none
def SF (L : Rl) (j : Nat) (ts : TS) (Γ : List (Option PyData)) (N : List (Option PyData) → Prop) : Prop := ∀ (H0 : Hp) A σ H, Inn A H → EnvOk L A σ H Γ → L.G 0 H → L.R 0 H0 H → FrS H0 j σ → ∀ D : Ends,
  (∀ σ' H' Γ', L.R 0 H H' → EnvOk L A σ' H' Γ' → FrS H0 j σ' → N Γ' → D.nx σ' H') → ts D σ H
def SW (L : Rl) (j : Nat) (ts : TS) (Γ : List (Option PyData)) (N : List (Option PyData) → Prop) : Prop := ∀ (H0 : Hp) A σ H, Inn A H → EnvOk L A σ H Γ → L.G 0 H → L.R 0 H0 H → FrS H0 j σ → ∀ D : Ends,
  (∀ σ' H' Γ', L.R 0 H0 H' → EnvOk L A σ' H' Γ' → N Γ' → D.nx σ' H') → ts D σ H
section
variable {L : Rl} {Γ : List (Option PyData)} {te : TE} {ts tf ta u : TS} {d : PyData} {i j : Nat} {N N1 N2 : List (Option PyData) → Prop} {Rt : PyData → Prop} {K : PySem.W.Frag}
theorem sf_asg (hij : i ≠ j) (h : EvD L te Γ d) (k : N (Γ.set i (some d))) : SF L j (tAsg te (gName i)) Γ N := fun H0 A σ H hi he hg r0 ⟨p, hp, hn⟩ D q => h A σ H hi he hg _ fun v d' H1 r hv e => by
  subst e
  exact q _ H1 _ r ((he.r r).set hv i) ⟨p, by rw [List.getElem?_set_ne hij]; exact hp, hn⟩ k
theorem sf_asgF (h : EvF L 0 te Γ (fun x => x = d)) (k : N (Γ.set j (some d))) : SF L j (tAsg te (gName j)) Γ N := fun H0 A σ H hi he hg r0 ⟨p, hp, hn⟩ D q => h A σ H hi he hg _ fun p1 d' H1 r hf hv e => by
  subst e
  exact q _ H1 _ r ((he.r r).set hv j) ⟨p1, List.getElem?_set_self (List.getElem?_eq_some_iff.mp hp).1, L.free r0 hf⟩ k
theorem sf_seq (h : SF L j ts Γ N1) (k : ∀ G, N1 G → SF L j u G N) : SF L j (tSeq ts u) Γ N := fun H0 A σ H hi he hg r0 hf D q => h H0 A σ H hi he hg r0 hf { D with nx := u D } fun σ1 H1 G r e f p =>
  k G p H0 A σ1 H1 (hi.r r) e (Rl.gR (b := 0) hg r) (L.tr (a := 0) (b := 0) r0 r) f D fun σ2 H2 G2 r2 e2 f2 p2 => q σ2 H2 G2 (L.tr (a := 0) (b := 0) r r2) e2 f2 p2
theorem wipe_get {σ : L2.St} {j : Nat} : ∀ {vs : List Nat}, j ∉ vs → (wipe σ vs)[j]? = σ[j]?
  | [], _ => rfl
  | v :: vs, h => by
    show ((wipe σ vs).set v none)[j]? = _
    rw [List.getElem?_set_ne (fun z => h (by rw [z]; exact List.mem_cons_self))]
    exact wipe_get fun z => h (List.mem_cons_of_mem _ z)
theorem sf_for {wi : TI} {g : TG} {js : List Nat} {items : List PyData} (I : Nat → List (Option PyData) → Prop) (hjs : j ∉ js) (hw : WkD L wi Γ items) (h0 : I 0 Γ)
    (hb : ∀ (i : Nat) d Γi, items[i]? = some d → I i Γi → ∃ Γ', TgG L g js d Γi Γ' ∧ SF L j ts Γ' (I (i + 1))) (hN : ∀ Γe, I items.length Γe → N Γe) : SF L j (tFor wi g ts) Γ N := fun H0 A σ H hi he hg r0 hf D q1 =>
  hw A σ H hi he hg _ fun J H1 its r1 hp jk => by
  subst hp
  refine ⟨fun i m σ2 H2 => m = its.length - i ∧ i ≤ its.length ∧ L.R 0 H H2 ∧ Kp H1 H2 ∧ FrS H0 j σ2 ∧ ∃ Γi, EnvOk L A σ2 H2 Γi ∧ I i Γi, ⟨its.length, ?_⟩, ?_⟩
  · exact ⟨by omega, Nat.zero_le _, r1, fun b o e k => e, hf, Γ, he.r r1, h0⟩
  · rintro i m σ2 H2 ⟨rfl, hle, r2, k2, f2, Γi, e2, p2⟩
    have g2 : L.G 0 H2 := Rl.gR (b := 0) hg r2
    by_cases hlt : i < its.length
    · refine .inr ⟨jk.go i H2 k2 hlt, fun σ3 H3 => i + 1 ≤ its.length ∧ L.R 0 H H3 ∧ Kp H1 H3 ∧ FrS H0 j σ3 ∧ ∃ Γi, EnvOk L A σ3 H3 Γi ∧ I (i + 1) Γi, fun σ3 H3 h3 => ⟨its.length - (i + 1), by omega, rfl, h3⟩, fun x H3 y => ?_⟩
      have naD : ∀ b, A b → H2 b ≠ none := fun b z => hi.r r2 b z
      obtain ⟨d, hd, sm, hdv⟩ := jk.yld i H2 x H3 k2 naD y hlt
      obtain ⟨Γ', htg, hs⟩ := hb i d Γi hd p2
      have r3 : L.R 0 H2 H3 := L.same g2 sm
      have r23 : L.R 0 H H3 := L.tr (a := 0) (b := 0) r2 r3
      have dx : Dv A H3 x d := hdv A naD fun b o na e _ => na
      refine htg A x σ2 H3 dx (e2.r r3) _ fun σ4 e4 w4 => ?_
      obtain ⟨p, hp, hn⟩ := f2
      have f4 : FrS H0 j σ4 := by
        refine ⟨p, ?_, hn⟩
        have hw4 := w4 js fun k hk => hk
        rw [← wipe_get hjs, hw4, wipe_get hjs]
        exact hp
      refine hs H0 A σ4 H3 (fun b z y => naD b z (L.free r3 y)) e4 (Rl.gR (b := 0) g2 r3) (L.tr (a := 0) (b := 0) r0 r23) f4 { D with nx := _, ct := _, bk := D.nx } (fun σ5 H5 Γ5 r5 e6 f5 p5 => ?_)
      exact ⟨hlt, L.tr (a := 0) (b := 0) r23 r5, fun b o e k => L.keep r5 (sm _ _ (k2 b o e k)) k, f5, Γ5, e6, p5⟩
    · have e : i = its.length := by omega
      subst e
      exact .inl ⟨jk.stop H2 k2, q1 σ2 H2 Γi r2 e2 f2 (hN Γi p2)⟩
/-- made, filled, written, and on -/
theorem sg_grown (hj : j < Γ.length) (h1 : EvF L 0 te Γ (fun x => x = d)) (h2 : SF L j tf (Γ.set j (some d)) N1) (h3 : ∀ G, N1 G → SW L j ta G N2) (h4 : ∀ G, N2 G → SG L 0 u G N Rt) : SG L 0 (tSeq (tAsg te (gName j)) (tSeq tf (tSeq ta u))) Γ N Rt := fun A σ H hi he hg D q1 q2 =>
  h1 A σ H hi he hg _ fun p d' H1 r1 hf hv e => by
  subst e
  have fr : FrS H j (σ.set j (some (V.ref p))) := ⟨p, List.getElem?_set_self (by rw [he.1]; exact hj), hf⟩
  refine h2 H A _ H1 (hi.r r1) ((he.r r1).set hv j) (Rl.gR (b := 0) hg r1) r1 fr { D with nx := _ } fun σ2 H2 G2 r2 e2 f2 p2 => ?_
  have r12 : L.R 0 H H2 := L.tr (a := 0) (b := 0) r1 r2
  refine h3 G2 p2 H A σ2 H2 (hi.r r12) e2 (Rl.gR (b := 0) hg r12) r12 f2 { D with nx := _ } fun σ3 H3 G3 r3 e3 p3 => ?_
  exact h4 G3 p3 A σ3 H3 (hi.r r3) e3 (Rl.gR (b := 0) hg r3) D (fun σ4 H4 G4 r4 e4 p4 => q1 σ4 H4 G4 (L.tr (a := 0) (b := 0) r3 r4) e4 p4) fun v d H4 r4 e4 p4 => q2 v d H4 (L.tr (a := 0) (b := 0) r3 r4) e4 p4
theorem DvAll.ofInts {A : Addr → Prop} {H : Hp} (ns : List Int) : DvAll A H (ns.map V.int) (ns.map PyData.int) := by
  induction ns with
  | nil => exact .nil
  | cons n r ih => exact .cons (.int n) ih
theorem sw_aug {ti : TE} {ns : List Int} {m e : Int} {Γ2 : List (Option PyData)} (hΓ : Γ[j]? = some (some (lI (ns ++ [m])))) (hi2 : EvD L ti Γ (.int (-1))) (he2 : EvD L te Γ (.int e)) (hl : Γ2.length = Γ.length)
    (h2 : ∀ (i : Nat) d, Γ2[i]? = some (some d) → (i = j ∧ d = lI (ns ++ [m + e])) ∨ (Γ[i]? = some (some d) ∧ ((∃ zs, d = tI zs) ∨ ∃ z, d = .int z))) :
    SW L j (tAugS (tVar j) ti te (rIxL K) (ipI fun i j => i + j) rSetL) Γ (fun G => G = Γ2) := fun H0 A σ H hi he hg r0 ⟨p, hp, hn⟩ D q => by
  obtain ⟨v, hv, dv⟩ := he.2 j _ hΓ
  rw [hp] at hv
  have ev : V.ref p = v := Option.some.inj (Option.some.inj hv)
  subst ev
  refine ⟨V.ref p, hp, ?_⟩
  refine hi2 A σ H hi he hg _ fun vi d1 H1 r1 hvi p1 => ?_
  subst p1
  obtain rfl := hvi.int
  obtain ⟨p', xs, ep, na, eH, rr⟩ := (dv.r r1).list
  have ep' : p = p' := by injection ep
  subst ep'
  have ex := rr.ints
  subst ex
  have hix : ixN ((ns ++ [m]).map V.int).length (-1) = some ns.length := by
    unfold ixN
    rw [List.length_map, List.length_append]
    rw [List.length_singleton, if_neg (by decide), if_pos (by omega)]
    congr 1
    omega
  refine ⟨p, (ns ++ [m]).map V.int, -1, .int m, rfl, rfl, SqL.of eH, ?_, ?_⟩
  · unfold atI
    rw [hix]
    simp
  refine he2 A σ H1 (hi.r r1) (he.r r1) (Rl.gR (b := 0) hg r1) _ fun vy d2 H2 r2 hvy p2 => ?_
  subst p2
  obtain rfl := hvy.int
  have eH2 : H2 p = some (.lst ((ns ++ [m]).map V.int)) := L.keep r2 eH (fun kvs z => by cases z)
  have r02 : L.R 0 H0 H2 := L.tr (a := 0) (b := 0) (L.tr (a := 0) (b := 0) r0 r1) r2
  have he3 : EnvOk L A σ H2 Γ := (he.r r1).r r2
  refine ⟨m, e, rfl, rfl, p, _, -1, ns.length, rfl, rfl, eH2, hix, ?_⟩
  refine q σ _ Γ2 (L.fresh r02 hn) ⟨by rw [hl]; exact he.1, fun i d hd => ?_⟩ rfl
  have es : ((ns ++ [m]).map V.int).set ns.length (V.int (m + e)) = (ns ++ [m + e]).map V.int := by simp
  rw [es]
  rcases h2 i d hd with ⟨rfl, rfl⟩ | ⟨h3, h4⟩
  · exact ⟨V.ref p, hp, .inr (.lst na upd_same (DvAll.ofInts _))⟩
  · obtain ⟨v, hv, dv⟩ := he3.2 i d h3
    refine ⟨v, hv, ?_⟩
    rcases h4 with ⟨zs, rfl⟩ | ⟨z, rfl⟩
    · obtain ⟨a, xs, rfl, na2, ea, ra⟩ := dv.tuple
      have ne : a ≠ p := fun z => by
        rw [z, eH2] at ea
        cases ea
      refine .inr (.tup na2 (by rw [upd_ne ne]; exact ea) ?_)
      rw [ra.ints]
      exact DvAll.ofInts _
    · obtain rfl := dv.int
      exact .inr (.int z)
theorem os_repF {ds : List PyData} {i : Int} {ta tb : TE} (ha : EvD L ta Γ (.list ds)) (hb : EvD L tb Γ (.int i)) (h0 : 0 ≤ i) (h1 : i ≤ 1000) (hl : ds.length ≤ 100) : EvF L 0 (tOp rRep ta tb) Γ (fun x => x = .list (List.replicate i.toNat ds).flatten) := fun A σ H hi he hg Q q =>
  ha A σ H hi he hg _ fun x d1 H1 r1 hx p1 => hb A σ H1 (hi.r r1) (he.r r1) (Rl.gR (b := 0) hg r1) _ fun y d2 H2 r2 hy p2 => by
    subst p1 p2
    obtain ⟨p, xs, rfl, na, e, r⟩ := (hx.r r2).list
    obtain rfl := hy.int
    have r12 : L.R 0 H H2 := L.tr (a := 0) (b := 0) r1 r2
    refine ⟨p, i, xs, rfl, rfl, e, by omega, by omega, Nat.le_trans (Nat.mul_le_mul (by rw [r.length]; exact hl) (show i.toNat ≤ 1000 by omega)) (by decide), fun l hl2 => ?_⟩
    have rr := Rl.newR (o := .lst (List.replicate i.toNat xs).flatten) (Rl.gR (b := 0) hg r12) hl2
    exact q l _ _ (L.tr (a := 0) (b := 0) r12 rr) (L.free r12 hl2) (.inr (.lst ((hi.r r12).no hl2) upd_same ((r.rep _).r rr))) rfl
theorem eg_lcmF {α : Type} {wi : TI} {g : TG} {js vs : List Nat} {xs : List α} {enc res : α → PyData} (hw : WkD L wi Γ (xs.map enc)) (hj : ∀ j ∈ js, j ∈ vs) (hlen : xs.length ≤ 1000)
    (hb : ∀ x ∈ xs, res x ≠ mark ∧ ∃ Γ', TgG L g js (enc x) (wipeD Γ vs) Γ' ∧ EvD L te Γ' (res x)) : EvF L 0 (tLc wi g tYes te vs) Γ (fun x => x = .list (xs.map res)) :=
  eg_lcF hw hj (by rw [List.length_map]; exact hlen) (by rw [List.length_map, List.length_map]) fun i d r hd hr => by
    rw [List.getElem?_map] at hd hr
    cases hx : xs[i]? with
    | none => rw [hx] at hd; cases hd
    | some x =>
      rw [hx] at hd hr
      have e1 : enc x = d := Option.some.inj hd
      have e2 : res x = r := Option.some.inj hr
      subst e1 e2
      exact hb x (List.mem_of_getElem? hx)
end
end V1
set_option Elab.async false
set_option linter.all false
set_option maxRecDepth 100000
set_option maxHeartbeats 4000000
namespace V1
open PySem PySem.Spec PyProof.Rows L2
variable {P : Program} {w : World} {K : PySem.W.Frag} {mg : Str → Option Value} {base : Heap}
/-- a row at the values of rows, by steps -/
def thStep (acc : List Rat) (p : Rat × List Rat) : List Rat := (acc.zip p.2).map fun z => z.1 + p.1 * z.2
def thQ (n : Nat) (ps : List (Rat × List Rat)) : List Rat := ps.foldl thStep (List.replicate n 0)
def thStepI (w B : Nat) (acc : List Int) (p : Rat × List Rat) : List Int := (acc.zip p.2).map fun z => z.1 + tq w p.1 * ((B / lq p.2 : Nat) : Int) * tq (lq p.2) z.2
def thI (w B n : Nat) (ps : List (Rat × List Rat)) : List Int := ps.foldl (thStepI w B) (List.replicate n 0)
def castQ (l : Nat) (ns : List Int) (qs : List Rat) : Prop := ns.map (fun (z : Int) => (z : Rat)) = qs.map fun q => q * (l : Rat)
theorem over_cast {l : Nat} (hl : 0 < l) : ∀ {ns : List Int} {qs : List Rat}, castQ l ns qs → over ns l = qs
  | [], [], _ => rfl
  | [], q :: qs, h => by cases h
  | n :: ns, [], h => by cases h
  | n :: ns, q :: qs, h => by
    unfold castQ at h
    rw [List.map_cons, List.map_cons] at h
    injection h with h1 h2
    have h3 := over_cast (ns := ns) (qs := qs) hl h2
    unfold over at h3 ⊢
    rw [List.map_cons, h3, rat_of hl h1]
theorem castQ.len {l : Nat} {ns : List Int} {qs : List Rat} (h : castQ l ns qs) : ns.length = qs.length := by
  have := congrArg List.length h
  rwa [List.length_map, List.length_map] at this
theorem step_cast {w B : Nat} {p : Rat × List Rat} (hw : 0 < w) (hB : 0 < B) (h1 : p.1.den ∣ w) (h2 : lq p.2 ∣ B) {acc : List Int} {acc2 : List Rat} (h : castQ (w * B) acc acc2) : castQ (w * B) (thStepI w B acc p) (thStep acc2 p) := by
  obtain ⟨a, l⟩ := p
  have hl := lq_pos l
  have hk : ((B / lq l : Nat) : Rat) * (lq l : Rat) = (B : Rat) := by
    rw [← Rat.natCast_mul, Nat.div_mul_cancel h2]
  have key : ∀ (xs : List Rat) (acc : List Int) (acc2 : List Rat), (∀ x ∈ xs, x.den ∣ lq l) → castQ (w * B) acc acc2 → castQ (w * B) ((acc.zip xs).map fun z => z.1 + tq w a * ((B / lq l : Nat) : Int) * tq (lq l) z.2) ((acc2.zip xs).map fun z => z.1 + a * z.2) := by
    intro xs
    induction xs with
    | nil => intro acc acc2 _ _; rw [List.zip_nil_right, List.zip_nil_right]; rfl
    | cons x xs ih =>
      intro acc acc2 hd hc
      cases acc with
      | nil =>
        cases acc2 with
        | nil => rfl
        | cons _ _ => cases hc
      | cons n ns =>
        cases acc2 with
        | nil => cases hc
        | cons q qs =>
          unfold castQ at hc
          rw [List.map_cons, List.map_cons] at hc
          injection hc with c1 c2
          have h3 := ih ns qs (fun y hy => hd y (List.mem_cons_of_mem _ hy)) c2
          unfold castQ at h3 ⊢
          rw [List.zip_cons_cons, List.zip_cons_cons, List.map_cons, List.map_cons, List.map_cons, List.map_cons, h3]
          congr 1
          show ((n + tq w a * ((B / lq l : Nat) : Int) * tq (lq l) x : Int) : Rat) = (q + a * x) * ((w * B : Nat) : Rat)
          rw [Rat.intCast_add, Rat.intCast_mul, Rat.intCast_mul, c1, tq_cast hw h1, tq_cast hl (hd x List.mem_cons_self), Rat.intCast_natCast, Rat.natCast_mul]
          have e : a * (w : Rat) * ((B / lq l : Nat) : Rat) * (x * (lq l : Rat)) = a * (w : Rat) * x * (((B / lq l : Nat) : Rat) * (lq l : Rat)) := by grind
          rw [e, hk]
          grind
  exact key l acc acc2 (fun x hx => lq_dvd hx) h
theorem fold_cast {w B : Nat} (hw : 0 < w) (hB : 0 < B) : ∀ {ps : List (Rat × List Rat)} {acc : List Int} {acc2 : List Rat}, (∀ p ∈ ps, p.1.den ∣ w ∧ lq p.2 ∣ B) → castQ (w * B) acc acc2 → castQ (w * B) (ps.foldl (thStepI w B) acc) (ps.foldl thStep acc2)
  | [], _, _, _, h => h
  | p :: ps, _, _, hp, h => fold_cast hw hB (ps := ps) (fun q hq => hp q (List.mem_cons_of_mem _ hq)) (step_cast hw hB (hp p List.mem_cons_self).1 (hp p List.mem_cons_self).2 h)
theorem zero_cast (l n : Nat) : castQ l (List.replicate n 0) (List.replicate n 0) := by
  unfold castQ
  rw [List.map_replicate, List.map_replicate]
  congr 1
  rw [Rat.zero_mul]
  rfl
theorem th_len {n : Nat} : ∀ {ps : List (Rat × List Rat)} {acc : List Rat}, (∀ p ∈ ps, p.2.length = n) → acc.length = n → (ps.foldl thStep acc).length = n
  | [], _, _, h => h
  | p :: ps, acc, hp, h => by
    refine th_len (ps := ps) (fun q hq => hp q (List.mem_cons_of_mem _ hq)) ?_
    unfold thStep
    rw [List.length_map, List.length_zip, h, hp p List.mem_cons_self, Nat.min_self]
theorem thI_len {w B n : Nat} : ∀ {ps : List (Rat × List Rat)} {acc : List Int}, (∀ p ∈ ps, p.2.length = n) → acc.length = n → (ps.foldl (thStepI w B) acc).length = n
  | [], _, _, h => h
  | p :: ps, acc, hp, h => by
    refine thI_len (ps := ps) (fun q hq => hp q (List.mem_cons_of_mem _ hq)) ?_
    unfold thStepI
    rw [List.length_map, List.length_zip, h, hp p List.mem_cons_self, Nat.min_self]
theorem thI_bn {w B a b c : Nat} : ∀ {ps : List (Rat × List Rat)} {acc : List Int} {m : Nat}, (∀ p ∈ ps, (tq w p.1).natAbs < 2 ^ a ∧ B < 2 ^ b ∧ ∀ x ∈ p.2, (tq (lq p.2) x).natAbs < 2 ^ c) → a + b + c ≤ m → Bn m acc → Bn (m + ps.length) (ps.foldl (thStepI w B) acc)
  | [], _, _, _, _, h => h
  | p :: ps, acc, m, hp, hm, h => by
    have h1 := thI_bn (ps := ps) (acc := thStepI w B acc p) (m := m + 1) (fun q hq => hp q (List.mem_cons_of_mem _ hq)) (by omega) fun z hz => ?_
    · rw [List.length_cons]
      have e : m + 1 + ps.length = m + (ps.length + 1) := by omega
      rwa [e] at h1
    · unfold thStepI at hz
      obtain ⟨y, hy, rfl⟩ := List.mem_map.mp hz
      obtain ⟨p1, p2, p3⟩ := hp p List.mem_cons_self
      have z1 := h y.1 (List.of_mem_zip hy).1
      have z2 := wide_lt (wide_lt p1 (show (((B / lq p.2 : Nat) : Int)).natAbs < 2 ^ b by rw [Int.natAbs_natCast]; exact Nat.lt_of_le_of_lt (Nat.div_le_self _ _) p2)) (p3 y.2 (List.of_mem_zip hy).2)
      have z3 := Nat.lt_of_lt_of_le z2 (Nat.pow_le_pow_right (by decide) hm)
      have z4 := Int.natAbs_add_le y.1 (tq w p.1 * ((B / lq p.2 : Nat) : Int) * tq (lq p.2) y.2)
      rw [Nat.pow_succ]
      omega
structure RT where
  r : List Rat
  c : Rat
  ls : List (List Rat)
  n : Nat
def thP (a : RT) : List (Rat × List Rat) := a.r.zip a.ls
def thM (a : RT) : List Rat := thQ (a.n + 1) (thP a)
/-- the row at the values of the rows -/
def through (a : RT) : List Rat := (thM a).take a.n ++ [(thM a).drop a.n |>.headD 0 |> fun z => z + a.c]
def okRT (a : RT) : Prop := rb 400 (a.r ++ [a.c]) ∧ (∀ l ∈ a.ls, rb 400 l ∧ l.length = a.n + 1) ∧ a.r.length = a.ls.length ∧ a.ls ≠ [] ∧ a.ls.length ≤ 40 ∧ a.n ≤ 40 ∧ lcml (a.ls.map lq) < 2 ^ 64
theorem atI_zero {α : Type} (x : α) (xs : List α) : atI (x :: xs) 0 = some x := by
  unfold atI ixN
  rw [if_pos (by decide), if_pos (by rw [List.length_cons]; omega)]
  rfl
theorem split_last {α : Type} {xs : List α} {n : Nat} (h : xs.length = n + 1) : ∃ ys y, xs = ys ++ [y] ∧ ys.length = n := by
  refine ⟨xs.take n, xs[n], ?_, by rw [List.length_take]; omega⟩
  have := List.take_append_drop n xs
  rw [List.drop_eq_getElem_cons (by omega), List.drop_of_length_le (by omega)] at this
  exact this.symm
theorem through_eq {a : RT} {qs : List Rat} {q : Rat} (h : thM a = qs ++ [q]) (hl : qs.length = a.n) : through a = qs ++ [q + a.c] := by
  unfold through
  rw [h, ← hl, List.take_left, List.drop_left]
  rfl

abbrev s_row_through : Stmt := top 27
abbrev n_row_through : List Str := ["row", "rows", "bottom", "tops", "weight", "inner", "share", "top", "own"]
theorem sc_row_through : FnScope n_row_through ["row", "rows"] (defScope s_row_through) := ⟨rfl, rfl, rfl, by decide +kernel, rfl, by decide +kernel, by decide +kernel⟩
def sp_row_through : Sp := spR (fun a : RT => [rowD (a.r ++ [a.c]), .tuple (a.ls.map rowD)]) okRT fun a => rowD (through a)
/-- .. as integers -/
theorem through_ints {a : RT} (h : okRT a) : ∃ ns m, thI (lq (a.r ++ [a.c])) (lcml (a.ls.map lq)) (a.n + 1) (thP a) = ns ++ [m] ∧ ns.length = a.n ∧ over (ns ++ [m + tq (lq (a.r ++ [a.c])) a.c * (lcml (a.ls.map lq) : Int)]) (lq (a.r ++ [a.c]) * lcml (a.ls.map lq)) = through a ∧ Bn 1000 (ns ++ [m + tq (lq (a.r ++ [a.c])) a.c * (lcml (a.ls.map lq) : Int)]) := by
  obtain ⟨h1, h2, h3, h4, h5, h6, h7⟩ := h
  have hB : 0 < lcml (a.ls.map lq) := lcml_pos fun b hb => by
    obtain ⟨l, _, rfl⟩ := List.mem_map.mp hb
    exact lq_pos l
  have hw := lq_pos (a.r ++ [a.c])
  have hmem : ∀ p ∈ thP a, p.1 ∈ a.r ∧ p.2 ∈ a.ls := fun p hp => List.of_mem_zip hp
  have hlen : ∀ p ∈ thP a, p.2.length = a.n + 1 := fun p hp => (h2 _ (hmem p hp).2).2
  have l1 := thI_len (w := lq (a.r ++ [a.c])) (B := lcml (a.ls.map lq)) (acc := List.replicate (a.n + 1) 0) hlen (by rw [List.length_replicate])
  have l2 := th_len (acc := List.replicate (a.n + 1) 0) hlen (by rw [List.length_replicate])
  have hc := fold_cast hw hB (ps := thP a) (fun p hp => ⟨lq_dvd (List.mem_append_left _ (hmem p hp).1), dvd_lcml _ (List.mem_map.mpr ⟨_, (hmem p hp).2, rfl⟩)⟩) (zero_cast _ (a.n + 1))
  have hbn := thI_bn (w := lq (a.r ++ [a.c])) (B := lcml (a.ls.map lq)) (a := 400) (b := 64) (c := 400) (m := 900) (ps := thP a) (acc := List.replicate (a.n + 1) 0) (fun p hp => ⟨rb_tq h1 (List.mem_append_left _ (hmem p hp).1), h7, fun x hx => rb_tq (h2 _ (hmem p hp).2).1 hx⟩) (by decide) (fun z hz => by
    rw [(List.mem_replicate.mp hz).2]
    exact Nat.two_pow_pos 900)
  obtain ⟨ns, m, e1, e2⟩ := split_last l1
  obtain ⟨qs, q, e3, e4⟩ := split_last l2
  have hpl : (thP a).length ≤ 40 := by unfold thP; rw [List.length_zip]; omega
  rw [e1] at hbn
  rw [e1, e3] at hc
  refine ⟨ns, m, e1, e2, ?_, ?_⟩
  · rw [through_eq (qs := qs) (q := q) e3 e4]
    refine over_cast (Nat.mul_pos hw hB) ?_
    unfold castQ at hc ⊢
    rw [List.map_append, List.map_append] at hc ⊢
    obtain ⟨c1, c2⟩ := List.append_inj hc (by rw [List.length_map, List.length_map, e2, e4])
    rw [c1]
    congr 1
    rw [List.map_cons, List.map_cons] at c2
    injection c2 with c3 _
    show [((m + tq (lq (a.r ++ [a.c])) a.c * (lcml (a.ls.map lq) : Int) : Int) : Rat)] = [(q + a.c) * ((lq (a.r ++ [a.c]) * lcml (a.ls.map lq) : Nat) : Rat)]
    congr 1
    rw [Rat.intCast_add, Rat.intCast_mul, c3, tq_cast hw (lq_dvd (by simp)), Rat.intCast_natCast, Rat.natCast_mul]
    grind
  · intro z hz
    have hb : ∀ z ∈ ns ++ [m], z.natAbs < 2 ^ 940 := fun z hz => Nat.lt_of_lt_of_le (hbn z hz) (Nat.pow_le_pow_right (by decide) (by omega))
    rcases List.mem_append.mp hz with hz | hz
    · exact Nat.lt_of_lt_of_le (hb z (List.mem_append_left _ hz)) (Nat.pow_le_pow_right (by decide) (by decide))
    · have e : z = m + tq (lq (a.r ++ [a.c])) a.c * (lcml (a.ls.map lq) : Int) := by simpa using hz
      have b1 := hb m (by simp)
      have b2 := wide_lt (rb_tq h1 (q := a.c) (by simp)) (nb h7)
      have b3 := Nat.lt_of_lt_of_le b2 (Nat.pow_le_pow_right (by decide) (by decide) : 2 ^ (400 + 64) ≤ 2 ^ 940)
      have b4 := Int.natAbs_add_le m (tq (lq (a.r ++ [a.c])) a.c * (lcml (a.ls.map lq) : Int))
      rw [e]
      have b5 : (2 : Nat) ^ 940 + 2 ^ 940 ≤ 2 ^ 1000 := by
        rw [← Nat.two_mul, ← Nat.pow_succ']
        exact Nat.pow_le_pow_right (by decide) (by decide)
      omega
theorem rb_through {a : RT} (h : okRT a) : rb 1500 (through a) := by
  obtain ⟨ns, m, e1, e2, e3, e4⟩ := through_ints h
  obtain ⟨h1, h2, h3, h4, h5, h6, h7⟩ := h
  have hB : 0 < lcml (a.ls.map lq) := lcml_pos fun b hb => by
    obtain ⟨l, _, rfl⟩ := List.mem_map.mp hb
    exact lq_pos l
  rw [← e3]
  refine rb_over (Nat.mul_pos (lq_pos _) hB) (fun z hz => ?_) (by rw [List.length_append, e2]; show _ + 1 ≤ _; omega)
  rcases List.mem_append.mp hz with hz | hz
  · exact Nat.lt_of_lt_of_le (e4 z hz) (Nat.pow_le_pow_right (by decide) (by decide))
  · have e : z = ((lq (a.r ++ [a.c]) * lcml (a.ls.map lq) : Nat) : Int) := by simpa using hz
    rw [e]
    exact nb (Nat.lt_of_lt_of_le (nat_mul_lt (rb_lq h1) h7) (Nat.pow_le_pow_right (by decide) (by decide)))
theorem ok_row_through {f : Addr} {fd : FuncData} (T : Bt K mg) (D : Df K mg "row_through" s_row_through ["row", "rows"] f fd)
    {f_shared_bottom : Addr} {d_shared_bottom : FuncData} (h_shared_bottom : Cal P w K mg base "shared_bottom" s_shared_bottom ["bottoms"] 1 sp_shared_bottom f_shared_bottom d_shared_bottom)
    {f_without_divisor : Addr} {d_without_divisor : FuncData} (h_without_divisor : Cal P w K mg base "without_divisor" s_without_divisor ["integers"] 2 sp_without_divisor f_without_divisor d_without_divisor) : Cal P w K mg base "row_through" s_row_through ["row", "rows"] 3 sp_row_through f fd := by
  refine ok_R D sc_row_through (fun _ => rfl) fun cdv A outer s H E hgd hr => ⟨_, (pss_cons (ps_set (i := 2) sc_row_through.nd rfl (Or.inl rfl) (pe_fn (E := E0) h_shared_bottom.G hgd (hr.mono (by decide)) (by rfl) h_shared_bottom.gm h_shared_bottom.kp h_shared_bottom.b (pa_cons (pe_lc (own := [("inner", 5)]) (g := gName 5) (tt := tYes) rfl sc_row_through.nd (pi_tup (pv 1)) (blkOk_by (own := [("inner", 5)]) (N := n_row_through) (sc := defScope s_row_through) (by decide +kernel)) (fun _ _ _ _ _ => (pg_name (i := 5) sc_row_through.nd rfl (Or.inl rfl))) (fun _ _ _ _ _ => pts_nil) (fun _ _ _ _ _ => (pe_ix (ix_tupK (K := K) rfl) (pv 5) (pe_un un_neg pe_int) (fun _ _ => rfl)))) pa_nil)))
        (pss_cons (ps_set (i := 3) sc_row_through.nd rfl (Or.inl rfl) (pe_op op_rep (pe_lst (pa_cons pe_int pa_nil)) (pe_op op_sub (pe_callB call_len_seq (by rfl) T.len PySem.boot_len (pa_cons (pe_ix (ix_tupK (K := K) rfl) (pv 1) pe_int (fun _ _ => rfl)) pa_nil)) pe_int)))
        (pss_cons (ps_for PassesOwn.never rfl (pi_zipP false false (by rfl) T.zip (pa_cons (pe_slice sl_tup (pv 0) po_none (po_some (pe_un un_neg pe_int))) (pa_cons (pv 1) pa_nil))) (pg_tup rfl (pgs_cons (pg_name (i := 4) sc_row_through.nd rfl (Or.inl rfl)) (pgs_cons (pg_name (i := 5) sc_row_through.nd rfl (Or.inl rfl)) pgs_nil)))
        (pss_cons (ps_set (i := 6) sc_row_through.nd rfl (Or.inr rfl) (pe_op op_mulW (pv 4) (pe_op op_fdivW (pv 2) (pe_ix (ix_tupK (K := K) rfl) (pv 5) (pe_un un_neg pe_int) (fun _ _ => rfl)))))
        (pss_one (ps_setLc (i := 3) (own := [("top", 7), ("own", 8)]) (g := gTup K 2 (gCons (gName 7) (gCons (gName 8) gNil))) (tt := tYes) rfl sc_row_through.nd rfl rfl (sw_true rfl rfl rfl (by decide +kernel)) (pi_zipP true false (by rfl) T.zip (pa_cons (pv 3) (pa_cons (pe_slice sl_tup (pv 5) po_none (po_some (pe_un un_neg pe_int))) pa_nil))) (blkOk_by (own := [("top", 7), ("own", 8)]) (N := n_row_through) (sc := defScope s_row_through) (by decide +kernel)) (fun _ _ _ _ _ => (pg_tup rfl (pgs_cons (pg_name (i := 7) sc_row_through.nd rfl (Or.inl rfl)) (pgs_cons (pg_name (i := 8) sc_row_through.nd rfl (Or.inl rfl)) pgs_nil)))) (fun _ _ _ _ _ => pts_nil) (fun _ _ _ _ _ => (pe_op op_add (pv 7) (pe_op op_mulW (pv 6) (pv 8))))))))
        (pss_cons (ps_augS (pv 3) (pe_un un_neg pe_int) pget_list (pe_op op_mulW (pe_ix (ix_tupK (K := K) rfl) (pv 0) (pe_un un_neg pe_int) (fun _ _ => rfl)) (pv 2)) ip_add set_list)
        (pss_one (ps_ret (pe_fn (E := E0) h_without_divisor.G hgd (hr.mono (by decide)) (by rfl) h_without_divisor.gm h_without_divisor.kp h_without_divisor.b (pa_cons (pe_op op_cat (pv 3) (pe_lst (pa_cons (pe_op op_mulW (pe_ix (ix_tupK (K := K) rfl) (pv 0) (pe_un un_neg pe_int) (fun _ _ => rfl)) (pv 2)) pa_nil))) pa_nil)))))))), ?_⟩
  rintro a h
  obtain ⟨ns, m, e1, e2, e3, e4⟩ := through_ints h
  obtain ⟨h1, h2, h3, h4, h5, h6, h7⟩ := h
  generalize hW : lq (a.r ++ [a.c]) = W at *
  generalize hBB : lcml (a.ls.map lq) = B at *
  have hB : 0 < B := by
    rw [← hBB]
    exact lcml_pos fun b hb => by
      obtain ⟨l, _, rfl⟩ := List.mem_map.mp hb
      exact lq_pos l
  have hw : 0 < W := by rw [← hW]; exact lq_pos _
  show SG pureL 0 _ [some (rowD (a.r ++ [a.c])), some (.tuple (a.ls.map rowD)), none, none, none, none, none, none, none] _ _
  have hbs : EvD pureL (tLc (iTup K (tVar 1)) (gName 5) tYes (tOp (rIxT K) (tVar 5) (tUn (rU fun i => .int (-i)) (tC (.int 1)))) [5]) [some (rowD (a.r ++ [a.c])), some (.tuple (a.ls.map rowD)), none, none, none, none, none, none, none] (.list (a.ls.map fun l => .int (lq l : Int))) :=
    eg_lcm (js := [5]) (wk_tup (eg_var rfl)) (by simp) (by omega) fun l hl => ⟨(fun z => by cases z), _, tg_name, eg_ixT (K := K) ((eg_var (i := 5) (d := rowD l) rfl).to (rowD_one l)) (eg_neg (eg_int (i := 1))) (atI_last _ _)⟩
  have eb : (PyData.list (a.ls.map fun l => .int (lq l : Int))) = .list ((a.ls.map lq).map fun (b : Nat) => PyData.int (b : Int)) := by rw [List.map_map]; rfl
  rw [eb] at hbs
  refine sq_asg ((eg_callR (a.ls.map lq) (ea_cons hbs ea_nil) ⟨fun b hb => by
    obtain ⟨l, _, rfl⟩ := List.mem_map.mp hb
    exact lq_pos l, by rw [hBB]; exact h7⟩).to (d' := .int (B : Int)) (by rw [hBB])) ?_
  obtain ⟨l0, lr, hls⟩ : ∃ l0 lr, a.ls = l0 :: lr := by
    cases hh : a.ls with
    | nil => exact absurd hh h4
    | cons x y => exact ⟨x, y, rfl⟩
  have hl0 : l0.length = a.n + 1 := (h2 l0 (by rw [hls]; exact List.mem_cons_self)).2
  refine sg_grown (j := 3) (show 3 < 9 by decide) (d := lI (List.replicate (a.n + 1) 0)) (N1 := fun G => ∃ x4 x5 x6 x7 x8, G = [some (rowD (a.r ++ [a.c])), some (.tuple (a.ls.map rowD)), some (.int (B : Int)), some (lI (ns ++ [m])), x4, x5, x6, x7, x8])
    (N2 := fun G => G = [some (rowD (a.r ++ [a.c])), none, some (.int (B : Int)), some (lI (ns ++ [m + tq W a.c * (B : Int)])), none, none, none, none, none]) ?_ ?_ ?_ ?_
  · have hlen : EvD pureL (tCB (fun xs H Q => ∃ p ys, xs = [.ref p] ∧ (SqL K H p ys ∨ SqT K H p ys) ∧ Q (.int ys.length) H) (tCons (tOp (rIxT K) (tVar 1) (tC (.int 0))) tNil)) [some (rowD (a.r ++ [a.c])), some (.tuple (a.ls.map rowD)), some (.int (B : Int)), none, none, none, none, none, none] (.int ((rowQ l0).map PyData.int).length) :=
      eg_cb (ea_cons (eg_ixT (eg_var (i := 1) rfl) (eg_int (i := 0)) (by rw [hls]; exact atI_zero _ _)) ea_nil) cs_lenT
    have hn : (((rowQ l0).map PyData.int).length : Int) - 1 = ((a.n + 1 : Nat) : Int) := by rw [List.length_map, rowQ_len, hl0]; omega
    have hev := os_repF (L := pureL) (ta := tLst (tCons (tC (.int 0)) tNil)) (ds := [.int 0]) (Γ := [some (rowD (a.r ++ [a.c])), some (.tuple (a.ls.map rowD)), some (.int (B : Int)), none, none, none, none, none, none]) (eg_lst (ea_cons (eg_int (i := 0)) ea_nil)) ((eg_sub hlen (eg_int (i := 1))).to (d' := .int ((a.n + 1 : Nat) : Int)) (by rw [hn])) (by omega) (by omega) (by decide)
    intro A σ H hi he hg Q q
    refine hev A σ H hi he hg Q fun p d H' r hf hv e => q p d H' r hf hv ?_
    rw [e]
    unfold lI
    congr 1
    rw [List.map_replicate, Int.toNat_natCast]
    generalize a.n + 1 = k
    induction k with
    | zero => rfl
    | succ k ih => rw [List.replicate_succ, List.flatten_cons, ih, List.replicate_succ]; rfl
  · have hz := wk_zip (L := pureL) (K := K) (k1 := false) (k2 := false) (Γ := [some (rowD (a.r ++ [a.c])), some (.tuple (a.ls.map rowD)), some (.int (B : Int)), some (lI (List.replicate (a.n + 1) 0)), none, none, none, none, none]) (ds := a.r.map (iv W)) (es := a.ls.map rowD)
      (ea_cons (eg_init2 (K := K) (a := iv W a.c) (b := .int (W : Int)) ((eg_var (i := 0) (d := rowD (a.r ++ [a.c])) rfl).to (by rw [rowD_two, hW]))) (ea_cons (eg_var (i := 1) rfl) ea_nil))
    have ezip : zipD (a.r.map (iv W)) (a.ls.map rowD) = (thP a).map fun p => PyData.tuple [iv W p.1, rowD p.2] := by
      rw [zipD_map]
      rfl
    rw [ezip] at hz
    refine sf_for (js := [4, 5]) (fun i G => ∃ x4 x5 x6 x7 x8, G = [some (rowD (a.r ++ [a.c])), some (.tuple (a.ls.map rowD)), some (.int (B : Int)), some (lI (thI W B (a.n + 1) ((thP a).take i))), x4, x5, x6, x7, x8]) (by decide) hz ⟨none, none, none, none, none, rfl⟩ ?_ ?_
    · rintro i d G hd ⟨x4, x5, x6, x7, x8, rfl⟩
      obtain ⟨p, hp, hpm, rfl⟩ := map_at hd
      have hm1 : p.1 ∈ a.r := (List.of_mem_zip hpm).1
      have hm2 : p.2 ∈ a.ls := (List.of_mem_zip hpm).2
      have b1 : (tq W p.1).natAbs < 2 ^ 400 := by rw [← hW]; exact rb_tq h1 (List.mem_append_left _ hm1)
      have b2 := (h2 _ hm2).1
      generalize hacc : thI W B (a.n + 1) ((thP a).take i) = acc
      have hst : thI W B (a.n + 1) ((thP a).take (i + 1)) = thStepI W B acc p := by
        rw [take_next hp, ← hacc]
        unfold thI
        rw [List.foldl_append]
        rfl
      refine ⟨_, tg_two, ?_⟩
      have bshare : (tq W p.1 * ((B / lq p.2 : Nat) : Int)).natAbs < 2 ^ (400 + 64) := wide_lt b1 (nb (Nat.lt_of_le_of_lt (Nat.div_le_self _ _) h7))
      refine sf_seq (N1 := fun G => G = [some (rowD (a.r ++ [a.c])), some (.tuple (a.ls.map rowD)), some (.int (B : Int)), some (lI acc), some (iv W p.1), some (rowD p.2), some (.int (tq W p.1 * ((B / lq p.2 : Nat) : Int))), x7, x8]) (sf_asg (by decide) ((eg_mul (i := tq W p.1) (j := ((B / lq p.2 : Nat) : Int)) (eg_var (i := 4) rfl) ((eg_div (i := (B : Int)) (j := (lq p.2 : Int)) (eg_var (i := 2) rfl) (eg_ixT (K := K) ((eg_var (i := 5) (d := rowD p.2) rfl).to (rowD_one p.2)) (eg_neg (eg_int (i := 1))) (atI_last _ _)) (wide_div (b := 400) (by have := lq_pos p.2; omega) (nb (rb_lq b2)) (by decide) (by decide))).to rfl) (mw (a := 400) (b := 64) b1 (nb (Nat.lt_of_le_of_lt (Nat.div_le_self _ _) h7))))) rfl) ?_
      rintro G rfl
      have hz2 := wk_zip (L := pureL) (K := K) (k1 := true) (k2 := false) (Γ := [some (rowD (a.r ++ [a.c])), some (.tuple (a.ls.map rowD)), some (.int (B : Int)), some (lI acc), some (iv W p.1), some (rowD p.2), some (.int (tq W p.1 * ((B / lq p.2 : Nat) : Int))), x7, x8]) (ds := acc.map .int) (es := p.2.map (iv (lq p.2)))
        (ea_cons (eg_var (i := 3) rfl) (ea_cons (eg_init1 (K := K) ((eg_var (i := 5) (d := rowD p.2) rfl).to (rowD_one p.2))) ea_nil))
      rw [zipD_map] at hz2
      refine sf_asgF (d := lI (thStepI W B acc p)) ?_ ⟨some (iv W p.1), some (rowD p.2), some (.int (tq W p.1 * ((B / lq p.2 : Nat) : Int))), x7, x8, by rw [hst]; rfl⟩
      have hlc := eg_lcmF (L := pureL) (g := gTup K 2 (gCons (gName 7) (gCons (gName 8) gNil))) (te := tOp (rI0 fun i j => .int (i + j)) (tVar 7) (tOp (rI CMulW fun i j => .int (i * j)) (tVar 6) (tVar 8))) (js := [7, 8]) (vs := [7, 8]) (res := fun z : Int × Rat => .int (z.1 + tq W p.1 * ((B / lq p.2 : Nat) : Int) * tq (lq p.2) z.2)) hz2 (by simp) (by have := b2.1; rw [List.length_zip]; omega) fun z hzm => ⟨(fun y => by cases y), _, tg_two, eg_add (eg_var (i := 7) rfl) (eg_mul (eg_var (i := 6) rfl) (eg_var (i := 8) rfl) (mw (a := 464) (b := 400) bshare (rb_tq b2 (List.of_mem_zip hzm).2)))⟩
      have e7 : PyData.list ((acc.zip p.2).map fun z => .int (z.1 + tq W p.1 * ((B / lq p.2 : Nat) : Int) * tq (lq p.2) z.2)) = lI (thStepI W B acc p) := by
        unfold lI thStepI
        rw [List.map_map]
        rfl
      rw [e7] at hlc
      exact hlc
    · rintro G ⟨x4, x5, x6, x7, x8, rfl⟩
      refine ⟨x4, x5, x6, x7, x8, ?_⟩
      rw [List.length_map, List.take_length, e1]
  · rintro G ⟨x4, x5, x6, x7, x8, rfl⟩
    refine sw_aug (e := tq W a.c * (B : Int)) rfl (eg_neg (eg_int (i := 1))) ?_ rfl fun i d hd => ?_
    · exact eg_mul (eg_ixT (K := K) ((eg_var (i := 0) (d := rowD (a.r ++ [a.c])) rfl).to (rowD_two a.r a.c)) (eg_neg (eg_int (i := 2))) (by rw [hW]; exact at_last3 _ _ _)) (eg_var (i := 2) rfl) (mw (a := 400) (b := 64) (by rw [← hW]; exact rb_tq h1 (by simp)) (nb h7))
    · match i, hd with
      | 0, hd => exact .inr ⟨hd, .inl ⟨_, (Option.some.inj (Option.some.inj hd)).symm⟩⟩
      | 1, hd => cases hd
      | 2, hd => exact .inr ⟨hd, .inr ⟨_, (Option.some.inj (Option.some.inj hd)).symm⟩⟩
      | 3, hd => exact .inl ⟨rfl, (Option.some.inj (Option.some.inj hd)).symm⟩
      | 4, hd => cases hd
      | 5, hd => cases hd
      | 6, hd => cases hd
      | 7, hd => cases hd
      | 8, hd => cases hd
      | i + 9, hd => cases hd
  · rintro G rfl
    have hlt : W * B < 2 ^ 8000 := Nat.lt_of_lt_of_le (nat_mul_lt (by rw [← hW]; exact rb_lq h1) h7) (Nat.pow_le_pow_right (by decide) (by decide) : 2 ^ (400 + 64) ≤ 2 ^ 8000)
    refine sg_ret ((eg_callR (ns ++ [m + tq W a.c * (B : Int)], W * B) (ea_cons ((eg_cat (eg_var (i := 3) rfl) (eg_lst (ea_cons (eg_mul (i := (W : Int)) (j := (B : Int)) (eg_ixT (K := K) ((eg_var (i := 0) (d := rowD (a.r ++ [a.c])) rfl).to (rowD_one (a.r ++ [a.c]))) (eg_neg (eg_int (i := 1))) (by rw [hW]; exact atI_last _ _)) (eg_var (i := 2) rfl) (mw (a := 400) (b := 64) (nb (by rw [← hW]; exact rb_lq h1)) (nb h7))) ea_nil)) (by rw [List.length_map, List.length_append, e2]; show _ + 1 + 1 ≤ _; omega)).to ?_) ea_nil) ⟨Nat.mul_pos hw hB, hlt, by rw [List.length_append, e2]; show _ + 1 ≤ _; omega⟩).to ?_) rfl
    · unfold lI
      rw [Int.natCast_mul]
      simp only [List.map_append, List.map_cons, List.map_nil]
    · show rowD (over _ (W * B)) = _
      rw [e3]

end V1
set_option Elab.async false
set_option linter.all false
set_option maxRecDepth 100000
set_option maxHeartbeats 4000000
/-! The dict of the draws. -/
namespace V1
open PySem PySem.Spec PyProof.Rows L2
def dct (l sd : Int) (c : Addr) (s : Int) : List (Key × V) := [(.inr "left", .int l), (.inr "seed", .int sd), (.inr "cells", .ref c), (.inr "spot", .int s)]
def mG (p c : Addr) (ns : List Int) (n : Nat) (H : Hp) : Prop := ∃ l sd s : Int, H p = some (.dK (dct l sd c s)) ∧ H c = some (.lst (ns.map V.int)) ∧ 0 ≤ s ∧ s + (n : Int) ≤ 2 ^ 50
def mR (p c : Addr) (n : Nat) (H H' : Hp) : Prop := (∀ b o, H b = some o → (b ≠ p ∨ ∀ kvs, o ≠ .dK kvs) → H' b = some o) ∧ (∀ l sd s : Int, H p = some (.dK (dct l sd c s)) → ∃ l' s' : Int, H' p = some (.dK (dct l' sd c s')) ∧ s ≤ s' ∧ s' ≤ s + (n : Int)) ∧ (H p ≠ none → H' p ≠ none)
def mL (p c : Addr) (ns : List Int) : Rl where
  G := mG p c ns
  R := mR p c
  M := fun v => v = .ref p
  gle := fun h ⟨l, sd, s, h1, h2, h3, h4⟩ => ⟨l, sd, s, h1, h2, h3, by omega⟩
  rle := fun h ⟨h1, h2, h3⟩ => ⟨h1, fun l sd s e => let ⟨l', s', e1, e2, e3⟩ := h2 l sd s e; ⟨l', s', e1, e2, by omega⟩, h3⟩
  gr := fun ⟨l, sd, s, g1, g2, g3, g4⟩ ⟨h1, h2, h3⟩ => by
    obtain ⟨l', s', e1, e2, e3⟩ := h2 l sd s g1
    exact ⟨l', sd, s', e1, h1 _ _ g2 (.inr fun kvs z => by cases z), by omega, by omega⟩
  tr := fun {a b H H1 H2} ⟨h1, h2, h3⟩ ⟨k1, k2, k3⟩ => ⟨fun q o e z => k1 q o (h1 q o e z) z, fun l sd s e => by
    obtain ⟨l', s', e1, e2, e3⟩ := h2 l sd s e
    obtain ⟨l2, s2, f1, f2, f3⟩ := k2 l' sd s' e1
    exact ⟨l2, s2, f1, by omega, by omega⟩, fun z => k3 (h3 z)⟩
  same := fun g s => ⟨fun b o e _ => s b o e, fun l sd sp e => ⟨l, sp, s _ _ e, by omega, by omega⟩, fun z y => by
    obtain ⟨l, sd, sp, e, _⟩ := g
    rw [s _ _ e] at y
    cases y⟩
  fresh := fun {a H H' q o} ⟨h1, h2, h3⟩ hq => ⟨fun b u e z => by rw [upd_ne (ne_of_none e hq)]; exact h1 b u e z, fun l sd s e => by
    have ne := ne_of_none e hq
    rw [upd_ne ne]
    exact h2 l sd s e, fun z => by
    have ne : p ≠ q := fun y => z (by rw [y]; exact hq)
    rw [upd_ne ne]
    exact h3 z⟩
  keep := fun ⟨h1, _, _⟩ e k => h1 _ _ e (.inr k)
  free := fun {a H H' q} ⟨h1, h2, h3⟩ e => by
    by_cases hq : q = p
    · subst hq
      exact Classical.byContradiction fun z => h3 z e
    · cases hH : H q with
      | none => rfl
      | some o => rw [h1 q o hH (.inl hq)] at e; cases e
  mref := fun h => ⟨p, h⟩
/-- the way of some dict of draws -/
def SM (L : Rl) : Prop := ∃ p c ns, ns ≠ [] ∧ L = mL p c ns
/-- a def that draws -/
def spM {α : Type} (n : Nat) (args : α → List PyData) (ok : α → Prop) (post : α → PyData → Prop) : Sp := fun vs H Q E => ∃ L a, SM L ∧ ok a ∧ spL L n (fun ds => ds = args a) (fun _ d => post a d) vs H Q E
section
variable {P : Program} {w : World} {K : PySem.W.Frag} {mg : Str → Option Value} {base : Heap}
theorem ok_A {α : Type} {args : α → List PyData} {ok : α → Prop} {post : α → PyData → Prop} {n : Nat} {x : Str} {st : Stmt} {f : Addr} {fd : FuncData} {N ps : List Str} {k : Nat} (D : Df K mg x st ps f fd) (Sc : FnScope N ps (defScope st)) (hlen : ∀ a, (args a).length = ps.length)
    (hb : ∀ (cdv : Value) (A : Around) (outer : List Env) (s : Shared) (H : Hp) (E : XK), (cxOf CX0 P w K mg base N x (defScope st) f cdv A outer s H E).nox.A.guards = some [] → Room k (cxOf CX0 P w K mg base N x (defScope st) f cdv A outer s H E).nox.A →
      ∃ t, PSs (cxOf CX0 P w K mg base N x (defScope st) f cdv A outer s H E).nox (defBody st) t ∧ ∀ L, SM L → ∀ a, ok a → SG L n t (Ga N.length (args a)) (fun _ => False) (post a)) : Cal P w K mg base x st ps (k + 1) (spM n args ok post) f fd := by
  refine ⟨D.gm, D.F, D.b, okG D.F Sc (fun vs H Q E h => ?_) (fun cdv A outer s H vs Q E hg hr h => ?_)⟩
  · obtain ⟨L, a, _, _, Av, ds, _, hl, _, e, _⟩ := h
    rw [hl, e, hlen a]
  · obtain ⟨L, a, hS, ha, Av, ds, hi, hl, hv, e, hgg, q⟩ := h
    obtain ⟨t, h1, h2⟩ := hb cdv A outer s H E hg hr
    subst e
    exact ⟨t, h1, h2 L hS a ha Av (L2.start N vs) H hi (start_ok hl hv) hgg _ (fun σ' H' Γ' r e p => p.elim) fun v d H' r hd p => q v d H' r hd p⟩
end
section
variable {L : Rl} {Γ : List (Option PyData)} {t : TA} {te ta tb : TE} {E : XK} {α : Type} {args : α → List PyData} {ok : α → Prop} {val : α → PyData} {post : α → PyData → Prop} {a m n : Nat} {P1 P2 : PyData → Prop} {PA : List PyData → Prop}
theorem eg_callM (hS : SM L) (x : α) (ha : EaD L t Γ (args x)) (ho : ok x) : EvG L n (tCall (spM n args ok post) [] E t) Γ (post x) := fun A σ H hi he hg Q q => ha A σ H hi he (L.g0 hg) _ fun vs ds H1 r1 l hv p => by
  subst p
  show spM n args ok post (vs ++ []) H1 Q E
  rw [List.append_nil]
  exact ⟨L, x, hS, ho, A, args x, hi.r r1, l, hv, rfl, Rl.gR (a := 0) (by rw [Nat.zero_add]; exact hg) r1, fun v d H2 r2 hd hpo => q v d H2 (L.rle (Nat.le_of_eq (Nat.zero_add _)) (L.tr r1 r2)) hd hpo⟩
/-- a def that leaves all, called with drawn things -/
theorem eg_callRG (ha : EaG L m t Γ PA) (hp : ∀ ds, PA ds → nomk ds = true ∧ ∃ x, ok x ∧ ds = args x) : EvG L m (tCall (spR args ok val) [] E t) Γ (fun d => ∃ x, PA (args x) ∧ ok x ∧ d = val x) := fun A σ H hi he hg Q q => ha A σ H hi he hg _ fun vs ds H1 r1 l hv p => by
  obtain ⟨hn, x, ho, e⟩ := hp ds p
  subst e
  show spR args ok val (vs ++ []) H1 Q E
  rw [List.append_nil]
  refine ⟨x, ho, A, args x, hi.r r1, l, fun i d e => ?_, rfl, trivial, fun v d H2 r2 hd hpo => q v d H2 (L.tr (b := 0) r1 (L.same (Rl.gR (b := 0) hg r1) r2)) (pure_dq hd) ⟨x, p, ho, hpo⟩⟩
  obtain ⟨v, e1, e2⟩ := hv i d e
  exact ⟨v, e1, .inr (e2.ne (nomk_ne hn i d e))⟩
theorem eg_addG {P1 P2 : Int → Prop} (ha : EvG L m ta Γ (fun d => ∃ i, P1 i ∧ d = .int i)) (hb : EvG L n tb Γ (fun d => ∃ i, P2 i ∧ d = .int i)) : EvG L (m + n) (tOp (rI0 fun i j => .int (i + j)) ta tb) Γ (fun d => ∃ i, (∃ x y, P1 x ∧ P2 y ∧ i = x + y) ∧ d = .int i) :=
  eg_opG ha hb fun d1 d2 ⟨i, p1, e1⟩ ⟨j, p2, e2⟩ => by
    subst e1 e2
    exact fun A H x y hi hg hx hy Q q => os_I0 A H x y hi hg hx hy Q fun v d H' r hv e => q v d H' r hv ⟨i + j, ⟨i, j, p1, p2, rfl⟩, e⟩
theorem eg_subG {P1 P2 : Int → Prop} (ha : EvG L m ta Γ (fun d => ∃ i, P1 i ∧ d = .int i)) (hb : EvG L n tb Γ (fun d => ∃ i, P2 i ∧ d = .int i)) : EvG L (m + n) (tOp (rI0 fun i j => .int (i - j)) ta tb) Γ (fun d => ∃ i, (∃ x y, P1 x ∧ P2 y ∧ i = x - y) ∧ d = .int i) :=
  eg_opG ha hb fun d1 d2 ⟨i, p1, e1⟩ ⟨j, p2, e2⟩ => by
    subst e1 e2
    exact fun A H x y hi hg hx hy Q q => os_I0 A H x y hi hg hx hy Q fun v d H' r hv e => q v d H' r hv ⟨i - j, ⟨i, j, p1, p2, rfl⟩, e⟩
theorem eg_intG {i : Int} : EvG L 0 (tC (.int i)) Γ (fun d => ∃ j, j = i ∧ d = .int j) := EvG.mono eg_int (Nat.le_refl _) fun d e => ⟨i, rfl, e⟩
end
end V1
set_option Elab.async false
set_option linter.all false
set_option maxRecDepth 100000
set_option maxHeartbeats 4000000
namespace V1
open PySem PySem.Spec PyProof.Rows L2
variable {P : Program} {w : World} {K : PySem.W.Frag} {mg : Str → Option Value} {base : Heap}
theorem v_left (l sd : Int) (c : Addr) (s : Int) : valV (dct l sd c s) (.inr "left") = some (.int l) := rfl
theorem v_seed (l sd : Int) (c : Addr) (s : Int) : valV (dct l sd c s) (.inr "seed") = some (.int sd) := rfl
theorem v_cells (l sd : Int) (c : Addr) (s : Int) : valV (dct l sd c s) (.inr "cells") = some (.ref c) := rfl
theorem v_spot (l sd : Int) (c : Addr) (s : Int) : valV (dct l sd c s) (.inr "spot") = some (.int s) := rfl
theorem p_left (l sd : Int) (c : Addr) (s x : Int) : putK (dct l sd c s) (.inr "left") (.int x) = dct x sd c s := rfl
theorem p_spot (l sd : Int) (c : Addr) (s x : Int) : putK (dct l sd c s) (.inr "spot") (.int x) = dct l sd c x := rfl
theorem h_get {σ : L2.St} {H : Hp} {p : Addr} {kvs : List (Key × V)} {x : Str} {v : V} {Q : VK} (h0 : σ[0]? = some (some (V.ref p))) (e : H p = some (.dK kvs)) (hv : valV kvs (.inr x) = some v) (q : Q v H) : tDGet (tVar 0) (tC (.str x)) σ H Q :=
  ⟨V.ref p, h0, p, v, rfl, by rw [← hv]; exact DGet.k (k := .inr x) e, q⟩
theorem h_put {σ : L2.St} {H H1 : Hp} {p : Addr} {kvs : List (Key × V)} {x : Str} {v : V} {te : TE} {D : Ends} (h0 : σ[0]? = some (some (V.ref p))) (e : H p = some (.dK kvs)) (hl : kvs.length < sizeLine) (ht : ∀ Q : VK, Q v H → te σ H Q) (q : D.nx σ (upd H p (.dK (putK kvs (.inr x) v)))) : sDPut (tVar 0) (tC (.str x)) te D σ H :=
  ht _ ⟨V.ref p, h0, p, _, rfl, DPut.k (k := .inr x) e hl, q⟩
theorem dct_len (l sd : Int) (c : Addr) (s : Int) : (dct l sd c s).length < sizeLine := by
  show 4 < sizeLine
  exact Nat.lt_of_lt_of_le (by decide) (show 100000 ≤ sizeLine by decide)
theorem cmul_l {i j : Int} (h1 : 0 ≤ i) (h2 : i < 2 ^ 64) : CMul i j := .inl ⟨by omega, h2⟩
theorem cmul_r {i j : Int} (h1 : 0 ≤ j) (h2 : j < 2 ^ 64) : CMul i j := .inr ⟨by omega, h2⟩

abbrev s_law_draw : Stmt := top 30
abbrev n_law_draw : List Str := ["m", "bound", "found", "spot", "cells", "extra", "cell", "blend"]
theorem sc_law_draw : FnScope n_law_draw ["m", "bound"] (defScope s_law_draw) := ⟨rfl, rfl, rfl, by decide +kernel, rfl, by decide +kernel, by decide +kernel⟩
def sp_law_draw : Sp := spM 1 (fun b : Nat => [mark, .int (b : Int)]) (fun b => 0 < b ∧ b < 2 ^ 30) fun b d => ∃ r : Nat, r < b ∧ d = .int (r : Int)
theorem ok_law_draw {f : Addr} {fd : FuncData} (T : Bt K mg) (D : Df K mg "_law_draw" s_law_draw ["m", "bound"] f fd) : Cal P w K mg base "_law_draw" s_law_draw ["m", "bound"] 1 sp_law_draw f fd := by
  refine ok_A D sc_law_draw (fun _ => rfl) fun cdv A outer s H E hgd hr => ⟨_, (pss_cons (ps_if (pt_cmpR op_gt (pe_dget (hu_of hr) (pv 0) pe_str (fun _ _ => rfl)) pe_int (nomark _)) (pss_cons (ps_set (i := 2) sc_law_draw.nd rfl (Or.inl rfl) (pe_op op_modN (pe_callTy call_int1 (by rfl) T.int (by decide +kernel) (pa_cons (pe_dget (hu_of hr) (pv 0) pe_str (fun _ _ => rfl)) pa_nil)) (pv 1)))
        (pss_cons (ps_dput (hu_of hr) (pv 0) pe_str (pe_op op_fdivW (pe_dget (hu_of hr) (pv 0) pe_str (fun _ _ => rfl)) (pv 1)) rfl)
        (pss_one (ps_ret (pv 2))))) pss_nil)
        (pss_cons (ps_set (i := 3) sc_law_draw.nd rfl (Or.inl rfl) (pe_dget (hu_of hr) (pv 0) pe_str (fun _ _ => rfl)))
        (pss_cons (ps_dput (hu_of hr) (pv 0) pe_str (pe_op op_add (pv 3) pe_int) rfl)
        (pss_cons (ps_par (i := 4) (j := 5) rfl sc_law_draw.nd rfl rfl (by decide) rfl rfl (pa_cons (pe_dget (hu_of hr) (pv 0) pe_str (fun _ _ => rfl)) (pa_cons (pe_op op_add (pe_dget (hu_of hr) (pv 0) pe_str (fun _ _ => rfl)) (pe_op op_mul (pe_op op_mul pe_int (pv 3)) (pv 3))) pa_nil)) (by rfl))
        (pss_cons (ps_set (i := 6) sc_law_draw.nd rfl (Or.inl rfl) (pe_ix (ix_listK (K := K) rfl) (pv 4) (pe_op op_modN (pe_callTy call_int1 (by rfl) T.int (by decide +kernel) (pa_cons (pv 3) pa_nil)) (pe_callB call_len_seq (by rfl) T.len PySem.boot_len (pa_cons (pv 4) pa_nil))) (fun _ _ => rfl)))
        (pss_cons (ps_set (i := 7) sc_law_draw.nd rfl (Or.inl rfl) (pe_op op_modN (pe_callTy call_int1 (by rfl) T.int (by decide +kernel) (pa_cons (pe_op op_add (pe_op op_mul (pv 6) (pe_op op_add (pe_op op_mul pe_int (pv 3)) pe_int)) (pv 5)) pa_nil)) pe_int))
        (pss_cons (ps_set (i := 7) sc_law_draw.nd rfl (Or.inl rfl) (pe_op op_modN (pe_callTy call_int1 (by rfl) T.int (by decide +kernel) (pa_cons (pe_op op_add (pe_op op_add (pe_op op_mul (pv 7) (pv 7)) (pe_op op_mul pe_int (pv 3))) (pe_dget (hu_of hr) (pv 0) pe_str (fun _ _ => rfl))) pa_nil)) pe_int))
        (pss_one (ps_ret (pe_op op_modN (pe_op op_fdivW (pe_op op_modN (pe_callTy call_int1 (by rfl) T.int (by decide +kernel) (pa_cons (pe_op op_add (pe_op op_mul (pv 7) pe_int) (pv 3)) pa_nil)) pe_int) pe_int) (pv 1))))))))))), ?_⟩
  rintro L ⟨p, c, ns, hne, rfl⟩ b ⟨hb0, hb1⟩ A σ H hi he hg DD q1 q2
  obtain ⟨v0, hv0, d0⟩ := he.2 0 mark rfl
  obtain ⟨v1, hv1, d1⟩ := he.2 1 (.int (b : Int)) rfl
  obtain rfl := d1.int
  have hp0 : v0 = .ref p := by
    rcases d0 with ⟨_, h⟩ | h
    · exact h
    · cases h
  subst hp0
  have hl : σ.length = 8 := he.1
  obtain ⟨a0, a1, a2, a3, a4, a5, a6, a7, rfl⟩ : ∃ a0 a1 a2 a3 a4 a5 a6 a7, σ = [a0, a1, a2, a3, a4, a5, a6, a7] := by
    match σ, hl with
    | [a0, a1, a2, a3, a4, a5, a6, a7], _ => exact ⟨a0, a1, a2, a3, a4, a5, a6, a7, rfl⟩
  have e0 : a0 = some (.ref p) := Option.some.inj hv0
  have e1 : a1 = some (.int (b : Int)) := Option.some.inj hv1
  subst e0 e1
  clear hi he d0 d1 hv0 hv1 hl q1
  obtain ⟨l, sd, s, hP, hC, hs0, hs1⟩ := hg
  have hb : (b : Int) ≠ 0 := by omega
  have hbp : (0 : Int) < (b : Int) := by omega
  have mod_b : ∀ x : Int, ∃ r : Nat, r < b ∧ x.fmod (b : Int) = (r : Int) := fun x => by
    rw [Int.fmod_eq_emod_of_nonneg _ (by omega)]
    have h1 := Int.emod_nonneg x hb
    have h2 := Int.emod_lt_of_pos x hbp
    exact ⟨(x % (b : Int)).toNat, by omega, by omega⟩
  have hcd : ∀ x : Int, CDivW x (b : Int) := fun x => wide_div (b := 30) hbp (nb hb1) (by decide) (by decide)
  refine h_get rfl hP (v_left l sd c s) ⟨l, 0, rfl, rfl, _, rfl, ?_⟩
  by_cases hl0 : (0 : Int) < l
  · rw [decide_eq_true hl0]
    obtain ⟨r, hr1, hr2⟩ := mod_b l
    refine h_get rfl hP (v_left l sd c s) (.inl ⟨l, rfl, ⟨.int (b : Int), rfl, l, b, rfl, rfl, hb, ?_⟩⟩)
    refine h_get rfl hP (v_left l sd c s) ⟨.int (b : Int), rfl, l, b, rfl, rfl, hcd l, .ref p, rfl, p, _, rfl, DPut.k (k := .inr "left") hP (dct_len l sd c s), ?_⟩
    refine ⟨.int (l.fmod b), rfl, q2 _ (.int (r : Int)) _ ?_ (by rw [hr2]; exact .inr (.int _)) ⟨r, hr1, rfl⟩⟩
    refine ⟨fun q o e z => ?_, fun l2 sd2 s2 e => ?_, fun _ y => ?_⟩
    · by_cases hq : q = p
      · subst hq
        rw [hP] at e
        have e2 := Option.some.inj e
        subst e2
        rcases z with z | z
        · exact absurd rfl z
        · exact absurd rfl (z _)
      · rw [upd_ne hq]
        exact e
    · rw [hP] at e
      have e2 : dct l sd c s = dct l2 sd2 c s2 := HO.dK.inj (Option.some.inj e)
      unfold dct at e2
      simp at e2
      obtain ⟨rfl, rfl, rfl⟩ := e2
      exact ⟨l / b, s, by rw [upd_same, p_left], by omega, by omega⟩
    · rw [upd_same] at y
      cases y
  · rw [decide_eq_false hl0]
    have hs2 : s < 2 ^ 50 := by omega
    have hn0 : 0 < ns.length := List.length_pos_iff.mpr hne
    refine h_get rfl hP (v_spot l sd c s) ?_
    refine ⟨.int s, rfl, s, 1, rfl, rfl, .ref p, rfl, p, _, rfl, DPut.k (k := .inr "spot") hP (dct_len l sd c s), ?_⟩
    rw [p_spot]
    have hne2 : c ≠ p := fun z => by
      rw [z, hP] at hC
      cases hC
    generalize hH1 : upd H p (.dK (dct l sd c (s + 1))) = H1
    have hP1 : H1 p = some (.dK (dct l sd c (s + 1))) := by rw [← hH1]; exact upd_same
    have hC1 : H1 c = some (.lst (ns.map V.int)) := by rw [← hH1, upd_ne hne2]; exact hC
    have c1 : CMul 40503 s := cmul_l (by decide) (by decide)
    refine h_get rfl hP1 (v_cells l sd c _) (h_get rfl hP1 (v_seed l sd c _) ⟨.int s, rfl, 40503, s, rfl, rfl, c1, ⟨.int s, rfl, _, s, rfl, rfl, cmul_r hs0 (by omega), sd, _, rfl, rfl, _, _, rfl, ?_⟩⟩)
    refine ⟨.ref c, rfl, .int s, rfl, .inl ⟨s, rfl, .ref c, rfl, c, ns.map V.int, rfl, .inl (SqL.of hC1), s, _, rfl, rfl, by rw [List.length_map]; omega, ?_⟩⟩
    have hmod : ∀ (x y : Int), 0 < y → 0 ≤ x.fmod y ∧ x.fmod y < y := fun x y hy => by
      rw [Int.fmod_eq_emod_of_nonneg _ (by omega)]
      exact ⟨Int.emod_nonneg x (by omega), Int.emod_lt_of_pos x hy⟩
    obtain ⟨m1, m2⟩ := hmod s ((ns.map V.int).length : Nat) (by rw [List.length_map]; omega)
    generalize hk : s.fmod ((ns.map V.int).length : Nat) = k at m1 m2
    obtain ⟨cell, hcell⟩ : ∃ cell : Int, atI (ns.map V.int) k = some (.int cell) := by
      unfold atI ixN
      rw [if_pos m1, if_pos m2]
      have hkn : k.toNat < ns.length := by rw [List.length_map] at m2; omega
      refine ⟨ns[k.toNat], ?_⟩
      show (ns.map V.int)[k.toNat]? = _
      rw [List.getElem?_map, List.getElem?_eq_getElem hkn]
      rfl
    refine ⟨c, ns.map V.int, k, .int cell, rfl, congrArg V.int hk, SqL.of hC1, hcell, ?_⟩
    refine ⟨.int cell, rfl, .int s, rfl, 2, s, rfl, rfl, cmul_l (by decide) (by decide), 2 * s, 3, rfl, rfl, cell, 2 * s + 3, rfl, rfl, cmul_r (by omega) (by omega), V.int (sd + 40503 * s * s), rfl, cell * (2 * s + 3), sd + 40503 * s * s, rfl, rfl, .inl ⟨_, rfl, cell * (2 * s + 3) + (sd + 40503 * s * s), 2147483647, rfl, rfl, (show (2147483647 : Int) ≠ 0 by decide), ?_⟩⟩
    obtain ⟨b1, b2⟩ := hmod (cell * (2 * s + 3) + (sd + 40503 * s * s)) 2147483647 (by decide)
    generalize hbl : (cell * (2 * s + 3) + (sd + 40503 * s * s)).fmod 2147483647 = bl at b1 b2
    refine ⟨.int bl, congrArg (fun z => some (some (V.int z))) hbl, .int bl, congrArg (fun z => some (some (V.int z))) hbl, bl, bl, rfl, rfl, cmul_l b1 (by omega), .int s, rfl, 69621, s, rfl, rfl, cmul_l (by decide) (by decide), bl * bl, 69621 * s, rfl, rfl, ?_⟩
    refine h_get rfl hP1 (v_seed l sd c _) ⟨_, _, rfl, rfl, .inl ⟨_, rfl, bl * bl + 69621 * s + sd, 2147483629, rfl, rfl, (show (2147483629 : Int) ≠ 0 by decide), ?_⟩⟩
    obtain ⟨d1, d2⟩ := hmod (bl * bl + 69621 * s + sd) 2147483629 (by decide)
    generalize hbl2 : (bl * bl + 69621 * s + sd).fmod 2147483629 = bl2 at d1 d2
    have hcd11 : ∀ x : Int, CDivW x 11 := fun x => wide_div (b := 30) (by decide) (by decide) (by decide) (by decide)
    refine ⟨.int bl2, congrArg (fun z => some (some (V.int z))) hbl2, bl2, 48271, rfl, rfl, cmul_r (by decide) (by decide), .int s, rfl, bl2 * 48271, s, rfl, rfl, .inl ⟨_, rfl, bl2 * 48271 + s, 2147483647, rfl, rfl, (show (2147483647 : Int) ≠ 0 by decide), (bl2 * 48271 + s).fmod 2147483647, 11, rfl, rfl, hcd11 _, .int (b : Int), rfl, (bl2 * 48271 + s).fmod 2147483647 / 11, b, rfl, rfl, hb, ?_⟩⟩
    obtain ⟨r, hr1, hr2⟩ := mod_b ((bl2 * 48271 + s).fmod 2147483647 / 11)
    refine q2 _ (.int (r : Int)) _ ?_ (by show Dq _ A H1 (V.int (((bl2 * 48271 + s).fmod 2147483647 / 11).fmod (b : Int))) _; rw [hr2]; exact .inr (.int _)) ⟨r, hr1, rfl⟩
    refine ⟨fun q o e z => ?_, fun l2 sd2 s2 e => ?_, fun _ y => ?_⟩
    · by_cases hq : q = p
      · subst hq
        rw [hP] at e
        have e2 := Option.some.inj e
        subst e2
        rcases z with z | z
        · exact absurd rfl z
        · exact absurd rfl (z _)
      · rw [← hH1, upd_ne hq]
        exact e
    · rw [hP] at e
      have e2 : dct l sd c s = dct l2 sd2 c s2 := HO.dK.inj (Option.some.inj e)
      unfold dct at e2
      simp at e2
      obtain ⟨rfl, rfl, rfl⟩ := e2
      exact ⟨l, s + 1, hP1, by omega, by omega⟩
    · rw [hP1] at y
      cases y

end V1
set_option Elab.async false
set_option linter.all false
set_option maxRecDepth 100000
set_option maxHeartbeats 4000000
/-! Drawn things. -/
namespace V1
open PySem PySem.Spec PyProof.Rows L2
section
variable {L : Rl} {Γ : List (Option PyData)} {t : TA} {te ta tb : TE} {E : XK} {a b c m n : Nat} {P1 P2 P3 P4 : PyData → Prop} {K : PySem.W.Frag}
theorem eg_draw (hS : SM L) {b : Nat} (hb : 0 < b ∧ b < 2 ^ 30) (h0 : Γ[0]? = some (some mark)) : EvG L 1 (tCall sp_law_draw [] E (tCons (tVar 0) (tCons (tC (.int (b : Int))) tNil))) Γ (fun d => ∃ z : Int, (0 ≤ z ∧ z < (b : Int)) ∧ d = .int z) :=
  EvG.mono (eg_callM hS b (ea_cons (eg_var h0) (ea_cons eg_int ea_nil)) hb) (Nat.le_refl _) fun d ⟨r, h1, e⟩ => ⟨(r : Int), ⟨by omega, by omega⟩, e⟩
theorem ea2G (h1 : EvG L a ta Γ P1) (h2 : EvG L b tb Γ P2) : EaG L (a + (b + 0)) (tCons ta (tCons tb tNil)) Γ (fun ds => ∃ d1 d2, ds = [d1, d2] ∧ P1 d1 ∧ P2 d2) :=
  EaG.mono (ea_consG h1 (ea_consG h2 ea_nil)) (Nat.le_refl _) fun ds ⟨d1, r, e, p1, d2, r2, e2, p2, e3⟩ => ⟨d1, d2, by rw [e, e2, e3], p1, p2⟩
theorem ea1G (h1 : EvG L a ta Γ P1) : EaG L (a + 0) (tCons ta tNil) Γ (fun ds => ∃ d1, ds = [d1] ∧ P1 d1) :=
  EaG.mono (ea_consG h1 ea_nil) (Nat.le_refl _) fun ds ⟨d1, r, e, p1, e2⟩ => ⟨d1, by rw [e, e2], p1⟩
theorem enc_of {α : Type} {enc : α → PyData} {P : α → Prop} : ∀ {rs : List PyData}, (∀ (i : Nat) d, rs[i]? = some d → ∃ x, P x ∧ d = enc x) → ∃ xs : List α, rs = xs.map enc ∧ xs.length = rs.length ∧ ∀ x ∈ xs, P x
  | [], _ => ⟨[], rfl, rfl, fun x h => by simp at h⟩
  | d :: r, h => by
    obtain ⟨x, hx, e⟩ := h 0 d rfl
    obtain ⟨xs, e2, hl, hP⟩ := enc_of (rs := r) fun i d' e => h (i + 1) d' (by simpa using e)
    refine ⟨x :: xs, by rw [e, e2]; rfl, by rw [List.length_cons, List.length_cons, hl], fun y hy => ?_⟩
    rcases List.mem_cons.mp hy with rfl | hy
    · exact hx
    · exact hP y hy
/-- a comprehension of drawn things -/
theorem eg_lcX {α : Type} {enc : α → PyData} {P : α → Prop} {wi : TI} {g : TG} {js vs : List Nat} {items : List PyData} (henc : ∀ x, enc x ≠ mark) (hw : WkD L wi Γ items) (hj : ∀ j ∈ js, j ∈ vs) (hlen : items.length ≤ b) (hb1 : b ≤ 1000)
    (hb : ∀ (i : Nat) d, items[i]? = some d → ∃ Γ', TgG L g js d (wipeD Γ vs) Γ' ∧ EvG L c te Γ' (fun r => ∃ x, P x ∧ r = enc x)) : EvG L (0 + b * c) (tLc wi g tYes te vs) Γ (fun r => ∃ xs : List α, r = .list (xs.map enc) ∧ xs.length = items.length ∧ ∀ x ∈ xs, P x) :=
  EvG.mono (eg_lcG (a := 0) (b := b) (c := c) (Pt := fun _ _ r => ∃ x, P x ∧ r = enc x) hw hj (fun its e => by rw [e]; exact ⟨hlen, hb1⟩) fun its e i d hd => by
    subst e
    obtain ⟨Γ', h1, h2⟩ := hb i d hd
    exact ⟨Γ', h1, EvG.mono h2 (Nat.le_refl _) fun r ⟨x, hx, e⟩ => ⟨by rw [e]; exact henc x, x, hx, e⟩⟩) (Nat.le_refl _) fun r ⟨its, rs, e1, e2, e3, e4⟩ => by
    obtain ⟨xs, f1, f2, f3⟩ := enc_of e4
    exact ⟨xs, by rw [e2, f1], by rw [f2, e3, e1], f3⟩
end
theorem rng_len (n : Nat) : (rngD 0 n).length = n := by unfold rngD; rw [List.length_map, List.length_range]
theorem lq_over {ns : List Int} {w : Nat} (hw : 0 < w) : lq (over ns w) ∣ w := by
  unfold lq over
  refine lcml_dvd fun b hb => ?_
  rw [List.map_map] at hb
  obtain ⟨n, _, rfl⟩ := List.mem_map.mp hb
  exact den_dvd n w hw
/-- small rows, points -/
def okS (n : Nat) (qs : List Rat) : Prop := qs.length = n ∧ rb 100 qs ∧ lq qs ≤ 6
theorem okS_over {ns : List Int} {w n : Nat} (hw : 0 < w) (hw6 : w ≤ 6) (hl : ns.length = n) (hn : n ≤ 40) (hb : ∀ z ∈ ns, z.natAbs < 2 ^ 100) : okS n (over ns w) := by
  refine ⟨by unfold over; rw [List.length_map, hl], rb_over hw (fun z hz => ?_) (by omega), Nat.le_trans (Nat.le_of_dvd hw (lq_over hw)) hw6⟩
  rcases List.mem_append.mp hz with h | h
  · exact hb z h
  · have e : z = (w : Int) := by simpa using h
    rw [e]
    exact nb (Nat.lt_of_le_of_lt hw6 (Nat.lt_of_lt_of_le (show 6 < 2 ^ 3 by decide) (Nat.pow_le_pow_right (by decide) (by decide))))
end V1
set_option Elab.async false
set_option linter.all false
set_option maxRecDepth 100000
set_option maxHeartbeats 4000000
namespace V1
open PySem PySem.Spec PyProof.Rows L2
variable {P : Program} {w : World} {K : PySem.W.Frag} {mg : Str → Option Value} {base : Heap}
abbrev s_law_some_row : Stmt := top 42
abbrev n_law_some_row : List Str := ["m", "count", "numbers_so", "way", "k", "number"]
theorem sc_law_some_row : FnScope n_law_some_row ["m", "count"] (defScope s_law_some_row) := ⟨rfl, rfl, rfl, by decide +kernel, rfl, by decide +kernel, by decide +kernel⟩
def sp_law_some_row : Sp := spM 8 (fun n : Nat => [mark, .int (n : Int)]) (fun n => 1 ≤ n ∧ n ≤ 5) fun n d => ∃ qs, okS (n + 1) qs ∧ d = rowD qs
theorem ok_law_some_row {f : Addr} {fd : FuncData} (T : Bt K mg) (D : Df K mg "_law_some_row" s_law_some_row ["m", "count"] f fd)
    {f_law_draw : Addr} {d_law_draw : FuncData} (h_law_draw : Cal P w K mg base "_law_draw" s_law_draw ["m", "bound"] 1 sp_law_draw f_law_draw d_law_draw)
    {f_law_rowed : Addr} {d_law_rowed : FuncData} (h_law_rowed : Cal P w K mg base "_law_rowed" s_law_rowed ["numbers_so", "bottom"] 3 sp_law_rowed f_law_rowed d_law_rowed) : Cal P w K mg base "_law_some_row" s_law_some_row ["m", "count"] 4 sp_law_some_row f fd := by
  refine ok_A D sc_law_some_row (fun _ => rfl) fun cdv A outer s H E hgd hr => ⟨_, (pss_cons (ps_setLc (i := 2) (own := [("k", 4)]) (g := gName 4) (tt := tYes) rfl sc_law_some_row.nd rfl rfl (sw_true rfl rfl rfl (by decide +kernel)) (pi_range1 (by rfl) T.range (pa_cons (pe_op op_add (pv 1) pe_int) pa_nil)) (blkOk_by (own := [("k", 4)]) (N := n_law_some_row) (sc := defScope s_law_some_row) (by decide +kernel)) (fun _ _ _ _ _ => (pg_name (i := 4) sc_law_some_row.nd rfl (Or.inl rfl))) (fun _ _ _ _ _ => pts_nil) (fun _ _ _ _ _ => (pe_op op_sub (pe_fn (E := E0) h_law_draw.G hgd (hr.mono (by decide)) (by rfl) h_law_draw.gm h_law_draw.kp h_law_draw.b (pa_cons (pv 0) (pa_cons pe_int pa_nil))) pe_int)))
        (pss_cons (ps_set (i := 3) sc_law_some_row.nd rfl (Or.inl rfl) (pe_fn (E := E0) h_law_draw.G hgd (hr.mono (by decide)) (by rfl) h_law_draw.gm h_law_draw.kp h_law_draw.b (pa_cons (pv 0) (pa_cons pe_int pa_nil))))
        (pss_cons (ps_if (pt_cmpR op_eq (pv 3) pe_int (nomark _)) (pss_one (ps_set (i := 2) sc_law_some_row.nd rfl (Or.inl rfl) (pe_op op_cat (pe_op op_rep (pe_lst (pa_cons pe_int pa_nil)) (pv 1)) (pe_slice sl_list (pv 2) (po_some (pe_un un_neg pe_int)) po_none)))) pss_nil)
        (pss_cons (ps_if (pt_cmpR op_eq (pv 3) pe_int (nomark _)) (pss_one (ps_setLc (i := 2) (own := [("number", 5)]) (g := gName 5) (tt := tYes) rfl sc_law_some_row.nd rfl rfl (sw_true rfl rfl rfl (by decide +kernel)) (pi_list (pv 2)) (blkOk_by (own := [("number", 5)]) (N := n_law_some_row) (sc := defScope s_law_some_row) (by decide +kernel)) (fun _ _ _ _ _ => (pg_name (i := 5) sc_law_some_row.nd rfl (Or.inl rfl))) (fun _ _ _ _ _ => pts_nil) (fun _ _ _ _ _ => (pe_op op_mulW (pv 5) (pe_op op_add (pe_op op_pow pe_int pe_int) pe_int))))) pss_nil)
        (pss_one (ps_ret (pe_fn (E := E0) h_law_rowed.G hgd (hr.mono (by decide)) (by rfl) h_law_rowed.gm h_law_rowed.kp h_law_rowed.b (pa_cons (pv 2) (pa_cons (pe_op op_add pe_int (pe_fn (E := E0) h_law_draw.G hgd (hr.mono (by decide)) (by rfl) h_law_draw.gm h_law_draw.kp h_law_draw.b (pa_cons (pv 0) (pa_cons pe_int pa_nil)))) pa_nil))))))))), ?_⟩
  rintro L hS n ⟨hn1, hn2⟩
  show SG L 8 _ [some mark, some (.int (n : Int)), none, none, none, none] _ _
  refine sq_asgG (a := 6) (b := 2) (EvG.mono (eg_lcX (b := 6) (c := 1 + 0) (js := [4]) (α := Int) (enc := PyData.int) (P := fun z => ∃ x y : Int, (0 ≤ x ∧ x < 9) ∧ y = 4 ∧ z = x - y) (fun x z => by cases z)
    (wk_rng1 (j := ((n : Int) + 1)) (ea_cons (eg_add (eg_var rfl) eg_int) ea_nil) (by omega)) (by simp) (by rw [rng_len]; omega) (by decide) fun i d hd => ⟨_, tg_name, EvG.mono (eg_subG (eg_draw (b := 9) hS (by decide) rfl) eg_intG) (Nat.le_refl _) fun d h => h⟩) (Nat.le_refl _) fun d h => h) fun d ⟨ns, e, hl, hz⟩ => ?_
  subst e
  rw [rng_len] at hl
  have hl' : ns.length = n + 1 := by omega
  have hz' : ∀ z ∈ ns, z.natAbs < 2 ^ 3 := fun z h => by
    obtain ⟨x, y, h1, h2, h3⟩ := hz z h
    omega
  clear hz hl
  refine sq_asgG (a := 1) (b := 1) (eg_draw (b := 6) hS (by decide) rfl) fun d ⟨way, hw, e⟩ => ?_
  subst e
  refine sg_seq (N1 := fun G => ∃ ns : List Int, ∃ x4 x5, G = [some mark, some (.int (n : Int)), some (lI ns), some (.int way), x4, x5] ∧ ns.length = n + 1 ∧ ∀ z ∈ ns, z.natAbs < 2 ^ 3) (sg_if (et_test (eg_eqI (eg_var rfl) eg_int)) (fun _ => ?_) fun _ => sg_next ⟨ns, none, none, rfl, hl', hz'⟩) ?_
  · refine sg_asg (d := lI (List.replicate n 0 ++ ns.drop (ns.length - 1))) ((eg_cat (ds := List.replicate n (.int 0)) (es := (ns.drop (ns.length - 1)).map .int) ((eg_rep (ds := [.int 0]) (i := (n : Int)) (eg_lst (ea_cons eg_int ea_nil)) (eg_var rfl) (by omega) (by omega) (by decide)).to ?_) ((eg_slL (ds := ns.map .int) (lo0 := some (-1)) (hi0 := none) (eg_var rfl) (eo_some (eg_neg eg_int)) eo_none).to ?_) ?_).to ?_) ⟨_, none, none, rfl, ?_, fun z hz => ?_⟩
    · congr 1
      rw [Int.toNat_natCast]
      generalize n = k
      induction k with
      | zero => rfl
      | succ k ih => rw [List.replicate_succ, List.flatten_cons, ih, List.replicate_succ]; rfl
    · congr 1
      rw [cut_last (by rw [List.length_map]; omega), List.length_map, List.map_drop]
    · rw [List.length_replicate, List.length_map, List.length_drop]
      omega
    · unfold lI
      rw [List.map_append, List.map_replicate]
    · rw [List.length_append, List.length_replicate, List.length_drop]
      omega
    · rcases List.mem_append.mp hz with h | h
      · rw [(List.mem_replicate.mp h).2]
        decide
      · exact hz' z (List.mem_of_mem_drop h)
  rintro G ⟨ns, x4, x5, rfl, hl, hz⟩
  refine sg_seq (N1 := fun G => ∃ ns : List Int, ∃ x3 x4 x5, G = [some mark, some (.int (n : Int)), some (lI ns), x3, x4, x5] ∧ ns.length = n + 1 ∧ ∀ z ∈ ns, z.natAbs < 2 ^ 100) (sg_if (et_test (eg_eqI (eg_var rfl) eg_int)) (fun _ => ?_) fun _ => sg_next ⟨ns, _, _, _, rfl, hl, fun z h => Nat.lt_of_lt_of_le (hz z h) (Nat.pow_le_pow_right (by decide) (by decide))⟩) ?_
  · have hbig : ((10 : Int) ^ (25 : Int).toNat + 7).natAbs < 2 ^ 90 := by decide
    refine sg_asg (d := lI (ns.map fun z => z * (10 ^ (25 : Int).toNat + 7))) ((eg_lcm (js := [5]) (xs := ns) (enc := PyData.int) (res := fun z => .int (z * (10 ^ (25 : Int).toNat + 7))) (wk_list (eg_var rfl)) (by simp) (by omega) fun z hzm => ⟨(fun y => by cases y), _, tg_name, eg_mul (eg_var rfl) (eg_add (eg_pow eg_int eg_int (by unfold CPow; decide)) eg_int) (mw (a := 3) (b := 90) (hz z hzm) hbig)⟩).to ?_) ⟨_, _, _, _, rfl, by rw [List.length_map]; exact hl, fun z hzm => ?_⟩
    · unfold lI
      rw [List.map_map]
      rfl
    · obtain ⟨y, hy, rfl⟩ := List.mem_map.mp hzm
      exact Nat.lt_of_lt_of_le (wide_lt (hz y hy) hbig) (Nat.pow_le_pow_right (by decide) (by decide))
  rintro G ⟨ns, x3, x4, x5, rfl, hl, hz⟩
  refine sg_retG (EvG.mono (a := 0 + ((0 + 1) + 0)) (eg_callRG (PA := fun ds => ∃ d1 d2, ds = [d1, d2] ∧ d1 = lI ns ∧ ∃ i : Int, (∃ x y : Int, x = 1 ∧ (0 ≤ y ∧ y < 6) ∧ i = x + y) ∧ d2 = .int i) (ea2G (eg_var rfl) (eg_addG eg_intG (eg_draw (b := 6) hS (by decide) rfl))) ?_) (Nat.le_refl _) fun d h => h) ?_
  · rintro ds ⟨d1, d2, rfl, rfl, i, ⟨x, y, rfl, hy, rfl⟩, rfl⟩
    refine ⟨rfl, (ns, (1 + y).toNat), ⟨by show 0 < (1 + y).toNat; omega, ?_, by show ns.length ≤ 100; omega, fun z hzm => Nat.lt_of_lt_of_le (hz z hzm) (Nat.pow_le_pow_right (by decide) (by decide))⟩, ?_⟩
    · show (1 + y).toNat < 2 ^ 8000
      exact Nat.lt_of_le_of_lt (show (1 + y).toNat ≤ 6 by omega) (Nat.lt_of_lt_of_le (show 6 < 2 ^ 3 by decide) (Nat.pow_le_pow_right (by decide) (by decide)))
    · show [lI ns, .int (1 + y)] = [lI ns, .int (((1 + y).toNat : Nat) : Int)]
      rw [Int.toNat_of_nonneg (by omega)]
  · rintro d ⟨⟨ns2, w2⟩, ⟨d1, d2, e1, e2, i, ⟨x, y, rfl, hy, rfl⟩, e3⟩, ⟨hw0, _⟩, rfl⟩
    have e4 : lI ns2 = d1 ∧ PyData.int (w2 : Int) = d2 := by
      injection e1 with a1 a2
      injection a2 with a3 _
      exact ⟨a1, a3⟩
    have e5 : ns2 = ns := by
      have h := e4.1.trans e2
      unfold lI at h
      injection h with h
      exact (List.map_inj_right (fun a b z => by injection z)).mp h
    have e6 : (w2 : Int) = 1 + y := by
      have h := e4.2.trans e3
      injection h
    subst e5
    exact ⟨_, okS_over hw0 (show w2 ≤ 6 by omega) hl (by omega) hz, rfl⟩

abbrev s_law_spot : Stmt := top 43
abbrev n_law_spot : List Str := ["m", "count", "k"]
theorem sc_law_spot : FnScope n_law_spot ["m", "count"] (defScope s_law_spot) := ⟨rfl, rfl, rfl, by decide +kernel, rfl, by decide +kernel, by decide +kernel⟩
def sp_law_spot : Sp := spM 6 (fun n : Nat => [mark, .int (n : Int)]) (fun n => 1 ≤ n ∧ n ≤ 5) fun n d => ∃ x, okS n x ∧ d = rowD x
theorem ok_law_spot {f : Addr} {fd : FuncData} (T : Bt K mg) (D : Df K mg "_law_spot" s_law_spot ["m", "count"] f fd)
    {f_law_point : Addr} {d_law_point : FuncData} (h_law_point : Cal P w K mg base "_law_point" s_law_point ["numbers_so", "bottom"] 3 sp_law_point f_law_point d_law_point)
    {f_law_draw : Addr} {d_law_draw : FuncData} (h_law_draw : Cal P w K mg base "_law_draw" s_law_draw ["m", "bound"] 1 sp_law_draw f_law_draw d_law_draw) : Cal P w K mg base "_law_spot" s_law_spot ["m", "count"] 4 sp_law_spot f fd := by
  refine ok_A D sc_law_spot (fun _ => rfl) fun cdv A outer s H E hgd hr => ⟨_, (pss_one (ps_ret (pe_fn (E := E0) h_law_point.G hgd (hr.mono (by decide)) (by rfl) h_law_point.gm h_law_point.kp h_law_point.b (pa_cons (pe_lc (own := [("k", 2)]) (g := gName 2) (tt := tYes) rfl sc_law_spot.nd (pi_range1 (by rfl) T.range (pa_cons (pv 1) pa_nil)) (blkOk_by (own := [("k", 2)]) (N := n_law_spot) (sc := defScope s_law_spot) (by decide +kernel)) (fun _ _ _ _ _ => (pg_name (i := 2) sc_law_spot.nd rfl (Or.inl rfl))) (fun _ _ _ _ _ => pts_nil) (fun _ _ _ _ _ => (pe_op op_sub (pe_fn (E := E0) h_law_draw.G hgd (hr.mono (by decide)) (by rfl) h_law_draw.gm h_law_draw.kp h_law_draw.b (pa_cons (pv 0) (pa_cons pe_int pa_nil))) pe_int))) (pa_cons (pe_op op_add pe_int (pe_fn (E := E0) h_law_draw.G hgd (hr.mono (by decide)) (by rfl) h_law_draw.gm h_law_draw.kp h_law_draw.b (pa_cons (pv 0) (pa_cons pe_int pa_nil)))) pa_nil))))), ?_⟩
  rintro L hS n ⟨hn1, hn2⟩
  show SG L 6 _ [some mark, some (.int (n : Int)), none] _ _
  have h1 := eg_lcX (L := L) (Γ := [some mark, some (.int (n : Int)), none]) (g := gName 2) (vs := [2]) (te := tOp (rI0 fun i j => .int (i - j)) (tCall sp_law_draw [] E0 (tCons (tVar 0) (tCons (tC (.int ((13 : Nat) : Int))) tNil))) (tC (.int 6))) (b := 5) (c := 1 + 0) (js := [2]) (α := Int) (enc := PyData.int) (P := fun z => ∃ x y : Int, (0 ≤ x ∧ x < 13) ∧ y = 6 ∧ z = x - y) (fun x z => by cases z)
    (wk_rng1 (j := (n : Int)) (ea_cons (eg_var (i := 1) rfl) ea_nil) (by omega)) (by simp) (by rw [rng_len]; omega) (by decide) fun i d hd => ⟨_, tg_name, eg_subG (eg_draw (b := 13) hS (by decide) rfl) eg_intG⟩
  refine sg_retG (EvG.mono (a := (0 + 5 * (1 + 0)) + ((0 + 1) + 0)) (eg_callRG (ea2G h1 (eg_addG eg_intG (eg_draw (b := 4) hS (by decide) rfl))) ?_) (Nat.le_refl _) fun d h => h) ?_
  · rintro ds ⟨d1, d2, rfl, ⟨ns, rfl, hl, hz⟩, i, ⟨x, y, rfl, hy, rfl⟩, rfl⟩
    rw [rng_len] at hl
    have hy' : 0 ≤ y ∧ y < 4 := hy
    refine ⟨rfl, (ns, (1 + y).toNat), ⟨by show 0 < (1 + y).toNat; omega, ?_, by show ns.length ≤ 100; omega, fun z hzm => ?_⟩, ?_⟩
    · show (1 + y).toNat < 2 ^ 8000
      exact Nat.lt_of_le_of_lt (show (1 + y).toNat ≤ 6 by omega) (Nat.lt_of_lt_of_le (show 6 < 2 ^ 3 by decide) (Nat.pow_le_pow_right (by decide) (by decide)))
    · obtain ⟨a, b, ha, hb, rfl⟩ := hz z hzm
      exact Nat.lt_of_lt_of_le (show (a - b).natAbs < 2 ^ 4 by omega) (Nat.pow_le_pow_right (by decide) (by decide))
    · show [lI ns, .int (1 + y)] = [lI ns, .int (((1 + y).toNat : Nat) : Int)]
      rw [Int.toNat_of_nonneg (by omega)]
  · rintro d ⟨⟨ns2, w2⟩, ⟨d1, d2, e1, ⟨ns, e2, hl, hz⟩, i, ⟨x, y, rfl, hy, rfl⟩, e3⟩, ⟨hw0, _⟩, rfl⟩
    rw [rng_len] at hl
    have e4 : lI ns2 = d1 ∧ PyData.int (w2 : Int) = d2 := by
      injection e1 with a1 a2
      injection a2 with a3 _
      exact ⟨a1, a3⟩
    have e5 : ns2 = ns := by
      have h := e4.1.trans e2
      unfold lI at h
      injection h with h
      exact (List.map_inj_right (fun a b z => by injection z)).mp h
    have e6 : (w2 : Int) = 1 + y := by
      have h := e4.2.trans e3
      injection h
    subst e5
    have hy' : 0 ≤ y ∧ y < 4 := hy
    exact ⟨_, okS_over hw0 (show w2 ≤ 6 by omega) (n := n) (show ns2.length = n by omega) (by omega) fun z hzm => by
      obtain ⟨a, b, ha, hb, rfl⟩ := hz z hzm
      exact Nat.lt_of_lt_of_le (show (a - b).natAbs < 2 ^ 4 by omega) (Nat.pow_le_pow_right (by decide) (by decide)), rfl⟩

end V1
set_option Elab.async false
set_option linter.all false
set_option maxRecDepth 100000
set_option maxHeartbeats 4000000
/-! What may be shown. -/
namespace V1
open PySem PySem.Spec PyProof.Rows L2
structure Shn (b k : Nat) (d : PyData) : Prop where
  s : d.showable = true
  nd : d.hasDict = false
  dp : d.depth ≤ k
  sh : d.leavesShort 1921 = true
  bk : d.bulk ≤ b
theorem shn_int {i : Int} {b k : Nat} (h : i.natAbs < 2 ^ 1900) : Shn b k (.int i) := by
  have hlog : i.natAbs.log2 < 1920 := by
    by_cases z : i.natAbs = 0
    · rw [z]; decide
    · exact Nat.lt_of_lt_of_le ((Nat.log2_lt z).mpr h) (by decide)
  refine ⟨by simp only [PyData.showable, decide_eq_true_eq]; exact hlog, by simp only [PyData.hasDict], by simp only [PyData.depth]; omega, ?_, by simp only [PyData.bulk]; omega⟩
  simp only [PyData.leavesShort, decide_eq_true_eq]
  show (Str.ofString (toString i)).length ≤ 1921
  rw [PySem.ofString_length]
  exact int_text_length_le (by decide) hlog
theorem shn_all {b k : Nat} : ∀ {ds : List PyData}, (∀ d ∈ ds, Shn b k d) → PyData.showableAll ds = true ∧ PyData.hasDictAll ds = false ∧ PyData.depthAll ds ≤ k ∧ PyData.leavesShortAll 1921 ds = true ∧ PyData.bulkAll ds ≤ ds.length * (b + 1)
  | [], _ => ⟨by simp only [PyData.showableAll], by simp only [PyData.hasDictAll], by simp only [PyData.depthAll]; omega, by simp only [PyData.leavesShortAll], by simp only [PyData.bulkAll]; omega⟩
  | d :: ds, h => by
    have h1 := h d List.mem_cons_self
    obtain ⟨a1, a2, a3, a4, a5⟩ := shn_all (ds := ds) fun x hx => h x (List.mem_cons_of_mem _ hx)
    refine ⟨?_, ?_, ?_, ?_, ?_⟩
    · simp only [PyData.showableAll, h1.s, a1, Bool.and_self]
    · simp only [PyData.hasDictAll, h1.nd, a2, Bool.or_self]
    · simp only [PyData.depthAll]
      have := h1.dp
      omega
    · simp only [PyData.leavesShortAll, h1.sh, a4, Bool.and_self]
    · simp only [PyData.bulkAll, List.length_cons]
      have := h1.bk
      rw [Nat.succ_mul]
      omega
theorem shn_tup {b k m : Nat} {ds : List PyData} (h : ∀ d ∈ ds, Shn b k d) (hl : ds.length ≤ m) : Shn (m * (b + 1)) (k + 1) (.tuple ds) := by
  obtain ⟨a1, a2, a3, a4, a5⟩ := shn_all h
  exact ⟨by simpa only [PyData.showable] using a1, by simpa only [PyData.hasDict] using a2, by simp only [PyData.depth]; omega, by simpa only [PyData.leavesShort] using a4, by simp only [PyData.bulk]; exact Nat.le_trans a5 (Nat.mul_le_mul_right _ hl)⟩
theorem shn_lst {b k m : Nat} {ds : List PyData} (h : ∀ d ∈ ds, Shn b k d) (hl : ds.length ≤ m) : Shn (m * (b + 1)) (k + 1) (.list ds) := by
  obtain ⟨a1, a2, a3, a4, a5⟩ := shn_all h
  exact ⟨by simpa only [PyData.showable] using a1, by simpa only [PyData.hasDict] using a2, by simp only [PyData.depth]; omega, by simpa only [PyData.leavesShort] using a4, by simp only [PyData.bulk]; exact Nat.le_trans a5 (Nat.mul_le_mul_right _ hl)⟩
theorem Shn.mono {b k b' k' : Nat} {d : PyData} (h : Shn b k d) (hb : b ≤ b' := by decide) (hk : k ≤ k' := by decide) : Shn b' k' d := ⟨h.s, h.nd, Nat.le_trans h.dp hk, h.sh, Nat.le_trans h.bk hb⟩
theorem Shn.fits {b k : Nat} {d : PyData} (h : Shn b k d) (hb : b ≤ 8000) : d.shown.length ≤ sizeLine := by
  have h1 := PyData.shown_le_bulk 1921 (by decide) d h.sh
  have h2 : (1921 + 2) * d.bulk ≤ 1923 * 8000 := Nat.mul_le_mul (by decide) (Nat.le_trans h.bk hb)
  rw [sizeLine_eq]
  omega
theorem sh_lst {b k : Nat} {ds : List PyData} (h : Shn b k (.list ds)) (hb : b ≤ 8000 := by decide) (hk : k ≤ 60 := by decide) : Sh (.list ds) := ⟨.inl ⟨ds, rfl⟩, h.s, h.nd, Nat.le_trans h.dp hk, h.fits hb⟩
theorem sh_tup {b k : Nat} {ds : List PyData} (h : Shn b k (.tuple ds)) (hb : b ≤ 8000 := by decide) (hk : k ≤ 60 := by decide) : Sh (.tuple ds) := ⟨.inr ⟨ds, rfl⟩, h.s, h.nd, Nat.le_trans h.dp hk, h.fits hb⟩
theorem p1900 {i : Int} {n : Nat} (h : i.natAbs < 2 ^ n) (hn : n ≤ 1900 := by decide) : i.natAbs < 2 ^ 1900 := Nat.lt_of_lt_of_le h (Nat.pow_le_pow_right (by decide) hn)
theorem shn_fq {q : Rat} (h1 : q.num.natAbs < 2 ^ 1900) (h2 : q.den < 2 ^ 1900) : Shn 2 1 (fq q) := (shn_tup (b := 0) (k := 0) (m := 2) (ds := [.int q.num, .int (q.den : Int)]) (fun d hd => by
  rcases List.mem_cons.mp hd with rfl | hd
  · exact shn_int h1
  · have e : d = .int (q.den : Int) := by simpa using hd
    rw [e]
    exact shn_int (nb h2)) (Nat.le_refl 2)).mono
theorem shn_row {qs : List Rat} (h : rb 1500 qs) : Shn 51 1 (rowD qs) := (shn_tup (b := 0) (k := 0) (m := 51) (fun d hd => by
  obtain ⟨z, hz, rfl⟩ := List.mem_map.mp hd
  exact shn_int (p1900 (h.2 z hz))) (by
    rw [List.length_map, rowQ_len]
    have := h.1
    omega)).mono
theorem shn_fqs {qs : List Rat} (h : rb 1500 qs) : ∀ d ∈ qs.map fq, Shn 2 1 d := fun d hd => by
  obtain ⟨q, hq, rfl⟩ := List.mem_map.mp hd
  exact shn_fq (p1900 (num_le h hq)) (Nat.lt_of_lt_of_le (den_le h hq) (Nat.pow_le_pow_right (by decide) (by decide)))
/-- a value of a row is no longer than its parts -/
theorem val_bound {r : List Rat} {c : Rat} {x : List Rat} {m1 m2 : Nat} (h1 : rb m1 (r ++ [c])) (h2 : rb m2 x) (hl : r.length = x.length) : (dot r x + c).num.natAbs < 2 ^ (m1 + m2 + 7) ∧ (dot r x + c).den < 2 ^ (m1 + m2 + 7) := by
  have e := rat_val (a := ⟨r, c, x⟩)
  have hpos : 0 < lq (r ++ [c]) * lq x := Nat.mul_pos (lq_pos _) (lq_pos _)
  have hw : lq (r ++ [c]) * lq x < 2 ^ (m1 + m2) := nat_mul_lt (rb_lq h1) (rb_lq h2)
  have hle : (2 : Nat) ^ (m1 + m2) ≤ 2 ^ (m1 + m2 + 7) := Nat.pow_le_pow_right (by decide) (by omega)
  have hv : (valI r c x).natAbs < 2 ^ (m1 + m2 + 7) := by
    unfold valI dotI
    have key : ∀ (ps : List (Rat × Rat)), (∀ p ∈ ps, p.1 ∈ r ∧ p.2 ∈ x) → ((ps.map fun p => tq (lq (r ++ [c])) p.1 * tq (lq x) p.2).sum).natAbs ≤ ps.length * 2 ^ (m1 + m2) := by
      intro ps
      induction ps with
      | nil => intro _; simp
      | cons p ps ih =>
        intro h
        have h3 := ih fun q hq => h q (List.mem_cons_of_mem _ hq)
        have h4 := h p List.mem_cons_self
        have h5 := wide_lt (rb_tq h1 (List.mem_append_left _ h4.1)) (rb_tq h2 h4.2)
        rw [List.map_cons, List.sum_cons, List.length_cons, Nat.succ_mul]
        have h6 := Int.natAbs_add_le (tq (lq (r ++ [c])) p.1 * tq (lq x) p.2) ((ps.map fun p => tq (lq (r ++ [c])) p.1 * tq (lq x) p.2).sum)
        omega
    have h3 := key (r.zip x) fun p hp => List.of_mem_zip hp
    have h4 := wide_lt (rb_tq h1 (q := c) (by simp)) (nb (rb_lq h2))
    have h5 := Int.natAbs_add_le (tq (lq (r ++ [c])) c * (lq x : Int)) (((r.zip x).map fun p => tq (lq (r ++ [c])) p.1 * tq (lq x) p.2).sum)
    have h6 : (r.zip x).length ≤ 50 := by have := h2.1; rw [List.length_zip]; omega
    have h7 : (r.zip x).length * 2 ^ (m1 + m2) ≤ 50 * 2 ^ (m1 + m2) := Nat.mul_le_mul_right _ h6
    have h8 : (2 : Nat) ^ (m1 + m2 + 7) = 2 ^ (m1 + m2) * 128 := by rw [Nat.pow_add]
    omega
  rw [← e]
  refine ⟨?_, Nat.lt_of_le_of_lt (Nat.le_of_dvd hpos (den_dvd _ _ hpos)) (Nat.lt_of_lt_of_le hw hle)⟩
  have h3 := rat_mul_den (a := valI r c x) hpos
  have h4 : (rat (valI r c x) (lq (r ++ [c]) * lq x)).den ≤ lq (r ++ [c]) * lq x := Nat.le_of_dvd hpos (den_dvd _ _ hpos)
  have h5 : (rat (valI r c x) (lq (r ++ [c]) * lq x)).num.natAbs * (lq (r ++ [c]) * lq x) = (valI r c x).natAbs * (rat (valI r c x) (lq (r ++ [c]) * lq x)).den := by
    have := congrArg Int.natAbs h3
    rwa [Int.natAbs_mul, Int.natAbs_mul, Int.natAbs_natCast, Int.natAbs_natCast] at this
  have h6 : (rat (valI r c x) (lq (r ++ [c]) * lq x)).num.natAbs ≤ (valI r c x).natAbs := by
    refine Nat.le_of_mul_le_mul_right ?_ hpos
    rw [h5]
    exact Nat.mul_le_mul_left _ h4
  exact Nat.lt_of_le_of_lt h6 hv
end V1
set_option Elab.async false
set_option linter.all false
set_option maxRecDepth 100000
set_option maxHeartbeats 4000000
/-! More rules, more numbers. -/
namespace V1
open PySem PySem.Spec PyProof.Rows L2
section
variable {L : Rl} {Γ : List (Option PyData)} {t : TA} {te ta tb : TE} {E : XK} {a b c m n j : Nat} {P P1 P2 : PyData → Prop} {K : PySem.W.Frag} {N N2 : List (Option PyData) → Prop} {Rt : PyData → Prop} {u us : TS} {d : PyData}
theorem eg_tupG {PA : List PyData → Prop} (h : EaG L a t Γ PA) (hn : ∀ ds, PA ds → nomk ds = true ∧ ds.length ≤ 1000) : EvG L a (tTup t) Γ (fun d => ∃ ds, PA ds ∧ d = .tuple ds) := fun A σ H hi he hg Q q => h A σ H hi he hg _ fun vs ds' H1 r1 l hv p => by
  obtain ⟨h1, h2⟩ := hn ds' p
  refine ⟨Nat.le_trans (by rw [l]; exact h2) (by decide), fun p1 hp => ?_⟩
  have rr := Rl.newR (o := .tup vs) (Rl.gR (b := 0) hg r1) hp
  exact q _ _ _ (L.tr (b := 0) r1 rr) (.inr (.tup ((hi.r r1).no hp) upd_same ((all_of l hv h1).r rr))) ⟨ds', p, rfl⟩
theorem eg_lstF {ds : List PyData} (h : EaD L t Γ ds) (hn : nomk ds = true := by rfl) (hl : ds.length ≤ 1000 := by simp) : EvF L 0 (tLst t) Γ (fun x => x = .list ds) := fun A σ H hi he hg Q q => h A σ H hi he hg _ fun vs ds' H1 r1 l hv p => by
  subst p
  refine ⟨Nat.le_trans (by rw [l]; exact hl) (by decide), fun p hp => ?_⟩
  have rr := Rl.newR (o := .lst vs) (Rl.gR (b := 0) hg r1) hp
  exact q p _ _ (L.tr (a := 0) (b := 0) r1 rr) (L.free r1 hp) (.inr (.lst ((hi.r r1).no hp) upd_same ((all_of l hv hn).r rr))) rfl
theorem sq_tgG {g : TG} {js : List Nat} (h : EvG L a te Γ P) (hm : ∀ d, P d → d ≠ mark) (k : ∀ d, P d → ∃ Γ', TgG L g js d Γ Γ' ∧ SG L b u Γ' N Rt) : SG L (a + b) (tSeq (tAsg te g) u) Γ N Rt := fun A σ H hi he hg D q1 q2 =>
  h A σ H hi he (L.gle (Nat.le_add_right _ _) hg) _ fun v d H1 r hv p => by
    obtain ⟨Γ', h1, h2⟩ := k d p
    exact h1 A v σ H1 (hv.ne (hm d p)) (he.r r) _ fun σ' e' _ => h2 A σ' H1 (hi.r r) e' (Rl.gR hg r) D (fun σ2 H2 Γ2 r2 e2 p2 => q1 σ2 H2 Γ2 (L.tr r r2) e2 p2) fun v d H2 r2 e2 p2 => q2 v d H2 (L.tr r r2) e2 p2
/-- made, written, and on -/
theorem sg_grown2 {n : Nat} (hj : j < Γ.length) (h1 : EvF L 0 te Γ (fun x => x = d)) (h3 : SW L j us (Γ.set j (some d)) N2) (h4 : ∀ G, N2 G → SG L n u G N Rt) : SG L n (tSeq (tAsg te (gName j)) (tSeq us u)) Γ N Rt := fun A σ H hi he hg D q1 q2 =>
  h1 A σ H hi he (L.g0 hg) _ fun p d' H1 r1 hf hv e => by
  subst e
  have fr : FrS H j (σ.set j (some (V.ref p))) := ⟨p, List.getElem?_set_self (by rw [he.1]; exact hj), hf⟩
  refine h3 H A _ H1 (hi.r r1) ((he.r r1).set hv j) (Rl.gR (b := 0) (L.g0 hg) r1) r1 fr { D with nx := _ } fun σ3 H3 G3 r3 e3 p3 => ?_
  have e0 : n = 0 + n := (Nat.zero_add n).symm
  have g3 : L.G n H3 := Rl.gR (a := 0) (by rw [Nat.zero_add]; exact hg) r3
  exact h4 G3 p3 A σ3 H3 (hi.r r3) e3 g3 D (fun σ4 H4 G4 r4 e4 p4 => q1 σ4 H4 G4 (L.rle (Nat.le_of_eq (Nat.zero_add n)) (L.tr r3 r4)) e4 p4) fun v d H4 r4 e4 p4 => q2 v d H4 (L.rle (Nat.le_of_eq (Nat.zero_add n)) (L.tr r3 r4)) e4 p4
theorem flat_upd {A : Addr → Prop} {H : Hp} {v : V} {zs : List Int} {p : Addr} {xs : List V} {o : HO} (h : Dv A H v (tI zs)) (e : H p = some (.lst xs)) : Dv A (upd H p o) v (tI zs) := by
  cases h with
  | @tup a ys ds na ea ra =>
    have ne : a ≠ p := fun z => by
      rw [z, e] at ea
      cases ea
    refine .tup na (by rw [upd_ne ne]; exact ea) ?_
    rw [ra.ints]
    exact DvAll.ofInts _
theorem flats_upd {A : Addr → Prop} {H : Hp} {p : Addr} {xs : List V} {o : HO} (e : H p = some (.lst xs)) : ∀ {zss : List (List Int)} {vs : List V}, DvAll A H vs (zss.map tI) → DvAll A (upd H p o) vs (zss.map tI)
  | [], _, h => by cases h; exact .nil
  | z :: zs, _, h => by
    cases h with
    | cons h1 h2 => exact .cons (flat_upd h1 e) (flats_upd e h2)
theorem sw_app {zss : List (List Int)} {zs : List Int} {Γ2 : List (Option PyData)} (hj : Γ[j]? = some (some (.list (zss.map tI)))) (hlen : zss.length ≤ 1000) (he2 : EvD L te Γ (tI zs)) (hl : Γ2.length = Γ.length)
    (h2 : ∀ (i : Nat) d, Γ2[i]? = some (some d) → (i = j ∧ d = .list ((zss ++ [zs]).map tI)) ∨ (Γ[i]? = some (some d) ∧ ((∃ zs, d = tI zs) ∨ (∃ z, d = .int z) ∨ d = mark))) :
    SW L j (tDrop (tBM K "list" rAppend (tVar j) (tCons te tNil))) Γ (fun G => G = Γ2) := fun H0 A σ H hi he hg r0 ⟨p, hp, hn⟩ D q => by
  obtain ⟨v, hv, dv⟩ := he.2 j _ hj
  rw [hp] at hv
  have ev : V.ref p = v := Option.some.inj (Option.some.inj hv)
  subst ev
  obtain ⟨p', xs, ep, na, eH, rr⟩ := dv.list
  have ep' : p = p' := by injection ep
  subst ep'
  refine ⟨V.ref p, hp, .inl ⟨rfl, xs, SqL.of eH⟩, ?_⟩
  refine he2 A σ H hi he hg _ fun vy d2 H2 r2 hvy p2 => ?_
  subst p2
  have eH2 : H2 p = some (.lst xs) := L.keep r2 eH (fun kvs z => by cases z)
  have r02 : L.R 0 H0 H2 := L.tr (a := 0) (b := 0) r0 r2
  have he3 : EnvOk L A σ H2 Γ := he.r r2
  have rr2 := rr.r r2
  have hlx : xs.length = zss.length := by rw [rr.length, List.length_map]
  refine ⟨p, xs, vy, rfl, rfl, eH2, Nat.lt_of_le_of_lt (show xs.length ≤ 1000 by omega) (by decide), ?_⟩
  refine q σ _ Γ2 (L.fresh r02 hn) ⟨by rw [hl]; exact he.1, fun i d hd => ?_⟩ rfl
  rcases h2 i d hd with ⟨rfl, rfl⟩ | ⟨h3, h4⟩
  · refine ⟨V.ref p, hp, .inr (.lst na upd_same ?_)⟩
    rw [List.map_append]
    have hvy2 : Dv A H2 vy (tI zs) := hvy.ne (by unfold tI; intro z; cases z)
    exact (flats_upd eH2 rr2).app (.cons (flat_upd hvy2 eH2) .nil)
  · obtain ⟨v, hv, dv⟩ := he3.2 i d h3
    refine ⟨v, hv, ?_⟩
    rcases h4 with ⟨zs, rfl⟩ | ⟨z, rfl⟩ | rfl
    · exact .inr (flat_upd (dv.ne (by unfold tI; intro z; cases z)) eH2)
    · obtain rfl := dv.int
      exact .inr (.int z)
    · rcases dv with dv | dv
      · exact .inl dv
      · cases dv
end

/-! numbers -/
theorem rat_small {a : Int} {b : Nat} (hb : 0 < b) : (rat a b).num.natAbs ≤ a.natAbs ∧ (rat a b).den ≤ b := by
  have h4 : (rat a b).den ≤ b := Nat.le_of_dvd hb (den_dvd _ _ hb)
  refine ⟨?_, h4⟩
  have h5 : (rat a b).num.natAbs * b = a.natAbs * (rat a b).den := by
    have := congrArg Int.natAbs (rat_mul_den (a := a) hb)
    rwa [Int.natAbs_mul, Int.natAbs_mul, Int.natAbs_natCast, Int.natAbs_natCast] at this
  refine Nat.le_of_mul_le_mul_right ?_ hb
  rw [h5]
  exact Nat.mul_le_mul_left _ h4
/-- num and bottom below 2^m -/
def sm (m : Nat) (q : Rat) : Prop := q.num.natAbs < 2 ^ m ∧ q.den < 2 ^ m
theorem sm.mono {m n : Nat} {q : Rat} (h : sm m q) (hn : m ≤ n := by decide) : sm n q := ⟨Nat.lt_of_lt_of_le h.1 (Nat.pow_le_pow_right (by decide) hn), Nat.lt_of_lt_of_le h.2 (Nat.pow_le_pow_right (by decide) hn)⟩
theorem sm_add {m n : Nat} {p q : Rat} {t : Int} (hp : sm m p) (hq : sm n q) (ht : t.natAbs ≤ 1) : sm (m + n + 1) (p + t * q) := by
  rw [← rat_added]
  have hs := rat_small (a := p.num * (q.den : Int) + t * q.num * (p.den : Int)) (b := p.den * q.den) (Nat.mul_pos p.den_pos q.den_pos)
  have h1 := nat_mul_lt hp.2 hq.2
  have h2 := wide_lt hp.1 (nb hq.2)
  have h3 : (t * q.num).natAbs < 2 ^ n := by
    rw [Int.natAbs_mul]
    exact Nat.lt_of_le_of_lt (Nat.mul_le_mul_right _ ht) (by rw [Nat.one_mul]; exact hq.1)
  have h4 := wide_lt h3 (nb hp.2)
  have e4 : n + m = m + n := Nat.add_comm _ _
  rw [e4] at h4
  have h5 := Int.natAbs_add_le (p.num * (q.den : Int)) (t * q.num * (p.den : Int))
  have h6 : (2 : Nat) ^ (m + n + 1) = 2 ^ (m + n) * 2 := Nat.pow_succ _ _
  exact ⟨by omega, by omega⟩
theorem rat_mul (p q : Rat) : rat (p.num * q.num) (p.den * q.den) = p * q := by
  have e : ∀ q : Rat, ((q.num : Int) : Rat) = q * (q.den : Rat) := fun q => by
    have h := rat_cast (a := q.num) q.den_pos
    rw [show rat q.num q.den = q from Rat.mkRat_self q] at h
    exact h
  refine rat_of (Nat.mul_pos p.den_pos q.den_pos) ?_
  rw [Rat.intCast_mul, e p, e q, Rat.natCast_mul]
  grind
theorem sm_mul {m n : Nat} {p q : Rat} (hp : sm m p) (hq : sm n q) : sm (m + n) (p * q) := by
  rw [← rat_mul]
  have hs := rat_small (a := p.num * q.num) (b := p.den * q.den) (Nat.mul_pos p.den_pos q.den_pos)
  have h1 := nat_mul_lt hp.2 hq.2
  have h2 := wide_lt hp.1 hq.1
  exact ⟨by omega, by omega⟩
theorem rb_sm {m : Nat} {qs : List Rat} (h : rb m qs) {q : Rat} (hq : q ∈ qs) : sm m q := ⟨num_le h hq, den_le h hq⟩
theorem lq_low (qs : List Rat) : lq qs ≤ lowP qs := Nat.le_of_dvd (lowP_pos qs) (by
  unfold lq
  refine lcml_dvd fun b hb => ?_
  obtain ⟨q, hq, rfl⟩ := List.mem_map.mp hb
  exact lowP_dvd hq)
theorem sm_rb {m k : Nat} {qs : List Rat} (hm : 0 < m) (h : ∀ q ∈ qs, sm m q) (hl : qs.length ≤ k) (hk : k ≤ 50) : rb (m + (m * k + 1)) qs := by
  have h1 : lq qs < 2 ^ (m * k + 1) := Nat.lt_of_le_of_lt (lq_low qs) (Nat.lt_of_lt_of_le (lowP_lt (fun q hq => (h q hq).2) hm) (Nat.pow_le_pow_right (by decide) (Nat.succ_le_succ (Nat.mul_le_mul_left _ hl))))
  refine ⟨by omega, fun z hz => ?_⟩
  unfold rowQ at hz
  rcases List.mem_append.mp hz with hz | hz
  · rw [topQ_eq] at hz
    obtain ⟨q, hq, rfl⟩ := List.mem_map.mp hz
    unfold tq
    exact wide_lt (h q hq).1 (nb (Nat.lt_of_le_of_lt (Nat.div_le_self _ _) h1))
  · have e : z = (lq qs : Int) := by simpa using hz
    rw [e]
    exact nb (Nat.lt_of_lt_of_le h1 (Nat.pow_le_pow_right (by decide) (by omega)))
theorem shn_sm {m : Nat} {q : Rat} (h : sm m q) (hm : m ≤ 1900 := by decide) : Shn 2 1 (fq q) := shn_fq (p1900 h.1 hm) (Nat.lt_of_lt_of_le h.2 (Nat.pow_le_pow_right (by decide) hm))
theorem add_one_mul (p q : Rat) : p + ((1 : Int) : Rat) * q = p + q := by
  have : ((1 : Int) : Rat) = 1 := rfl
  rw [this]
  grind
theorem add_neg_mul (p q : Rat) : p + ((-1 : Int) : Rat) * q = p - q := by
  have : ((-1 : Int) : Rat) = -1 := rfl
  rw [this]
  grind
theorem dot_add : ∀ (r s x : List Rat), r.length = x.length → s.length = x.length → dot (addQ r s) x = dot r x + dot s x
  | [], s, x, h1, h2 => by
    have e1 : x = [] := List.length_eq_zero_iff.mp h1.symm
    subst e1
    have e2 : s = [] := List.length_eq_zero_iff.mp h2
    subst e2
    show (0 : Rat) = 0 + 0
    grind
  | a :: r, [], x, h1, h2 => by rw [← h2] at h1; cases h1
  | a :: r, b :: s, [], h1, h2 => by cases h1
  | a :: r, b :: s, c :: x, h1, h2 => by
    have h := dot_add r s x (by simpa using h1) (by simpa using h2)
    unfold dot addQ at h ⊢
    simp only [List.zip_cons_cons, List.map_cons, List.zipWith_cons_cons, List.sum_cons]
    rw [h]
    grind
theorem dot_sub : ∀ (r s x : List Rat), r.length = x.length → s.length = x.length → dot (subQ r s) x = dot r x - dot s x
  | [], s, x, h1, h2 => by
    have e1 : x = [] := List.length_eq_zero_iff.mp h1.symm
    subst e1
    have e2 : s = [] := List.length_eq_zero_iff.mp h2
    subst e2
    show (0 : Rat) = 0 - 0
    grind
  | a :: r, [], x, h1, h2 => by rw [← h2] at h1; cases h1
  | a :: r, b :: s, [], h1, h2 => by cases h1
  | a :: r, b :: s, c :: x, h1, h2 => by
    have h := dot_sub r s x (by simpa using h1) (by simpa using h2)
    unfold dot subQ at h ⊢
    simp only [List.zip_cons_cons, List.map_cons, List.zipWith_cons_cons, List.sum_cons]
    rw [h]
    grind
theorem addQ_snoc {r s : List Rat} {c e : Rat} (h : r.length = s.length) : addQ (r ++ [c]) (s ++ [e]) = addQ r s ++ [c + e] := by
  unfold addQ
  rw [List.zip_append h, List.map_append]
  rfl
theorem subQ_snoc {r s : List Rat} {c e : Rat} (h : r.length = s.length) : subQ (r ++ [c]) (s ++ [e]) = subQ r s ++ [c - e] := by
  unfold subQ
  rw [List.zip_append h, List.map_append]
  rfl
theorem rb_addQ {m : Nat} {r s : List Rat} (h1 : rb m r) (h2 : rb m s) : rb (m + m + 1) (addQ r s) := by
  have e : addQ r s = over (addI r s) (lq r * lq s) := (over_addI r s).symm
  have hz6 : (2 : Nat) ^ (m + m + 1) = 2 ^ (m + m) * 2 := Nat.pow_succ _ _
  rw [e]
  refine rb_over (Nat.mul_pos (lq_pos r) (lq_pos s)) (fun z hz => ?_) (by unfold addI; have := h1.1; rw [List.length_map, List.length_zip]; omega)
  rcases List.mem_append.mp hz with hz | hz
  · unfold addI at hz
    obtain ⟨p, hp, rfl⟩ := List.mem_map.mp hz
    have z1 := wide_lt (rb_tq h1 (List.of_mem_zip hp).1) (nb (rb_lq h2))
    have z2 := wide_lt (rb_tq h2 (List.of_mem_zip hp).2) (nb (rb_lq h1))
    have z3 := Int.natAbs_add_le (tq (lq r) p.1 * (lq s : Int)) (tq (lq s) p.2 * (lq r : Int))
    omega
  · have e : z = ((lq r * lq s : Nat) : Int) := by simpa using hz
    have z1 := nat_mul_lt (rb_lq h1) (rb_lq h2)
    rw [e, Int.natAbs_natCast]
    omega
theorem rb_subQ {m : Nat} {r s : List Rat} (h1 : rb m r) (h2 : rb m s) : rb (m + m + 1) (subQ r s) := by
  rw [← subQ_eq]
  exact rb_addQ h1 (rb_neg h2)
end V1
set_option Elab.async false
set_option linter.all false
set_option maxRecDepth 100000
set_option maxHeartbeats 4000000
namespace V1
open PySem PySem.Spec PyProof.Rows L2
variable {P : Program} {w : World} {K : PySem.W.Frag} {mg : Str → Option Value} {base : Heap}
abbrev s_law_one_right : Stmt := top 46
abbrev n_law_one_right : List Str := ["m", "count", "line", "parts", "spot", "total", "told"]
theorem sc_law_one_right : FnScope n_law_one_right ["m", "count", "line"] (defScope s_law_one_right) := ⟨rfl, rfl, rfl, by decide +kernel, rfl, by decide +kernel, by decide +kernel⟩
structure OA where
  n : Nat
  r : List Rat
  c : Rat
def okOA (a : OA) : Prop := (1 ≤ a.n ∧ a.n ≤ 5) ∧ a.r.length = a.n ∧ okS (a.n + 1) (a.r ++ [a.c])
def sp_law_one_right : Sp := spM 6 (fun a : OA => [mark, .int (a.n : Int), rowD (a.r ++ [a.c])]) okOA fun _ d => d = .bool true
theorem okRX_of {n : Nat} {r : List Rat} {c : Rat} {x : List Rat} (hr : r.length = n) (h : okS (n + 1) (r ++ [c])) (hx : okS n x) : okRX ⟨r, c, x⟩ := ⟨h.2.1.mono (by decide), hx.2.1.mono (by decide), by rw [hr]; exact hx.1.symm⟩
theorem ok_law_one_right {f : Addr} {fd : FuncData} (T : Bt K mg) (D : Df K mg "_law_one_right" s_law_one_right ["m", "count", "line"] f fd)
    {f_law_spot : Addr} {d_law_spot : FuncData} (h_law_spot : Cal P w K mg base "_law_spot" s_law_spot ["m", "count"] 4 sp_law_spot f_law_spot d_law_spot)
    {f_law_shares : Addr} {d_law_shares : FuncData} (h_law_shares : Cal P w K mg base "_law_shares" s_law_shares ["line"] 4 sp_law_shares f_law_shares d_law_shares)
    {f_law_total : Addr} {d_law_total : FuncData} (h_law_total : Cal P w K mg base "_law_total" s_law_total ["row_so", "point_so"] 1 sp_law_total f_law_total d_law_total)
    {f_row_of : Addr} {d_row_of : FuncData} (h_row_of : Cal P w K mg base "row_of" s_row_of ["numbers"] 3 sp_row_of f_row_of d_row_of)
    {f_coefficients_of : Addr} {d_coefficients_of : FuncData} (h_coefficients_of : Cal P w K mg base "coefficients_of" s_coefficients_of ["row"] 3 sp_coefficients_of f_coefficients_of d_coefficients_of)
    {f_check_row : Addr} {d_check_row : FuncData} (h_check_row : Cal P w K mg base "check_row" s_check_row ["size", "value"] 3 sp_check_row f_check_row d_check_row)
    {f_row_sign : Addr} {d_row_sign : FuncData} (h_row_sign : Cal P w K mg base "row_sign" s_row_sign ["row", "point"] 2 sp_row_sign f_row_sign d_row_sign)
    {f_row_value : Addr} {d_row_value : FuncData} (h_row_value : Cal P w K mg base "row_value" s_row_value ["row", "point"] 2 sp_row_value f_row_value d_row_value)
    {f_law_like : Addr} {d_law_like : FuncData} (h_law_like : Cal P w K mg base "_law_like" s_law_like ["told", "due"] 1 sp_law_like f_law_like d_law_like)
    {f_law_sign : Addr} {d_law_sign : FuncData} (h_law_sign : Cal P w K mg base "_law_sign" s_law_sign ["number"] 1 sp_law_sign f_law_sign d_law_sign)
    {f_law_value : Addr} {d_law_value : FuncData} (h_law_value : Cal P w K mg base "_law_value" s_law_value ["row_so", "point_so"] 4 sp_law_value f_law_value d_law_value) : Cal P w K mg base "_law_one_right" s_law_one_right ["m", "count", "line"] 5 sp_law_one_right f fd := by
  refine ok_A D sc_law_one_right (fun _ => rfl) fun cdv A outer s H E hgd hr => ⟨_, (pss_cons (ps_par (i := 3) (j := 4) rfl sc_law_one_right.nd rfl rfl (by decide) rfl rfl (pa_cons (pe_fn (E := E0) h_law_shares.G hgd (hr.mono (by decide)) (by rfl) h_law_shares.gm h_law_shares.kp h_law_shares.b (pa_cons (pv 2) pa_nil)) (pa_cons (pe_fn (E := E0) h_law_spot.G hgd (hr.mono (by decide)) (by rfl) h_law_spot.gm h_law_spot.kp h_law_spot.b (pa_cons (pv 0) (pa_cons (pv 1) pa_nil))) pa_nil)) (by rfl))
        (pss_cons (ps_set (i := 5) sc_law_one_right.nd rfl (Or.inl rfl) (pe_fn (E := E0) h_law_total.G hgd (hr.mono (by decide)) (by rfl) h_law_total.gm h_law_total.kp h_law_total.b (pa_cons (pv 2) (pa_cons (pv 4) pa_nil))))
        (pss_cons (ps_set (i := 6) sc_law_one_right.nd rfl (Or.inl rfl) (pe_lst (pa_cons (pe_fn (E := E0) h_row_value.G hgd (hr.mono (by decide)) (by rfl) h_row_value.gm h_row_value.kp h_row_value.b (pa_cons (pv 2) (pa_cons (pv 4) pa_nil))) (pa_cons (pe_fn (E := E0) h_row_sign.G hgd (hr.mono (by decide)) (by rfl) h_row_sign.gm h_row_sign.kp h_row_sign.b (pa_cons (pv 2) (pa_cons (pv 4) pa_nil))) (pa_cons (pe_fn (E := E0) h_check_row.G hgd (hr.mono (by decide)) (by rfl) h_check_row.gm h_check_row.kp h_check_row.b (pa_cons (pv 1) (pa_cons (pv 2) pa_nil))) (pa_cons (pe_fn (E := E0) h_coefficients_of.G hgd (hr.mono (by decide)) (by rfl) h_coefficients_of.gm h_coefficients_of.kp h_coefficients_of.b (pa_cons (pv 2) pa_nil)) (pa_cons (pe_fn (E := E0) h_row_of.G hgd (hr.mono (by decide)) (by rfl) h_row_of.gm h_row_of.kp h_row_of.b (pa_cons (pe_callTy call_tuple_of (by rfl) T.tuple (by decide +kernel) (pa_cons (pv 3) pa_nil)) pa_nil)) pa_nil)))))))
        (pss_one (ps_ret (pe_fn (E := E0) h_law_like.G hgd (hr.mono (by decide)) (by rfl) h_law_like.gm h_law_like.kp h_law_like.b (pa_cons (pv 6) (pa_cons (pe_lst (pa_cons (pe_fn (E := E0) h_law_value.G hgd (hr.mono (by decide)) (by rfl) h_law_value.gm h_law_value.kp h_law_value.b (pa_cons (pv 2) (pa_cons (pv 4) pa_nil))) (pa_cons (pe_fn (E := E0) h_law_sign.G hgd (hr.mono (by decide)) (by rfl) h_law_sign.gm h_law_sign.kp h_law_sign.b (pa_cons (pv 5) pa_nil)) (pa_cons (pv 2) (pa_cons (pe_callTy call_tuple_of (by rfl) T.tuple (by decide +kernel) (pa_cons (pv 3) pa_nil)) (pa_cons (pv 2) pa_nil)))))) pa_nil)))))))), ?_⟩
  rintro L hS ⟨n, r, c⟩ ⟨hn, hr, hq⟩
  have hn' : 1 ≤ n ∧ n ≤ 5 := hn
  have hr' : r.length = n := hr
  have hq' : okS (n + 1) (r ++ [c]) := hq
  have hb : rb 1500 (r ++ [c]) := hq'.2.1.mono (by decide)
  have h64 : lq (r ++ [c]) < 2 ^ 64 := Nat.lt_of_le_of_lt hq'.2.2 (by decide)
  show SG L 6 _ [some mark, some (.int (n : Int)), some (rowD (r ++ [c])), none, none, none, none] _ _
  refine sq_parG (a := 0 + (6 + 0)) (b := 0) (ea2G (eg_callR (r ++ [c]) (ea_cons (eg_var rfl) ea_nil) hb) (eg_callM hS n (ea_cons (eg_var rfl) (ea_cons (eg_var rfl) ea_nil)) hn')) ?_
  rintro ds ⟨d1, d2, rfl, rfl, x, hx, rfl⟩
  refine ⟨_, _, rfl, ?_⟩
  have hrx : okRX ⟨r, c, x⟩ := okRX_of hr' hq' hx
  refine sq_asg (eg_callR (RX.mk r c x) (ea_cons (eg_var rfl) (ea_cons (eg_var rfl) ea_nil)) hrx) ?_
  refine sq_asg (eg_lst (ea_cons (eg_callR (RX.mk r c x) (ea_cons (eg_var rfl) (ea_cons (eg_var rfl) ea_nil)) hrx) (ea_cons (eg_callR (RX.mk r c x) (ea_cons (eg_var rfl) (ea_cons (eg_var rfl) ea_nil)) hrx)
    (ea_cons (eg_callR (r ++ [c]) (ea_cons ((eg_var rfl).to (by rw [List.length_append, hr']; congr 1; show (n : Int) = ((n + 1 : Nat) : Int) - 1; omega)) (ea_cons (eg_var rfl) ea_nil)) trivial)
    (ea_cons (eg_callR (r ++ [c]) (ea_cons (eg_var rfl) ea_nil) hb) (ea_cons (eg_callR (r ++ [c]) (ea_cons (eg_cb (ea_cons (eg_var rfl) ea_nil) cs_tuple) ea_nil) ⟨hb, h64⟩) ea_nil)))))) ?_
  have hv := val_bound (m1 := 100) (m2 := 100) hq'.2.1 hx.2.1 (hr'.trans hx.1.symm)
  have hfl : (r ++ [c]).length ≤ 10 := by rw [List.length_append, hr']; show n + 1 ≤ 10; omega
  refine sg_ret (eg_callR (.list [fq (dot r x + c), .int (valI r c x).sign, rowD (r ++ [c]), .tuple ((r ++ [c]).map fq), rowD (r ++ [c])]) (ea_cons (eg_var rfl) (ea_cons (eg_lst (ea_cons (eg_callR (RX.mk r c x) (ea_cons (eg_var rfl) (ea_cons (eg_var rfl) ea_nil)) hrx) (ea_cons (eg_callR (valI r c x) (ea_cons (eg_var rfl) ea_nil) trivial) (ea_cons (eg_var rfl) (ea_cons (eg_cb (ea_cons (eg_var rfl) ea_nil) cs_tuple) (ea_cons (eg_var rfl) ea_nil)))))) ea_nil))
    (sh_lst (b := 5 * (51 + 1)) (k := 3) (shn_lst (fun d hd => ?_) (Nat.le_refl 5)))) rfl
  simp only [List.mem_cons, List.not_mem_nil, or_false] at hd
  rcases hd with rfl | rfl | rfl | rfl | rfl
  · exact (shn_fq (p1900 hv.1) (Nat.lt_of_lt_of_le hv.2 (Nat.pow_le_pow_right (by decide) (by decide)))).mono
  · refine shn_int (Nat.lt_of_le_of_lt (show (valI r c x).sign.natAbs ≤ 1 from ?_) (Nat.lt_of_lt_of_le (show 1 < 2 ^ 1 by decide) (Nat.pow_le_pow_right (by decide) (by decide))))
    rcases Int.lt_trichotomy (valI r c x) 0 with h | h | h
    · rw [Int.sign_eq_neg_one_of_neg h]; decide
    · rw [h]; decide
    · rw [Int.sign_eq_one_of_pos h]; decide
  · exact (shn_row hb).mono
  · exact (shn_tup (m := 10) (shn_fqs hb) (by rw [List.length_map]; exact hfl)).mono
  · exact (shn_row hb).mono

end V1
set_option Elab.async false
set_option linter.all false
set_option maxRecDepth 100000
set_option maxHeartbeats 4000000
namespace V1
open PySem PySem.Spec PyProof.Rows L2
variable {P : Program} {w : World} {K : PySem.W.Frag} {mg : Str → Option Value} {base : Heap}
theorem int_args {a : Int} {b : Nat} {d1 d2 : PyData} (h : ([PyData.int a, .int (b : Int)] : List PyData) = [d1, d2]) : d1 = .int a ∧ d2 = .int (b : Int) := by
  injection h with h1 h2
  injection h2 with h3 _
  exact ⟨h1.symm, h3.symm⟩
theorem eg_by {L : Rl} {Γ : List (Option PyData)} (hS : SM L) (h0 : Γ[0]? = some (some mark)) : EvG L 2 (tCall sp_law_fraction [] E0 (tCons (tOp (rI0 fun i j => .int (i - j)) (tCall sp_law_draw [] E0 (tCons (tVar 0) (tCons (tC (.int ((13 : Nat) : Int))) tNil))) (tC (.int 6))) (tCons (tOp (rI0 fun i j => .int (i + j)) (tC (.int 1)) (tCall sp_law_draw [] E0 (tCons (tVar 0) (tCons (tC (.int ((4 : Nat) : Int))) tNil)))) tNil))) Γ (fun d => ∃ q, sm 3 q ∧ d = fq q) := by
  refine EvG.mono (a := (1 + 0) + ((0 + 1) + 0)) (eg_callRG (ea2G (eg_subG (eg_draw (b := 13) hS (by decide) h0) eg_intG) (eg_addG eg_intG (eg_draw (b := 4) hS (by decide) h0))) ?_) (by decide) ?_
  · rintro ds ⟨d1, d2, rfl, ⟨i, ⟨x, y, hx, rfl, rfl⟩, rfl⟩, ⟨k, ⟨u, v, rfl, hv, rfl⟩, rfl⟩⟩
    have hv' : 0 ≤ v ∧ v < 4 := hv
    refine ⟨rfl, (x - 6, (1 + v).toNat), ⟨by show 0 < (1 + v).toNat; omega, ?_⟩, ?_⟩
    · show (1 + v).toNat < 2 ^ 8000
      exact Nat.lt_of_le_of_lt (show (1 + v).toNat ≤ 6 by omega) (Nat.lt_of_lt_of_le (show 6 < 2 ^ 3 by decide) (Nat.pow_le_pow_right (by decide) (by decide)))
    · show [PyData.int (x - 6), .int (1 + v)] = [.int (x - 6), .int (((1 + v).toNat : Nat) : Int)]
      rw [Int.toNat_of_nonneg (by omega)]
  · rintro d ⟨⟨a, b⟩, ⟨d1, d2, e1, ⟨i, ⟨x, y, hx, rfl, rfl⟩, e2⟩, ⟨k, ⟨u, v, rfl, hv, rfl⟩, e3⟩⟩, ⟨hb, _⟩, rfl⟩
    obtain ⟨f1, f2⟩ := int_args e1
    have hv' : 0 ≤ v ∧ v < 4 := hv
    have hx' : 0 ≤ x ∧ x < 13 := hx
    have g1 : x - 6 = a := by
      have h := e2.symm.trans f1
      injection h
    have g2 : 1 + v = (b : Int) := by
      have h := e3.symm.trans f2
      injection h
    have hs := rat_small (a := a) (b := b) hb
    exact ⟨rat a b, ⟨by omega, by omega⟩, rfl⟩
theorem fq_tI (q : Rat) : fq q = tI [q.num, (q.den : Int)] := rfl

abbrev s_law_two_right : Stmt := top 47
abbrev n_law_two_right : List Str := ["m", "count", "line", "more", "by", "spot", "near", "far", "due", "told", "one_so", "other_so", "a", "b"]
theorem sc_law_two_right : FnScope n_law_two_right ["m", "count", "line", "more"] (defScope s_law_two_right) := ⟨rfl, rfl, rfl, by decide +kernel, rfl, by decide +kernel, by decide +kernel⟩
structure OT where
  n : Nat
  r : List Rat
  c : Rat
  s : List Rat
  e : Rat
def okOT (a : OT) : Prop := (1 ≤ a.n ∧ a.n ≤ 5) ∧ a.r.length = a.n ∧ okS (a.n + 1) (a.r ++ [a.c]) ∧ a.s.length = a.n ∧ okS (a.n + 1) (a.s ++ [a.e])
def sp_law_two_right : Sp := spM 8 (fun a : OT => [mark, .int (a.n : Int), rowD (a.r ++ [a.c]), rowD (a.s ++ [a.e])]) okOT fun _ d => d = .bool true
theorem ok_law_two_right {f : Addr} {fd : FuncData} (T : Bt K mg) (D : Df K mg "_law_two_right" s_law_two_right ["m", "count", "line", "more"] f fd)
    {f_law_spot : Addr} {d_law_spot : FuncData} (h_law_spot : Cal P w K mg base "_law_spot" s_law_spot ["m", "count"] 4 sp_law_spot f_law_spot d_law_spot)
    {f_law_fraction : Addr} {d_law_fraction : FuncData} (h_law_fraction : Cal P w K mg base "_law_fraction" s_law_fraction ["top", "bottom"] 3 sp_law_fraction f_law_fraction d_law_fraction)
    {f_law_draw : Addr} {d_law_draw : FuncData} (h_law_draw : Cal P w K mg base "_law_draw" s_law_draw ["m", "bound"] 1 sp_law_draw f_law_draw d_law_draw)
    {f_law_shares : Addr} {d_law_shares : FuncData} (h_law_shares : Cal P w K mg base "_law_shares" s_law_shares ["line"] 4 sp_law_shares f_law_shares d_law_shares)
    {f_law_made : Addr} {d_law_made : FuncData} (h_law_made : Cal P w K mg base "_law_made" s_law_made ["parts"] 4 sp_law_made f_law_made d_law_made)
    {f_law_added : Addr} {d_law_added : FuncData} (h_law_added : Cal P w K mg base "_law_added" s_law_added ["one_so", "other_so", "times"] 4 sp_law_added f_law_added d_law_added)
    {f_row_times : Addr} {d_row_times : FuncData} (h_row_times : Cal P w K mg base "row_times" s_row_times ["row", "value"] 3 sp_row_times f_row_times d_row_times)
    {f_row_minus : Addr} {d_row_minus : FuncData} (h_row_minus : Cal P w K mg base "row_minus" s_row_minus ["one", "other"] 4 sp_row_minus f_row_minus d_row_minus)
    {f_row_added : Addr} {d_row_added : FuncData} (h_row_added : Cal P w K mg base "row_added" s_row_added ["one", "other"] 3 sp_row_added f_row_added d_row_added)
    {f_law_like : Addr} {d_law_like : FuncData} (h_law_like : Cal P w K mg base "_law_like" s_law_like ["told", "due"] 1 sp_law_like f_law_like d_law_like)
    {f_law_value : Addr} {d_law_value : FuncData} (h_law_value : Cal P w K mg base "_law_value" s_law_value ["row_so", "point_so"] 4 sp_law_value f_law_value d_law_value)
    {f_row_value : Addr} {d_row_value : FuncData} (h_row_value : Cal P w K mg base "row_value" s_row_value ["row", "point"] 2 sp_row_value f_row_value d_row_value) : Cal P w K mg base "_law_two_right" s_law_two_right ["m", "count", "line", "more"] 5 sp_law_two_right f fd := by
  refine ok_A D sc_law_two_right (fun _ => rfl) fun cdv A outer s H E hgd hr => ⟨_, (pss_cons (ps_asg (pe_tup (pa_cons (pe_fn (E := E0) h_law_fraction.G hgd (hr.mono (by decide)) (by rfl) h_law_fraction.gm h_law_fraction.kp h_law_fraction.b (pa_cons (pe_op op_sub (pe_fn (E := E0) h_law_draw.G hgd (hr.mono (by decide)) (by rfl) h_law_draw.gm h_law_draw.kp h_law_draw.b (pa_cons (pv 0) (pa_cons pe_int pa_nil))) pe_int) (pa_cons (pe_op op_add pe_int (pe_fn (E := E0) h_law_draw.G hgd (hr.mono (by decide)) (by rfl) h_law_draw.gm h_law_draw.kp h_law_draw.b (pa_cons (pv 0) (pa_cons pe_int pa_nil)))) pa_nil))) (pa_cons (pe_fn (E := E0) h_law_spot.G hgd (hr.mono (by decide)) (by rfl) h_law_spot.gm h_law_spot.kp h_law_spot.b (pa_cons (pv 0) (pa_cons (pv 1) pa_nil))) pa_nil))) (pg_tup rfl (pgs_cons (pg_name (i := 4) sc_law_two_right.nd rfl (Or.inr rfl)) (pgs_cons (pg_name (i := 5) sc_law_two_right.nd rfl (Or.inl rfl)) pgs_nil))))
        (pss_cons (ps_par (i := 6) (j := 7) rfl sc_law_two_right.nd rfl rfl (by decide) rfl rfl (pa_cons (pe_fn (E := E0) h_law_shares.G hgd (hr.mono (by decide)) (by rfl) h_law_shares.gm h_law_shares.kp h_law_shares.b (pa_cons (pv 2) pa_nil)) (pa_cons (pe_fn (E := E0) h_law_shares.G hgd (hr.mono (by decide)) (by rfl) h_law_shares.gm h_law_shares.kp h_law_shares.b (pa_cons (pv 3) pa_nil)) pa_nil)) (by rfl))
        (pss_cons (ps_set (i := 8) sc_law_two_right.nd rfl (Or.inl rfl) (pe_lst (pa_cons (pe_fn (E := E0) h_law_made.G hgd (hr.mono (by decide)) (by rfl) h_law_made.gm h_law_made.kp h_law_made.b (pa_cons (pe_lc (own := [("a", 12), ("b", 13)]) (g := gTup K 2 (gCons (gName 12) (gCons (gName 13) gNil))) (tt := tYes) rfl sc_law_two_right.nd (pi_zipP true true (by rfl) T.zip (pa_cons (pv 6) (pa_cons (pv 7) pa_nil))) (blkOk_by (own := [("a", 12), ("b", 13)]) (N := n_law_two_right) (sc := defScope s_law_two_right) (by decide +kernel)) (fun _ _ _ _ _ => (pg_tup rfl (pgs_cons (pg_name (i := 12) sc_law_two_right.nd rfl (Or.inl rfl)) (pgs_cons (pg_name (i := 13) sc_law_two_right.nd rfl (Or.inl rfl)) pgs_nil)))) (fun _ _ _ _ _ => pts_nil) (fun _ _ _ _ _ => (pe_fn (E := E0) h_law_added.G hgd (hr.mono (by decide)) (by rfl) h_law_added.gm h_law_added.kp h_law_added.b (pa_cons (pv 12) (pa_cons (pv 13) (pa_cons pe_int pa_nil)))))) pa_nil)) (pa_cons (pe_fn (E := E0) h_law_made.G hgd (hr.mono (by decide)) (by rfl) h_law_made.gm h_law_made.kp h_law_made.b (pa_cons (pe_lc (own := [("a", 12), ("b", 13)]) (g := gTup K 2 (gCons (gName 12) (gCons (gName 13) gNil))) (tt := tYes) rfl sc_law_two_right.nd (pi_zipP true true (by rfl) T.zip (pa_cons (pv 6) (pa_cons (pv 7) pa_nil))) (blkOk_by (own := [("a", 12), ("b", 13)]) (N := n_law_two_right) (sc := defScope s_law_two_right) (by decide +kernel)) (fun _ _ _ _ _ => (pg_tup rfl (pgs_cons (pg_name (i := 12) sc_law_two_right.nd rfl (Or.inl rfl)) (pgs_cons (pg_name (i := 13) sc_law_two_right.nd rfl (Or.inl rfl)) pgs_nil)))) (fun _ _ _ _ _ => pts_nil) (fun _ _ _ _ _ => (pe_fn (E := E0) h_law_added.G hgd (hr.mono (by decide)) (by rfl) h_law_added.gm h_law_added.kp h_law_added.b (pa_cons (pv 12) (pa_cons (pv 13) (pa_cons (pe_un un_neg pe_int) pa_nil)))))) pa_nil)) pa_nil))))
        (pss_cons (ps_expr (pe_bm PySem.F.plainAttrs_list PySem.F.slot_list_append PySem.F.type_list_append mt_append (pv 8) (pa_cons (pe_fn (E := E0) h_law_made.G hgd (hr.mono (by decide)) (by rfl) h_law_made.gm h_law_made.kp h_law_made.b (pa_cons (pe_lc (own := [("a", 12)]) (g := gName 12) (tt := tYes) rfl sc_law_two_right.nd (pi_list (pv 6)) (blkOk_by (own := [("a", 12)]) (N := n_law_two_right) (sc := defScope s_law_two_right) (by decide +kernel)) (fun _ _ _ _ _ => (pg_name (i := 12) sc_law_two_right.nd rfl (Or.inl rfl))) (fun _ _ _ _ _ => pts_nil) (fun _ _ _ _ _ => (pe_fn (E := E0) h_law_fraction.G hgd (hr.mono (by decide)) (by rfl) h_law_fraction.gm h_law_fraction.kp h_law_fraction.b (pa_cons (pe_op op_mulW (pe_ix (ix_tupK (K := K) rfl) (pv 12) pe_int (fun _ _ => rfl)) (pe_ix (ix_tupK (K := K) rfl) (pv 4) pe_int (fun _ _ => rfl))) (pa_cons (pe_op op_mulW (pe_ix (ix_tupK (K := K) rfl) (pv 12) pe_int (fun _ _ => rfl)) (pe_ix (ix_tupK (K := K) rfl) (pv 4) pe_int (fun _ _ => rfl))) pa_nil))))) pa_nil)) pa_nil)))
        (pss_cons (ps_set (i := 9) sc_law_two_right.nd rfl (Or.inl rfl) (pe_lst (pa_cons (pe_fn (E := E0) h_row_added.G hgd (hr.mono (by decide)) (by rfl) h_row_added.gm h_row_added.kp h_row_added.b (pa_cons (pv 2) (pa_cons (pv 3) pa_nil))) (pa_cons (pe_fn (E := E0) h_row_minus.G hgd (hr.mono (by decide)) (by rfl) h_row_minus.gm h_row_minus.kp h_row_minus.b (pa_cons (pv 2) (pa_cons (pv 3) pa_nil))) (pa_cons (pe_fn (E := E0) h_row_times.G hgd (hr.mono (by decide)) (by rfl) h_row_times.gm h_row_times.kp h_row_times.b (pa_cons (pv 2) (pa_cons (pv 4) pa_nil))) pa_nil)))))
        (pss_cons (ps_if (pt_not (pt_val (pe_fn (E := E0) h_law_like.G hgd (hr.mono (by decide)) (by rfl) h_law_like.gm h_law_like.kp h_law_like.b (pa_cons (pv 9) (pa_cons (pv 8) pa_nil))))) (pss_one (ps_ret pe_bl)) pss_nil)
        (pss_cons (ps_par (i := 10) (j := 11) rfl sc_law_two_right.nd rfl rfl (by decide) rfl rfl (pa_cons (pe_fn (E := E0) h_law_value.G hgd (hr.mono (by decide)) (by rfl) h_law_value.gm h_law_value.kp h_law_value.b (pa_cons (pv 2) (pa_cons (pv 5) pa_nil))) (pa_cons (pe_fn (E := E0) h_law_value.G hgd (hr.mono (by decide)) (by rfl) h_law_value.gm h_law_value.kp h_law_value.b (pa_cons (pv 3) (pa_cons (pv 5) pa_nil))) pa_nil)) (by rfl))
        (pss_one (ps_ret (pe_fn (E := E0) h_law_like.G hgd (hr.mono (by decide)) (by rfl) h_law_like.gm h_law_like.kp h_law_like.b (pa_cons (pe_lst (pa_cons (pe_fn (E := E0) h_row_value.G hgd (hr.mono (by decide)) (by rfl) h_row_value.gm h_row_value.kp h_row_value.b (pa_cons (pe_ix (ix_listK (K := K) rfl) (pv 9) pe_int (fun _ _ => rfl)) (pa_cons (pv 5) pa_nil))) (pa_cons (pe_fn (E := E0) h_row_value.G hgd (hr.mono (by decide)) (by rfl) h_row_value.gm h_row_value.kp h_row_value.b (pa_cons (pe_ix (ix_listK (K := K) rfl) (pv 9) pe_int (fun _ _ => rfl)) (pa_cons (pv 5) pa_nil))) pa_nil))) (pa_cons (pe_lst (pa_cons (pe_fn (E := E0) h_law_added.G hgd (hr.mono (by decide)) (by rfl) h_law_added.gm h_law_added.kp h_law_added.b (pa_cons (pv 10) (pa_cons (pv 11) (pa_cons pe_int pa_nil)))) (pa_cons (pe_fn (E := E0) h_law_added.G hgd (hr.mono (by decide)) (by rfl) h_law_added.gm h_law_added.kp h_law_added.b (pa_cons (pv 10) (pa_cons (pv 11) (pa_cons (pe_un un_neg pe_int) pa_nil)))) pa_nil))) pa_nil)))))))))))), ?_⟩
  rintro L hS ⟨n, r, c, s, e⟩ ⟨hn, hr, hq, hs, hm⟩
  have hn' : 1 ≤ n ∧ n ≤ 5 := hn
  have hr' : r.length = n := hr
  have hs' : s.length = n := hs
  have hq' : okS (n + 1) (r ++ [c]) := hq
  have hm' : okS (n + 1) (s ++ [e]) := hm
  clear hn hr hs hq hm
  show SG L 8 _ [some mark, some (.int (n : Int)), some (rowD (r ++ [c])), some (rowD (s ++ [e])), none, none, none, none, none, none, none, none, none, none] _ _
  have hrs : (r ++ [c]).length = (s ++ [e]).length := by rw [List.length_append, List.length_append, hr', hs']; rfl
  have hl6 : (r ++ [c]).length ≤ 6 := by rw [List.length_append, hr']; show n + 1 ≤ 6; omega
  have hb1 : rb 1500 (r ++ [c]) := hq'.2.1.mono (by decide)
  have hb2 : rb 1500 (s ++ [e]) := hm'.2.1.mono (by decide)
  have b1 := hq'.2.1
  have b2 := hm'.2.1
  refine sq_tgG (js := [4, 5]) (a := 2 + (6 + 0)) (b := 0) (eg_tupG (ea2G (eg_by hS rfl) (eg_callM hS n (ea_cons (eg_var rfl) (ea_cons (eg_var rfl) ea_nil)) hn')) ?_) ?_ ?_
  · rintro ds ⟨d1, d2, rfl, ⟨q, hq, rfl⟩, x, hx, rfl⟩
    exact ⟨rfl, (show 2 ≤ 1000 by decide)⟩
  · rintro d ⟨ds, _, rfl⟩ z
    cases z
  rintro d ⟨ds, ⟨d1, d2, rfl, ⟨q, hq, rfl⟩, x, hx, rfl⟩, rfl⟩
  refine ⟨_, tg_two, ?_⟩
  have bx := hx.2.1
  have hxl : r.length = x.length := hr'.trans hx.1.symm
  have hxl2 : s.length = x.length := hs'.trans hx.1.symm
  refine sq_par (ea_cons (eg_callR (r ++ [c]) (ea_cons (eg_var rfl) ea_nil) hb1) (ea_cons (eg_callR (s ++ [e]) (ea_cons (eg_var rfl) ea_nil) hb2) ea_nil)) ?_
  generalize hQ : r ++ [c] = Q at *
  generalize hM : s ++ [e] = M at *
  show SG L 0 _ [some mark, some (.int (n : Int)), some (rowD Q), some (rowD M), some (fq q), some (rowD x), some (.list (Q.map fq)), some (.list (M.map fq)), none, none, none, none, none, none] _ _
  have sQ : ∀ p ∈ Q, sm 100 p := fun p hp => rb_sm b1 hp
  have sM : ∀ p ∈ M, sm 100 p := fun p hp => rb_sm b2 hp
  -- the sums, the differences, the multiples
  have hz := wk_zip (L := L) (K := K) (k1 := true) (k2 := true) (Γ := [some mark, some (.int (n : Int)), some (rowD Q), some (rowD M), some (fq q), some (rowD x), some (.list (Q.map fq)), some (.list (M.map fq)), none, none, none, none, none, none]) (ds := Q.map fq) (es := M.map fq) (ea_cons (eg_var (i := 6) rfl) (ea_cons (eg_var (i := 7) rfl) ea_nil))
  rw [zipD_map] at hz
  have hzl : (Q.zip M).length ≤ 6 := by rw [List.length_zip]; omega
  have mk : ∀ t : Int, t.natAbs ≤ 1 → okM ((Q.zip M).map fun p => p.1 + (t : Rat) * p.2) := fun t ht => ⟨by rw [List.length_map]; exact hzl, fun p hp => by
    obtain ⟨z, hz2, rfl⟩ := List.mem_map.mp hp
    exact (sm_add (sQ z.1 (List.of_mem_zip hz2).1) (sM z.2 (List.of_mem_zip hz2).2) ht).mono (n := 1000)⟩
  have e1 : ((Q.zip M).map fun p => p.1 + ((1 : Int) : Rat) * p.2) = addQ Q M := List.map_congr_left fun p _ => add_one_mul p.1 p.2
  have e2 : ((Q.zip M).map fun p => p.1 + ((-1 : Int) : Rat) * p.2) = subQ Q M := List.map_congr_left fun p _ => add_neg_mul p.1 p.2
  have up : ∀ {p : Rat}, sm 100 p → p.num.natAbs < 2 ^ 3000 ∧ p.den < 2 ^ 3000 := fun h => h.mono (n := 3000)
  have lcs : ∀ (t : Int) {tt : TE}, t.natAbs ≤ 1 → (∀ Γ', EvD L tt Γ' (.int t)) → EvD L (tLc (iZipP K true true (tCons (tVar 6) (tCons (tVar 7) tNil))) (gTup K 2 (gCons (gName 12) (gCons (gName 13) gNil))) tYes (tCall sp_law_added [] E0 (tCons (tVar 12) (tCons (tVar 13) (tCons tt tNil)))) [12, 13]) [some mark, some (.int (n : Int)), some (rowD Q), some (rowD M), some (fq q), some (rowD x), some (.list (Q.map fq)), some (.list (M.map fq)), none, none, none, none, none, none] (.list (((Q.zip M).map fun p => p.1 + (t : Rat) * p.2).map fq)) := fun t tt ht h => by
    rw [List.map_map]
    exact eg_lcm (js := [12, 13]) hz (by simp) (by omega) fun p hp => ⟨(fun z => by cases z), _, tg_two, eg_callR (AQ.mk p.1 p.2 t) (ea_cons (eg_var (i := 12) rfl) (ea_cons (eg_var (i := 13) rfl) (ea_cons (h _) ea_nil))) ⟨(up (sQ p.1 (List.of_mem_zip hp).1)).1, (up (sQ p.1 (List.of_mem_zip hp).1)).2, (up (sM p.2 (List.of_mem_zip hp).2)).1, (up (sM p.2 (List.of_mem_zip hp).2)).2, Nat.lt_of_le_of_lt ht (by decide)⟩⟩
  refine sg_grown2 (j := 8) (d := .list [rowD (addQ Q M), rowD (subQ Q M)]) (N2 := fun G => G = [none, none, some (rowD Q), some (rowD M), some (fq q), some (rowD x), none, none, some (.list [rowD (addQ Q M), rowD (subQ Q M), rowD (Q.map fun p => p * q)]), none, none, none, none, none]) (show 8 < 14 by decide)
    (eg_lstF (ea_cons ((eg_callR ((Q.zip M).map fun p => p.1 + ((1 : Int) : Rat) * p.2) (ea_cons (lcs 1 (by decide) fun _ => eg_int) ea_nil) (mk 1 (by decide))).to (by show rowD _ = _; rw [e1])) (ea_cons ((eg_callR ((Q.zip M).map fun p => p.1 + ((-1 : Int) : Rat) * p.2) (ea_cons (lcs (-1) (by decide) fun _ => eg_neg eg_int) ea_nil) (mk (-1) (by decide))).to (by show rowD _ = _; rw [e2])) ea_nil))) ?_ ?_
  · refine sw_app (zss := [rowQ (addQ Q M), rowQ (subQ Q M)]) (zs := rowQ (Q.map fun p => p * q)) rfl (show 2 ≤ 1000 by decide) ?_ rfl fun i d hd => ?_
    · have hlc := eg_lcm (L := L) (wi := iList K (tVar 6)) (Γ := [some mark, some (.int (n : Int)), some (rowD Q), some (rowD M), some (fq q), some (rowD x), some (.list (Q.map fq)), some (.list (M.map fq)), some (.list [rowD (addQ Q M), rowD (subQ Q M)]), none, none, none, none, none]) (g := gName 12) (vs := [12]) (js := [12]) (xs := Q) (enc := fq) (res := fun p => fq (p * q))
        (te := tCall sp_law_fraction [] E0 (tCons (tOp (rI CMulW fun i j => .int (i * j)) (tOp (rIxT K) (tVar 12) (tC (.int 0))) (tOp (rIxT K) (tVar 4) (tC (.int 0)))) (tCons (tOp (rI CMulW fun i j => .int (i * j)) (tOp (rIxT K) (tVar 12) (tC (.int 1))) (tOp (rIxT K) (tVar 4) (tC (.int 1)))) tNil)))
        (wk_list (eg_var (i := 6) rfl)) (by simp) (by omega) fun p hp => ⟨(fun z => by cases z), _, tg_name, (eg_callR (p.num * q.num, p.den * q.den) (ea_cons (eg_mul (eg_ixT (ds := [.int p.num, .int (p.den : Int)]) (eg_var rfl) eg_int rfl) (eg_ixT (ds := [.int q.num, .int (q.den : Int)]) (eg_var rfl) eg_int rfl) (mw (a := 100) (b := 3) (sQ p hp).1 hq.1))
          (ea_cons ((eg_mul (eg_ixT (ds := [.int p.num, .int (p.den : Int)]) (eg_var rfl) eg_int rfl) (eg_ixT (ds := [.int q.num, .int (q.den : Int)]) (eg_var rfl) eg_int rfl) (mw (a := 100) (b := 3) (nb (sQ p hp).2) (nb hq.2))).to (by rw [Int.natCast_mul])) ea_nil)) ⟨Nat.mul_pos p.den_pos q.den_pos, Nat.lt_of_lt_of_le (nat_mul_lt (sQ p hp).2 hq.2) (Nat.pow_le_pow_right (by decide) (by decide))⟩).to (by show fq (rat _ _) = fq (p * q); rw [rat_mul])⟩
      have e3 : PyData.list (Q.map fun p => fq (p * q)) = .list ((Q.map fun p => p * q).map fq) := by rw [List.map_map]; rfl
      rw [e3] at hlc
      exact eg_callR (Q.map fun p => p * q) (ea_cons hlc ea_nil) ⟨by rw [List.length_map]; exact hl6, fun p hp => by
        obtain ⟨z, hz2, rfl⟩ := List.mem_map.mp hp
        exact (sm_mul (sQ z hz2) hq).mono (n := 1000)⟩
    · match i, hd with
      | 0, hd => cases hd
      | 1, hd => cases hd
      | 2, hd => exact .inr ⟨hd, .inl ⟨_, (Option.some.inj (Option.some.inj hd)).symm⟩⟩
      | 3, hd => exact .inr ⟨hd, .inl ⟨_, (Option.some.inj (Option.some.inj hd)).symm⟩⟩
      | 4, hd => exact .inr ⟨hd, .inl ⟨[q.num, (q.den : Int)], (Option.some.inj (Option.some.inj hd)).symm⟩⟩
      | 5, hd => exact .inr ⟨hd, .inl ⟨_, (Option.some.inj (Option.some.inj hd)).symm⟩⟩
      | 6, hd => cases hd
      | 7, hd => cases hd
      | 8, hd => exact .inl ⟨rfl, (Option.some.inj (Option.some.inj hd)).symm⟩
      | 9, hd => cases hd
      | 10, hd => cases hd
      | 11, hd => cases hd
      | 12, hd => cases hd
      | 13, hd => cases hd
      | i + 14, hd => cases hd
  rintro G rfl
  have okRRv : okRR (RR.mk Q M) := ⟨hb1, hb2, hrs⟩
  have rA : rb 1500 (addQ Q M) := (rb_addQ b1 b2).mono (by decide)
  have rS : rb 1500 (subQ Q M) := (rb_subQ b1 b2).mono (by decide)
  have rM : rb 1500 (Q.map fun p => p * q) := (sm_rb (m := 103) (k := 6) (by decide) (fun p hp => by
    obtain ⟨z, hz2, rfl⟩ := List.mem_map.mp hp
    exact sm_mul (sQ z hz2) hq) (by rw [List.length_map]; exact hl6) (by decide)).mono (by decide)
  refine sq_asg (eg_lst (ea_cons (eg_callR (RR.mk Q M) (ea_cons (eg_var rfl) (ea_cons (eg_var rfl) ea_nil)) okRRv) (ea_cons (eg_callR (RR.mk Q M) (ea_cons (eg_var rfl) (ea_cons (eg_var rfl) ea_nil)) okRRv)
    (ea_cons (eg_callR (RQ.mk Q q) (ea_cons (eg_var rfl) (ea_cons (eg_var rfl) ea_nil)) ⟨hb1, (hq.mono (n := 1500)).1, (hq.mono (n := 1500)).2⟩) ea_nil)))) ?_
  refine sq_if_no (et_is (et_not (et_B (eg_callR (.list [rowD (addQ Q M), rowD (subQ Q M), rowD (Q.map fun p => p * q)]) (ea_cons (eg_var rfl) (ea_cons (eg_var rfl) ea_nil)) (sh_lst (b := 3 * (51 + 1)) (k := 2) (shn_lst (fun d hd => ?_) (Nat.le_refl 3)))))) rfl) ?_
  · simp only [List.mem_cons, List.not_mem_nil, or_false] at hd
    rcases hd with rfl | rfl | rfl
    · exact shn_row rA
    · exact shn_row rS
    · exact shn_row rM
  subst hQ
  subst hM
  have hA : addQ (r ++ [c]) (s ++ [e]) = addQ r s ++ [c + e] := addQ_snoc (hr'.trans hs'.symm)
  have hSb : subQ (r ++ [c]) (s ++ [e]) = subQ r s ++ [c - e] := subQ_snoc (hr'.trans hs'.symm)
  rw [hA] at rA
  rw [hSb] at rS
  have hlA : (addQ r s).length = x.length := by unfold addQ; rw [List.length_map, List.length_zip]; omega
  have hlS : (subQ r s).length = x.length := by unfold subQ; rw [List.length_map, List.length_zip]; omega
  have bx' : rb 1500 x := bx.mono (by decide)
  refine sq_par (ea_cons (eg_callR (RX.mk r c x) (ea_cons (eg_var rfl) (ea_cons (eg_var rfl) ea_nil)) ⟨hb1, bx', hxl⟩) (ea_cons (eg_callR (RX.mk s e x) (ea_cons (eg_var rfl) (ea_cons (eg_var rfl) ea_nil)) ⟨hb2, bx', hxl2⟩) ea_nil)) ?_
  have v1 := val_bound (m1 := 100) (m2 := 100) b1 bx hxl
  have v2 := val_bound (m1 := 100) (m2 := 100) b2 bx hxl2
  have w1 : sm 207 (dot r x + c) := v1
  have w2 : sm 207 (dot s x + e) := v2
  have e5 : dot (addQ r s) x + (c + e) = (dot r x + c) + ((1 : Int) : Rat) * (dot s x + e) := by
    rw [add_one_mul, dot_add r s x hxl hxl2]
    grind
  have e6 : dot (subQ r s) x + (c - e) = (dot r x + c) + ((-1 : Int) : Rat) * (dot s x + e) := by
    rw [add_neg_mul, dot_sub r s x hxl hxl2]
    grind
  have up2 : ∀ {p : Rat}, sm 207 p → p.num.natAbs < 2 ^ 3000 ∧ p.den < 2 ^ 3000 := fun h => h.mono (n := 3000)
  have okq : ∀ t : Int, t.natAbs ≤ 1 → (dot r x + c).num.natAbs < 2 ^ 3000 ∧ (dot r x + c).den < 2 ^ 3000 ∧ (dot s x + e).num.natAbs < 2 ^ 3000 ∧ (dot s x + e).den < 2 ^ 3000 ∧ t.natAbs < 2 ^ 2 := fun t ht => ⟨(up2 w1).1, (up2 w1).2, (up2 w2).1, (up2 w2).2, Nat.lt_of_le_of_lt ht (by decide)⟩
  refine sg_ret (eg_callR (.list [fq ((dot r x + c) + ((1 : Int) : Rat) * (dot s x + e)), fq ((dot r x + c) + ((-1 : Int) : Rat) * (dot s x + e))]) (ea_cons
    (eg_lst (ea_cons ((eg_callR (RX.mk (addQ r s) (c + e) x) (ea_cons ((eg_ixL (eg_var rfl) eg_int (atI_zero _ _)).to (by rw [hA])) (ea_cons (eg_var rfl) ea_nil)) ⟨rA, bx', hlA⟩).to (by show fq (dot (addQ r s) x + (c + e)) = _; rw [e5]))
      (ea_cons ((eg_callR (RX.mk (subQ r s) (c - e) x) (ea_cons ((eg_ixL (eg_var rfl) eg_int (by rfl)).to (by rw [hSb])) (ea_cons (eg_var rfl) ea_nil)) ⟨rS, bx', hlS⟩).to (by show fq (dot (subQ r s) x + (c - e)) = _; rw [e6])) ea_nil)))
    (ea_cons (eg_lst (ea_cons (eg_callR (AQ.mk (dot r x + c) (dot s x + e) 1) (ea_cons (eg_var rfl) (ea_cons (eg_var rfl) (ea_cons eg_int ea_nil))) (okq 1 (by decide))) (ea_cons (eg_callR (AQ.mk (dot r x + c) (dot s x + e) (-1)) (ea_cons (eg_var rfl) (ea_cons (eg_var rfl) (ea_cons (eg_neg eg_int) ea_nil))) (okq (-1) (by decide))) ea_nil))) ea_nil))
    (sh_lst (b := 2 * (2 + 1)) (k := 2) (shn_lst (fun d hd => ?_) (Nat.le_refl 2)))) rfl
  simp only [List.mem_cons, List.not_mem_nil, or_false] at hd
  rcases hd with rfl | rfl
  · exact shn_sm (sm_add w1 w2 (by decide))
  · exact shn_sm (sm_add w1 w2 (by decide))

end V1
set_option Elab.async false
set_option linter.all false
set_option maxRecDepth 100000
set_option maxHeartbeats 4000000
namespace V1
open PySem PySem.Spec PyProof.Rows L2
variable {P : Program} {w : World} {K : PySem.W.Frag} {mg : Str → Option Value} {base : Heap}
def g2 {α : Type} : List α → List α → List α
  | [], [a, b] => [a, b]
  | _, _ => []
def g2r {α : Type} : List α → List α → List α
  | [], [a, b] => [b, a]
  | _, _ => []
def g1 {α : Type} : List α → List α → List α
  | [], [a] => [a]
  | _, _ => []
theorem vals_nil {us : List Value} (h : Vals [] us) : us = [] := by cases h; rfl
theorem rel_g2 {vs : List V} {us : List Value} {zs : List V} {ws : List Value} (h1 : Vals vs us) (h2 : Vals zs ws) : Vals (g2 vs zs) (g2 us ws) := by
  cases h1 with
  | nil =>
    cases h2 with
    | nil => exact .nil
    | cons a h2 =>
      cases h2 with
      | nil => exact .nil
      | cons b h2 =>
        cases h2 with
        | nil => exact .cons a (.cons b .nil)
        | cons c h2 => exact .nil
  | cons a h1 => exact .nil
theorem rel_g2r {vs : List V} {us : List Value} {zs : List V} {ws : List Value} (h1 : Vals vs us) (h2 : Vals zs ws) : Vals (g2r vs zs) (g2r us ws) := by
  cases h1 with
  | nil =>
    cases h2 with
    | nil => exact .nil
    | cons a h2 =>
      cases h2 with
      | nil => exact .nil
      | cons b h2 =>
        cases h2 with
        | nil => exact .cons b (.cons a .nil)
        | cons c h2 => exact .nil
  | cons a h1 => exact .nil
theorem rel_g1 {vs : List V} {us : List Value} {zs : List V} {ws : List Value} (h1 : Vals vs us) (h2 : Vals zs ws) : Vals (g1 vs zs) (g1 us ws) := by
  cases h1 with
  | nil =>
    cases h2 with
    | nil => exact .nil
    | cons a h2 =>
      cases h2 with
      | nil => exact .cons a .nil
      | cons b h2 => exact .nil
  | cons a h1 => exact .nil
theorem g2_some {α : Type} : ∀ {us ws : List α}, (g2 us ws).length = 2 → us = [] ∧ ∃ a b, ws = [a, b]
  | [], [], h => by cases h
  | [], [_], h => by cases h
  | [], [a, b], _ => ⟨rfl, a, b, rfl⟩
  | [], _ :: _ :: _ :: _, h => by cases h
  | _ :: _, _, h => by cases h
theorem g2r_some {α : Type} : ∀ {us ws : List α}, (g2r us ws).length = 2 → us = [] ∧ ∃ a b, ws = [a, b]
  | [], [], h => by cases h
  | [], [_], h => by cases h
  | [], [a, b], _ => ⟨rfl, a, b, rfl⟩
  | [], _ :: _ :: _ :: _, h => by cases h
  | _ :: _, _, h => by cases h
theorem g1_some {α : Type} : ∀ {us ws : List α}, (g1 us ws).length = 1 → us = [] ∧ ∃ a, ws = [a]
  | [], [], h => by cases h
  | [], [a], _ => ⟨rfl, a, rfl⟩
  | [], _ :: _ :: _, h => by cases h
  | _ :: _, _, h => by cases h
theorem kbin2 {K : PySem.W.Frag} {fd : FuncData} {ps ks : List Str} (hp : ps.length = 2) (h : ∀ u v : Value, bindArgs fd ⟨[], ks.zip [u, v]⟩ = pure (ps.zip [u, v])) : KBinds K fd ps ks g2 g2 := ⟨fun s us ws _ hl => by
  obtain ⟨rfl, u, v, rfl⟩ := g2_some (hl.trans hp)
  exact .of_eq (h u v), rel_g2⟩
theorem kbin2r {K : PySem.W.Frag} {fd : FuncData} {ps ks : List Str} (hp : ps.length = 2) (h : ∀ u v : Value, bindArgs fd ⟨[], ks.zip [u, v]⟩ = pure (ps.zip [v, u])) : KBinds K fd ps ks g2r g2r := ⟨fun s us ws _ hl => by
  obtain ⟨rfl, u, v, rfl⟩ := g2r_some (hl.trans hp)
  exact .of_eq (h u v), rel_g2r⟩
theorem kbin1 {K : PySem.W.Frag} {fd : FuncData} {ps ks : List Str} (hp : ps.length = 1) (h : ∀ u : Value, bindArgs fd ⟨[], ks.zip [u]⟩ = pure (ps.zip [u])) : KBinds K fd ps ks g1 g1 := ⟨fun s us ws _ hl => by
  obtain ⟨rfl, u, rfl⟩ := g1_some (hl.trans hp)
  exact .of_eq (h u), rel_g1⟩
theorem KB_row_through_row_rows {f : Addr} {fd : FuncData} (F : Fun K "row_through" "row_through" s_row_through f fd) : KBinds K fd ["row", "rows"] ["row", "rows"] g2 g2 := by
  obtain ⟨oc, od, kV, doc, pm, an, cdv, ct, osl, rfl, _⟩ := F.ex
  exact kbin2 rfl fun u v => rfl
theorem KB_row_value_row_point {f : Addr} {fd : FuncData} (F : Fun K "row_value" "row_value" s_row_value f fd) : KBinds K fd ["row", "point"] ["row", "point"] g2 g2 := by
  obtain ⟨oc, od, kV, doc, pm, an, cdv, ct, osl, rfl, _⟩ := F.ex
  exact kbin2 rfl fun u v => rfl
theorem KB_row_added_one_other {f : Addr} {fd : FuncData} (F : Fun K "row_added" "row_added" s_row_added f fd) : KBinds K fd ["one", "other"] ["one", "other"] g2 g2 := by
  obtain ⟨oc, od, kV, doc, pm, an, cdv, ct, osl, rfl, _⟩ := F.ex
  exact kbin2 rfl fun u v => rfl
theorem KB_row_minus_other_one {f : Addr} {fd : FuncData} (F : Fun K "row_minus" "row_minus" s_row_minus f fd) : KBinds K fd ["one", "other"] ["other", "one"] g2r g2r := by
  obtain ⟨oc, od, kV, doc, pm, an, cdv, ct, osl, rfl, _⟩ := F.ex
  exact kbin2r rfl fun u v => rfl
theorem KB_row_times_row_value {f : Addr} {fd : FuncData} (F : Fun K "row_times" "row_times" s_row_times f fd) : KBinds K fd ["row", "value"] ["row", "value"] g2 g2 := by
  obtain ⟨oc, od, kV, doc, pm, an, cdv, ct, osl, rfl, _⟩ := F.ex
  exact kbin2 rfl fun u v => rfl
theorem KB_row_sign_point_row {f : Addr} {fd : FuncData} (F : Fun K "row_sign" "row_sign" s_row_sign f fd) : KBinds K fd ["row", "point"] ["point", "row"] g2r g2r := by
  obtain ⟨oc, od, kV, doc, pm, an, cdv, ct, osl, rfl, _⟩ := F.ex
  exact kbin2r rfl fun u v => rfl
theorem KB_row_of_numbers {f : Addr} {fd : FuncData} (F : Fun K "row_of" "row_of" s_row_of f fd) : KBinds K fd ["numbers"] ["numbers"] g1 g1 := by
  obtain ⟨oc, od, kV, doc, pm, an, cdv, ct, osl, rfl, _⟩ := F.ex
  exact kbin1 rfl fun u => rfl
theorem KB_coefficients_of_row {f : Addr} {fd : FuncData} (F : Fun K "coefficients_of" "coefficients_of" s_coefficients_of f fd) : KBinds K fd ["row"] ["row"] g1 g1 := by
  obtain ⟨oc, od, kV, doc, pm, an, cdv, ct, osl, rfl, _⟩ := F.ex
  exact kbin1 rfl fun u => rfl
theorem gk2 {d1 d2 : PyData} (zs : List V) (h : zs.length = [d1, d2].length) : (g2 [] zs).length = [d1, d2].length ∧ ∀ (i : Nat) d, [d1, d2][i]? = some d → ∃ j : Nat, [d1, d2][j]? = some d ∧ (g2 [] zs)[i]? = zs[j]? := by
  match zs, h with
  | [a, b], _ => exact ⟨rfl, fun i d e => ⟨i, e, rfl⟩⟩
theorem gk2r {d1 d2 : PyData} (zs : List V) (h : zs.length = [d2, d1].length) : (g2r [] zs).length = [d1, d2].length ∧ ∀ (i : Nat) d, [d1, d2][i]? = some d → ∃ j : Nat, [d2, d1][j]? = some d ∧ (g2r [] zs)[i]? = zs[j]? := by
  match zs, h with
  | [a, b], _ =>
    refine ⟨rfl, fun i d e => ?_⟩
    match i, e with
    | 0, e => exact ⟨1, e, rfl⟩
    | 1, e => exact ⟨0, e, rfl⟩
    | i + 2, e => cases e
theorem gk1 {d1 : PyData} (zs : List V) (h : zs.length = [d1].length) : (g1 [] zs).length = [d1].length ∧ ∀ (i : Nat) d, [d1][i]? = some d → ∃ j : Nat, [d1][j]? = some d ∧ (g1 [] zs)[i]? = zs[j]? := by
  match zs, h with
  | [a], _ => exact ⟨rfl, fun i d e => ⟨i, e, rfl⟩⟩

/-! a row at rows: its numbers by steps, its value -/
theorem th_last {n : Nat} : ∀ {ps : List (Rat × List Rat)} {ys : List Rat} {y c : Rat}, (∀ p ∈ ps, p.2.length = n + 1) → ys.length = n → ∃ zs z, ps.foldl thStep (ys ++ [y]) = zs ++ [z] ∧ zs.length = n ∧ ps.foldl thStep (ys ++ [y + c]) = zs ++ [z + c]
  | [], ys, y, c, _, hl => ⟨ys, y, rfl, hl, rfl⟩
  | p :: ps, ys, y, c, hp, hl => by
    obtain ⟨a, l⟩ := p
    obtain ⟨l', e, rfl, he⟩ := split_last (hp (a, l) List.mem_cons_self)
    have st : ∀ y : Rat, thStep (ys ++ [y]) (a, l' ++ [e]) = ((ys.zip l').map fun z => z.1 + a * z.2) ++ [y + a * e] := fun y => by
      unfold thStep
      rw [List.zip_append (hl.trans he.symm), List.map_append]
      rfl
    rw [List.foldl_cons, List.foldl_cons, st, st]
    have e2 : y + c + a * e = y + a * e + c := by grind
    rw [e2]
    exact th_last (ps := ps) (fun q hq => hp q (List.mem_cons_of_mem _ hq)) (by rw [List.length_map, List.length_zip, hl, he, Nat.min_self])
theorem through_fold {a : RT} (h : ∀ p ∈ thP a, p.2.length = a.n + 1) : (thP a).foldl thStep (List.replicate a.n 0 ++ [a.c]) = through a := by
  obtain ⟨zs, z, h1, h2, h3⟩ := th_last (ps := thP a) (ys := List.replicate a.n 0) (y := 0) (c := a.c) h List.length_replicate
  have e0 : (0 : Rat) + a.c = a.c := by grind
  rw [e0] at h3
  rw [h3]
  refine (through_eq ?_ h2).symm
  unfold thM thQ
  rw [List.replicate_succ']
  exact h1
theorem dot_step {X acc l : List Rat} {a : Rat} : acc.length = X.length → l.length = X.length → dot (thStep acc (a, l)) X = dot acc X + a * dot l X := by
  unfold thStep
  induction X generalizing acc l with
  | nil =>
    intro h1 h2
    have e1 : acc = [] := List.length_eq_zero_iff.mp h1
    subst e1
    have e2 : l = [] := List.length_eq_zero_iff.mp h2
    subst e2
    show (0 : Rat) = 0 + a * 0
    grind
  | cons x X ih =>
    intro h1 h2
    match acc, l, h1, h2 with
    | b :: acc, c :: l, h1, h2 =>
      have h := ih (acc := acc) (l := l) (by simpa using h1) (by simpa using h2)
      unfold dot at h ⊢
      simp only [List.zip_cons_cons, List.map_cons, List.zipWith_cons_cons, List.sum_cons] at h ⊢
      rw [h]
      grind
theorem step_len {acc l : List Rat} {a : Rat} (h : acc.length = l.length) : (thStep acc (a, l)).length = l.length := by
  unfold thStep
  rw [List.length_map, List.length_zip, h, Nat.min_self]
theorem dot_fold {X : List Rat} : ∀ {r : List Rat} {ls : List (List Rat)} {acc : List Rat}, r.length = ls.length → (∀ l ∈ ls, l.length = X.length) → acc.length = X.length → dot ((r.zip ls).foldl thStep acc) X = dot acc X + dot r (ls.map fun l => dot l X)
  | [], [], acc, _, _, _ => by
    show dot acc X = dot acc X + 0
    grind
  | [], _ :: _, _, h, _, _ => by cases h
  | _ :: _, [], _, h, _, _ => by cases h
  | a :: r, l :: ls, acc, h, hl, ha => by
    have h1 := hl l List.mem_cons_self
    have h2 := dot_fold (X := X) (r := r) (ls := ls) (acc := thStep acc (a, l)) (by simpa using h) (fun q hq => hl q (List.mem_cons_of_mem _ hq)) ((step_len (ha.trans h1.symm)).trans h1)
    rw [List.zip_cons_cons, List.foldl_cons, h2, dot_step ha h1]
    have e : dot (a :: r) ((l :: ls).map fun l => dot l X) = a * dot l X + dot r (ls.map fun l => dot l X) := rfl
    rw [e]
    grind
theorem dot_snoc : ∀ {l x : List Rat} {e : Rat}, l.length = x.length → dot (l ++ [e]) (x ++ [1]) = dot l x + e
  | [], [], e, _ => by
    show e * 1 + 0 = 0 + e
    grind
  | [], _ :: _, _, h => by cases h
  | _ :: _, [], _, h => by cases h
  | a :: l, b :: x, e, h => by
    have h1 := dot_snoc (l := l) (x := x) (e := e) (by simpa using h)
    have e1 : dot ((a :: l) ++ [e]) ((b :: x) ++ [1]) = a * b + dot (l ++ [e]) (x ++ [1]) := rfl
    have e2 : dot (a :: l) (b :: x) = a * b + dot l x := rfl
    rw [e1, e2, h1]
    grind
theorem dot_zero : ∀ (n : Nat) (x : List Rat), dot (List.replicate n 0) x = 0
  | 0, x => rfl
  | n + 1, [] => rfl
  | n + 1, b :: x => by
    have e : dot (List.replicate (n + 1) 0) (b :: x) = 0 * b + dot (List.replicate n 0) x := rfl
    rw [e, dot_zero n x]
    grind
theorem lcml_le {m : Nat} : ∀ {bs : List Nat}, (∀ b ∈ bs, 0 < b ∧ b ≤ m) → lcml bs ≤ m ^ bs.length
  | [], _ => Nat.le_refl 1
  | b :: bs, h => by
    have h1 := lcml_le (bs := bs) fun q hq => h q (List.mem_cons_of_mem _ hq)
    have h2 := h b List.mem_cons_self
    have hp : 0 < lcml bs := lcml_pos fun q hq => (h q (List.mem_cons_of_mem _ hq)).1
    rw [lcml_cons, List.length_cons, Nat.pow_succ, Nat.mul_comm]
    exact Nat.le_trans (Nat.le_of_dvd (Nat.mul_pos h2.1 hp) (Nat.lcm_dvd_mul b (lcml bs))) (Nat.mul_le_mul h2.2 h1)
theorem eg_tupleG {L : Rl} {Γ : List (Option PyData)} {te : TE} {a : Nat} {P : List PyData → Prop} (h : EvG L a te Γ (fun d => ∃ ds, d = .list ds ∧ P ds)) : EvG L a (tCB (fun xs H Q => ∃ p ys, xs = [.ref p] ∧ ((SqL K H p ys ∧ ∀ l, H l = none → Q (.ref l) (upd H l (.tup ys))) ∨ (SqT K H p ys ∧ Q (.ref p) H))) (tCons te tNil)) Γ (fun d => ∃ ds, d = .tuple ds ∧ P ds) := fun A σ H hi he hg Q q =>
  h A σ H hi he hg _ fun v d H1 r1 hv ⟨ds, e, p⟩ => by
    subst e
    obtain ⟨b, xs, rfl, na, e, r⟩ := hv.list
    refine ⟨b, xs, rfl, .inl ⟨SqL.of e, fun l hl2 => ?_⟩⟩
    have rr := Rl.newR (o := .tup xs) (Rl.gR (b := 0) hg r1) hl2
    exact q _ _ _ (L.tr (b := 0) r1 rr) (.inr (.tup ((hi.r r1).no hl2) upd_same (r.r rr))) ⟨ds, rfl, p⟩

end V1
set_option Elab.async false
set_option linter.all false
set_option maxRecDepth 100000
set_option maxHeartbeats 4000000
namespace V1
open PySem PySem.Spec PyProof.Rows L2
variable {P : Program} {w : World} {K : PySem.W.Frag} {mg : Str → Option Value} {base : Heap}
abbrev s_law_through_right : Stmt := top 48
abbrev n_law_through_right : List Str := ["m", "count", "many", "line", "lines", "found", "part", "inner", "told", "spot", "k", "a", "b"]
theorem sc_law_through_right : FnScope n_law_through_right ["m", "count"] (defScope s_law_through_right) := ⟨rfl, rfl, rfl, by decide +kernel, rfl, by decide +kernel, by decide +kernel⟩
def sp_law_through_right : Sp := spM 47 (fun n : Nat => [mark, .int (n : Int)]) (fun n => 1 ≤ n ∧ n ≤ 5) fun _ d => d = .bool true
theorem ok_law_through_right {f : Addr} {fd : FuncData} (T : Bt K mg) (D : Df K mg "_law_through_right" s_law_through_right ["m", "count"] f fd)
    {f_law_draw : Addr} {d_law_draw : FuncData} (h_law_draw : Cal P w K mg base "_law_draw" s_law_draw ["m", "bound"] 1 sp_law_draw f_law_draw d_law_draw)
    {f_law_some_row : Addr} {d_law_some_row : FuncData} (h_law_some_row : Cal P w K mg base "_law_some_row" s_law_some_row ["m", "count"] 4 sp_law_some_row f_law_some_row d_law_some_row)
    {f_law_shares : Addr} {d_law_shares : FuncData} (h_law_shares : Cal P w K mg base "_law_shares" s_law_shares ["line"] 4 sp_law_shares f_law_shares d_law_shares)
    {f_law_added : Addr} {d_law_added : FuncData} (h_law_added : Cal P w K mg base "_law_added" s_law_added ["one_so", "other_so", "times"] 4 sp_law_added f_law_added d_law_added)
    {f_law_fraction : Addr} {d_law_fraction : FuncData} (h_law_fraction : Cal P w K mg base "_law_fraction" s_law_fraction ["top", "bottom"] 3 sp_law_fraction f_law_fraction d_law_fraction)
    {f_law_spot : Addr} {d_law_spot : FuncData} (h_law_spot : Cal P w K mg base "_law_spot" s_law_spot ["m", "count"] 4 sp_law_spot f_law_spot d_law_spot)
    {f_row_through : Addr} {d_row_through : FuncData} (h_row_through : Cal P w K mg base "row_through" s_row_through ["row", "rows"] 3 sp_row_through f_row_through d_row_through)
    {f_law_like : Addr} {d_law_like : FuncData} (h_law_like : Cal P w K mg base "_law_like" s_law_like ["told", "due"] 1 sp_law_like f_law_like d_law_like)
    {f_law_made : Addr} {d_law_made : FuncData} (h_law_made : Cal P w K mg base "_law_made" s_law_made ["parts"] 4 sp_law_made f_law_made d_law_made)
    {f_law_value : Addr} {d_law_value : FuncData} (h_law_value : Cal P w K mg base "_law_value" s_law_value ["row_so", "point_so"] 4 sp_law_value f_law_value d_law_value)
    {f_law_joint : Addr} {d_law_joint : FuncData} (h_law_joint : Cal P w K mg base "_law_joint" s_law_joint ["fractions"] 4 sp_law_joint f_law_joint d_law_joint)
    {f_row_value : Addr} {d_row_value : FuncData} (h_row_value : Cal P w K mg base "row_value" s_row_value ["row", "point"] 2 sp_row_value f_row_value d_row_value) : Cal P w K mg base "_law_through_right" s_law_through_right ["m", "count"] 5 sp_law_through_right f fd := by
  have kb_row_through_row_rows := KB_row_through_row_rows h_row_through.F
  refine ok_A D sc_law_through_right (fun _ => rfl) fun cdv A outer s H E hgd hr => ⟨_, (pss_cons (ps_set (i := 2) sc_law_through_right.nd rfl (Or.inl rfl) (pe_op op_add pe_int (pe_fn (E := E0) h_law_draw.G hgd (hr.mono (by decide)) (by rfl) h_law_draw.gm h_law_draw.kp h_law_draw.b (pa_cons (pv 0) (pa_cons pe_int pa_nil)))))
        (pss_cons (ps_par (i := 3) (j := 4) rfl sc_law_through_right.nd rfl rfl (by decide) rfl rfl (pa_cons (pe_fn (E := E0) h_law_some_row.G hgd (hr.mono (by decide)) (by rfl) h_law_some_row.gm h_law_some_row.kp h_law_some_row.b (pa_cons (pv 0) (pa_cons (pv 2) pa_nil))) (pa_cons (pe_callTy call_tuple_of (by rfl) T.tuple (by decide +kernel) (pa_cons (pe_lc (own := [("k", 10)]) (g := gName 10) (tt := tYes) rfl sc_law_through_right.nd (pi_range1 (by rfl) T.range (pa_cons (pv 2) pa_nil)) (blkOk_by (own := [("k", 10)]) (N := n_law_through_right) (sc := defScope s_law_through_right) (by decide +kernel)) (fun _ _ _ _ _ => (pg_name (i := 10) sc_law_through_right.nd rfl (Or.inl rfl))) (fun _ _ _ _ _ => pts_nil) (fun _ _ _ _ _ => (pe_fn (E := E0) h_law_some_row.G hgd (hr.mono (by decide)) (by rfl) h_law_some_row.gm h_law_some_row.kp h_law_some_row.b (pa_cons (pv 0) (pa_cons (pv 1) pa_nil))))) pa_nil)) pa_nil)) (by rfl))
        (pss_cons (ps_set (i := 5) sc_law_through_right.nd rfl (Or.inl rfl) (pe_op op_cat (pe_op op_rep (pe_lst (pa_cons (pe_tup (pa_cons pe_int (pa_cons pe_int pa_nil))) pa_nil)) (pv 1)) (pe_lst (pa_cons (pe_ix (ix_listK (K := K) rfl) (pe_fn (E := E0) h_law_shares.G hgd (hr.mono (by decide)) (by rfl) h_law_shares.gm h_law_shares.kp h_law_shares.b (pa_cons (pv 3) pa_nil)) (pe_un un_neg pe_int) (fun _ _ => rfl)) pa_nil))))
        (pss_cons (ps_for PassesOwn.never rfl (pi_zipP true false (by rfl) T.zip (pa_cons (pe_fn (E := E0) h_law_shares.G hgd (hr.mono (by decide)) (by rfl) h_law_shares.gm h_law_shares.kp h_law_shares.b (pa_cons (pv 3) pa_nil)) (pa_cons (pv 4) pa_nil))) (pg_tup rfl (pgs_cons (pg_name (i := 6) sc_law_through_right.nd rfl (Or.inr rfl)) (pgs_cons (pg_name (i := 7) sc_law_through_right.nd rfl (Or.inl rfl)) pgs_nil)))
        (pss_one (ps_setLc (i := 5) (own := [("a", 11), ("b", 12)]) (g := gTup K 2 (gCons (gName 11) (gCons (gName 12) gNil))) (tt := tYes) rfl sc_law_through_right.nd rfl rfl (sw_true rfl rfl rfl (by decide +kernel)) (pi_zipP true true (by rfl) T.zip (pa_cons (pv 5) (pa_cons (pe_fn (E := E0) h_law_shares.G hgd (hr.mono (by decide)) (by rfl) h_law_shares.gm h_law_shares.kp h_law_shares.b (pa_cons (pv 7) pa_nil)) pa_nil))) (blkOk_by (own := [("a", 11), ("b", 12)]) (N := n_law_through_right) (sc := defScope s_law_through_right) (by decide +kernel)) (fun _ _ _ _ _ => (pg_tup rfl (pgs_cons (pg_name (i := 11) sc_law_through_right.nd rfl (Or.inl rfl)) (pgs_cons (pg_name (i := 12) sc_law_through_right.nd rfl (Or.inl rfl)) pgs_nil)))) (fun _ _ _ _ _ => pts_nil) (fun _ _ _ _ _ => (pe_fn (E := E0) h_law_added.G hgd (hr.mono (by decide)) (by rfl) h_law_added.gm h_law_added.kp h_law_added.b (pa_cons (pv 11) (pa_cons (pe_fn (E := E0) h_law_fraction.G hgd (hr.mono (by decide)) (by rfl) h_law_fraction.gm h_law_fraction.kp h_law_fraction.b (pa_cons (pe_op op_mulW (pe_ix (ix_tupK (K := K) rfl) (pv 6) pe_int (fun _ _ => rfl)) (pe_ix (ix_tupK (K := K) rfl) (pv 12) pe_int (fun _ _ => rfl))) (pa_cons (pe_op op_mulW (pe_ix (ix_tupK (K := K) rfl) (pv 6) pe_int (fun _ _ => rfl)) (pe_ix (ix_tupK (K := K) rfl) (pv 12) pe_int (fun _ _ => rfl))) pa_nil))) (pa_cons pe_int pa_nil))))))))
        (pss_cons (ps_asg (pe_tup (pa_cons (pe_fn (E := E0) h_row_through.G hgd (hr.mono (by decide)) (by rfl) h_row_through.gm h_row_through.kp h_row_through.b (pa_cons (pv 3) (pa_cons (pv 4) pa_nil))) (pa_cons (pe_fn (E := E0) h_law_spot.G hgd (hr.mono (by decide)) (by rfl) h_law_spot.gm h_law_spot.kp h_law_spot.b (pa_cons (pv 0) (pa_cons (pv 1) pa_nil))) pa_nil))) (pg_tup rfl (pgs_cons (pg_name (i := 8) sc_law_through_right.nd rfl (Or.inl rfl)) (pgs_cons (pg_name (i := 9) sc_law_through_right.nd rfl (Or.inr rfl)) pgs_nil))))
        (pss_cons (ps_if (pt_not (pt_val (pe_fn (E := E0) h_law_like.G hgd (hr.mono (by decide)) (by rfl) h_law_like.gm h_law_like.kp h_law_like.b (pa_cons (pe_lst (pa_cons (pv 8) (pa_cons (pe_fnk (E := E0) h_row_through.G hgd (hr.mono (by decide)) (by rfl) h_row_through.gm h_row_through.kp kb_row_through_row_rows (pk_cons (pv 3) (pk_cons (pv 4) pk_nil))) pa_nil))) (pa_cons (pe_op op_rep (pe_lst (pa_cons (pe_fn (E := E0) h_law_made.G hgd (hr.mono (by decide)) (by rfl) h_law_made.gm h_law_made.kp h_law_made.b (pa_cons (pv 5) pa_nil)) pa_nil)) pe_int) pa_nil))))) (pss_one (ps_ret pe_bl)) pss_nil)
        (pss_one (ps_ret (pe_fn (E := E0) h_law_like.G hgd (hr.mono (by decide)) (by rfl) h_law_like.gm h_law_like.kp h_law_like.b (pa_cons (pe_fn (E := E0) h_row_value.G hgd (hr.mono (by decide)) (by rfl) h_row_value.gm h_row_value.kp h_row_value.b (pa_cons (pv 8) (pa_cons (pv 9) pa_nil))) (pa_cons (pe_fn (E := E0) h_law_value.G hgd (hr.mono (by decide)) (by rfl) h_law_value.gm h_law_value.kp h_law_value.b (pa_cons (pv 3) (pa_cons (pe_fn (E := E0) h_law_joint.G hgd (hr.mono (by decide)) (by rfl) h_law_joint.gm h_law_joint.kp h_law_joint.b (pa_cons (pe_lc (own := [("inner", 7)]) (g := gName 7) (tt := tYes) rfl sc_law_through_right.nd (pi_tup (pv 4)) (blkOk_by (own := [("inner", 7)]) (N := n_law_through_right) (sc := defScope s_law_through_right) (by decide +kernel)) (fun _ _ _ _ _ => (pg_name (i := 7) sc_law_through_right.nd rfl (Or.inl rfl))) (fun _ _ _ _ _ => pts_nil) (fun _ _ _ _ _ => (pe_fn (E := E0) h_law_value.G hgd (hr.mono (by decide)) (by rfl) h_law_value.gm h_law_value.kp h_law_value.b (pa_cons (pv 7) (pa_cons (pv 9) pa_nil))))) pa_nil)) pa_nil))) pa_nil))))))))))), ?_⟩
  rintro L hS n ⟨hn1, hn2⟩
  show SG L 47 _ [some mark, some (.int (n : Int)), none, none, none, none, none, none, none, none, none, none, none] _ _
  refine sq_asgG (a := 0 + 1) (b := 46) (eg_addG eg_intG (eg_draw (b := 4) hS (by decide) rfl)) ?_
  rintro d ⟨i, ⟨x, y, rfl, hy, rfl⟩, rfl⟩
  have hy' : 0 ≤ y ∧ y < 4 := hy
  obtain ⟨k, hk⟩ : ∃ k : Nat, (1 + y : Int) = (k : Int) := ⟨(1 + y).toNat, by omega⟩
  rw [hk]
  have hk1 : 1 ≤ k := by omega
  have hk4 : k ≤ 4 := by omega
  clear hk hy hy'
  show SG L 46 _ [some mark, some (.int (n : Int)), some (.int (k : Int)), none, none, none, none, none, none, none, none, none, none] _ _
  refine sq_parG (a := 8 + ((0 + 4 * 8) + 0)) (b := 6) (ea2G (eg_callM hS k (ea_cons (eg_var rfl) (ea_cons (eg_var rfl) ea_nil)) ⟨hk1, by omega⟩)
    (eg_tupleG (P := fun ds => ∃ ls : List (List Rat), ds = ls.map rowD ∧ ls.length = k ∧ ∀ l ∈ ls, okS (n + 1) l) (EvG.mono (eg_lcX (b := 4) (c := 8) (js := [10]) (α := List Rat) (enc := rowD) (P := okS (n + 1)) (fun x z => by cases z) (wk_rng1 (j := (k : Int)) (ea_cons (eg_var rfl) ea_nil) (by omega)) (by simp) (by rw [rng_len]; omega) (by decide)
      fun i d hd => ⟨_, tg_name, eg_callM hS n (ea_cons (eg_var rfl) (ea_cons (eg_var rfl) ea_nil)) ⟨hn1, hn2⟩⟩) (Nat.le_refl _) fun d ⟨ls, e, hl, h⟩ => ⟨_, e, ls, rfl, by rw [hl, rng_len, Int.toNat_natCast], h⟩))) ?_
  rintro ds ⟨d1, d2, rfl, ⟨qs, hqs, rfl⟩, _, rfl, ls, rfl, hll, hls⟩
  refine ⟨_, _, rfl, ?_⟩
  obtain ⟨r, c, rfl, hr⟩ := split_last hqs.1
  show SG L 6 _ [some mark, some (.int (n : Int)), some (.int (k : Int)), some (rowD (r ++ [c])), some (.tuple (ls.map rowD)), none, none, none, none, none, none, none, none] _ _
  have bq : rb 100 (r ++ [c]) := hqs.2.1
  have hbq : rb 1500 (r ++ [c]) := bq.mono (by decide)
  have bl : ∀ l ∈ ls, rb 100 l := fun l hl => (hls l hl).2.1
  have hrl : r.length = ls.length := hr.trans hll.symm
  have hlcm : lcml (ls.map lq) < 2 ^ 64 := Nat.lt_of_le_of_lt (lcml_le (m := 6) fun b hb => by
    obtain ⟨l, hl, rfl⟩ := List.mem_map.mp hb
    exact ⟨lq_pos l, (hls l hl).2.2⟩) (by
    rw [List.length_map, hll]
    exact Nat.lt_of_le_of_lt (Nat.pow_le_pow_right (show 0 < 6 by decide) hk4) (by decide))
  have hne : ls ≠ [] := fun z => by
    rw [z] at hll
    simp at hll
    omega
  have hRT : okRT ⟨r, c, ls, n⟩ := ⟨bq.mono (by decide), fun l hl => ⟨(bl l hl).mono (by decide), (hls l hl).1⟩, hrl, hne, by show ls.length ≤ 40; omega, by show n ≤ 40; omega, hlcm⟩
  have hpl : ∀ p ∈ thP ⟨r, c, ls, n⟩, p.2.length = n + 1 := fun p hp => (hls _ (List.of_mem_zip hp).2).1
  have hth : (r.zip ls).foldl thStep (List.replicate n 0 ++ [c]) = through ⟨r, c, ls, n⟩ := through_fold (a := ⟨r, c, ls, n⟩) hpl
  have rT : rb 1500 (through ⟨r, c, ls, n⟩) := rb_through hRT
  have hthl : (through ⟨r, c, ls, n⟩).length = n + 1 := by
    rw [← hth]
    exact th_len (fun p hp => hpl p hp) (by rw [List.length_append, List.length_replicate]; rfl)
  -- the first things
  have f0 : fq 0 = .tuple [.int 0, .int 1] := rfl
  have hsh : atI ((r ++ [c]).map fq) (-1) = some (fq c) := by rw [List.map_append]; exact atI_last _ _
  refine sq_asg (d := .list ((List.replicate n (0 : Rat) ++ [c]).map fq)) ((eg_cat (ds := List.replicate n (fq 0)) (es := [fq c]) ((eg_rep (ds := [.tuple [.int 0, .int 1]]) (i := (n : Int)) (eg_lst (ea_cons (eg_tup (ea_cons eg_int (ea_cons eg_int ea_nil))) ea_nil)) (eg_var rfl) (by omega) (by omega) (show 1 ≤ 100 by decide)).to ?_) (eg_lst (ea_cons (eg_ixL (eg_callR (r ++ [c]) (ea_cons (eg_var rfl) ea_nil) hbq) (eg_neg eg_int) hsh) ea_nil)) ?_).to ?_) ?_
  · congr 1
    rw [Int.toNat_natCast, ← f0]
    generalize n = k
    induction k with
    | zero => rfl
    | succ k ih => rw [List.replicate_succ, List.flatten_cons, ih, List.replicate_succ]; rfl
  · rw [List.length_replicate]
    show n + 1 ≤ 100000
    omega
  · congr 1
    rw [List.map_append, List.map_replicate]
    rfl
  -- the walk
  refine sg_seq (N1 := fun G => ∃ x6 x7 x11 x12, G = [some mark, some (.int (n : Int)), some (.int (k : Int)), some (rowD (r ++ [c])), some (.tuple (ls.map rowD)), some (.list ((through ⟨r, c, ls, n⟩).map fq)), x6, x7, none, none, none, x11, x12] ∧ ∀ q ∈ through ⟨r, c, ls, n⟩, sm 904 q) ?_ ?_
  · have hz := wk_zip (L := L) (K := K) (k1 := true) (k2 := false) (Γ := [some mark, some (.int (n : Int)), some (.int (k : Int)), some (rowD (r ++ [c])), some (.tuple (ls.map rowD)), some (.list ((List.replicate n (0 : Rat) ++ [c]).map fq)), none, none, none, none, none, none, none]) (t := tCons (tCall sp_law_shares [] E0 (tCons (tVar 3) tNil)) (tCons (tVar 4) tNil)) (ds := (r ++ [c]).map fq) (es := ls.map rowD) (ea_cons (eg_callR (r ++ [c]) (ea_cons (eg_var (i := 3) rfl) ea_nil) hbq) (ea_cons (eg_var (i := 4) rfl) ea_nil))
    have e6 : (r ++ [c]).zip ls = r.zip ls := by
      have := List.zip_append (l₁ := r) (r₁ := [c]) (l₂ := ls) (r₂ := []) hrl
      rw [List.append_nil] at this
      rw [this]
      simp
    rw [zipD_map, e6] at hz
    refine sg_for (js := [6, 7]) (fun i G => ∃ x6 x7 x11 x12, ∃ acc : List Rat, G = [some mark, some (.int (n : Int)), some (.int (k : Int)), some (rowD (r ++ [c])), some (.tuple (ls.map rowD)), some (.list (acc.map fq)), x6, x7, none, none, none, x11, x12] ∧ acc = ((r.zip ls).take i).foldl thStep (List.replicate n 0 ++ [c]) ∧ acc.length = n + 1 ∧ i ≤ 4 ∧ ∀ q ∈ acc, sm (100 + 201 * i) q) hz ⟨none, none, none, none, _, rfl, rfl, ?_, by decide, ?_⟩ ?_ ?_
    · rw [List.length_append, List.length_replicate]
      rfl
    · intro q hq
      rcases List.mem_append.mp hq with h | h
      · rw [(List.mem_replicate.mp h).2]
        exact ⟨Nat.two_pow_pos _, Nat.one_lt_two_pow (by decide)⟩
      · have e : q = c := by simpa using h
        rw [e]
        exact rb_sm bq (by simp)
    · rintro i d G hd ⟨x6, x7, x11, x12, acc, rfl, hacc, hal, hi4, hsm⟩
      obtain ⟨p, hp, hpm, rfl⟩ := map_at hd
      have hil : i < 4 := by
        have h1 := (List.getElem?_eq_some_iff.mp hp).1
        rw [List.length_zip] at h1
        omega
      have m1 := (List.of_mem_zip hpm).1
      have m2 := (List.of_mem_zip hpm).2
      have s1 : sm 100 p.1 := rb_sm bq (List.mem_append_left _ m1)
      have b2 := bl _ m2
      have hst : ((r.zip ls).take (i + 1)).foldl thStep (List.replicate n 0 ++ [c]) = thStep acc p := by
        rw [take_next hp, List.foldl_append, ← hacc]
        rfl
      refine ⟨_, tg_two, ?_⟩
      have hz2 := wk_zip (L := L) (K := K) (k1 := true) (k2 := true) (Γ := [some mark, some (.int (n : Int)), some (.int (k : Int)), some (rowD (r ++ [c])), some (.tuple (ls.map rowD)), some (.list (acc.map fq)), some (fq p.1), some (rowD p.2), none, none, none, x11, x12]) (t := tCons (tVar 5) (tCons (tCall sp_law_shares [] E0 (tCons (tVar 7) tNil)) tNil)) (ds := acc.map fq) (es := p.2.map fq) (ea_cons (eg_var (i := 5) rfl) (ea_cons (eg_callR p.2 (ea_cons (eg_var (i := 7) rfl) ea_nil) (b2.mono (by decide))) ea_nil))
      rw [zipD_map] at hz2
      have hup : ∀ {q : Rat}, sm (100 + 201 * i) q → q.num.natAbs < 2 ^ 3000 ∧ q.den < 2 ^ 3000 := fun h => h.mono (n := 3000) (by omega)
      refine sg_asg (d := .list ((thStep acc p).map fq)) ?_ ⟨_, _, x11, x12, thStep acc p, rfl, hst.symm, ?_, hil, ?_⟩
      · have hlc := eg_lcm (L := L) (wi := iZipP K true true (tCons (tVar 5) (tCons (tCall sp_law_shares [] E0 (tCons (tVar 7) tNil)) tNil))) (g := gTup K 2 (gCons (gName 11) (gCons (gName 12) gNil))) (vs := [11, 12]) (js := [11, 12]) (res := fun z : Rat × Rat => fq (z.1 + p.1 * z.2))
          (te := tCall sp_law_added [] E0 (tCons (tVar 11) (tCons (tCall sp_law_fraction [] E0 (tCons (tOp (rI CMulW fun i j => .int (i * j)) (tOp (rIxT K) (tVar 6) (tC (.int 0))) (tOp (rIxT K) (tVar 12) (tC (.int 0)))) (tCons (tOp (rI CMulW fun i j => .int (i * j)) (tOp (rIxT K) (tVar 6) (tC (.int 1))) (tOp (rIxT K) (tVar 12) (tC (.int 1)))) tNil))) (tCons (tC (.int 1)) tNil))))
          hz2 (by simp) (by have := b2.1; rw [List.length_zip]; omega) fun z hzm => ⟨(fun y => by cases y), _, tg_two, (eg_callR (AQ.mk z.1 (p.1 * z.2) 1) (ea_cons (eg_var (i := 11) rfl) (ea_cons ((eg_callR (p.1.num * z.2.num, p.1.den * z.2.den)
            (ea_cons (eg_mul (eg_ixT (ds := [.int p.1.num, .int (p.1.den : Int)]) (eg_var (i := 6) rfl) eg_int rfl) (eg_ixT (ds := [.int z.2.num, .int (z.2.den : Int)]) (eg_var (i := 12) rfl) eg_int rfl) (mw (a := 100) (b := 100) s1.1 (rb_sm b2 (List.of_mem_zip hzm).2).1))
            (ea_cons ((eg_mul (eg_ixT (ds := [.int p.1.num, .int (p.1.den : Int)]) (eg_var (i := 6) rfl) eg_int rfl) (eg_ixT (ds := [.int z.2.num, .int (z.2.den : Int)]) (eg_var (i := 12) rfl) eg_int rfl) (mw (a := 100) (b := 100) (nb s1.2) (nb (rb_sm b2 (List.of_mem_zip hzm).2).2))).to (by rw [Int.natCast_mul])) ea_nil))
            ⟨Nat.mul_pos p.1.den_pos z.2.den_pos, Nat.lt_of_lt_of_le (nat_mul_lt s1.2 (rb_sm b2 (List.of_mem_zip hzm).2).2) (Nat.pow_le_pow_right (by decide) (by decide))⟩).to (by show fq (rat _ _) = fq (p.1 * z.2); rw [rat_mul])) (ea_cons eg_int ea_nil)))
            ⟨(hup (hsm _ (List.of_mem_zip hzm).1)).1, (hup (hsm _ (List.of_mem_zip hzm).1)).2, ((sm_mul s1 (rb_sm b2 (List.of_mem_zip hzm).2)).mono (n := 3000)).1, ((sm_mul s1 (rb_sm b2 (List.of_mem_zip hzm).2)).mono (n := 3000)).2, (show (1 : Int).natAbs < 2 ^ 2 by decide)⟩).to (by show fq (z.1 + ((1 : Int) : Rat) * (p.1 * z.2)) = _; rw [add_one_mul])⟩
        have e7 : PyData.list ((acc.zip p.2).map fun z => fq (z.1 + p.1 * z.2)) = .list ((thStep acc p).map fq) := by
          unfold thStep
          rw [List.map_map]
          rfl
        rw [e7] at hlc
        exact hlc
      · exact (step_len (a := p.1) (hal.trans (hls _ m2).1.symm)).trans (hls _ m2).1
      · intro q hq
        unfold thStep at hq
        obtain ⟨z, hzm, rfl⟩ := List.mem_map.mp hq
        have h1 := sm_add (t := 1) (hsm _ (List.of_mem_zip hzm).1) (sm_mul s1 (rb_sm b2 (List.of_mem_zip hzm).2)) (by decide)
        rw [add_one_mul] at h1
        exact h1.mono (by omega)
    · rintro G ⟨x6, x7, x11, x12, acc, rfl, hacc, hal, hi4, hsm⟩
      rw [List.length_map, List.take_length, hth] at hacc
      rw [List.length_map] at hi4 hsm
      subst hacc
      exact ⟨x6, x7, x11, x12, rfl, fun q hq => (hsm q hq).mono (by omega)⟩
  rintro G ⟨x6, x7, x11, x12, rfl, hsm⟩
  generalize hT : through ⟨r, c, ls, n⟩ = TT at *
  have hmade : okM TT := ⟨by omega, fun q hq => (hsm q hq).mono (n := 1000)⟩
  refine sq_tgG (js := [8, 9]) (a := 0 + (6 + 0)) (b := 0) (eg_tupG (ea2G (eg_callR (RT.mk r c ls n) (ea_cons (eg_var rfl) (ea_cons (eg_var rfl) ea_nil)) hRT) (eg_callM hS n (ea_cons (eg_var rfl) (ea_cons (eg_var rfl) ea_nil)) ⟨hn1, hn2⟩)) ?_) ?_ ?_
  · rintro ds ⟨d1, d2, rfl, rfl, x, hx, rfl⟩
    exact ⟨rfl, (show 2 ≤ 1000 by decide)⟩
  · rintro d ⟨ds, _, rfl⟩ z
    cases z
  rintro d ⟨ds, ⟨d1, d2, rfl, e1, x, hx, rfl⟩, rfl⟩
  have e1' : d1 = rowD TT := by rw [e1]; show rowD (through ⟨r, c, ls, n⟩) = _; rw [hT]
  subst e1'
  refine ⟨_, tg_two, ?_⟩
  show SG L 0 _ [some mark, some (.int (n : Int)), some (.int (k : Int)), some (rowD (r ++ [c])), some (.tuple (ls.map rowD)), some (.list (TT.map fq)), x6, x7, some (rowD TT), some (rowD x), none, x11, x12] _ _
  have bx := hx.2.1
  refine sq_if_no (et_is (et_not (et_B (eg_callR (.list [rowD TT, rowD TT]) (ea_cons (eg_lst (ea_cons (eg_var rfl) (ea_cons ((eg_callRK (RT.mk r c ls n) (ea_cons (eg_var rfl) (ea_cons (eg_var rfl) ea_nil)) gk2 hRT).to (by show rowD (through ⟨r, c, ls, n⟩) = _; rw [hT])) ea_nil))) (ea_cons ((eg_rep (ds := [rowD TT]) (i := 2) (eg_lst (ea_cons (eg_callR TT (ea_cons (eg_var rfl) ea_nil) hmade) ea_nil)) eg_int (by decide) (by decide) (show 1 ≤ 100 by decide)).to rfl) ea_nil)) (sh_lst (b := 2 * (51 + 1)) (k := 2) (shn_lst (fun d hd => ?_) (Nat.le_refl 2)))))) rfl) ?_
  · simp only [List.mem_cons, List.not_mem_nil, or_false, or_self] at hd
    subst hd
    exact shn_row rT
  obtain ⟨zs, z, hzz, hzl⟩ := split_last hthl
  have hxl : zs.length = x.length := hzl.trans hx.1.symm
  have bx' : rb 1500 x := bx.mono (by decide)
  have hX : (x ++ [1]).length = n + 1 := by rw [List.length_append, hx.1]; rfl
  -- the values of the rows
  have hvl : ∀ l ∈ ls, sm 207 (dot l (x ++ [1])) := fun l hl => by
    obtain ⟨l', e, rfl, he⟩ := split_last (hls l hl).1
    rw [dot_snoc (he.trans hx.1.symm)]
    exact val_bound (m1 := 100) (m2 := 100) (bl _ hl) bx (he.trans hx.1.symm)
  have rV : rb 1036 (ls.map fun l => dot l (x ++ [1])) := (sm_rb (m := 207) (k := 4) (by decide) (fun q hq => by
    obtain ⟨l, hl, rfl⟩ := List.mem_map.mp hq
    exact hvl l hl) (by rw [List.length_map]; omega) (by decide)).mono (by decide)
  have hval : dot zs x + z = dot r (ls.map fun l => dot l (x ++ [1])) + c := by
    rw [← dot_snoc hxl, ← hzz, ← hth, dot_fold hrl (fun l hl => (hls l hl).1.trans hX.symm) (by rw [List.length_append, List.length_replicate, hX]; rfl), dot_snoc (by rw [List.length_replicate, hx.1]), dot_zero]
    grind
  have hb1607 := val_bound (m1 := 1500) (m2 := 100) (r := zs) (c := z) (x := x) (by rw [← hzz]; exact rT) bx hxl
  refine sg_ret (eg_callR (fq (dot zs x + z)) (ea_cons (eg_callR (RX.mk zs z x) (ea_cons ((eg_var rfl).to (by rw [hzz])) (ea_cons (eg_var rfl) ea_nil)) ⟨by show rb 1500 (zs ++ [z]); rw [← hzz]; exact rT, bx', hxl⟩) (ea_cons ((eg_callR (RX.mk r c (ls.map fun l => dot l (x ++ [1]))) (ea_cons (eg_var rfl) (ea_cons (eg_callR (ls.map fun l => dot l (x ++ [1])) (ea_cons ?_ ea_nil) (rV.mono (by decide))) ea_nil)) ⟨hbq, rV.mono (by decide), by rw [List.length_map]; exact hrl⟩).to (by show fq _ = fq _; rw [hval])) ea_nil)) (sh_tup (b := 2) (k := 1) (shn_fq (p1900 hb1607.1) (Nat.lt_of_lt_of_le hb1607.2 (Nat.pow_le_pow_right (by decide) (by decide)))))) rfl
  rw [List.map_map]
  refine eg_lcm (js := [7]) (xs := ls) (enc := rowD) (res := fun l => fq (dot l (x ++ [1]))) (wk_tup (eg_var rfl)) (by simp) (by omega) fun l hl => ?_
  obtain ⟨l', e, rfl, he⟩ := split_last (hls l hl).1
  have hlx : l'.length = x.length := he.trans hx.1.symm
  exact ⟨(fun y => by cases y), _, tg_name, (eg_callR (RX.mk l' e x) (ea_cons (eg_var (i := 7) rfl) (ea_cons (eg_var (i := 9) rfl) ea_nil)) ⟨(bl _ hl).mono (by decide), bx', hlx⟩).to (by show fq (dot l' x + e) = _; rw [dot_snoc hlx])⟩

end V1
set_option Elab.async false
set_option linter.all false
set_option maxRecDepth 100000
set_option maxHeartbeats 4000000
namespace V1
open PySem PySem.Spec PyProof.Rows L2
variable {P : Program} {w : World} {K : PySem.W.Frag} {mg : Str → Option Value} {base : Heap}
theorem rowD_lit {qs : List Rat} {ns : List Int} (h : rowQ qs = ns) : tI ns = rowD qs := by
  unfold rowD
  rw [h]
theorem fq_lit {q : Rat} {a b : Int} (h1 : q.num = a) (h2 : (q.den : Int) = b) : PyData.tuple [.int a, .int b] = fq q := by
  unfold fq
  rw [h1, h2]
theorem small_lt {k n : Nat} (h : k < 2 ^ 5) (hn : 5 ≤ n) : k < 2 ^ n := Nat.lt_of_lt_of_le h (Nat.pow_le_pow_right (by decide) hn)
theorem rb_lit {qs : List Rat} {ns : List Int} (h : rowQ qs = ns) (hl : qs.length ≤ 50) (hs : ∀ z ∈ ns, z.natAbs < 2 ^ 5) : rb 1500 qs := ⟨hl, fun z hz => small_lt (hs z (h ▸ hz)) (by decide)⟩

abbrev s_law_hand_right : Stmt := top 49
abbrev n_law_hand_right : List Str := ["told", "due"]
theorem sc_law_hand_right : FnScope n_law_hand_right [] (defScope s_law_hand_right) := ⟨rfl, rfl, rfl, by decide +kernel, rfl, by decide +kernel, by decide +kernel⟩
def sp_law_hand_right : Sp := spR (fun _ : Unit => []) (fun _ => True) fun _ => .bool true
theorem h_r1 : rowQ [rat 1 2, rat 1 2] = [1, 1, 2] := by decide +kernel
theorem h_x1 : rowQ [rat 1 2] = [1, 2] := by decide +kernel
theorem h_v1 : dot [rat 1 2] [rat 1 2] + rat 1 2 = rat 3 4 := by decide +kernel
theorem h_r2 : rowQ [rat 1 2, rat (-1) 3] = [3, -2, 6] := by decide +kernel
theorem h_r3 : rowQ [rat 1 2, rat 0 1] = [1, 0, 2] := by decide +kernel
theorem h_r4 : rowQ [rat 1 3, rat 1 3] = [1, 1, 3] := by decide +kernel
theorem h_a1 : rowQ (addQ [rat 1 2, rat 0 1] [rat 1 3, rat 1 3]) = [5, 2, 6] := by decide +kernel
theorem h_r5 : rowQ [rat 1 1, rat 0 1] = [1, 0, 1] := by decide +kernel
theorem h_s1 : rowQ (subQ [rat 1 1, rat 0 1] [rat 1 2, rat 0 1]) = [1, 0, 2] := by decide +kernel
theorem h_r6 : rowQ [rat 3 2, rat 3 1] = [3, 6, 2] := by decide +kernel
theorem h_m1 : rowQ ([rat 3 2, rat 3 1].map fun x => x * rat 2 3) = [1, 2, 1] := by decide +kernel
theorem h_r7 : rowQ [rat 2 7, rat (-1) 7] = [2, -1, 7] := by decide +kernel
theorem h_i7 : (valI [rat 2 7] (rat (-1) 7) [rat 1 2]).sign = 0 := by decide +kernel
theorem h_r8 : rowQ [rat 1 2, rat 3 4] = [2, 3, 4] := by decide +kernel
def hTold : List PyData := [.tuple [.int 3, .int 4], tI [3, -2, 6], tI [5, 2, 6], tI [1, 0, 2], tI [1, 2, 1], .int 0, .tuple [.tuple [.int 1, .int 2], .tuple [.int 3, .int 4]]]
theorem tupI2 {L : Rl} {Γ : List (Option PyData)} {ta tb : TE} {a b : Int} (ha : EvD L ta Γ (.int a)) (hb : EvD L tb Γ (.int b)) : EvD L (tTup (tCons ta (tCons tb tNil))) Γ (tI [a, b]) := eg_tup (ds := [.int a, .int b]) (ea_cons ha (ea_cons hb ea_nil))
theorem tupI3 {L : Rl} {Γ : List (Option PyData)} {ta tb tc : TE} {a b c : Int} (ha : EvD L ta Γ (.int a)) (hb : EvD L tb Γ (.int b)) (hc : EvD L tc Γ (.int c)) : EvD L (tTup (tCons ta (tCons tb (tCons tc tNil)))) Γ (tI [a, b, c]) := eg_tup (ds := [.int a, .int b, .int c]) (ea_cons ha (ea_cons hb (ea_cons hc ea_nil)))
theorem f12 : tI [1, 2] = fq (rat 1 2) := fq_lit (by decide +kernel) (by decide +kernel)
theorem f13 : tI [-1, 3] = fq (rat (-1) 3) := fq_lit (by decide +kernel) (by decide +kernel)
theorem f23 : tI [2, 3] = fq (rat 2 3) := fq_lit (by decide +kernel) (by decide +kernel)
theorem f34 : tI [3, 4] = fq (rat 3 4) := fq_lit (by decide +kernel) (by decide +kernel)
theorem ok_law_hand_right {f : Addr} {fd : FuncData} (T : Bt K mg) (D : Df K mg "_law_hand_right" s_law_hand_right [] f fd)
    {f_row_value : Addr} {d_row_value : FuncData} (h_row_value : Cal P w K mg base "row_value" s_row_value ["row", "point"] 2 sp_row_value f_row_value d_row_value)
    {f_row_minus : Addr} {d_row_minus : FuncData} (h_row_minus : Cal P w K mg base "row_minus" s_row_minus ["one", "other"] 4 sp_row_minus f_row_minus d_row_minus)
    {f_row_added : Addr} {d_row_added : FuncData} (h_row_added : Cal P w K mg base "row_added" s_row_added ["one", "other"] 3 sp_row_added f_row_added d_row_added)
    {f_row_of : Addr} {d_row_of : FuncData} (h_row_of : Cal P w K mg base "row_of" s_row_of ["numbers"] 3 sp_row_of f_row_of d_row_of)
    {f_coefficients_of : Addr} {d_coefficients_of : FuncData} (h_coefficients_of : Cal P w K mg base "coefficients_of" s_coefficients_of ["row"] 3 sp_coefficients_of f_coefficients_of d_coefficients_of)
    {f_row_sign : Addr} {d_row_sign : FuncData} (h_row_sign : Cal P w K mg base "row_sign" s_row_sign ["row", "point"] 2 sp_row_sign f_row_sign d_row_sign)
    {f_row_times : Addr} {d_row_times : FuncData} (h_row_times : Cal P w K mg base "row_times" s_row_times ["row", "value"] 3 sp_row_times f_row_times d_row_times)
    {f_law_like : Addr} {d_law_like : FuncData} (h_law_like : Cal P w K mg base "_law_like" s_law_like ["told", "due"] 1 sp_law_like f_law_like d_law_like) : Cal P w K mg base "_law_hand_right" s_law_hand_right [] 5 sp_law_hand_right f fd := by
  have kb_coefficients_of_row := KB_coefficients_of_row h_coefficients_of.F
  have kb_row_added_one_other := KB_row_added_one_other h_row_added.F
  have kb_row_minus_other_one := KB_row_minus_other_one h_row_minus.F
  have kb_row_of_numbers := KB_row_of_numbers h_row_of.F
  have kb_row_sign_point_row := KB_row_sign_point_row h_row_sign.F
  have kb_row_times_row_value := KB_row_times_row_value h_row_times.F
  have kb_row_value_row_point := KB_row_value_row_point h_row_value.F
  refine ok_R D sc_law_hand_right (fun _ => rfl) fun cdv A outer s H E hgd hr => ⟨_, (pss_cons (ps_set (i := 0) sc_law_hand_right.nd rfl (Or.inl rfl) (pe_lst (pa_cons (pe_fnk (E := E0) h_row_value.G hgd (hr.mono (by decide)) (by rfl) h_row_value.gm h_row_value.kp kb_row_value_row_point (pk_cons (pe_tup (pa_cons pe_int (pa_cons pe_int (pa_cons pe_int pa_nil)))) (pk_cons (pe_tup (pa_cons pe_int (pa_cons pe_int pa_nil))) pk_nil))) pa_nil)))
        (pss_cons (ps_set (i := 0) sc_law_hand_right.nd rfl (Or.inl rfl) (pe_op op_cat (pv 0) (pe_lst (pa_cons (pe_fnk (E := E0) h_row_of.G hgd (hr.mono (by decide)) (by rfl) h_row_of.gm h_row_of.kp kb_row_of_numbers (pk_cons (pe_tup (pa_cons (pe_tup (pa_cons pe_int (pa_cons pe_int pa_nil))) (pa_cons (pe_tup (pa_cons (pe_un un_neg pe_int) (pa_cons pe_int pa_nil))) pa_nil))) pk_nil)) (pa_cons (pe_fnk (E := E0) h_row_added.G hgd (hr.mono (by decide)) (by rfl) h_row_added.gm h_row_added.kp kb_row_added_one_other (pk_cons (pe_tup (pa_cons pe_int (pa_cons pe_int (pa_cons pe_int pa_nil)))) (pk_cons (pe_tup (pa_cons pe_int (pa_cons pe_int (pa_cons pe_int pa_nil)))) pk_nil))) (pa_cons (pe_fnk (E := E0) h_row_minus.G hgd (hr.mono (by decide)) (by rfl) h_row_minus.gm h_row_minus.kp kb_row_minus_other_one (pk_cons (pe_tup (pa_cons pe_int (pa_cons pe_int (pa_cons pe_int pa_nil)))) (pk_cons (pe_tup (pa_cons pe_int (pa_cons pe_int (pa_cons pe_int pa_nil)))) pk_nil))) pa_nil))))))
        (pss_cons (ps_set (i := 0) sc_law_hand_right.nd rfl (Or.inl rfl) (pe_op op_cat (pv 0) (pe_lst (pa_cons (pe_fnk (E := E0) h_row_times.G hgd (hr.mono (by decide)) (by rfl) h_row_times.gm h_row_times.kp kb_row_times_row_value (pk_cons (pe_tup (pa_cons pe_int (pa_cons pe_int (pa_cons pe_int pa_nil)))) (pk_cons (pe_tup (pa_cons pe_int (pa_cons pe_int pa_nil))) pk_nil))) (pa_cons (pe_fnk (E := E0) h_row_sign.G hgd (hr.mono (by decide)) (by rfl) h_row_sign.gm h_row_sign.kp kb_row_sign_point_row (pk_cons (pe_tup (pa_cons pe_int (pa_cons pe_int pa_nil))) (pk_cons (pe_tup (pa_cons pe_int (pa_cons (pe_un un_neg pe_int) (pa_cons pe_int pa_nil)))) pk_nil))) (pa_cons (pe_fnk (E := E0) h_coefficients_of.G hgd (hr.mono (by decide)) (by rfl) h_coefficients_of.gm h_coefficients_of.kp kb_coefficients_of_row (pk_cons (pe_tup (pa_cons pe_int (pa_cons pe_int (pa_cons pe_int pa_nil)))) pk_nil)) pa_nil))))))
        (pss_cons (ps_set (i := 1) sc_law_hand_right.nd rfl (Or.inl rfl) (pe_lst (pa_cons (pe_tup (pa_cons pe_int (pa_cons pe_int pa_nil))) (pa_cons (pe_tup (pa_cons pe_int (pa_cons (pe_un un_neg pe_int) (pa_cons pe_int pa_nil)))) (pa_cons (pe_tup (pa_cons pe_int (pa_cons pe_int (pa_cons pe_int pa_nil)))) (pa_cons (pe_tup (pa_cons pe_int (pa_cons pe_int (pa_cons pe_int pa_nil)))) (pa_cons (pe_tup (pa_cons pe_int (pa_cons pe_int (pa_cons pe_int pa_nil)))) (pa_cons pe_int (pa_cons (pe_tup (pa_cons (pe_tup (pa_cons pe_int (pa_cons pe_int pa_nil))) (pa_cons (pe_tup (pa_cons pe_int (pa_cons pe_int pa_nil))) pa_nil))) pa_nil)))))))))
        (pss_one (ps_ret (pe_fn (E := E0) h_law_like.G hgd (hr.mono (by decide)) (by rfl) h_law_like.gm h_law_like.kp h_law_like.b (pa_cons (pv 0) (pa_cons (pv 1) pa_nil))))))))), ?_⟩
  intro _ _
  show SG pureL 0 _ [none, none] _ _
  have l2 : ∀ {a b : Rat}, [a, b].length ≤ 50 := fun {a b} => show 2 ≤ 50 by decide
  have l1 : ∀ {a : Rat}, [a].length ≤ 50 := fun {a} => show 1 ≤ 50 by decide
  have o1 : okRX (RX.mk [rat 1 2] (rat 1 2) [rat 1 2]) := ⟨rb_lit h_r1 l2 (by decide), rb_lit h_x1 l1 (by decide), rfl⟩
  have o2 : rb 1500 [rat 1 2, rat (-1) 3] ∧ lq [rat 1 2, rat (-1) 3] < 2 ^ 64 := ⟨rb_lit h_r2 l2 (by decide), by decide +kernel⟩
  have o3 : okRR (RR.mk [rat 1 2, rat 0 1] [rat 1 3, rat 1 3]) := ⟨rb_lit h_r3 l2 (by decide), rb_lit h_r4 l2 (by decide), rfl⟩
  have o4 : okRR (RR.mk [rat 1 1, rat 0 1] [rat 1 2, rat 0 1]) := ⟨rb_lit h_r5 l2 (by decide), rb_lit h_r3 l2 (by decide), rfl⟩
  have o5 : okRQ (RQ.mk [rat 3 2, rat 3 1] (rat 2 3)) := ⟨rb_lit h_r6 l2 (by decide), small_lt (show (rat 2 3).num.natAbs < 2 ^ 5 by decide +kernel) (by decide), small_lt (show (rat 2 3).den < 2 ^ 5 by decide +kernel) (by decide)⟩
  have o6 : okRX (RX.mk [rat 2 7] (rat (-1) 7) [rat 1 2]) := ⟨rb_lit h_r7 l2 (by decide), rb_lit h_x1 l1 (by decide), rfl⟩
  have o7 : rb 1500 [rat 1 2, rat 3 4] := rb_lit h_r8 l2 (by decide)
  refine sq_asg (eg_lst (ea_cons ((eg_callRK (RX.mk [rat 1 2] (rat 1 2) [rat 1 2]) (ea_cons ((tupI3 eg_int eg_int eg_int).to (rowD_lit h_r1)) (ea_cons ((tupI2 eg_int eg_int).to (rowD_lit h_x1)) ea_nil)) gk2 o1).to (d' := tI [3, 4]) (by show fq (dot [rat 1 2] [rat 1 2] + rat 1 2) = _; rw [h_v1, f34])) ea_nil)) ?_
  refine sq_asg ((eg_cat (eg_var rfl) (eg_lst (ea_cons ((eg_callRK [rat 1 2, rat (-1) 3] (ea_cons ((eg_tup (ea_cons (tupI2 eg_int eg_int) (ea_cons (tupI2 (eg_neg eg_int) eg_int) ea_nil))).to (by rw [f12, f13]; rfl)) ea_nil) gk1 o2).to (rowD_lit h_r2).symm)
    (ea_cons ((eg_callRK (RR.mk [rat 1 2, rat 0 1] [rat 1 3, rat 1 3]) (ea_cons ((tupI3 eg_int eg_int eg_int).to (rowD_lit h_r3)) (ea_cons ((tupI3 eg_int eg_int eg_int).to (rowD_lit h_r4)) ea_nil)) gk2 o3).to (rowD_lit h_a1).symm)
    (ea_cons ((eg_callRK (RR.mk [rat 1 1, rat 0 1] [rat 1 2, rat 0 1]) (ea_cons ((tupI3 eg_int eg_int eg_int).to (rowD_lit h_r3)) (ea_cons ((tupI3 eg_int eg_int eg_int).to (rowD_lit h_r5)) ea_nil)) gk2r o4).to (rowD_lit h_s1).symm) ea_nil)))) (by decide)).to (d' := .list [tI [3, 4], tI [3, -2, 6], tI [5, 2, 6], tI [1, 0, 2]]) rfl) ?_
  refine sq_asg ((eg_cat (eg_var rfl) (eg_lst (ea_cons ((eg_callRK (RQ.mk [rat 3 2, rat 3 1] (rat 2 3)) (ea_cons ((tupI3 eg_int eg_int eg_int).to (rowD_lit h_r6)) (ea_cons ((tupI2 eg_int eg_int).to f23) ea_nil)) gk2 o5).to (rowD_lit h_m1).symm)
    (ea_cons ((eg_callRK (RX.mk [rat 2 7] (rat (-1) 7) [rat 1 2]) (ea_cons ((tupI2 eg_int eg_int).to (rowD_lit h_x1)) (ea_cons ((tupI3 eg_int (eg_neg eg_int) eg_int).to (rowD_lit h_r7)) ea_nil)) gk2r o6).to (d' := .int 0) (by show PyData.int (valI [rat 2 7] (rat (-1) 7) [rat 1 2]).sign = _; rw [h_i7]))
    (ea_cons ((eg_callRK [rat 1 2, rat 3 4] (ea_cons ((tupI3 eg_int eg_int eg_int).to (rowD_lit h_r8)) ea_nil) gk1 o7).to (d' := .tuple [tI [1, 2], tI [3, 4]]) (by show PyData.tuple [fq (rat 1 2), fq (rat 3 4)] = _; rw [← f12, ← f34])) ea_nil)))) (by decide)).to (d' := .list hTold) rfl) ?_
  refine sq_asg (d := .list hTold) ((eg_lst (ea_cons (tupI2 eg_int eg_int) (ea_cons (tupI3 eg_int (eg_neg eg_int) eg_int) (ea_cons (tupI3 eg_int eg_int eg_int) (ea_cons (tupI3 eg_int eg_int eg_int) (ea_cons (tupI3 eg_int eg_int eg_int) (ea_cons eg_int (ea_cons (eg_tup (ea_cons (tupI2 eg_int eg_int) (ea_cons (tupI2 eg_int eg_int) ea_nil))) ea_nil)))))))).to rfl) ?_
  have tI4 : ∀ (zs : List Int), (∀ z ∈ zs, z.natAbs < 2 ^ 5) → zs.length ≤ 4 → Shn 4 1 (tI zs) := fun zs h hl => (shn_tup (b := 0) (k := 0) (m := 4) (fun d hd => by
    obtain ⟨z, hz, rfl⟩ := List.mem_map.mp hd
    exact shn_int (small_lt (h z hz) (by decide))) (by rw [List.length_map]; exact hl)).mono
  refine sg_ret (eg_callR (.list hTold) (ea_cons (eg_var rfl) (ea_cons (eg_var rfl) ea_nil)) (sh_lst (b := 7 * (10 + 1)) (k := 3) (shn_lst (fun d hd => ?_) (Nat.le_refl 7)))) rfl
  unfold hTold at hd
  simp only [List.mem_cons, List.not_mem_nil, or_false] at hd
  rcases hd with rfl | rfl | rfl | rfl | rfl | rfl | rfl
  · exact (tI4 [3, 4] (by decide) (by decide)).mono
  · exact (tI4 _ (by decide) (by decide)).mono
  · exact (tI4 _ (by decide) (by decide)).mono
  · exact (tI4 _ (by decide) (by decide)).mono
  · exact (tI4 _ (by decide) (by decide)).mono
  · exact shn_int (small_lt (by decide) (by decide))
  · refine (shn_tup (b := 4) (k := 1) (m := 2) (ds := [tI [1, 2], tI [3, 4]]) (fun d hd => ?_) (Nat.le_refl 2)).mono
    simp only [List.mem_cons, List.not_mem_nil, or_false] at hd
    rcases hd with rfl | rfl
    · exact tI4 _ (by decide) (by decide)
    · exact tI4 _ (by decide) (by decide)

end V1
set_option Elab.async false
set_option linter.all false
set_option maxRecDepth 100000
set_option maxHeartbeats 4000000
/-! The script: a list that is read alone. -/
namespace V1
open PySem PySem.Spec PyProof.Rows L2
theorem SqL.same {K : PySem.W.Frag} {H H' : Hp} {a : Addr} {xs : List V} (h : SqL K H a xs) (s : Same H H') : SqL K H' a xs := by
  rcases h with (e | ⟨o, e⟩) | h
  · exact .inl (.inl (s _ _ e))
  · exact .inl (.inr ⟨o, s _ _ e⟩)
  · exact .inr h
def scL (K : PySem.W.Frag) (a : Addr) (sc : List Int) : Rl where
  G := fun _ H => SqL K H a (sc.map V.int)
  R := fun _ H H' => Same H H'
  M := fun v => v = .ref a
  gle := fun _ h => h
  rle := fun _ r => r
  gr := fun g r => SqL.same g r
  tr := fun a b => a.trans b
  same := fun _ s => s
  fresh := fun s h b o e => by rw [upd_ne (ne_of_none e h)]; exact s b o e
  keep := fun s e _ => s _ _ e
  free := fun s e => Same.free s e
  mref := fun h => ⟨a, h⟩
section
variable {L : Rl} {Γ : List (Option PyData)} {K : PySem.W.Frag} {a : Addr} {sc : List Int} {i : Nat} {te : TE} {tt : TT}
theorem dq_mark {A : Addr → Prop} {H : Hp} {v : V} (h : Dq (scL K a sc) A H v mark) : v = .ref a := by
  rcases h with ⟨_, h⟩ | h
  · exact h
  · cases h
theorem cut_ints (xs : List Int) (lo hi : Option Int) : ∃ zs : List Int, cutV (xs.map V.int) lo hi = zs.map V.int ∧ zs.length ≤ xs.length := by
  refine ⟨(xs.drop (HT.sIx (xs.map V.int).length 0 lo)).take (HT.sIx (xs.map V.int).length (xs.map V.int).length hi - HT.sIx (xs.map V.int).length 0 lo), ?_, ?_⟩
  · unfold cutV
    rw [List.map_take, List.map_drop]
  · rw [List.length_take, List.length_drop]
    omega
theorem eg_slS {tl th : TO} {lo hi0 : Option Int} (e : Γ[i]? = some (some mark)) (h1 : EoD (scL K a sc) tl Γ lo) (h2 : EoD (scL K a sc) th Γ hi0) : EvG (scL K a sc) 0 (tSl (rSlL K) (tVar i) tl th) Γ (fun d => ∃ zs : List Int, zs.length ≤ sc.length ∧ d = lI zs) := fun A σ H hi he hg Q q => by
  obtain ⟨v, hv, dv⟩ := he.2 i _ e
  have ev := dq_mark dv
  subst ev
  refine ⟨_, hv, h1 A σ H hi he hg _ fun H1 r1 => h2 A σ H1 (hi.r r1) (he.r r1) (Rl.gR (a := 0) (b := 0) hg r1) _ fun H2 r2 => ?_⟩
  have r12 : (scL K a sc).R 0 H H2 := (scL K a sc).tr (a := 0) (b := 0) r1 r2
  have g2 : (scL K a sc).G 0 H2 := Rl.gR (a := 0) (b := 0) hg r12
  obtain ⟨zs, e1, e2⟩ := cut_ints sc lo hi0
  refine ⟨a, sc.map V.int, rfl, g2, fun p hp => ?_⟩
  have rr := Rl.newR (L := scL K a sc) (o := .lst (cutV (sc.map V.int) lo hi0)) g2 hp
  rw [e1] at rr ⊢
  exact q _ _ _ ((scL K a sc).tr (a := 0) (b := 0) r12 rr) (.inr (.lst ((hi.r r12).no hp) upd_same (DvAll.ofInts zs))) ⟨zs, e2, rfl⟩
theorem cs_lenS (e : Γ[i]? = some (some mark)) : EvD (scL K a sc) (tCB (fun xs H Q => ∃ p ys, xs = [.ref p] ∧ (SqL K H p ys ∨ SqT K H p ys) ∧ Q (.int ys.length) H) (tCons (tVar i) tNil)) Γ (.int (sc.length : Int)) := fun A σ H hi he hg Q q => by
  obtain ⟨v, hv, dv⟩ := he.2 i _ e
  have ev := dq_mark dv
  subst ev
  refine ⟨_, hv, a, sc.map V.int, rfl, .inl hg, ?_⟩
  rw [List.length_map]
  exact q _ _ H (Rl.refl hg) (.inr (.int _)) rfl
/-- a comprehension with a test -/
theorem eg_lcT {wi : TI} {g : TG} {js vs : List Nat} {items : List PyData} {Pt : PyData → Prop} (hw : WkD L wi Γ items) (hj : ∀ j ∈ js, j ∈ vs) (hlen : items.length ≤ 1000)
    (hb : ∀ (i : Nat) d, items[i]? = some d → ∃ Γ', TgG L g js d (wipeD Γ vs) Γ' ∧ (∃ k, EtD L tt Γ' k) ∧ EvG L 0 te Γ' (fun r => r ≠ mark ∧ Pt r)) :
    EvG L 0 (tLc wi g tt te vs) Γ (fun r => ∃ rs, r = .list rs ∧ rs.length ≤ items.length ∧ ∀ (i : Nat) d, rs[i]? = some d → Pt d) := fun A σ H hi he hg Q q => hw A σ H hi he hg _ fun J H1 its r1 hp jk D hD => by
  subst hp
  have hD0 : H D = none := L.free r1 hD
  have g1 : L.G 0 H1 := Rl.gR (b := 0) hg r1
  refine ⟨fun i m H2 => m = its.length - i ∧ i ≤ its.length ∧ L.R 0 H H2 ∧ Kp H1 H2 ∧ ∃ acc rs, H2 D = some (.lst acc) ∧ DvAll (fun b => A b ∨ b = D) H2 acc rs ∧ rs.length ≤ i ∧ ∀ (j : Nat) d, rs[j]? = some d → Pt d, ⟨its.length, ?_⟩, ?_⟩
  · exact ⟨by omega, Nat.zero_le _, L.fresh r1 hD0, fun b o e k => by rw [upd_ne (ne_of_none e hD)]; exact e, [], [], upd_same, .nil, Nat.le_refl _, fun j d e => by simp at e⟩
  · rintro i m H2 ⟨rfl, hle, r2, k2, acc, rs, eD, dv, hrl, hpt⟩
    have naD : ∀ b, A b → H2 b ≠ none := fun b z => hi.r r2 b z
    by_cases hlt : i < its.length
    · refine .inr ⟨jk.go i H2 k2 hlt, fun H3 => i + 1 ≤ its.length ∧ L.R 0 H H3 ∧ Kp H1 H3 ∧ ∃ acc rs, H3 D = some (.lst acc) ∧ DvAll (fun b => A b ∨ b = D) H3 acc rs ∧ rs.length ≤ i + 1 ∧ ∀ (j : Nat) d, rs[j]? = some d → Pt d,
        fun H3 h3 => ⟨its.length - (i + 1), by omega, rfl, h3⟩, fun x H3 y => ?_⟩
      obtain ⟨d, hd, sm, hdv⟩ := jk.yld i H2 x H3 k2 naD y hlt
      obtain ⟨Γ', htg, ⟨kk, htt⟩, hev⟩ := hb i d hd
      have innA' : ∀ b, (A b ∨ b = D) → H2 b ≠ none := fun b z => z.elim (naD b) fun e => by rw [e, eD]; simp
      have dx : Dv (fun b => A b ∨ b = D) H3 x d := hdv _ innA' fun b o na e _ z => z.elim na (ne_of_none e hD)
      have ev2 : EnvOk L (fun b => A b ∨ b = D) (wipe σ vs) H3 (wipeD Γ vs) := by
        have h0 : EnvOk L (fun b => A b ∨ b = D) (wipe σ vs) (upd H1 D (.lst [])) (wipeD Γ vs) := ((he.r r1).wipe vs).avoid hD
        refine ⟨h0.1, fun j d' e => ?_⟩
        obtain ⟨v, e1, e2⟩ := h0.2 j d' e
        refine ⟨v, e1, e2.imp (fun z => z) fun z => z.map fun b o na eb kd => ⟨na, sm _ _ (k2 b o ?_ kd)⟩⟩
        rwa [upd_ne (fun w => na (.inr w))] at eb
      refine htg (fun b => A b ∨ b = D) x (wipe σ vs) H3 dx ev2 _ fun σ2 e3 w3 => ⟨?_, ?_⟩
      · rw [w3 vs hj, wipe_wipe vs fun v hv => hv]
      · have g2 : L.G 0 H2 := Rl.gR (b := 0) hg r2
        have r3 : L.R 0 H2 H3 := L.same g2 sm
        have g3 : L.G 0 H3 := Rl.gR (b := 0) g2 r3
        have inn3 : Inn (fun b => A b ∨ b = D) H3 := fun b z y => innA' b z (L.free r3 y)
        refine htt (fun b => A b ∨ b = D) σ2 H3 inn3 e3 g3 _ fun H4 r4 => ?_
        have r34 : L.R 0 H2 H4 := L.tr (a := 0) (b := 0) r3 r4
        have k4 : Kp H1 H4 := fun b o e k => L.keep r34 (k2 b o e k) k
        have eD4 : H4 D = some (.lst acc) := L.keep r34 eD (fun kvs z => by cases z)
        cases kk with
        | false =>
          show i + 1 ≤ its.length ∧ _
          exact ⟨hlt, L.tr (a := 0) (b := 0) r2 r34, k4, acc, rs, eD4, dv.r r34, by omega, hpt⟩
        | true =>
          show te σ2 H4 _
          refine hev (fun b => A b ∨ b = D) σ2 H4 (inn3.r r4) (e3.r r4) (Rl.gR (b := 0) g3 r4) _ fun y dy H5 r5 hy pw => ?_
          obtain ⟨hmk, hpt4⟩ := pw
          have eD5 : H5 D = some (.lst acc) := L.keep r5 eD4 (fun kvs z => by cases z)
          have r25 : L.R 0 H2 H5 := L.tr (a := 0) (b := 0) r34 r5
          refine ⟨acc, eD5, Nat.lt_of_le_of_lt (show acc.length ≤ 1000 by rw [dv.length]; omega) (by decide), hlt, L.fresh (L.tr (a := 0) (b := 0) r2 r25) hD0, ?_, acc ++ [y], rs ++ [dy], upd_same, ?_, by rw [List.length_append]; show _ + 1 ≤ _; omega, fun j d' e => ?_⟩
          · intro b o e k
            have ne : b ≠ D := ne_of_none e hD
            rw [upd_ne ne]
            exact L.keep r25 (k2 b o e k) k
          · exact ((dv.r r25).app (.cons (hy.ne hmk) .nil)).off
          · by_cases hj2 : j < rs.length
            · rw [List.getElem?_append_left hj2] at e
              exact hpt j d' e
            · rw [List.getElem?_append_right (by omega)] at e
              have hj3 : j - rs.length = 0 := by
                have := (List.getElem?_eq_some_iff.mp e).1
                simp at this
                omega
              rw [hj3] at e
              simp at e
              subst e
              exact hpt4
    · have e : i = its.length := by omega
      subst e
      refine .inl ⟨jk.stop H2 k2, ?_⟩
      have nD : ¬ A D := hi.no hD0
      exact q (.ref D) (.list rs) H2 r2 (.inr (.lst nD eD (dv.map fun b o na e _ => ⟨fun z => na (.inl z), e⟩))) ⟨rs, rfl, hrl, hpt⟩
theorem eg_catG {P1 P2 : List Int → Prop} {ta tb : TE} {m n : Nat} (ha : EvG L m ta Γ (fun d => ∃ zs, P1 zs ∧ d = lI zs)) (hb : EvG L n tb Γ (fun d => ∃ zs, P2 zs ∧ d = lI zs)) (hl : ∀ xs ys, P1 xs → P2 ys → xs.length + ys.length ≤ 100000) : EvG L (m + n) (tOp rCat ta tb) Γ (fun d => ∃ xs ys, P1 xs ∧ P2 ys ∧ d = lI (xs ++ ys)) :=
  eg_opG ha hb fun d1 d2 ⟨xs, p1, e1⟩ ⟨ys, p2, e2⟩ => by
    subst e1 e2
    exact fun A H x y hi hg hx hy Q q => os_cat (by rw [List.length_map, List.length_map]; exact hl xs ys p1 p2) A H x y hi hg hx hy Q fun v d H' r hv e => q v d H' r hv ⟨xs, ys, p1, p2, by rw [e]; unfold lI; rw [List.map_append]⟩
theorem dp_nil {A : Addr → Prop} {H : Hp} {p : Addr} (h : H p = some (.lst [])) : Dp K H (.ref p) (.list []) := .lst (SqL.of h) .nil
theorem eqv_nil (ds : List PyData) : PyData.eqv (.list ds) (.list []) = ds.isEmpty := by
  cases ds with
  | nil => rfl
  | cons d ds => rfl
theorem canlay_ints : ∀ zs : List Int, PyData.canLayAll0 (zs.map .int) = true
  | [] => rfl
  | z :: zs => by simp only [List.map_cons, PyData.canLayAll0, PyData.canLay0, canlay_ints zs, Bool.and_self]
theorem depth_ints : ∀ zs : List Int, PyData.depthAll (zs.map .int) = 0
  | [] => rfl
  | z :: zs => by simp only [List.map_cons, PyData.depthAll, PyData.depth, depth_ints zs, Nat.max_self]
theorem shaped_ints (zs : List Int) : SeqAt.shaped (lI zs) = true := by
  unfold SeqAt.shaped lI
  rw [Bool.and_eq_true]
  refine ⟨by simp only [PyData.canLay0]; exact canlay_ints zs, decide_eq_true ?_⟩
  simp only [PyData.depth, depth_ints]
  omega
/-- xs != [] -/
theorem eg_neNil {ta : TE} {zs : List Int} (h : EvD L ta Γ (lI zs)) : EvD L (tOp (rNeD K) ta (tLst tNil)) Γ (.bool (!zs.isEmpty)) := fun A σ H hi he hg Q q => h A σ H hi he hg _ fun x d H1 r1 hx p => by
  subst p
  refine eg_lst (L := L) (Γ := Γ) (t := tNil) (ds := []) ea_nil rfl (by decide) A σ H1 (hi.r r1) (he.r r1) (Rl.gR (b := 0) hg r1) _ fun y d2 H2 r2 hy p2 => ?_
  subst p2
  have dx : Dp K H2 x (lI zs) := ((hx.r r2).ne (by unfold lI; intro z; cases z)).dp
  have dy : Dp K H2 y (.list []) := (hy.ne (by intro z; cases z)).dp
  refine ⟨lI zs, .list [], dx, dy, shaped_ints zs, rfl, ?_⟩
  have e : PyData.eqv (lI zs) (.list []) = zs.isEmpty := by
    unfold lI
    rw [eqv_nil]
    cases zs <;> rfl
  rw [e]
  exact q _ _ H2 (L.tr (a := 0) (b := 0) r1 r2) (.inr (.bl _)) rfl
/-- a way through statements, to an end of its own -/
def SX (L : Rl) (A : Addr → Prop) (H0 : Hp) (D : Ends) (ts : TS) (Γ : List (Option PyData)) : Prop := ∀ σ H, Inn A H → EnvOk L A σ H Γ → L.G 0 H → L.R 0 H0 H → ts D σ H
theorem sx_asgG {A : Addr → Prop} {H0 : Hp} {D : Ends} {u : TS} {P : PyData → Prop} {j : Nat} (h : EvG L 0 te Γ P) (k : ∀ d, P d → SX L A H0 D u (Γ.set j (some d))) : SX L A H0 D (tSeq (tAsg te (gName j)) u) Γ := fun σ H hi he hg r0 =>
  h A σ H hi he hg _ fun v d H1 r1 hv p => k d p _ H1 (hi.r r1) ((he.r r1).set hv j) (Rl.gR (b := 0) hg r1) (L.tr (a := 0) (b := 0) r0 r1)
theorem sx_sg {A : Addr → Prop} {H0 : Hp} {D : Ends} {ts u : TS} {N : List (Option PyData) → Prop} (h : SG L 0 ts Γ N (fun _ => False)) (k : ∀ Γ', N Γ' → SX L A H0 D u Γ') : SX L A H0 D (tSeq ts u) Γ := fun σ H hi he hg r0 =>
  h A σ H hi he hg { D with nx := u D } (fun σ' H' Γ' r e p => k Γ' p σ' H' (hi.r r) e (Rl.gR (b := 0) hg r) (L.tr (a := 0) (b := 0) r0 r)) fun v d H' r hd z => z.elim
end
end V1
set_option Elab.async false
set_option linter.all false
set_option maxRecDepth 100000
set_option maxHeartbeats 4000000
namespace V1
open PySem PySem.Spec PyProof.Rows L2
variable {P : Program} {w : World} {K : PySem.W.Frag} {mg : Str → Option Value} {base : Heap}
abbrev s_law_begun : Stmt := top 29
abbrev n_law_begun : List Str := ["script", "k", "cells", "great", "seed", "cell"]
theorem sc_law_begun : FnScope n_law_begun ["script", "k"] (defScope s_law_begun) := ⟨rfl, rfl, rfl, by decide +kernel, rfl, by decide +kernel, by decide +kernel⟩
def sp_law_begun (K : PySem.W.Frag) : Sp := fun vs H Q _ => ∃ (a : Addr) (sc : List Int) (k : Nat), vs = [.ref a, .int (k : Int)] ∧ SqL K H a (sc.map V.int) ∧ k ≤ 4 ∧ sc.length ≤ 63 ∧
  ∀ p c l sd ns H', Same H H' → H p = none → ns ≠ [] → H' p = some (.dK (dct l sd c 0)) → H' c = some (.lst (ns.map V.int)) → Q (.ref p) H'
theorem len_law_begun : ∀ vs H Q E, sp_law_begun K vs H Q E → vs.length = (["script", "k"] : List Str).length := fun vs H Q E ⟨a, sc, k, e, _⟩ => by rw [e]; rfl
theorem ok_law_begun {f : Addr} {fd : FuncData} (T : Bt K mg) (D : Df K mg "_law_begun" s_law_begun ["script", "k"] f fd) : Cal P w K mg base "_law_begun" s_law_begun ["script", "k"] 1 (sp_law_begun K) f fd := by
  refine ⟨D.gm, D.F, D.b, okG D.F sc_law_begun len_law_begun (fun cdv A outer s H vs Q E hgd hr h => ⟨_, (pss_cons (ps_set (i := 2) sc_law_begun.nd rfl (Or.inl rfl) (pe_op op_cat (pe_slice sl_list (pv 0) (po_some (pv 1)) po_none) (pe_slice sl_list (pv 0) po_none (po_some (pv 1)))))
        (pss_cons (ps_setLc (i := 3) (own := [("cell", 5)]) (g := gName 5) rfl sc_law_begun.nd rfl rfl (sw_true rfl rfl rfl (by decide +kernel)) (pi_list (pv 2)) (blkOk_by (own := [("cell", 5)]) (N := n_law_begun) (sc := defScope s_law_begun) (by decide +kernel)) (fun _ _ _ _ _ => (pg_name (i := 5) sc_law_begun.nd rfl (Or.inl rfl))) (fun _ _ _ _ _ => (pts_one (pt_cmpR op_ge (pv 5) (pe_op op_pow pe_int pe_int) (nomark _)))) (fun _ _ _ _ _ => (pv 5)))
        (pss_cons (ps_set (i := 4) sc_law_begun.nd rfl (Or.inl rfl) (pe_op op_add pe_int (pv 1)))
        (pss_cons (ps_for PassesOwn.never rfl (pi_list (pv 2)) (pg_name (i := 5) sc_law_begun.nd rfl (Or.inl rfl))
        (pss_one (ps_set (i := 4) sc_law_begun.nd rfl (Or.inl rfl) (pe_op op_modN (pe_callTy call_int1 (by rfl) T.int (by decide +kernel) (pa_cons (pe_op op_add (pe_op op_mul (pv 4) pe_int) (pv 5)) pa_nil)) pe_int))))
        (pss_one (ps_ret (pe_disp (pps_cons pe_str (pe_ifExp (pt_cmpR (op_neD hr.units) (pv 3) (pe_lst pa_nil) (nomark _)) (pe_ix (ix_listK (K := K) rfl) (pv 3) pe_int (fun _ _ => rfl)) pe_int) (pps_cons pe_str (pv 4) (pps_cons pe_str (pe_op op_cat (pv 2) (pe_lst (pa_cons (pe_op op_add (pe_op op_mul pe_int (pv 1)) pe_int) pa_nil))) (pps_cons pe_str pe_int pps_nil)))) (by rfl) (by rfl) (fun z => by cases z) (by decide)))))))), ?_⟩)⟩
  obtain ⟨a, sc, k, rfl, hsc, hk, hl, q⟩ := h
  have he : EnvOk (scL K a sc) (fun _ => False) (L2.start n_law_begun [V.ref a, .int (k : Int)]) H [some mark, some (.int (k : Int)), none, none, none, none] := ⟨rfl, fun i d e => by
    match i, e with
    | 0, e =>
      have e1 : mark = d := Option.some.inj (Option.some.inj e)
      subst e1
      exact ⟨_, rfl, .inl ⟨rfl, rfl⟩⟩
    | 1, e =>
      have e1 : PyData.int (k : Int) = d := Option.some.inj (Option.some.inj e)
      subst e1
      exact ⟨_, rfl, .inr (.int _)⟩
    | 2, e => cases e
    | 3, e => cases e
    | 4, e => cases e
    | 5, e => cases e
    | i + 6, e => cases e⟩
  have hi : Inn (fun _ => False) H := fun b z => z.elim
  refine (?run : SX (scL K a sc) (fun _ => False) H _ _ [some mark, some (.int (k : Int)), none, none, none, none]) _ H hi he hsc (Same.refl H)
  case run =>
    refine sx_asgG (eg_catG (P1 := fun zs => zs.length ≤ sc.length) (P2 := fun zs => zs.length ≤ sc.length) (eg_slS (i := 0) rfl (eo_some (eg_var (i := 1) rfl)) eo_none) (eg_slS (i := 0) rfl eo_none (eo_some (eg_var (i := 1) rfl))) (fun xs ys h1 h2 => by omega)) ?_
    rintro d ⟨xs, ys, hx, hy, rfl⟩
    generalize hc : xs ++ ys = cs
    have hcl : cs.length ≤ 126 := by rw [← hc, List.length_append]; omega
    clear hc hx hy
    refine sx_asgG (eg_lcT (js := [5]) (vs := [5]) (items := cs.map .int) (Pt := fun r => ∃ z : Int, r = .int z) (wk_list (eg_var (i := 2) rfl)) (by simp) (by rw [List.length_map]; omega) (fun i d hd => ?_)) ?_
    · obtain ⟨n, _, _, rfl⟩ := map_at hd
      exact ⟨_, tg_name, ⟨_, et_test (eg_ge (eg_var rfl) (eg_pow eg_int eg_int (by unfold CPow; decide)))⟩, EvG.mono (eg_var rfl) (Nat.le_refl _) fun r e => by rw [e]; exact ⟨(fun z => by cases z), n, rfl⟩⟩
    rintro d ⟨rs, rfl, hrl, hrs⟩
    obtain ⟨gs, rfl, hgl, _⟩ := enc_of (enc := PyData.int) (P := fun _ : Int => True) (rs := rs) fun i d e => let ⟨z, hz⟩ := hrs i d e; ⟨z, trivial, hz⟩
    refine sx_asgG (EvG.mono (eg_add (eg_int (i := 91)) (eg_var (i := 1) rfl)) (Nat.le_refl _) fun d e => e) ?_
    rintro d rfl
    refine sx_sg (N := fun G => ∃ s x, G = [some mark, some (.int (k : Int)), some (lI cs), some (.list (gs.map .int)), some (.int s), x]) (sg_for (js := [5]) (fun i G => ∃ s x, G = [some mark, some (.int (k : Int)), some (lI cs), some (.list (gs.map .int)), some (.int s), x]) (wk_list (eg_var (i := 2) rfl)) ⟨_, none, rfl⟩ (fun i d G hd ⟨s, x, eG⟩ => by
      subst eG
      obtain ⟨n, hn, _, rfl⟩ := map_at hd
      exact ⟨_, tg_name (j := 5), sg_asg (i := 4) (eg_mod (eg_cb (ea_cons (eg_add (eg_mulN (C := CMul) (eg_var (i := 4) rfl) (eg_int (i := 48271)) (cmul_r (by decide) (by decide))) (eg_var (i := 5) rfl)) ea_nil) cs_int) (eg_int (i := 2147483647)) (by decide)) ⟨_, _, rfl⟩⟩) fun G hG => hG) ?_
    rintro G ⟨sd, x, rfl⟩ σ3 H3 hi3 he3 hg3 r3
    have r13 : Same H H3 := r3
    -- the dict
    intro p hp
    have rp : Same H3 (upd H3 p (.dK [])) := fun b o z => by rw [upd_ne (ne_of_none z hp)]; exact z
    have he4 : EnvOk (scL K a sc) (fun _ => False) σ3 (upd H3 p (.dK [])) _ := he3.r (L := scL K a sc) (n := 0) rp
    have hP4 : (upd H3 p (.dK [])) p = some (.dK []) := upd_same
    have hg4 : (scL K a sc).G 0 (upd H3 p (.dK [])) := SqL.same hg3 rp
    generalize upd H3 p (.dK []) = H4 at rp he4 hP4 hg4
    have left : EvG (scL K a sc) 0 (tIf (tTest (tOp (rNeD K) (tVar 3) (tLst tNil))) (tOp (rIxL K) (tVar 3) (tC (.int 0))) (tC (.int 0))) [some mark, some (.int (k : Int)), some (lI cs), some (.list (gs.map .int)), some (.int sd), x] (fun d => ∃ l : Int, d = .int l) := by
      cases gs with
      | nil => exact EvG.mono (eg_if (d := .int 0) (et_test (eg_neNil (zs := []) (eg_var (i := 3) rfl))) (fun z => by cases z) fun _ => eg_int) (Nat.le_refl _) fun d e => ⟨0, e⟩
      | cons g gs => exact EvG.mono (eg_if (d := .int g) (et_test (eg_neNil (zs := g :: gs) (eg_var (i := 3) rfl))) (fun _ => eg_ixL (eg_var (i := 3) rfl) eg_int (atI_zero _ _)) fun z => by cases z) (Nat.le_refl _) fun d e => ⟨g, e⟩
    show tIf _ _ _ σ3 H4 _
    refine left _ σ3 H4 (fun b z => z.elim) he4 hg4 _ fun v1 d H5 r5 hv1 ⟨l, e⟩ => ?_
    subst e
    obtain rfl := hv1.int
    have he5 := he4.r r5
    obtain ⟨v2, hs2, hv2⟩ := he5.2 4 (.int sd) rfl
    obtain rfl := hv2.int
    refine ⟨_, hs2, ?_⟩
    show tOp rCat _ _ σ3 H5 _
    refine eg_cat (L := scL K a sc) (ds := cs.map .int) (es := [.int (61 * (k : Int) + 17)]) (eg_var (i := 2) rfl) (eg_lst (ea_cons (eg_add (eg_mulN (C := CMul) (eg_int (i := 61)) (eg_var (i := 1) rfl) (cmul_l (by decide) (by decide))) (eg_int (i := 17))) ea_nil)) (by rw [List.length_map]; show _ + 1 ≤ _; omega) _ σ3 H5 (fun b z => z.elim) he5 (SqL.same hg4 r5) _ fun v3 d H7 r7 hv3 e => ?_
    subst e
    obtain ⟨c, xs7, rfl, _, e7, r7'⟩ := hv3.list
    have e8 : (cs.map PyData.int ++ [.int (61 * (k : Int) + 17)]) = (cs ++ [61 * (k : Int) + 17]).map .int := by rw [List.map_append]; rfl
    rw [e8] at r7'
    rw [r7'.ints] at e7
    have r47 : Same H4 H7 := Same.trans r5 r7
    have hP7 := r47 _ _ hP4
    refine ⟨hP7, [(.inr "left", .int l), (.inr "seed", .int sd), (.inr "cells", .ref c), (.inr "spot", .int 0)], rfl, (show 4 ≤ 15 by decide), ?_⟩
    have hcp : c ≠ p := fun z => by
      rw [z, hP7] at e7
      cases e7
    have r37 : Same H3 H7 := rp.trans r47
    refine q p c l sd (cs ++ [61 * (k : Int) + 17]) _ (fun b o z => ?_) (Same.free r13 hp) (by simp) upd_same (by rw [upd_ne hcp]; exact e7)
    rw [upd_ne (ne_of_none (r13 _ _ z) hp)]
    exact r37 _ _ (r13 _ _ z)

end V1
set_option Elab.async false
set_option linter.all false
set_option maxRecDepth 100000
set_option maxHeartbeats 4000000
/-! A way that leaves one slot as it is. -/
namespace V1
open PySem PySem.Spec PyProof.Rows L2
def SK (L : Rl) (j : Nat) (v0 : V) (n : Nat) (ts : TS) (Γ : List (Option PyData)) (N : List (Option PyData) → Prop) : Prop := ∀ A σ H, Inn A H → EnvOk L A σ H Γ → L.G n H → σ[j]? = some (some v0) → ∀ D : Ends,
  (∀ σ' H' Γ', L.R n H H' → EnvOk L A σ' H' Γ' → σ'[j]? = some (some v0) → N Γ' → D.nx σ' H') → ts D σ H
section
variable {L : Rl} {Γ : List (Option PyData)} {te : TE} {t : TA} {tt : TT} {ts u : TS} {i j a b c : Nat} {v0 : V} {N : List (Option PyData) → Prop} {P : PyData → Prop}
theorem sk_asgG (hij : i ≠ j) (h : EvG L a te Γ P) (k : ∀ d, P d → SK L j v0 b u (Γ.set i (some d)) N) : SK L j v0 (a + b) (tSeq (tAsg te (gName i)) u) Γ N := fun A σ H hi he hg hs D q =>
  h A σ H hi he (L.gle (Nat.le_add_right _ _) hg) _ fun v d H1 r hv p => k d p A _ H1 (hi.r r) ((he.r r).set hv i) (Rl.gR hg r) (by rw [List.getElem?_set_ne hij]; exact hs) D fun σ2 H2 Γ2 r2 e2 s2 p2 => q σ2 H2 Γ2 (L.tr r r2) e2 s2 p2
theorem sk_parG {i2 : Nat} {PP : List PyData → Prop} (h1 : i ≠ j) (h2 : i2 ≠ j) (h : EaG L a t Γ PP) (k : ∀ ds, PP ds → ∃ d1 d2, ds = [d1, d2] ∧ SK L j v0 b u ((Γ.set i (some d1)).set i2 (some d2)) N) : SK L j v0 (a + b) (tSeq (tPar i i2 t) u) Γ N := fun A σ H hi he hg hs D q =>
  h A σ H hi he (L.gle (Nat.le_add_right _ _) hg) _ fun vs ds H1 r hl hv p => by
    obtain ⟨d1, d2, rfl, k⟩ := k ds p
    obtain ⟨v, w, rfl, h3, h4⟩ := two_of hl hv
    exact ⟨v, w, rfl, k A _ H1 (hi.r r) (((he.r r).set h3 i).set h4 i2) (Rl.gR hg r) (by rw [List.getElem?_set_ne h2, List.getElem?_set_ne h1]; exact hs) D fun σ2 H2 Γ2 r2 e2 s2 p2 => q σ2 H2 Γ2 (L.tr r r2) e2 s2 p2⟩
theorem sk_ifn (h : EtG L a tt Γ (fun k => k = false)) (k : N Γ) : SK L j v0 a (tIfS tt ts tNext) Γ N := fun A σ H hi he hg hs D q => h A σ H hi he hg _ fun b H1 r1 e => by
  subst e
  exact q σ H1 Γ r1 (he.r r1) hs k
theorem sk_for {wi : TI} {g : TG} {js : List Nat} {items : List PyData} (I : Nat → List (Option PyData) → Prop) (hjs : j ∉ js) (hw : WkD L wi Γ items) (hlen : items.length ≤ b) (h0 : I 0 Γ)
    (hb : ∀ (i : Nat) d Γi, items[i]? = some d → I i Γi → ∃ Γ', TgG L g js d Γi Γ' ∧ SK L j v0 c ts Γ' (I (i + 1))) (hN : ∀ Γe, I items.length Γe → N Γe) : SK L j v0 (b * c) (tFor wi g ts) Γ N := fun A σ H hi he hg hs D q1 =>
  hw A σ H hi he (L.g0 hg) _ fun J H1 its r1 hp jk => by
  subst hp
  refine ⟨fun i m σ2 H2 => m = its.length - i ∧ i ≤ its.length ∧ L.R (i * c) H H2 ∧ Kp H1 H2 ∧ σ2[j]? = some (some v0) ∧ ∃ Γi, EnvOk L A σ2 H2 Γi ∧ I i Γi, ⟨its.length, ?_⟩, ?_⟩
  · refine ⟨by omega, Nat.zero_le _, ?_, fun b o e k => e, hs, Γ, he.r r1, h0⟩
    rw [Nat.zero_mul]
    exact r1
  · rintro i m σ2 H2 ⟨rfl, hle, r2, k2, s2, Γi, e2, p2⟩
    by_cases hlt : i < its.length
    · refine .inr ⟨jk.go i H2 k2 hlt, fun σ3 H3 => i + 1 ≤ its.length ∧ L.R ((i + 1) * c) H H3 ∧ Kp H1 H3 ∧ σ3[j]? = some (some v0) ∧ ∃ Γi, EnvOk L A σ3 H3 Γi ∧ I (i + 1) Γi, fun σ3 H3 h3 => ⟨its.length - (i + 1), by omega, rfl, h3⟩, fun x H3 y => ?_⟩
      have naD : ∀ b, A b → H2 b ≠ none := fun b z => hi.r r2 b z
      obtain ⟨d, hd, sm, hdv⟩ := jk.yld i H2 x H3 k2 naD y hlt
      obtain ⟨Γ', htg, hs'⟩ := hb i d Γi hd p2
      have e5 : (i + 1) * c = i * c + 0 + c := by rw [Nat.succ_mul]; omega
      have g0 : L.G (c + 0) H2 := by
        refine Rl.gR (a := i * c) ?_ r2
        refine L.gle ?_ hg
        have h1 : (i + 1) * c ≤ b * c := Nat.mul_le_mul_right _ (by omega)
        have h2 : (i + 1) * c = i * c + c := Nat.succ_mul _ _
        omega
      have r3 : L.R 0 H2 H3 := L.same (L.g0 g0) sm
      have g3 : L.G c H3 := Rl.gR (a := 0) (by rw [Nat.zero_add]; exact g0) r3
      have dx : Dv A H3 x d := hdv A naD fun b o na e _ => na
      refine htg A x σ2 H3 dx (e2.r r3) _ fun σ4 e4 w4 => ?_
      have s4 : σ4[j]? = some (some v0) := by
        have hw4 := w4 js fun k hk => hk
        rw [← wipe_get hjs, hw4, wipe_get hjs]
        exact s2
      refine hs' A σ4 H3 (fun b z y => naD b z (L.free r3 y)) e4 g3 s4 { D with nx := _, ct := _, bk := D.nx } (fun σ5 H5 Γ5 r5 e6 s5 p5 => ?_)
      refine ⟨hlt, ?_, fun b o e k => L.keep r5 (sm _ _ (k2 b o e k)) k, s5, Γ5, e6, p5⟩
      rw [e5]
      exact L.tr (L.tr r2 r3) r5
    · have e : i = its.length := by omega
      subst e
      exact .inl ⟨jk.stop H2 k2, q1 σ2 H2 Γi (L.rle (Nat.mul_le_mul_right c hlen) r2) e2 s2 (hN Γi p2)⟩
end
end V1
set_option Elab.async false
set_option linter.all false
set_option maxRecDepth 100000
set_option maxHeartbeats 4000000
namespace V1
open PySem PySem.Spec PyProof.Rows L2
variable {P : Program} {w : World} {K : PySem.W.Frag} {mg : Str → Option Value} {base : Heap}
/-- a turn's draws begun, used, left: the script's list is as it was -/
theorem sg_begun {a : Addr} {sc : List Int} {k n : Nat} {u : TS} {x3 x4 x5 x6 : Option PyData} {Rt : PyData → Prop} (hk : k ≤ 4) (hl : sc.length ≤ 63) (hn : n ≤ 1000)
    (hu : ∀ p c ns, ns ≠ [] → SK (mL p c ns) 0 (V.ref a) n u [none, none, some mark, none, none, none, none] (fun G => G.length = 7)) :
    SG (scL K a sc) 0 (tSeq (tAsg (tCall (sp_law_begun K) [] E0 (tCons (tVar 0) (tCons (tVar 1) tNil))) (gName 2)) u) [some mark, some (.int (k : Int)), x3, x4, x5, x6, none] (fun G => G = [some mark, none, none, none, none, none, none]) Rt := fun A σ H hi he hg D q1 q2 => by
  obtain ⟨v0, hs0, dv0⟩ := he.2 0 mark rfl
  have ev := dq_mark dv0
  subst ev
  obtain ⟨v1, hs1, dv1⟩ := he.2 1 (.int (k : Int)) rfl
  obtain rfl := dv1.int
  refine ⟨_, hs0, _, hs1, ?_⟩
  refine (?key : sp_law_begun K [V.ref a, V.int (k : Int)] H (fun x H1 => u D (σ.set 2 (some x)) H1) E0)
  refine ⟨a, sc, k, rfl, hg, hk, hl, fun p c l sd ns H1 sm hp hns hP hC => ?_⟩
  have hlen : σ.length = 7 := he.1
  have hA : Inn A H1 := fun b z y => hi b z (Same.free sm y)
  have he1 : EnvOk (mL p c ns) A (σ.set 2 (some (V.ref p))) H1 [none, none, some mark, none, none, none, none] := ⟨by rw [List.length_set]; exact hlen, fun i d e => by
    match i, e with
    | 0, e => cases e
    | 1, e => cases e
    | 2, e =>
      have e1 : mark = d := Option.some.inj (Option.some.inj e)
      subst e1
      exact ⟨V.ref p, List.getElem?_set_self (by omega), .inl ⟨rfl, rfl⟩⟩
    | 3, e => cases e
    | 4, e => cases e
    | 5, e => cases e
    | 6, e => cases e
    | i + 7, e => cases e⟩
  have hG : (mL p c ns).G n H1 := ⟨l, sd, 0, hP, hC, Int.le_refl 0, by omega⟩
  have hs0' : (σ.set 2 (some (V.ref p)))[0]? = some (some (V.ref a)) := by rw [List.getElem?_set_ne (by decide)]; exact hs0
  refine hu p c ns hns A _ H1 hA he1 hG hs0' D fun σ2 H2 G2 r2 e2 s2 p2 => ?_
  obtain ⟨r2a, r2b, r2c⟩ := r2
  have sm2 : Same H H2 := fun b o z => r2a b o (sm b o z) (.inl (fun y => by rw [y, hp] at z; cases z))
  have hl2 : σ2.length = 7 := e2.1.trans p2
  refine q1 σ2 H2 [some mark, none, none, none, none, none, none] sm2 ⟨hl2, fun i d e => ?_⟩ rfl
  match i, e with
  | 0, e =>
    have e1 : mark = d := Option.some.inj (Option.some.inj e)
    subst e1
    exact ⟨_, s2, .inl ⟨rfl, rfl⟩⟩
  | 1, e => cases e
  | 2, e => cases e
  | 3, e => cases e
  | 4, e => cases e
  | 5, e => cases e
  | 6, e => cases e
  | i + 7, e => cases e

abbrev s_law : Stmt := top 50
abbrev n_law : List Str := ["script", "k", "m", "turn", "count", "line", "more"]
theorem sc_law : FnScope n_law ["script"] (defScope s_law) := ⟨rfl, rfl, rfl, by decide +kernel, rfl, by decide +kernel, by decide +kernel⟩
def sp_law (K : PySem.W.Frag) : Sp := fun vs H Q _ => ∃ (a : Addr) (sc : List Int), vs = [.ref a] ∧ sc.length ≤ 63 ∧ SqL K H a (sc.map V.int) ∧ ∀ H', Q (.bl true) H'
theorem len_law : ∀ vs H Q E, sp_law K vs H Q E → vs.length = (["script"] : List Str).length := fun vs H Q E ⟨a, sc, e, _⟩ => by rw [e]; rfl
theorem ok_law {f : Addr} {fd : FuncData} (T : Bt K mg) (D : Df K mg "law" s_law ["script"] f fd)
    {f_law_hand_right : Addr} {d_law_hand_right : FuncData} (h_law_hand_right : Cal P w K mg base "_law_hand_right" s_law_hand_right [] 5 sp_law_hand_right f_law_hand_right d_law_hand_right)
    {f_law_begun : Addr} {d_law_begun : FuncData} (h_law_begun : Cal P w K mg base "_law_begun" s_law_begun ["script", "k"] 1 (sp_law_begun K) f_law_begun d_law_begun)
    {f_law_draw : Addr} {d_law_draw : FuncData} (h_law_draw : Cal P w K mg base "_law_draw" s_law_draw ["m", "bound"] 1 sp_law_draw f_law_draw d_law_draw)
    {f_law_some_row : Addr} {d_law_some_row : FuncData} (h_law_some_row : Cal P w K mg base "_law_some_row" s_law_some_row ["m", "count"] 4 sp_law_some_row f_law_some_row d_law_some_row)
    {f_law_through_right : Addr} {d_law_through_right : FuncData} (h_law_through_right : Cal P w K mg base "_law_through_right" s_law_through_right ["m", "count"] 5 sp_law_through_right f_law_through_right d_law_through_right)
    {f_law_two_right : Addr} {d_law_two_right : FuncData} (h_law_two_right : Cal P w K mg base "_law_two_right" s_law_two_right ["m", "count", "line", "more"] 5 sp_law_two_right f_law_two_right d_law_two_right)
    {f_law_one_right : Addr} {d_law_one_right : FuncData} (h_law_one_right : Cal P w K mg base "_law_one_right" s_law_one_right ["m", "count", "line"] 5 sp_law_one_right f_law_one_right d_law_one_right) : Cal P w K mg base "law" s_law ["script"] 6 (sp_law K) f fd := by
  refine ⟨D.gm, D.F, D.b, okG D.F sc_law len_law (fun cdv A outer s H vs Q E hgd hr h => ⟨_, (pss_cons (ps_if (pt_not (pt_val (pe_fn0 (E := E0) h_law_hand_right.G hgd (hr.mono (by decide)) (by rfl) h_law_hand_right.gm h_law_hand_right.kp h_law_hand_right.b))) (pss_one (ps_ret pe_bl)) pss_nil)
        (pss_cons (ps_for PassesOwn.never rfl (pi_range1 (by rfl) T.range (pa_cons (pe_callB (call_max2 rfl) (by rfl) T.max (by decide +kernel) (pa_cons pe_int (pa_cons (pe_callB (call_min2 rfl) (by rfl) T.min (by decide +kernel) (pa_cons (pe_callB call_len_seq (by rfl) T.len PySem.boot_len (pa_cons (pv 0) pa_nil)) (pa_cons pe_int pa_nil))) pa_nil))) pa_nil)) (pg_name (i := 1) sc_law.nd rfl (Or.inl rfl))
        (pss_cons (ps_set (i := 2) sc_law.nd rfl (Or.inl rfl) (pe_fn (E := E0) h_law_begun.G hgd (hr.mono (by decide)) (by rfl) h_law_begun.gm h_law_begun.kp h_law_begun.b (pa_cons (pv 0) (pa_cons (pv 1) pa_nil))))
        (pss_one (ps_for PassesOwn.never rfl (pi_range1 (by rfl) T.range (pa_cons pe_int pa_nil)) (pg_name (i := 3) sc_law.nd rfl (Or.inl rfl))
        (pss_cons (ps_set (i := 4) sc_law.nd rfl (Or.inl rfl) (pe_op op_add pe_int (pe_fn (E := E0) h_law_draw.G hgd (hr.mono (by decide)) (by rfl) h_law_draw.gm h_law_draw.kp h_law_draw.b (pa_cons (pv 2) (pa_cons pe_int pa_nil)))))
        (pss_cons (ps_par (i := 5) (j := 6) rfl sc_law.nd rfl rfl (by decide) rfl rfl (pa_cons (pe_fn (E := E0) h_law_some_row.G hgd (hr.mono (by decide)) (by rfl) h_law_some_row.gm h_law_some_row.kp h_law_some_row.b (pa_cons (pv 2) (pa_cons (pv 4) pa_nil))) (pa_cons (pe_fn (E := E0) h_law_some_row.G hgd (hr.mono (by decide)) (by rfl) h_law_some_row.gm h_law_some_row.kp h_law_some_row.b (pa_cons (pv 2) (pa_cons (pv 4) pa_nil))) pa_nil)) (by rfl))
        (pss_one (ps_if (PW.pt (pw_or (pt_not (pt_val (pe_fn (E := E0) h_law_one_right.G hgd (hr.mono (by decide)) (by rfl) h_law_one_right.gm h_law_one_right.kp h_law_one_right.b (pa_cons (pv 2) (pa_cons (pv 4) (pa_cons (pv 5) pa_nil)))))) (pw_or (pt_not (pt_val (pe_fn (E := E0) h_law_two_right.G hgd (hr.mono (by decide)) (by rfl) h_law_two_right.gm h_law_two_right.kp h_law_two_right.b (pa_cons (pv 2) (pa_cons (pv 4) (pa_cons (pv 5) (pa_cons (pv 6) pa_nil))))))) (pw_or1 (pt_not (pt_val (pe_fn (E := E0) h_law_through_right.G hgd (hr.mono (by decide)) (by rfl) h_law_through_right.gm h_law_through_right.kp h_law_through_right.b (pa_cons (pv 2) (pa_cons (pv 4) pa_nil))))))))) (pss_one (ps_ret pe_bl)) pss_nil))))))))
        (pss_one (ps_ret pe_bl)))), ?_⟩)⟩
  obtain ⟨a, sc, rfl, hl, hsc, q⟩ := h
  have he : EnvOk (scL K a sc) (fun _ => False) (L2.start n_law [V.ref a]) H [some mark, none, none, none, none, none, none] := ⟨rfl, fun i d e => by
    match i, e with
    | 0, e =>
      have e1 : mark = d := Option.some.inj (Option.some.inj e)
      subst e1
      exact ⟨_, rfl, .inl ⟨rfl, rfl⟩⟩
    | 1, e => cases e
    | 2, e => cases e
    | 3, e => cases e
    | 4, e => cases e
    | 5, e => cases e
    | 6, e => cases e
    | i + 7, e => cases e⟩
  have hi : Inn (fun _ => False) H := fun b z => z.elim
  refine (?run : SG (scL K a sc) 0 _ [some mark, none, none, none, none, none, none] (fun _ => False) (fun d => d = .bool true)) (fun _ => False) _ H hi he hsc _ (fun σ' H' G r e z => z.elim) fun v d H' r hd e => ?_
  case run =>
    refine sq_if_no (et_is (et_not (et_B (eg_callR () ea_nil trivial))) rfl) ?_
    refine sg_seq (N1 := fun _ => True) (sg_for (js := [1]) (fun i G => ∃ x1 x2 x3 x4 x5 x6, G = [some mark, x1, x2, x3, x4, x5, x6] ∧ x6 = none) (wk_rng1 (j := max 2 (min (sc.length : Int) 4)) (ea_cons (eg_cb (ea_cons eg_int (ea_cons (eg_cb (ea_cons (cs_lenS (i := 0) rfl) (ea_cons eg_int ea_nil)) cs_min) ea_nil)) cs_max) ea_nil) (by omega)) ⟨none, none, none, none, none, none, rfl, rfl⟩ ?_ fun G _ => trivial) fun G _ => sg_ret eg_bl rfl
    rintro i d G hd ⟨x1, x2, x3, x4, x5, x6, rfl, rfl⟩
    unfold rngD at hd
    have hi4 : i < 4 := by
      have h1 := (List.getElem?_eq_some_iff.mp hd).1
      rw [List.length_map, List.length_range] at h1
      omega
    rw [List.getElem?_map] at hd
    have hdi : d = .int (i : Int) := by
      cases hr : (List.range (max 2 (min (sc.length : Int) 4)).toNat)[i]? with
      | none => rw [hr] at hd; cases hd
      | some y =>
        rw [hr] at hd
        have e1 : y = i := by
          obtain ⟨h1, h2⟩ := List.getElem?_eq_some_iff.mp hr
          rw [List.getElem_range] at h2
          exact h2.symm
        have hd' : PyData.int (0 + (y : Int)) = d := Option.some.inj hd
        rw [← hd', e1, Int.zero_add]
    subst hdi
    refine ⟨_, tg_name, SG.mono (sg_begun (k := i) (n := 3 * 78) (by omega) hl (by decide) fun p c ns hns => ?_) (Nat.le_refl _) (fun G e => ⟨none, none, none, none, none, none, e, rfl⟩) fun d h => h⟩
    have hS : SM (mL p c ns) := ⟨p, c, ns, hns, rfl⟩
    refine sk_for (js := [3]) (fun i G => ∃ x3 x4 x5 x6, G = [none, none, some mark, x3, x4, x5, x6]) (by decide) (wk_rng1 (j := 3) (ea_cons eg_int ea_nil) (by decide)) (by rw [rng_len]; decide) ⟨none, none, none, none, rfl⟩ ?_ ?_
    · rintro i d G hd ⟨x3, x4, x5, x6, rfl⟩
      refine ⟨_, tg_name, ?_⟩
      refine sk_asgG (a := 0 + 1) (b := 77) (by decide) (eg_addG eg_intG (EvG.mono (eg_callM hS (5 : Nat) (ea_cons (eg_var (i := 2) rfl) (ea_cons eg_int ea_nil)) (by decide)) (Nat.le_refl _) fun d (h : ∃ r : Nat, r < 5 ∧ d = .int (r : Int)) => (let ⟨r, h1, e⟩ := h; ⟨(r : Int), (show (r : Int) < 5 ∧ 0 ≤ (r : Int) by omega), e⟩ : ∃ z : Int, ((z : Int) < 5 ∧ 0 ≤ z) ∧ d = .int z))) ?_
      rintro d ⟨z, ⟨x, y, rfl, hy, rfl⟩, rfl⟩
      obtain ⟨n, hn⟩ : ∃ n : Nat, (1 + y : Int) = (n : Int) := ⟨(1 + y).toNat, by omega⟩
      rw [hn]
      have hn1 : 1 ≤ n := by omega
      have hn5 : n ≤ 5 := by omega
      refine sk_parG (a := 8 + (8 + 0)) (b := 61) (by decide) (by decide) (ea2G (eg_callM hS n (ea_cons (eg_var (i := 2) rfl) (ea_cons (eg_var (i := 4) rfl) ea_nil)) ⟨hn1, hn5⟩) (eg_callM hS n (ea_cons (eg_var (i := 2) rfl) (ea_cons (eg_var (i := 4) rfl) ea_nil)) ⟨hn1, hn5⟩)) ?_
      rintro ds ⟨d1, d2, rfl, ⟨qs, hq, rfl⟩, ms, hm, rfl⟩
      refine ⟨_, _, rfl, ?_⟩
      obtain ⟨r, c2, rfl, hr⟩ := split_last hq.1
      obtain ⟨s, e2, rfl, hs⟩ := split_last hm.1
      refine sk_ifn (et_orG (a := 6) (b := 55) (et_notG (eg_callM hS (OA.mk n r c2) (ea_cons (eg_var (i := 2) rfl) (ea_cons (eg_var (i := 4) rfl) (ea_cons (eg_var (i := 5) rfl) ea_nil))) ⟨⟨hn1, hn5⟩, hr, hq⟩))
        (et_orG (a := 8) (b := 47) (et_notG (eg_callM hS (OT.mk n r c2 s e2) (ea_cons (eg_var (i := 2) rfl) (ea_cons (eg_var (i := 4) rfl) (ea_cons (eg_var (i := 5) rfl) (ea_cons (eg_var (i := 6) rfl) ea_nil)))) ⟨⟨hn1, hn5⟩, hr, hq, hs, hm⟩))
          (et_notG (eg_callM hS n (ea_cons (eg_var (i := 2) rfl) (ea_cons (eg_var (i := 4) rfl) ea_nil)) ⟨hn1, hn5⟩)))) ⟨_, _, _, _, rfl⟩
    · rintro G ⟨x3, x4, x5, x6, rfl⟩
      rfl
  · subst e
    obtain rfl := hd.bool
    exact q H'

end V1
set_option Elab.async false
set_option linter.all false
set_option maxRecDepth 100000
set_option maxHeartbeats 0
namespace V1
open PySem PySem.Spec PyProof.Rows L2
def topS (i : Nat) : Stmt := PySem.Challenge.pw_everyfont_k02_whole_rows_together.main.body.getD i (.Pass ⟨0, 0, 0, 0⟩)
def nmS (st : Stmt) : Str := match st with | .FunctionDef n _ _ _ _ _ _ _ _ _ => n | _ => ""
def defAt (i : Nat) : He.DefD := ⟨(nmS (topS i), none), nmS (topS i), nmS (topS i), defArgs (topS i), defBody (topS i), defScope (topS i), [], []⟩
def fnH : List He.DefD := [7, 8, 9, 11, 12, 13, 14, 15, 16, 18, 19, 20, 21, 22, 23, 24, 25, 26, 27, 29, 30, 31, 32, 33, 34, 35, 36, 37, 38, 39, 40, 41, 42, 43, 44, 45, 46, 47, 48, 49, 50].map defAt
def faH : List He.Fa := fnH.map (fun d => He.Fa.glo d.name) ++ [.free "len", .free "abs", .free "sum", .free "min", .free "max", .free "repr", .free "int", .free "bool", .free "tuple", .free "zip", .free "enumerate", .free "range", .free "isinstance", .glo "MINUS_ONE"]
abbrev RH : PySem.W.OpenRow := PySem.W.OpenLaw.row PySem.Challenge.rw_everyfont_k02_whole_rows_together
/-- the tuple at an address -/
def tupA (K : PySem.W.Frag) (a : Addr) (vs : List V) : Bool := match K.lookup a with
  | some ⟨.type c, _, .seq its _, _⟩ => decide (c = "tuple") && (decide (its.size ≤ sizeLine) && He.relAll vs its.toList)
  | _ => false
theorem tupA_ok {K : PySem.W.Frag} {a : Addr} {vs : List V} (h : tupA K a vs = true) (H : Hp) : SqT K H a vs := by
  unfold tupA at h
  cases q : K.lookup a with
  | none =>
    rw [q] at h
    cases h
  | some o =>
    obtain ⟨oc, od, dt, osl⟩ := o
    rw [q] at h
    cases oc with
    | type c =>
      cases dt with
      | seq its n =>
        obtain ⟨h1, h2⟩ := He.ba (show (decide (c = "tuple") && (decide (its.size ≤ sizeLine) && He.relAll vs its.toList)) = true from h)
        obtain ⟨h3, h4⟩ := He.ba h2
        exact .inr ⟨_, its, n, q, congrArg Value.type (of_decide_eq_true h1), rfl, of_decide_eq_true h3, He.relAll_ok h4⟩
      | _ => cases h
    | _ => cases dt <;> cases h
/-- two names of the module math, and a number of the top, beside -/
abbrev AlM : Type := Bool × He.AlD
def obsM (K : PySem.W.Frag) : AlM := ((decide (PySem.W.nsIn K mainGlobals "gcd" = some (some (.builtin "math.gcd"))) && decide (PySem.W.nsIn K mainGlobals "lcm" = some (some (.builtin "math.lcm")))) && tupA K (He.ga K "MINUS_ONE") [.int (-1), .int 1], He.obsD faH fnH K)
def valM : AlM := (true, He.valD fnH)
def obsMG (g : Addr → Option Obj) : AlM := obsM (He.frG g (He.asD g 4))
def hkM : PySem.W.Hook where
  α := AlM
  obs := fun s => obsMG s.heap.get?
  val := fun _ => valM
  says := fun _ h => ∃ K : PySem.W.Frag, K.In h ∧ obsM K = valM
  of := fun _ _ e => ⟨_, He.frG_in, e⟩
  keeps := fun _ _ _ ⟨K, hK, c⟩ k => ⟨K, PySem.W.Frag.In.keeps hK k, c⟩
def obM (s : PySem.W.SharedT) : AlM := obsMG (HandSHeadRun.getT s)
theorem obM_eq (s : PySem.W.SharedT) : obM s = hkM.obs s.abs := by
  have e : HandSHeadRun.getT s = s.abs.heap.get? := funext fun a => HandSHeadRun.getT_eq s a
  unfold obM
  rw [e]
  rfl
def looseM : List Str := (["__name__", "FontError", "NotNumber", "NotRow", "MINUS_ONE"] : List Str) ++ (fnH.map He.DefD.name).filter fun x => x != ("law" : Str)
end V1
set_option Elab.async false
set_option linter.all false
set_option maxRecDepth 100000
set_option maxHeartbeats 0
namespace V1
open PySem PySem.W PySem.Spec PyProof.Rows L2
abbrev qM : Program := view RH.prog [0, 50]
theorem runM (w : World) : HandSHeadRun.RunEqI RH qM hkM obM 3000 looseM w := by
  delta HandSHeadRun.RunEqI
  kernel_rfl
end V1
set_option Elab.async false
set_option linter.all false
set_option maxRecDepth 100000
set_option maxHeartbeats 4000000
/-! All defs together. -/
namespace V1
open PySem PySem.Spec PyProof.Rows L2
theorem fun_of {K : PySem.W.Frag} {x : Str} {st : Stmt} {f : Addr} {fd : FuncData} (F : FunD K x x (defArgs st) (defBody st) (defScope st) [] [] f fd) : Fun K x x st f fd := by
  obtain ⟨oc, od, dV, kV, doc, pm, an, cdv, ct, osl, rfl, lk, hcd, hD, hK⟩ := F.ex
  rcases hD with ⟨_, rfl⟩ | ⟨e, _⟩
  · exact ⟨⟨oc, od, kV, doc, pm, an, cdv, ct, osl, rfl, lk, hcd⟩, F.kp⟩
  · exact absurd rfl e
theorem df_of {K : PySem.W.Frag} {mg : Str → Option Value} {h : Heap} {x : Str} {st : Stmt} {ps : List Str} (X : K.In h) (G : h.Ns mainGlobals mg) (c : He.SaysD faH fnH K) (i : Nat) (hd : fnH[i]? = some ⟨(x, none), x, x, defArgs st, defBody st, defScope st, [], []⟩) (hf : faH[i]? = some (.glo x))
    (hb : ∀ (kV doc pm : Value) (an : Option Addr) (cdv ct : Value) (us : List Value), us.length = ps.length → bindArgs (PySem.W.fnOf x x (defArgs st) (defBody st) (defScope st) .none kV doc pm an cdv ct) ⟨us, []⟩ = pure (ps.zip us)) :
    ∃ fd, Df K mg x st ps (He.ga K x) fd ∧ ∀ (s : Shared) (us : List Value), us.length = ps.length → BindsTo s fd ⟨us, []⟩ (ps.zip us) := by
  obtain ⟨fd, F⟩ := c.def_ i hd
  exact ⟨fd, ⟨He.glo_ok X G (c.fact i hf), fun_of F, FunD.bindsN F hb⟩, FunD.bindsA F hb⟩
theorem bt_of {K : PySem.W.Frag} {mg : Str → Option Value} {h : Heap} (X : K.In h) (G : h.Ns mainGlobals mg) (c : obsM K = valM) : Bt K mg := by
  have c2 : He.SaysD faH fnH K := congrArg Prod.snd c
  have c1 : ((decide (PySem.W.nsIn K mainGlobals "gcd" = some (some (.builtin "math.gcd"))) && decide (PySem.W.nsIn K mainGlobals "lcm" = some (some (.builtin "math.lcm")))) && tupA K (He.ga K "MINUS_ONE") [.int (-1), .int 1]) = true := congrArg Prod.fst c
  obtain ⟨g1, g2⟩ := Bool.and_eq_true_iff.mp (Bool.and_eq_true_iff.mp c1).1
  exact ⟨He.free_ok X G (c2.fact 41 (f := .free "len") rfl), He.free_ok X G (c2.fact 42 (f := .free "abs") rfl), He.free_ok X G (c2.fact 43 (f := .free "sum") rfl), He.free_ok X G (c2.fact 44 (f := .free "min") rfl), He.free_ok X G (c2.fact 45 (f := .free "max") rfl), He.free_ok X G (c2.fact 46 (f := .free "repr") rfl), He.free_ok X G (c2.fact 47 (f := .free "int") rfl), He.free_ok X G (c2.fact 48 (f := .free "bool") rfl), He.free_ok X G (c2.fact 49 (f := .free "tuple") rfl), He.free_ok X G (c2.fact 50 (f := .free "zip") rfl), He.free_ok X G (c2.fact 51 (f := .free "enumerate") rfl), He.free_ok X G (c2.fact 52 (f := .free "range") rfl), He.free_ok X G (c2.fact 53 (f := .free "isinstance") rfl), PySem.W.mg_of X G (of_decide_eq_true g1), PySem.W.mg_of X G (of_decide_eq_true g2)⟩
def cst_of {K : PySem.W.Frag} {mg : Str → Option Value} {h : Heap} (X : K.In h) (G : h.Ns mainGlobals mg) (c : obsM K = valM) : CstM K mg where
  mo := He.ga K "MINUS_ONE"
  h_MINUS_ONE := He.glo_ok X G ((show He.SaysD faH fnH K from congrArg Prod.snd c).fact 54 (f := .glo "MINUS_ONE") rfl)
  s_mo := fun H => by
    have c1 : ((decide (PySem.W.nsIn K mainGlobals "gcd" = some (some (.builtin "math.gcd"))) && decide (PySem.W.nsIn K mainGlobals "lcm" = some (some (.builtin "math.lcm")))) && tupA K (He.ga K "MINUS_ONE") [.int (-1), .int 1]) = true := congrArg Prod.fst c
    exact tupA_ok (Bool.and_eq_true_iff.mp c1).2 H
theorem all_ok {P : Program} {w : World} {K : PySem.W.Frag} {mg : Str → Option Value} {h : Heap} {f : Addr} (X : K.In h) (G : h.Ns mainGlobals mg) (hfa : mg ("law" : Str) = some (.ref f)) (c : obsM K = valM) :
    ∃ fd : FuncData, (∀ (s : Shared) (u : Value), BindsTo s fd ⟨[u], []⟩ [("script", u)]) ∧ ∀ base : Heap, FnG P w K mg base 6 f fd ["script"] (sp_law K) := by
  have c2 : He.SaysD faH fnH K := congrArg Prod.snd c
  have T := bt_of X G c
  let C := cst_of X G c
  obtain ⟨d_is_int, D_is_int, b_is_int⟩ := df_of (x := "is_int") (st := s_is_int) (ps := ["value"]) X G c2 0 rfl rfl fun _ _ _ _ _ _ us hl => match us, hl with | [_], _ => rfl
  obtain ⟨d_sign_of, D_sign_of, b_sign_of⟩ := df_of (x := "sign_of") (st := s_sign_of) (ps := ["number"]) X G c2 1 rfl rfl fun _ _ _ _ _ _ us hl => match us, hl with | [_], _ => rfl
  obtain ⟨d_lowest, D_lowest, b_lowest⟩ := df_of (x := "lowest") (st := s_lowest) (ps := ["top", "bottom"]) X G c2 2 rfl rfl fun _ _ _ _ _ _ us hl => match us, hl with | [_, _], _ => rfl
  obtain ⟨d_shared_divisor, D_shared_divisor, b_shared_divisor⟩ := df_of (x := "shared_divisor") (st := s_shared_divisor) (ps := ["integers"]) X G c2 3 rfl rfl fun _ _ _ _ _ _ us hl => match us, hl with | [_], _ => rfl
  obtain ⟨d_shared_bottom, D_shared_bottom, b_shared_bottom⟩ := df_of (x := "shared_bottom") (st := s_shared_bottom) (ps := ["bottoms"]) X G c2 4 rfl rfl fun _ _ _ _ _ _ us hl => match us, hl with | [_], _ => rfl
  obtain ⟨d_without_divisor, D_without_divisor, b_without_divisor⟩ := df_of (x := "without_divisor") (st := s_without_divisor) (ps := ["integers"]) X G c2 5 rfl rfl fun _ _ _ _ _ _ us hl => match us, hl with | [_], _ => rfl
  obtain ⟨d_fault_in_integers, D_fault_in_integers, b_fault_in_integers⟩ := df_of (x := "fault_in_integers") (st := s_fault_in_integers) (ps := ["count", "value"]) X G c2 6 rfl rfl fun _ _ _ _ _ _ us hl => match us, hl with | [_, _], _ => rfl
  obtain ⟨d_point_of, D_point_of, b_point_of⟩ := df_of (x := "point_of") (st := s_point_of) (ps := ["numbers"]) X G c2 7 rfl rfl fun _ _ _ _ _ _ us hl => match us, hl with | [_], _ => rfl
  obtain ⟨d_numbers_of, D_numbers_of, b_numbers_of⟩ := df_of (x := "numbers_of") (st := s_numbers_of) (ps := ["point"]) X G c2 8 rfl rfl fun _ _ _ _ _ _ us hl => match us, hl with | [_], _ => rfl
  obtain ⟨d_check_row, D_check_row, b_check_row⟩ := df_of (x := "check_row") (st := s_check_row) (ps := ["size", "value"]) X G c2 9 rfl rfl fun _ _ _ _ _ _ us hl => match us, hl with | [_, _], _ => rfl
  obtain ⟨d_row_of, D_row_of, b_row_of⟩ := df_of (x := "row_of") (st := s_row_of) (ps := ["numbers"]) X G c2 10 rfl rfl fun _ _ _ _ _ _ us hl => match us, hl with | [_], _ => rfl
  obtain ⟨d_coefficients_of, D_coefficients_of, b_coefficients_of⟩ := df_of (x := "coefficients_of") (st := s_coefficients_of) (ps := ["row"]) X G c2 11 rfl rfl fun _ _ _ _ _ _ us hl => match us, hl with | [_], _ => rfl
  obtain ⟨d_top_at, D_top_at, b_top_at⟩ := df_of (x := "top_at") (st := s_top_at) (ps := ["row", "point"]) X G c2 12 rfl rfl fun _ _ _ _ _ _ us hl => match us, hl with | [_, _], _ => rfl
  obtain ⟨d_row_value, D_row_value, b_row_value⟩ := df_of (x := "row_value") (st := s_row_value) (ps := ["row", "point"]) X G c2 13 rfl rfl fun _ _ _ _ _ _ us hl => match us, hl with | [_, _], _ => rfl
  obtain ⟨d_row_sign, D_row_sign, b_row_sign⟩ := df_of (x := "row_sign") (st := s_row_sign) (ps := ["row", "point"]) X G c2 14 rfl rfl fun _ _ _ _ _ _ us hl => match us, hl with | [_, _], _ => rfl
  obtain ⟨d_row_added, D_row_added, b_row_added⟩ := df_of (x := "row_added") (st := s_row_added) (ps := ["one", "other"]) X G c2 15 rfl rfl fun _ _ _ _ _ _ us hl => match us, hl with | [_, _], _ => rfl
  obtain ⟨d_row_minus, D_row_minus, b_row_minus⟩ := df_of (x := "row_minus") (st := s_row_minus) (ps := ["one", "other"]) X G c2 16 rfl rfl fun _ _ _ _ _ _ us hl => match us, hl with | [_, _], _ => rfl
  obtain ⟨d_row_times, D_row_times, b_row_times⟩ := df_of (x := "row_times") (st := s_row_times) (ps := ["row", "value"]) X G c2 17 rfl rfl fun _ _ _ _ _ _ us hl => match us, hl with | [_, _], _ => rfl
  obtain ⟨d_row_through, D_row_through, b_row_through⟩ := df_of (x := "row_through") (st := s_row_through) (ps := ["row", "rows"]) X G c2 18 rfl rfl fun _ _ _ _ _ _ us hl => match us, hl with | [_, _], _ => rfl
  obtain ⟨d_law_begun, D_law_begun, b_law_begun⟩ := df_of (x := "_law_begun") (st := s_law_begun) (ps := ["script", "k"]) X G c2 19 rfl rfl fun _ _ _ _ _ _ us hl => match us, hl with | [_, _], _ => rfl
  obtain ⟨d_law_draw, D_law_draw, b_law_draw⟩ := df_of (x := "_law_draw") (st := s_law_draw) (ps := ["m", "bound"]) X G c2 20 rfl rfl fun _ _ _ _ _ _ us hl => match us, hl with | [_, _], _ => rfl
  obtain ⟨d_law_like, D_law_like, b_law_like⟩ := df_of (x := "_law_like") (st := s_law_like) (ps := ["told", "due"]) X G c2 21 rfl rfl fun _ _ _ _ _ _ us hl => match us, hl with | [_, _], _ => rfl
  obtain ⟨d_law_sign, D_law_sign, b_law_sign⟩ := df_of (x := "_law_sign") (st := s_law_sign) (ps := ["number"]) X G c2 22 rfl rfl fun _ _ _ _ _ _ us hl => match us, hl with | [_], _ => rfl
  obtain ⟨d_law_common, D_law_common, b_law_common⟩ := df_of (x := "_law_common") (st := s_law_common) (ps := ["numbers_so"]) X G c2 23 rfl rfl fun _ _ _ _ _ _ us hl => match us, hl with | [_], _ => rfl
  obtain ⟨d_law_lowered, D_law_lowered, b_law_lowered⟩ := df_of (x := "_law_lowered") (st := s_law_lowered) (ps := ["numbers_so"]) X G c2 24 rfl rfl fun _ _ _ _ _ _ us hl => match us, hl with | [_], _ => rfl
  obtain ⟨d_law_fraction, D_law_fraction, b_law_fraction⟩ := df_of (x := "_law_fraction") (st := s_law_fraction) (ps := ["top", "bottom"]) X G c2 25 rfl rfl fun _ _ _ _ _ _ us hl => match us, hl with | [_, _], _ => rfl
  obtain ⟨d_law_point, D_law_point, b_law_point⟩ := df_of (x := "_law_point") (st := s_law_point) (ps := ["numbers_so", "bottom"]) X G c2 26 rfl rfl fun _ _ _ _ _ _ us hl => match us, hl with | [_, _], _ => rfl
  obtain ⟨d_law_rowed, D_law_rowed, b_law_rowed⟩ := df_of (x := "_law_rowed") (st := s_law_rowed) (ps := ["numbers_so", "bottom"]) X G c2 27 rfl rfl fun _ _ _ _ _ _ us hl => match us, hl with | [_, _], _ => rfl
  obtain ⟨d_law_total, D_law_total, b_law_total⟩ := df_of (x := "_law_total") (st := s_law_total) (ps := ["row_so", "point_so"]) X G c2 28 rfl rfl fun _ _ _ _ _ _ us hl => match us, hl with | [_, _], _ => rfl
  obtain ⟨d_law_value, D_law_value, b_law_value⟩ := df_of (x := "_law_value") (st := s_law_value) (ps := ["row_so", "point_so"]) X G c2 29 rfl rfl fun _ _ _ _ _ _ us hl => match us, hl with | [_, _], _ => rfl
  obtain ⟨d_law_joint, D_law_joint, b_law_joint⟩ := df_of (x := "_law_joint") (st := s_law_joint) (ps := ["fractions"]) X G c2 30 rfl rfl fun _ _ _ _ _ _ us hl => match us, hl with | [_], _ => rfl
  obtain ⟨d_law_added, D_law_added, b_law_added⟩ := df_of (x := "_law_added") (st := s_law_added) (ps := ["one_so", "other_so", "times"]) X G c2 31 rfl rfl fun _ _ _ _ _ _ us hl => match us, hl with | [_, _, _], _ => rfl
  obtain ⟨d_law_some_row, D_law_some_row, b_law_some_row⟩ := df_of (x := "_law_some_row") (st := s_law_some_row) (ps := ["m", "count"]) X G c2 32 rfl rfl fun _ _ _ _ _ _ us hl => match us, hl with | [_, _], _ => rfl
  obtain ⟨d_law_spot, D_law_spot, b_law_spot⟩ := df_of (x := "_law_spot") (st := s_law_spot) (ps := ["m", "count"]) X G c2 33 rfl rfl fun _ _ _ _ _ _ us hl => match us, hl with | [_, _], _ => rfl
  obtain ⟨d_law_shares, D_law_shares, b_law_shares⟩ := df_of (x := "_law_shares") (st := s_law_shares) (ps := ["line"]) X G c2 34 rfl rfl fun _ _ _ _ _ _ us hl => match us, hl with | [_], _ => rfl
  obtain ⟨d_law_made, D_law_made, b_law_made⟩ := df_of (x := "_law_made") (st := s_law_made) (ps := ["parts"]) X G c2 35 rfl rfl fun _ _ _ _ _ _ us hl => match us, hl with | [_], _ => rfl
  obtain ⟨d_law_one_right, D_law_one_right, b_law_one_right⟩ := df_of (x := "_law_one_right") (st := s_law_one_right) (ps := ["m", "count", "line"]) X G c2 36 rfl rfl fun _ _ _ _ _ _ us hl => match us, hl with | [_, _, _], _ => rfl
  obtain ⟨d_law_two_right, D_law_two_right, b_law_two_right⟩ := df_of (x := "_law_two_right") (st := s_law_two_right) (ps := ["m", "count", "line", "more"]) X G c2 37 rfl rfl fun _ _ _ _ _ _ us hl => match us, hl with | [_, _, _, _], _ => rfl
  obtain ⟨d_law_through_right, D_law_through_right, b_law_through_right⟩ := df_of (x := "_law_through_right") (st := s_law_through_right) (ps := ["m", "count"]) X G c2 38 rfl rfl fun _ _ _ _ _ _ us hl => match us, hl with | [_, _], _ => rfl
  obtain ⟨d_law_hand_right, D_law_hand_right, b_law_hand_right⟩ := df_of (x := "_law_hand_right") (st := s_law_hand_right) (ps := []) X G c2 39 rfl rfl fun _ _ _ _ _ _ us hl => match us, hl with | [], _ => rfl
  obtain ⟨d_law, D_law, b_law⟩ := df_of (x := "law") (st := s_law) (ps := ["script"]) X G c2 40 rfl rfl fun _ _ _ _ _ _ us hl => match us, hl with | [_], _ => rfl
  have e := hfa.symm.trans D_law.gm
  have e2 : f = He.ga K "law" := by injection e with e; injection e
  subst e2
  refine ⟨d_law, fun s u => b_law s [u] rfl, fun base => ?_⟩
  have h_lowest : Cal P w K mg base "lowest" s_lowest ["top", "bottom"] 1 sp_lowest _ d_lowest := ok_lowest T D_lowest 
  have h_top_at : Cal P w K mg base "top_at" s_top_at ["row", "point"] 1 sp_top_at _ d_top_at := ok_top_at T D_top_at 
  have h_row_value : Cal P w K mg base "row_value" s_row_value ["row", "point"] 2 sp_row_value _ d_row_value := ok_row_value T D_row_value h_lowest h_top_at
  have h_shared_divisor : Cal P w K mg base "shared_divisor" s_shared_divisor ["integers"] 1 sp_shared_divisor _ d_shared_divisor := ok_shared_divisor T D_shared_divisor 
  have h_without_divisor : Cal P w K mg base "without_divisor" s_without_divisor ["integers"] 2 sp_without_divisor _ d_without_divisor := ok_without_divisor T D_without_divisor h_shared_divisor
  have h_row_added : Cal P w K mg base "row_added" s_row_added ["one", "other"] 3 sp_row_added _ d_row_added := ok_row_added T D_row_added h_without_divisor
  have h_row_times : Cal P w K mg base "row_times" s_row_times ["row", "value"] 3 sp_row_times _ d_row_times := ok_row_times T D_row_times h_without_divisor
  have h_row_minus : Cal P w K mg base "row_minus" s_row_minus ["one", "other"] 4 sp_row_minus _ d_row_minus := ok_row_minus T C D_row_minus h_row_added (ok_row_timesC T C D_row_times h_without_divisor)
  have h_shared_bottom : Cal P w K mg base "shared_bottom" s_shared_bottom ["bottoms"] 1 sp_shared_bottom _ d_shared_bottom := ok_shared_bottom T D_shared_bottom 
  have h_point_of : Cal P w K mg base "point_of" s_point_of ["numbers"] 2 sp_point_of _ d_point_of := ok_point_of T D_point_of h_shared_bottom
  have h_row_of : Cal P w K mg base "row_of" s_row_of ["numbers"] 3 sp_row_of _ d_row_of := ok_row_of T D_row_of h_point_of
  have h_numbers_of : Cal P w K mg base "numbers_of" s_numbers_of ["point"] 2 sp_numbers_of _ d_numbers_of := ok_numbers_of T D_numbers_of h_lowest
  have h_coefficients_of : Cal P w K mg base "coefficients_of" s_coefficients_of ["row"] 3 sp_coefficients_of _ d_coefficients_of := ok_coefficients_of T D_coefficients_of h_numbers_of
  have h_sign_of : Cal P w K mg base "sign_of" s_sign_of ["number"] 1 sp_sign_of _ d_sign_of := ok_sign_of T D_sign_of 
  have h_row_sign : Cal P w K mg base "row_sign" s_row_sign ["row", "point"] 2 sp_row_sign _ d_row_sign := ok_row_sign T D_row_sign h_sign_of h_top_at
  have h_law_like : Cal P w K mg base "_law_like" s_law_like ["told", "due"] 1 sp_law_like _ d_law_like := ok_law_like T D_law_like 
  have h_law_hand_right : Cal P w K mg base "_law_hand_right" s_law_hand_right [] 5 sp_law_hand_right _ d_law_hand_right := ok_law_hand_right T D_law_hand_right h_row_value h_row_minus h_row_added h_row_of h_coefficients_of h_row_sign h_row_times h_law_like
  have h_law_begun : Cal P w K mg base "_law_begun" s_law_begun ["script", "k"] 1 (sp_law_begun K) _ d_law_begun := ok_law_begun T D_law_begun 
  have h_law_draw : Cal P w K mg base "_law_draw" s_law_draw ["m", "bound"] 1 sp_law_draw _ d_law_draw := ok_law_draw T D_law_draw 
  have h_law_common : Cal P w K mg base "_law_common" s_law_common ["numbers_so"] 1 sp_law_common _ d_law_common := ok_law_common T D_law_common 
  have h_law_lowered : Cal P w K mg base "_law_lowered" s_law_lowered ["numbers_so"] 2 sp_law_lowered _ d_law_lowered := ok_law_lowered T D_law_lowered h_law_common
  have h_law_rowed : Cal P w K mg base "_law_rowed" s_law_rowed ["numbers_so", "bottom"] 3 sp_law_rowed _ d_law_rowed := ok_law_rowed T D_law_rowed h_law_lowered
  have h_law_some_row : Cal P w K mg base "_law_some_row" s_law_some_row ["m", "count"] 4 sp_law_some_row _ d_law_some_row := ok_law_some_row T D_law_some_row h_law_draw h_law_rowed
  have h_law_fraction : Cal P w K mg base "_law_fraction" s_law_fraction ["top", "bottom"] 3 sp_law_fraction _ d_law_fraction := ok_law_fraction T D_law_fraction h_law_lowered
  have h_law_shares : Cal P w K mg base "_law_shares" s_law_shares ["line"] 4 sp_law_shares _ d_law_shares := ok_law_shares T D_law_shares h_law_fraction
  have h_law_added : Cal P w K mg base "_law_added" s_law_added ["one_so", "other_so", "times"] 4 sp_law_added _ d_law_added := ok_law_added T D_law_added h_law_fraction
  have h_law_point : Cal P w K mg base "_law_point" s_law_point ["numbers_so", "bottom"] 3 sp_law_point _ d_law_point := ok_law_point T D_law_point h_law_lowered
  have h_law_spot : Cal P w K mg base "_law_spot" s_law_spot ["m", "count"] 4 sp_law_spot _ d_law_spot := ok_law_spot T D_law_spot h_law_point h_law_draw
  have h_row_through : Cal P w K mg base "row_through" s_row_through ["row", "rows"] 3 sp_row_through _ d_row_through := ok_row_through T D_row_through h_shared_bottom h_without_divisor
  have h_law_made : Cal P w K mg base "_law_made" s_law_made ["parts"] 4 sp_law_made _ d_law_made := ok_law_made T D_law_made h_law_rowed
  have h_law_total : Cal P w K mg base "_law_total" s_law_total ["row_so", "point_so"] 1 sp_law_total _ d_law_total := ok_law_total T D_law_total 
  have h_law_value : Cal P w K mg base "_law_value" s_law_value ["row_so", "point_so"] 4 sp_law_value _ d_law_value := ok_law_value T D_law_value h_law_fraction h_law_total
  have h_law_joint : Cal P w K mg base "_law_joint" s_law_joint ["fractions"] 4 sp_law_joint _ d_law_joint := ok_law_joint T D_law_joint h_law_common h_law_point
  have h_law_through_right : Cal P w K mg base "_law_through_right" s_law_through_right ["m", "count"] 5 sp_law_through_right _ d_law_through_right := ok_law_through_right T D_law_through_right h_law_draw h_law_some_row h_law_shares h_law_added h_law_fraction h_law_spot h_row_through h_law_like h_law_made h_law_value h_law_joint h_row_value
  have h_law_two_right : Cal P w K mg base "_law_two_right" s_law_two_right ["m", "count", "line", "more"] 5 sp_law_two_right _ d_law_two_right := ok_law_two_right T D_law_two_right h_law_spot h_law_fraction h_law_draw h_law_shares h_law_made h_law_added h_row_times h_row_minus h_row_added h_law_like h_law_value h_row_value
  have h_is_int : Cal P w K mg base "is_int" s_is_int ["value"] 1 sp_is_int _ d_is_int := ok_is_int T D_is_int 
  have h_fault_in_integers : Cal P w K mg base "fault_in_integers" s_fault_in_integers ["count", "value"] 2 sp_fault_in_integers _ d_fault_in_integers := ok_fault_in_integers T D_fault_in_integers h_is_int h_shared_divisor
  have h_check_row : Cal P w K mg base "check_row" s_check_row ["size", "value"] 3 sp_check_row _ d_check_row := ok_check_row T D_check_row h_fault_in_integers
  have h_law_sign : Cal P w K mg base "_law_sign" s_law_sign ["number"] 1 sp_law_sign _ d_law_sign := ok_law_sign T D_law_sign 
  have h_law_one_right : Cal P w K mg base "_law_one_right" s_law_one_right ["m", "count", "line"] 5 sp_law_one_right _ d_law_one_right := ok_law_one_right T D_law_one_right h_law_spot h_law_shares h_law_total h_row_of h_coefficients_of h_check_row h_row_sign h_row_value h_law_like h_law_sign h_law_value
  have h_law : Cal P w K mg base "law" s_law ["script"] 6 (sp_law K) _ d_law := ok_law T D_law h_law_hand_right h_law_begun h_law_draw h_law_some_row h_law_through_right h_law_two_right h_law_one_right
  exact h_law.G
end V1
set_option Elab.async false
set_option linter.all false
set_option maxRecDepth 100000
set_option maxHeartbeats 0
open PySem PySem.W PySem.Calls PyProof.Rows
theorem PySem.Challenge.cw_everyfont_k02_whole_rows_together_holds : PySem.Challenge.rw_everyfont_k02_whole_rows_together.Holds := by
  w_on; o_law
  refine HandSHeadRun.head_imp (r := OpenLaw.row PySem.Challenge.rw_everyfont_k02_whole_rows_together) (q := V1.qM) (H := V1.hkM) (ob := V1.obM) (M := 3000) (loose := V1.looseM) (d := HandSHeadRun.topDef (OpenLaw.row PySem.Challenge.rw_everyfont_k02_whole_rows_together).prog 50) (kwd := []) V1.obM_eq
    V1.runM (by kernel_rfl) (by kernel_rfl) (by kernel_rfl) (by rfl) (by first | assumption | decide +kernel) (by decide +kernel) ⟨rfl, rfl, rfl, rfl, rfl, by decide +kernel⟩ ?hw ?hc
  case hw => w_witness2
  case hc =>
    refine V1.walkG (l := PySem.Challenge.rw_everyfont_k02_whole_rows_together) (n := 63) (k := 6) (x := "script") rfl (by decide) (by kernel_rfl) ⟨rfl, by decide, by decide⟩ ?F
    intro w mg fa h Y G hmg0
    obtain ⟨K, KX, c⟩ := Y
    have hmg : mg ("law" : PySem.Str) = some (.ref fa) := by
      have e : (HandSHeadRun.topDef (OpenLaw.row PySem.Challenge.rw_everyfont_k02_whole_rows_together).prog 50).name = ("law" : PySem.Str) := by kernel_rfl
      rw [← e]
      exact hmg0
    obtain ⟨fd, hb, hF⟩ := V1.all_ok (P := (PySem.Challenge.rw_everyfont_k02_whole_rows_together).prog) (w := w) KX G hmg c
    exact ⟨K, fd, V1.sp_law K, KX, hb, fun H a ns hl _ hS => ⟨a, ns, rfl, hl, hS, fun _ => rfl⟩, fun base _ _ => hF base⟩
