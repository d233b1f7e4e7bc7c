import PyProof.Rows.All
import Wide.All
import OpenK.AllK
import Wide.FinOn
import HandS.ForMost
import HandS.Exc
import HandS.ExcOwn
import HandS.TryOnly
import HandS.TryMany
import HandS.Lambda
import HandS.ExcInit
import HandS.WordsExc
import HandS.IsInst
import HandS.Walk
import HandS.Evl
import HandS.TupMul
import HandS.TupAny
import HandS.ExcField
import HandS.ExcIs
import PySem.Challenge.RW_wirewords_k10_bits_names_letters_and_kin
import KE.KIntText
import KE.KExcIs
import HandS.ListEq
import HandS.More
import KE.KTupSum
import HandS.Iter
import HandS.ExcValue
import HandS.EndTab
import HandS.Words
set_option Elab.async false
set_option linter.all false
set_option maxRecDepth 100000
set_option maxHeartbeats 4000000
/-! A def's promise where no repr is under way: what the callers' stack tells of guards is carried with the room. -/
namespace G
open PySem PySem.Spec PyProof.Rows L2

/-- room for n calls, and no repr under way -/
structure Rm (n : Nat) (B : Around) : Prop where
  rm : Room n B
  gd : B.guards = some []
theorem Rm.mono {i n : Nat} {B : Around} (q : Rm n B) (h : i ≤ n) : Rm i B := ⟨q.rm.mono h, q.gd⟩
theorem Rm.deeper {n : Nat} {B : Around} (q : Rm (n + 1) B) (env : Env) : Rm n (B.deeper env) := ⟨q.rm.deeper env, q.gd⟩

/-- the def at fa keeps its promise wherever no repr is under way -/
structure Fn (pr : Program) (wo : World) (KK : PySem.W.Frag) (mm : Str → Option Value) (ba : Heap) (CC : CXT) (n : Nat) (fa : Addr) (fd : FuncData) (pars : List Str) (pro : Sp) : Prop where
  ar : ∀ xs HH QQ EE, pro xs HH QQ EE → xs.length = pars.length
  go : ∀ (B : Around) (out : List Env) (st : Shared) (HH : Hp) (gs : Args) (ys : List Value) (xs : List V) (QQ : VK) (EE : XK), Rm n B → Env0 pr wo KK mm ba B out st HH → BindsTo st fd gs (pars.zip ys) → Vals xs ys → pro xs HH QQ EE →
    codeAny (model pr wo) B (.call (.ref fa) gs) (CR CC out pr wo HH st QQ EE) st
section
variable {pr : Program} {wo : World} {KK : PySem.W.Frag} {mm : Str → Option Value} {ba : Heap} {CC : CXT} {i n : Nat} {fa : Addr} {fd : FuncData} {pars : List Str} {pro : Sp}
theorem Fn.mono (F : Fn pr wo KK mm ba CC i fa fd pars pro) (h : i ≤ n) : Fn pr wo KK mm ba CC n fa fd pars pro :=
  ⟨F.ar, fun B out st HH gs ys xs QQ EE q => F.go B out st HH gs ys xs QQ EE (q.mono h)⟩
/-- one of the layer's own promises -/
theorem Fn.of (F : FnOk pr wo KK mm ba CC n fa fd pars pro) : Fn pr wo KK mm ba CC n fa fd pars pro :=
  ⟨F.len, fun B out st HH gs ys xs QQ EE q => F.run B out st HH gs ys xs QQ EE q.rm⟩
theorem ok {x qual : Str} {de : Stmt} {NN : List Str} (F : Fun KK x qual de fa fd) (S : FnScope NN pars (defScope de)) (ar : ∀ xs HH QQ EE, pro xs HH QQ EE → xs.length = pars.length)
    (body : ∀ (cdv : Value) (B : Around) (out : List Env) (st : Shared) (HH : Hp) (xs : List V) (QQ : VK) (EE : XK), Rm n (B.deeper (envOfC qual (defScope de) st.heap.objs.size fa cdv)) → pro xs HH QQ EE →
      ∃ t, PSs (cxOf CC pr wo KK mm ba NN qual (defScope de) fa cdv B out st HH EE) (defBody de) t ∧ t { nx := fun _ H' => QQ .non H', rt := QQ } (L2.start NN xs) HH) : Fn pr wo KK mm ba CC (n + 1) fa fd pars pro := by
  obtain ⟨oc, od, kV, doc, pm, an, cdv, ct, osl, rfl, lk, hcd⟩ := F.ex
  refine ⟨ar, fun B out st HH gs ys xs QQ EE q e0 hb r hp => ?_⟩
  exact LamX.run_ofS lk hcd S q.rm e0 hb r (ar _ _ _ _ hp) fun _ => body cdv B out st HH xs QQ EE (q.deeper _) hp
/-- nothing leaves it by an exception -/
theorem okN {x qual : Str} {de : Stmt} {NN : List Str} (F : Fun KK x qual de fa fd) (S : FnScope NN pars (defScope de)) (ar : ∀ xs HH QQ EE, pro xs HH QQ EE → xs.length = pars.length)
    (body : ∀ (cdv : Value) (B : Around) (out : List Env) (st : Shared) (HH : Hp) (xs : List V) (QQ : VK) (EE : XK), Rm n (B.deeper (envOfC qual (defScope de) st.heap.objs.size fa cdv)) → pro xs HH QQ EE →
      ∃ t, PSs (cxOf CX0 pr wo KK mm ba NN qual (defScope de) fa cdv B out st HH EE).nox (defBody de) t ∧ t { nx := fun _ H' => QQ .non H', rt := QQ } (L2.start NN xs) HH) : Fn pr wo KK mm ba CX0 (n + 1) fa fd pars pro :=
  ok F S ar fun cdv B out st HH xs QQ EE q hp => by
    obtain ⟨t, a, b⟩ := body cdv B out st HH xs QQ EE q hp
    exact ⟨t, a.nox, b⟩
end

section
variable {X : Cx} {CC : CXT} {n : Nat} {fa : Addr} {fd : FuncData} {pars kw : List Str} {pro : Sp} {dv : List V} {du : List Value} {EE : XK} {x : Str} {p q0 : Pos} {e1 : Expr} {er : List Expr} {ta tk : TA} {kws : List Keyword}
  {gU : List Value → List Value → List Value} {gW : List V → List V → List V}
/-- what a call's end gives the caller -/
theorem ended {pins : List (Addr × Obj)} {σ : L2.St} {HH : Hp} {st : Shared} {QQ : VK} {c : Code} (I : Inv X pins σ HH st) (hx : Passes CC X EE)
    (rc : codeAny (model X.prog X.w) X.A c (CR CC X.stack X.prog X.w HH st QQ EE) st) :
    codeAny (model X.prog X.w) X.A c (fun r s' => match r with
      | .ok (.ret u) => EP X pins σ QQ u s'
      | .ok _ => False
      | .error e => X.xe e s') st := codeAny_mono rc fun r s' hq => by
  match r, hq with
  | .error e, hq => exact hx pins σ HH st e s' I hq
  | .ok (.ret u), hq => exact I.after hq
  | .ok .next, hq => exact hq.elim
  | .ok .brk, hq => exact hq.elim
  | .ok .cont, hq => exact hq.elim
theorem run {pins : List (Addr × Obj)} {σ : L2.St} {HH : Hp} {st : Shared} {QQ : VK} {ys : List Value} {xs : List V} (F : Fn X.prog X.w X.K X.mg X.base CC n fa fd pars pro) (q : Rm n X.A) (hb : Binds X.K fd pars du) (hd : Vals dv du) (hx : Passes CC X EE)
    (I : Inv X pins σ HH st) (r : Vals xs ys) (h : pro (xs ++ dv) HH QQ EE) : wpAny (model X.prog X.w) X.A (call (.ref fa) ys) (EP X pins σ QQ) X.xe st := by
  have both : Vals (xs ++ dv) (ys ++ du) := r.append hd
  have many : (ys ++ du).length = pars.length := both.length.symm.trans (F.ar _ _ _ _ h)
  refine wpAny_call (codeAny_mono (ended I hx (F.go X.A X.stack st HH ⟨ys, []⟩ (ys ++ du) (xs ++ dv) QQ EE q I.env0 (hb st ys I.kIn many) both h)) fun r s' w => ?_)
  match r, w with
  | .error e, w => exact w
  | .ok (.ret u), w => exact w
  | .ok .next, w => exact w.elim
  | .ok .brk, w => exact w.elim
  | .ok .cont, w => exact w.elim
/-- f(a, ..) -/
theorem pc (F : Fn X.prog X.w X.K X.mg X.base CC n fa fd pars pro) (q : Rm n X.A) (hg : Gl X x) (hm : X.mg x = some (.ref fa)) (hk : PySem.W.keepIn X.K (.ref fa) = true) (hb : Binds X.K fd pars du) (hd : Vals dv du) (hx : Passes CC X EE)
    (ha : PA X (e1 :: er) ta) (hdb : (x == ("__debug__" : Str)) = false := by decide) (hs : starEach (e1 :: er) X.env = (false, eval e1 X.env) :: starEach er X.env := by rfl)
    (hp : (backTo q0 (starEach er X.env)).any (·.1) = false := by rfl) : PE X (.Call (.Name x p) (e1 :: er) [] q0) (tCall pro dv EE ta) :=
  ⟨fun pins st σ HH QQ I h => wpAny_Call_Name_kw (ld_glob I hg hm (PySem.W.callWith_K (h₀ := X.base) I.ok.mod.kin hk
    (thn (ha.run q0 pins st σ HH _ I h) fun _ _ ⟨_, _, I1, r, w⟩ => ⟨I1.kIn, run F q hb hd hx I1 r w⟩) hs hp) hdb)⟩
/-- f() -/
theorem pc0 (F : Fn X.prog X.w X.K X.mg X.base CC n fa fd pars pro) (q : Rm n X.A) (hg : Gl X x) (hm : X.mg x = some (.ref fa)) (hk : PySem.W.keepIn X.K (.ref fa) = true) (hb : Binds X.K fd pars du) (hd : Vals dv du) (hx : Passes CC X EE)
    (hdb : (x == ("__debug__" : Str)) = false := by decide) : PE X (.Call (.Name x p) [] [] q0) (tCall pro dv EE tNil) :=
  ⟨fun pins st σ HH QQ I h => wpAny_Call_Name_kw (ld_glob I hg hm (PySem.W.callWith_K0 I.kIn hk (run (ys := []) F q hb hd hx I .nil h)) hdb)⟩
theorem runK {pins : List (Addr × Obj)} {σ : L2.St} {HH : Hp} {st : Shared} {QQ : VK} {ys zs : List Value} {xs ws : List V} (F : Fn X.prog X.w X.K X.mg X.base CC n fa fd pars pro) (q : Rm n X.A) (hb : KBinds X.K fd pars kw gU gW) (hx : Passes CC X EE)
    (I : Inv X pins σ HH st) (r : Vals xs ys) (r2 : Vals ws zs) (h : pro (gW xs ws) HH QQ EE) : wpAny (model X.prog X.w) X.A (call (.ref fa) ys (kw.zip zs)) (EP X pins σ QQ) X.xe st := by
  have both := hb.rel r r2
  have many : (gU ys zs).length = pars.length := both.length.symm.trans (F.ar _ _ _ _ h)
  refine wpAny_call (codeAny_mono (ended I hx (F.go X.A X.stack st HH ⟨ys, kw.zip zs⟩ (gU ys zs) (gW xs ws) QQ EE q I.env0 (hb.to st ys zs I.kIn many) both h)) fun r s' w => ?_)
  match r, w with
  | .error e, w => exact w
  | .ok (.ret u), w => exact w
  | .ok .next, w => exact w.elim
  | .ok .brk, w => exact w.elim
  | .ok .cont, w => exact w.elim
/-- f(a, .., k = b, ..) -/
theorem pcK (F : Fn X.prog X.w X.K X.mg X.base CC n fa fd pars pro) (q : Rm n X.A) (hg : Gl X x) (hm : X.mg x = some (.ref fa)) (hk : PySem.W.keepIn X.K (.ref fa) = true) (hb : KBinds X.K fd pars kw gU gW) (hx : Passes CC X EE)
    (ha : PA X (e1 :: er) ta) (hkw : PK X kws tk) (h1 : (backToKw q0 (keywordEach kws X.env)).all (·.1.isSome) = true := by rfl) (h2 : (backToKw q0 (keywordEach kws X.env)).filterMap (·.1) = kw := by rfl)
    (hdb : (x == ("__debug__" : Str)) = false := by decide) (hs : starEach (e1 :: er) X.env = (false, eval e1 X.env) :: starEach er X.env := by rfl)
    (h3 : ((backTo q0 (starEach (e1 :: er) X.env)).any (·.1) || (backToKw q0 (keywordEach kws X.env)).any (·.1.isNone)) = false := by rfl) :
    PE X (.Call (.Name x p) (e1 :: er) kws q0) (tCallK pro gW EE ta tk) := by
  refine ⟨fun pins st σ HH QQ I h => wpAny_Call_Name_kw (ld_glob I hg hm ?_ hdb)⟩
  refine PySem.W.callWith_KW (h₀ := X.base) I.ok.mod.kin hk h1 (thn (ha.run q0 pins st σ HH _ I h) fun _ s1 ⟨_, H1, I1, r, w⟩ => ?_) h3 hs
  refine thn (hkw.run q0 pins s1 σ H1 _ I1 w) fun _ _ ⟨_, _, I2, r2, w2⟩ => ⟨I2.kIn, ?_⟩
  rw [h2]
  exact runK F q hb hx I2 r r2 w2
/-- f(k = b, ..) -/
theorem pcK0 (F : Fn X.prog X.w X.K X.mg X.base CC n fa fd pars pro) (q : Rm n X.A) (hg : Gl X x) (hm : X.mg x = some (.ref fa)) (hk : PySem.W.keepIn X.K (.ref fa) = true) (hb : KBinds X.K fd pars kw gU gW) (hx : Passes CC X EE)
    (hkw : PK X kws tk) (h1 : (backToKw q0 (keywordEach kws X.env)).all (·.1.isSome) = true := by rfl) (h2 : (backToKw q0 (keywordEach kws X.env)).filterMap (·.1) = kw := by rfl)
    (hdb : (x == ("__debug__" : Str)) = false := by decide) (h3 : (backToKw q0 (keywordEach kws X.env)).any (·.1.isNone) = false := by rfl) :
    PE X (.Call (.Name x p) [] kws q0) (tCallK pro gW EE tNil tk) := by
  refine ⟨fun pins st σ HH QQ I h => wpAny_Call_Name_kw (ld_glob I hg hm ?_ hdb)⟩
  refine PySem.W.callWith_KW0 (h₀ := X.base) I.ok.mod.kin hk h1 ?_ h3
  refine thn (hkw.run q0 pins st σ HH _ I h) fun _ _ ⟨_, _, I2, r2, w2⟩ => ⟨I2.kIn, ?_⟩
  rw [h2]
  exact runK F q hb hx I2 .nil r2 w2
end
end G

set_option Elab.async false
set_option linter.all false
set_option maxRecDepth 100000
set_option maxHeartbeats 4000000
/-! Data: what a value is, its repr, its type. -/
namespace G
open PySem PySem.Spec PyProof.Rows L2 Evl

theorem showsz {d : PyData} (h : d.shown.length ≤ 100000) : d.shown.length ≤ sizeLine := Nat.le_trans h (by decide)

/-- repr(x), x a datum without dicts -/
def rRp (K : PySem.W.Frag) : List V → Hp → VK → Prop := fun xs H Q => ∃ x d, xs = [x] ∧ Dp K H x d ∧ d.showable = true ∧ d.hasDict = false ∧ d.depth ≤ 40 ∧ d.shown.length ≤ 100000 ∧ Q (.str d.shown) H
theorem call_rp {X : Cx} {n : Nat} (q : Rm n X.A) : CallR X (.builtin "repr") (rRp X.K) := by
  intro pins s σ H xs us Q I r h
  obtain ⟨x, d, rfl, hd, h1, h2, h3, h4, k⟩ := h
  obtain ⟨u, rfl, rx⟩ : ∃ u, us = [u] ∧ RelV x u := by
    cases r with
    | cons a b => cases b; exact ⟨_, rfl, a⟩
  have hz := showsz h4
  have hu := q.rm.units
  cases hd with
  | non =>
    cases (show u = Value.none from rx)
    exact P.repr_of_none ⟨.str _, H, I.tok _, ⟨_, rfl⟩, k⟩
  | bl b =>
    cases (show u = Value.bool b from rx)
    refine P.repr_of_bool ⟨.str _, H, I.tok _, ⟨_, rfl⟩, ?_⟩
    cases b <;> exact k
  | int i =>
    obtain ⟨t, rfl⟩ := (show ∃ t, u = Value.int i t from rx)
    exact P.repr_of_int (by simpa [PyData.showable] using h1) ⟨.str _, H, I.tok _, ⟨_, rfl⟩, k⟩
  | str z =>
    obtain ⟨t, rfl⟩ := (show ∃ t, u = Value.str z t from rx)
    exact P.repr_of_str ⟨.str _, H, I.tok _, ⟨_, rfl⟩, k⟩ hz
  | @lst a ys ds hs ha =>
    cases (show u = Value.ref a from rx)
    obtain ⟨as, rd⟩ := Dp.reads I (.list ds) (.ref a) (.ref a) (.lst hs ha) rfl
    exact repr_of_reads' rd h1 (PyData.noDict_hsm h2) q.gd (by omega) (fun _ _ e => e) (fun h' w tk kp => ⟨.str _, H, I.kept kp, ⟨_, rfl⟩, k⟩) hz
  | @tup a ys ds hs ha =>
    cases (show u = Value.ref a from rx)
    obtain ⟨as, rd⟩ := Dp.reads I (.tuple ds) (.ref a) (.ref a) (.tup hs ha) rfl
    exact repr_of_reads' rd h1 (PyData.noDict_hsm h2) q.gd (by omega) (fun _ _ e => e) (fun h' w tk kp => ⟨.str _, H, I.kept kp, ⟨_, rfl⟩, k⟩) hz

/-! ### a dict of scalars -/
def scD : V → Option PyData
  | .non => some .none
  | .bl b => some (.bool b)
  | .int i => some (.int i)
  | .str x => some (.str x)
  | _ => none
def keyD : Key → PyData
  | .inl i => .int i
  | .inr x => .str x
/-- the data of a dict's pairs -/
inductive Kd : List (Key × V) → List (PyData × PyData) → Prop
  | nil : Kd [] []
  | cons {k : Key} {v : V} {d : PyData} {r : List (Key × V)} {ds : List (PyData × PyData)} : scD v = some d → Kd r ds → Kd ((k, v) :: r) ((keyD k, d) :: ds)
theorem scD_reads {v : V} {u : Value} {d : PyData} {h : Heap} (e : scD v = some d) (r : RelV v u) : Reads h u d [] := by
  cases v <;> simp only [scD, Option.some.injEq, reduceCtorEq] at e
  · subst e; cases (show u = Value.none from r); exact .none
  · subst e; cases (show u = Value.bool _ from r); exact .bool _
  · subst e; obtain ⟨t, rfl⟩ := (show ∃ t, u = Value.int _ t from r); exact .int _ _
  · subst e; obtain ⟨t, rfl⟩ := (show ∃ t, u = Value.str _ t from r); exact .str _ _
theorem keyD_reads {k : Key} {u : Value} {h : Heap} (e : keyIs k u = true) : Reads h u (keyD k) [] := by
  rcases keyIs_shape e with ⟨i, t, rfl, rfl⟩ | ⟨x, t, rfl, rfl⟩
  · exact .int _ _
  · exact .str _ _
theorem Kd.reads {pr : Program} {w : World} {h : Heap} : ∀ {kvs : List (Key × V)} {ds : List (PyData × PyData)} {vs : List (Key × Value)} {es : List DictEntry}, Kd kvs ds → KV kvs vs → Pairs (mixKind pr w) es vs →
    ReadsAll h (es.map (·.key)) (ds.map (·.1)) [] ∧ ReadsAll h (es.map (·.val)) (ds.map (·.2)) []
  | _, _, _, _, .nil, r, p => by
    cases r
    cases p
    exact ⟨.nil, .nil⟩
  | _, _, _, _, .cons e k, r, p => by
    cases r with
    | cons r1 r2 =>
      cases p with
      | cons p1 p2 p3 =>
        obtain ⟨a, b⟩ := Kd.reads k r2 p3
        have r0 : RelV _ _ := r1.2
        refine ⟨?_, ?_⟩
        · have q : keyIs _ _ = true := p1
          rw [← r1.1] at q
          exact ReadsAll.cons (as := []) (bs := []) (keyD_reads q) a
        · rw [← p2] at r0
          exact ReadsAll.cons (as := []) (bs := []) (scD_reads e r0) b
/-- repr(d) -/
def rRpD : List V → Hp → VK → Prop := fun xs H Q => ∃ a kvs ds, xs = [.ref a] ∧ Rd H a (.dK kvs) ∧ Kd kvs ds ∧ (PyData.dict ds).showable = true ∧ (PyData.dict ds).depth ≤ 40 ∧ (PyData.dict ds).shown.length ≤ 100000 ∧ Q (.str (PyData.dict ds).shown) H
theorem call_rpD {X : Cx} {n : Nat} (q : Rm n X.A) : CallR X (.builtin "repr") rRpD := by
  intro pins s σ H xs us Q I r h
  obtain ⟨a, kvs, ds, rfl, hd, hk, h1, h3, h4, k⟩ := h
  obtain ⟨u, rfl, rx⟩ : ∃ u, us = [u] ∧ RelV (.ref a) u := by
    cases r with
    | cons a b => cases b; exact ⟨_, rfl, a⟩
  have hz := showsz h4
  have hu := q.rm.units
  cases (show u = Value.ref a from rx)
  obtain ⟨_, hs, vs, rv, o, es, ep, e1, e2, e3, _, e5, _⟩ := (show ObjOk X.prog X.w H s.heap a (.dK kvs) from hd.ok I.hok)
  obtain ⟨r1, r2⟩ := Kd.reads (h := s.heap) hk rv e5
  have rd : Reads s.heap (.ref a) (.dict ds) (a :: [] ++ []) := .dict e1 e2.1 e3 r1 r2
  have nsm : (PyData.dict ds).hasDict = true → sysModules ∉ a :: [] ++ [] := fun _ z => by
    have e : sysModules = a := by simpa using z
    rw [← e] at hs
    simp at hs
  exact repr_of_reads' rd h1 nsm q.gd (by omega) (fun _ _ e => e) (fun h' w tk kp => ⟨.str _, H, I.kept kp, ⟨_, rfl⟩, k⟩) hz

/-! ### data as a whole: what Dp tells, or a dict of scalars -/
inductive Dd (K : PySem.W.Frag) (H : Hp) : V → PyData → Prop
  | dp {x : V} {d : PyData} (h : Dp K H x d) : Dd K H x d
  | dk {a : Addr} {kvs : List (Key × V)} {ds : List (PyData × PyData)} (h : H a = some (.dK kvs)) (k : Kd kvs ds) : Dd K H (.ref a) (.dict ds)
def Showy (d : PyData) : Prop := d.showable = true ∧ d.depth ≤ 40 ∧ d.shown.length ≤ 100000
def rRx (K : PySem.W.Frag) : List V → Hp → VK → Prop := fun xs H Q => ∃ x d, xs = [x] ∧ Dd K H x d ∧ Showy d ∧ Q (.str d.shown) H
mutual
theorem Dp.noD {K : PySem.W.Frag} {H : Hp} : ∀ {d : PyData} {x : V}, Dp K H x d → d.hasDict = false
  | .none, _, _ => rfl
  | .bool _, _, _ => rfl
  | .int _, _, _ => rfl
  | .str _, _, _ => rfl
  | .list ds, _, h => by
    cases h with
    | lst _ a => exact DpAll.noD a
  | .tuple ds, _, h => by
    cases h with
    | tup _ a => exact DpAll.noD a
  | .dict _, _, h => by cases h
theorem DpAll.noD {K : PySem.W.Frag} {H : Hp} : ∀ {ds : List PyData} {xs : List V}, DpAll K H xs ds → PyData.hasDictAll ds = false
  | [], _, _ => rfl
  | d :: ds, _, h => by
    cases h with
    | cons a b =>
      show (d.hasDict || PyData.hasDictAll ds) = false
      rw [Dp.noD a, DpAll.noD b]
      rfl
end
theorem call_rx {X : Cx} {n : Nat} (q : Rm n X.A) : CallR X (.builtin "repr") (rRx X.K) := by
  intro pins s σ H xs us Q I r h
  obtain ⟨x, d, rfl, hd, ⟨h1, h2, h3⟩, k⟩ := h
  cases hd with
  | dp e => exact call_rp q pins s σ H _ us Q I r ⟨x, d, rfl, e, h1, Dp.noD e, h2, h3, k⟩
  | dk e kd => exact call_rpD q pins s σ H _ us Q I r ⟨_, _, _, rfl, .inl e, kd, h1, h2, h3, k⟩

/-! ### types -/
def tyD : PyData → String
  | .none => "NoneType"
  | .bool _ => "bool"
  | .int _ => "int"
  | .str _ => "str"
  | .list _ => "list"
  | .tuple _ => "tuple"
  | .dict _ => "dict"
theorem Dd.ty {K : PySem.W.Frag} {H : Hp} {x : V} {d : PyData} (h : Dd K H x d) : TyX K H x (.type (tyD d)) := by
  cases h with
  | dk e _ => exact .base (.dK e)
  | dp e =>
    cases e with
    | non => exact .base .non
    | bl b => exact .base (.bl b)
    | int i => exact .base (.int i)
    | str z => exact .base (.str z)
    | lst hs _ =>
      rcases hs with (z | ⟨o, z⟩) | ⟨o, _, _, z, c, _⟩
      · exact .base (.lst z)
      · exact .base (.frz z)
      · exact .kList z c
    | tup hs _ =>
      rcases hs with (z | ⟨o, z⟩) | ⟨o, _, _, z, c, _⟩
      · exact .base (.tup z)
      · exact .fTuple z
      · exact .kTuple z c
/-- isinstance(x, T) -/
def isI : PyData → Bool | .bool _ | .int _ => true | _ => false
def isB : PyData → Bool | .bool _ => true | _ => false
def isS : PyData → Bool | .str _ => true | _ => false
def isT : PyData → Bool | .tuple _ => true | _ => false
def isL : PyData → Bool | .list _ => true | _ => false
theorem kit_I (d : PyData) : kitB (tyD d) "int" = some (isI d) := by cases d <;> (simp only [tyD, isI]; decide +kernel)
theorem kit_B (d : PyData) : kitB (tyD d) "bool" = some (isB d) := by cases d <;> (simp only [tyD, isB]; decide +kernel)
theorem kit_S (d : PyData) : kitB (tyD d) "str" = some (isS d) := by cases d <;> (simp only [tyD, isS]; decide +kernel)
theorem kit_T (d : PyData) : kitB (tyD d) "tuple" = some (isT d) := by cases d <;> (simp only [tyD, isT]; decide +kernel)
theorem kit_L (d : PyData) : kitB (tyD d) "list" = some (isL d) := by cases d <;> (simp only [tyD, isL]; decide +kernel)
end G

set_option Elab.async false
set_option linter.all false
set_option maxRecDepth 100000
set_option maxHeartbeats 4000000
/-! Comprehensions that change nothing. -/
namespace G
open PySem PySem.Spec PyProof.Rows L2 Evl
/-- what a comprehension over J asks, its one name in slot j -/
def LcG (J : It) (j : Nat) (te : TE) (σ : L2.St) (H : Hp) (D : Addr) (Qd : Hp → Prop) : Prop :=
  ∃ W : Nat → Nat → Hp → Prop, (∃ m, W 0 m (upd H D (.lst []))) ∧
    ∀ i m Hx, W i m Hx → (J.stop i Hx ∧ Qd Hx) ∨
      (J.go i Hx ∧ ∃ Nx : Hp → Prop, (∀ H', Nx H' → ∃ m', m' < m ∧ W (i + 1) m' H') ∧
        ∀ x H', J.yld i Hx x H' → gName j x (wipe σ [j]) H' fun σ2 H2 =>
          wipe σ2 [j] = wipe σ [j] ∧ tYes σ2 H2 fun b H3 =>
            if b = true then te σ2 H3 fun y H4 => ∃ acc, H4 D = some (.lst acc) ∧ acc.length < sizeLine ∧
              Nx (upd H4 D (.lst (acc ++ [y]))) else Nx H3)
theorem wipe_set (σ : L2.St) (j : Nat) (x : V) : wipe ((wipe σ [j]).set j (some x)) [j] = wipe σ [j] := by
  show ((σ.set j none).set j (some x)).set j none = σ.set j none
  simp
/-- what each turn's item makes is told by f; nothing that was known changes -/
theorem lc_pure {J : It} {n : Nat} {Gd : Hp → Prop} {Y : Nat → Hp → V → Hp → Prop} (W : Walk J n Gd Y) {te : TE} {σ : L2.St} {j : Nat} {H : Hp} {D : Addr} {Qd : Hp → Prop} (f : Nat → V) (hn : n ≤ 100000)
    (hG : ∀ H', Ex H H' → Gd H') (It : Nat → V → Prop) (hY : ∀ i Ha x Hb, i < n → Ex H Ha → Y i Ha x Hb → Hb = Ha ∧ It i x)
    (he : ∀ i x, i < n → It i x → Ev te ((wipe σ [j]).set j (some x)) H (f i))
    (new : H D = none) (hd : ∀ H', Ex H H' → H' D = some (.lst ((List.range n).map f)) → Qd H') : LcG J j te σ H D Qd := by
  refine lc_it (g := gName j) (tt := tYes) (te := te) (vs := [j]) (σ := σ) W (fun i Hc => Ex H Hc ∧ Hc D = some (.lst ((List.range i).map f))) ⟨Ex.new new, upd_same⟩ (fun i Hc _ p => hG Hc p.1) (fun i x Ha Hb hi p y => ?_) (fun Hc p => hd Hc p.1 p.2)
  obtain ⟨e, ix⟩ := hY i Ha x Hb hi p.1 y
  rw [e]
  refine ⟨wipe_set σ j x, ?_⟩
  show te ((wipe σ [j]).set j (some x)) Ha _
  refine he i x hi ix Ha p.1 _ fun H2 e2 => ⟨_, e2 _ _ p.2, ?_, ?_, ?_⟩
  · simp only [List.length_map, List.length_range]
    exact Nat.lt_of_lt_of_le (Nat.lt_of_lt_of_le hi hn) (by decide)
  · exact (p.1.trans e2).mut new
  · rw [upd_same, List.range_succ, List.map_append]
    rfl
/-- .. over the data of a list or tuple: a test of each -/
theorem range_map {α β : Type} (xs : List α) (f : Nat → β) (g : α → β) (h : ∀ i x, xs[i]? = some x → f i = g x) : (List.range xs.length).map f = xs.map g := by
  apply List.ext_getElem?
  intro i
  rw [List.getElem?_map, List.getElem?_map]
  by_cases hi : i < xs.length
  · rw [List.getElem?_range hi, List.getElem?_eq_getElem hi]
    show some (f i) = some (g xs[i])
    rw [h i xs[i] (List.getElem?_eq_getElem hi)]
  · rw [List.getElem?_eq_none (by simpa using Nat.le_of_not_lt hi), List.getElem?_eq_none (Nat.le_of_not_lt hi)]
    rfl
theorem lc_data {K : PySem.W.Frag} {J : It} {xs : List V} {ds : List PyData} {Gd : Hp → Prop} (W : Walk J xs.length Gd (YAt xs)) {te : TE} {σ : L2.St} {j : Nat} {H : Hp} {D : Addr} {Qd : Hp → Prop} (t : PyData → Bool) (hn : xs.length ≤ 100000)
    (hG : ∀ H', Ex H H' → Gd H') (hx : DpAll K H xs ds) (he : ∀ x d, Dp K H x d → Ev te ((wipe σ [j]).set j (some x)) H (.bl (t d)))
    (hK : ∀ (i : Nat) (x : V), xs[i]? = some x → ∃ d, ds[i]? = some d ∧ Dp K H x d)
    (new : H D = none) (hd : ∀ H', Ex H H' → H' D = some (.lst ((ds.map t).map V.bl)) → Qd H') : LcG J j te σ H D Qd := by
  have hl : xs.length = ds.length := by
    clear hG he hK hd W hn new
    induction hx using DpAll.rec (motive_1 := fun _ _ _ => True) <;> simp_all
  refine lc_pure W (fun i => .bl (t (ds.getD i .none))) hn hG (fun i x => xs[i]? = some x) (fun i Ha x Hb _ _ y => ⟨y.1, y.2⟩) (fun i x hi e => ?_) new (fun H' e q => hd H' e ?_)
  · obtain ⟨d, e1, e2⟩ := hK i x e
    have e3 : ds.getD i .none = d := by rw [List.getD_eq_getElem?_getD, e1]; rfl
    rw [e3]
    exact he x d e2
  · rw [q, hl, List.map_map]
    congr 2
    exact range_map ds _ _ fun i d e => by
      show V.bl (t (ds.getD i .none)) = V.bl (t d)
      rw [List.getD_eq_getElem?_getD, e]
      rfl
/-- .. the parts of which have a property -/
theorem lc_dataS {S : PyData → Prop} {K : PySem.W.Frag} {J : It} {xs : List V} {ds : List PyData} {Gd : Hp → Prop} (W : Walk J xs.length Gd (YAt xs)) {te : TE} {σ : L2.St} {j : Nat} {H : Hp} {D : Addr} {Qd : Hp → Prop} (t : PyData → Bool) (hn : xs.length ≤ 100000)
    (hG : ∀ H', Ex H H' → Gd H') (hx : DpAll K H xs ds) (hS : ∀ d ∈ ds, S d) (he : ∀ x d, Dp K H x d → S d → Ev te ((wipe σ [j]).set j (some x)) H (.bl (t d)))
    (hK : ∀ (i : Nat) (x : V), xs[i]? = some x → ∃ d, ds[i]? = some d ∧ Dp K H x d)
    (new : H D = none) (hd : ∀ H', Ex H H' → H' D = some (.lst ((ds.map t).map V.bl)) → Qd H') : LcG J j te σ H D Qd := by
  have hl : xs.length = ds.length := by
    clear hG he hK hd W hn new hS
    induction hx using DpAll.rec (motive_1 := fun _ _ _ => True) <;> simp_all
  refine lc_pure W (fun i => .bl (t (ds.getD i .none))) hn hG (fun i x => xs[i]? = some x) (fun i Ha x Hb _ _ y => ⟨y.1, y.2⟩) (fun i x hi e => ?_) new (fun H' e q => hd H' e ?_)
  · obtain ⟨d, e1, e2⟩ := hK i x e
    have e3 : ds.getD i .none = d := by rw [List.getD_eq_getElem?_getD, e1]; rfl
    rw [e3]
    exact he x d e2 (hS d (List.mem_of_getElem? e1))
  · rw [q, hl, List.map_map]
    congr 2
    exact range_map ds _ _ fun i d e => by
      show V.bl (t (ds.getD i .none)) = V.bl (t d)
      rw [List.getD_eq_getElem?_getD, e]
      rfl
end G

set_option Elab.async false
set_option linter.all false
set_option maxRecDepth 100000
set_option maxHeartbeats 4000000
/-! A tuple once, or not at all: t * 1, t * 0. -/
namespace G
open PySem PySem.Spec PyProof.Rows L2 Evl
theorem tmul_one (l : Addr) (items : Array Value) (n : Nat) (sl : Array (Option Value)) (u : Tok) (dd : Option Addr) :
    Meets (Builtin.«tuple.__mul__» ⟨[.ref l, .int 1 u], []⟩) (fun _ R s => s.heap.get? l = some { cls := .type "tuple", dict := dd, data := .seq items n, slots := sl } ∧ R (.ok (.ret (Value.ref l))) s) :=
  .of_wp fun prog w A R s h => by
    obtain ⟨hp, g, d, tk, os⟩ := s
    obtain ⟨hl, h⟩ := h
    have f1 := AutoSeq1.idx_int
    wp_walk using wpAny_loadPart' hl
    exact ⟨_, rfl, h⟩
theorem tmul_zero (l : Addr) (items : Array Value) (n : Nat) (sl : Array (Option Value)) (u : Tok) (dd : Option Addr) (hi : items.isEmpty = false) :
    Meets (Builtin.«tuple.__mul__» ⟨[.ref l, .int 0 u], []⟩) (fun _ R s => s.heap.get? l = some { cls := .type "tuple", dict := dd, data := .seq items n, slots := sl } ∧
      R (.ok (.ret (Value.ref s.heap.objs.size))) { s with heap := s.heap.push { cls := Value.type "tuple", data := Data.seq #[] }, toks := s.toks }) :=
  .of_wp fun prog w A R s h => by
    obtain ⟨hp, g, d, tk, os⟩ := s
    obtain ⟨hl, h⟩ := h
    have f1 := AutoSeq1.idx_int
    wp_walk using wpAny_loadPart' hl
    exact ⟨_, rfl, h⟩
/-- t * k, 0 ≤ k -/
def rRepA (K : PySem.W.Frag) : R2 := fun x y H Q => ∃ l k xs, x = .ref l ∧ y = .int k ∧ SqT K H l xs ∧ xs ≠ [] ∧ 0 ≤ k ∧ k ≤ 1000 ∧ xs.length ≤ 1000 ∧ (k = 1 → Q (.ref l) H) ∧ (k ≠ 1 → ∀ p, H p = none → Q (.ref p) (upd H p (.tup (List.replicate k.toNat xs).flatten)))
theorem op_repA {X : Cx} : OpR X (binaryOp .Mult) (rRepA X.K) := by
  intro pins s σ H x y v u Q I rx ry h
  obtain ⟨l, k, xs, rfl, rfl, hT, hne, h0, h1, hz, q1, q2⟩ := h
  by_cases c2 : 2 ≤ k
  · exact op_repT pins s σ H _ _ v u Q I rx ry ⟨l, k, xs, rfl, rfl, hT, hne, c2, h1, hz, q2 (by omega)⟩
  · cases rx
    obtain ⟨t, rfl⟩ := ry
    obtain ⟨its, r, ⟨⟨cl, dd, dat, sl⟩, ho, hc, n, hd⟩, hs⟩ := I.tuple hT
    simp only at hc hd
    subst hc hd
    have hi : its.toArray.isEmpty = false := by
      cases its with
      | nil =>
        cases r
        exact absurd rfl hne
      | cons a b => rfl
    by_cases c1 : k = 1
    · subst c1
      refine wpAny_binaryOp_repeat_ref (T := "tuple") (U := "int") (by decide) ⟨_, ho, rfl⟩ (fun s' => typeIs_int s' 1 t) noFill_tuple_mul F.fills_int_mul F.slot_int_rmul repeat_tuple F.slot_int_index.lookup ?_
      refine call_meets F.slot_int_rmul (typeIs_int s 1 t) F.entry_int_rmul (F.args_int_rmul_2 _ _) (int_rmul_tuple 1 t l its.toArray n dd sl) ⟨ho, rfl, ⟨_, ho, rfl⟩, ?_⟩
      exact call_meets F.slot_tuple_mul ⟨_, ho, rfl⟩ F.entry_tuple_mul (F.args_tuple_mul_2 _ _) (tmul_one l its.toArray n sl t dd) ⟨ho, .ref l, H, I.tok _, rfl, q1 rfl⟩
    · obtain rfl : k = 0 := by omega
      refine wpAny_binaryOp_repeat_ref (T := "tuple") (U := "int") (by decide) ⟨_, ho, rfl⟩ (fun s' => typeIs_int s' 0 t) noFill_tuple_mul F.fills_int_mul F.slot_int_rmul repeat_tuple F.slot_int_index.lookup ?_
      refine call_meets F.slot_int_rmul (typeIs_int s 0 t) F.entry_int_rmul (F.args_int_rmul_2 _ _) (int_rmul_tuple 0 t l its.toArray n dd sl) ⟨ho, rfl, ⟨_, ho, rfl⟩, ?_⟩
      refine call_meets F.slot_tuple_mul ⟨_, ho, rfl⟩ F.entry_tuple_mul (F.args_tuple_mul_2 _ _) (tmul_zero l its.toArray n sl t dd hi) ⟨ho, ?_⟩
      refine ⟨.ref s.heap.objs.size, _, I.laid (t' := s.toks) (o := .tup (List.replicate (0 : Int).toNat xs).flatten) (fun b ob q => Heap.get?_push_of_some _ q) (Nat.le_refl _) ?_, rfl, q2 (by decide) _ (I.hok.fresh (Nat.le_refl _))⟩
      exact ⟨Nat.zero_le _, [], .nil, IsTup.new _ _⟩
end G

set_option Elab.async false
set_option linter.all false
set_option maxRecDepth 100000
set_option maxHeartbeats 4000000
/-! What is written out as data: everything in it is new. -/
namespace G
open PySem PySem.Spec PyProof.Rows L2 Evl
/-- what H' has and H had not -/
def nw (H H' : Hp) : Hp := fun b => if H b = none then H' b else none
theorem nw_some {H H' : Hp} {b : Addr} {o : HO} : nw H H' b = some o ↔ H b = none ∧ H' b = some o := by
  unfold nw
  by_cases h : H b = none
  · rw [if_pos h]; exact ⟨fun e => ⟨h, e⟩, fun e => e.2⟩
  · rw [if_neg h]; exact ⟨fun e => (by cases e), fun e => absurd e.1 h⟩
theorem nw_ex {H H1 H2 : Hp} (e : Ex H1 H2) : Ex (nw H H1) (nw H H2) := fun b o h => by
  rw [nw_some] at h ⊢
  exact ⟨h.1, e b o h.2⟩
theorem nw_back {H H1 H2 : Hp} (e : Ex H H1) : Ex (nw H1 H2) (nw H H2) := fun b o h => by
  rw [nw_some] at h ⊢
  exact ⟨fresh_back e h.1, h.2⟩
theorem nw_out {H H' : Hp} : Ex (nw H H') H' := fun b o h => (nw_some.mp h).2
mutual
theorem dp_exG {K : PySem.W.Frag} {H H' : Hp} (e : Ex H H') : ∀ {d : PyData} {x : V}, Dp K H x d → Dp K H' x d
  | .none, _, h => by cases h; exact .non
  | .bool b, _, h => by cases h; exact .bl b
  | .int i, _, h => by cases h; exact .int i
  | .str z, _, h => by cases h; exact .str z
  | .list ds, _, h => by
    cases h with
    | lst hs a => exact .lst (ex_l e hs) (dpAll_exG e a)
  | .tuple ds, _, h => by
    cases h with
    | tup hs a => exact .tup (ex_t e hs) (dpAll_exG e a)
  | .dict _, _, h => by cases h
theorem dpAll_exG {K : PySem.W.Frag} {H H' : Hp} (e : Ex H H') : ∀ {ds : List PyData} {xs : List V}, DpAll K H xs ds → DpAll K H' xs ds
  | [], _, h => by cases h; exact .nil
  | d :: ds, _, h => by
    cases h with
    | cons a b => exact .cons (dp_exG e a) (dpAll_exG e b)
end
theorem dd_exG {K : PySem.W.Frag} {H H' : Hp} {x : V} {d : PyData} (e : Ex H H') (h : Dd K H x d) : Dd K H' x d := by
  cases h with
  | dp q => exact .dp (dp_exG e q)
  | dk q k => exact .dk (e _ _ q) k
inductive DdAll (K : PySem.W.Frag) (H : Hp) : List V → List PyData → Prop
  | nil : DdAll K H [] []
  | cons {x : V} {d : PyData} {xs : List V} {ds : List PyData} : Dd K H x d → DdAll K H xs ds → DdAll K H (x :: xs) (d :: ds)
theorem DdAll.ex {K : PySem.W.Frag} {H H' : Hp} (e : Ex H H') {xs : List V} {ds : List PyData} (h : DdAll K H xs ds) : DdAll K H' xs ds := by
  induction h with
  | nil => exact .nil
  | cons a _ ih => exact .cons (dd_exG e a) ih
theorem DdAll.len {K : PySem.W.Frag} {H : Hp} {xs : List V} {ds : List PyData} (h : DdAll K H xs ds) : xs.length = ds.length := by
  induction h with
  | nil => rfl
  | cons _ _ ih => simp [ih]
theorem DdAll.append {K : PySem.W.Frag} {H : Hp} {xs ys : List V} {ds es : List PyData} (h : DdAll K H xs ds) (q : DdAll K H ys es) : DdAll K H (xs ++ ys) (ds ++ es) := by
  induction h with
  | nil => exact q
  | cons a _ ih => exact .cons a ih
theorem DdAll.at {K : PySem.W.Frag} {H : Hp} {xs : List V} {ds : List PyData} (h : DdAll K H xs ds) : ∀ {i : Nat} {x : V}, xs[i]? = some x → ∃ d, ds[i]? = some d ∧ Dd K H x d := by
  induction h with
  | nil => intro i x e; simp at e
  | cons a _ ih =>
    intro i x e
    cases i with
    | zero =>
      simp at e
      subst e
      exact ⟨_, rfl, a⟩
    | succ i =>
      obtain ⟨d, e1, e2⟩ := ih (by simpa using e)
      exact ⟨d, by simpa using e1, e2⟩
/-- te gives a new datum -/
def Nd (K : PySem.W.Frag) (te : TE) (d : PyData) : Prop := ∀ σ H (Q : VK), (∀ x H', Ex H H' → Dp K (nw H H') x d → Q x H') → te σ H Q
def Nds (K : PySem.W.Frag) (ta : TA) (ds : List PyData) : Prop := ∀ σ H (Q : List V → Hp → Prop), (∀ xs H', Ex H H' → DpAll K (nw H H') xs ds → Q xs H') → ta σ H Q
def Ndd (K : PySem.W.Frag) (te : TE) (d : PyData) : Prop := ∀ σ H (Q : VK), (∀ x H', Ex H H' → Dd K (nw H H') x d → Q x H') → te σ H Q
def Ndds (K : PySem.W.Frag) (ta : TA) (ds : List PyData) : Prop := ∀ σ H (Q : List V → Hp → Prop), (∀ xs H', Ex H H' → DdAll K (nw H H') xs ds → Q xs H') → ta σ H Q
section
variable {K : PySem.W.Frag} {te : TE} {ta : TA} {d : PyData} {ds : List PyData}
theorem nd_non : Nd K (tC .non) .none := fun _ H _ q => q _ H (Ex.refl H) .non
theorem nd_bl {b : Bool} : Nd K (tC (.bl b)) (.bool b) := fun _ H _ q => q _ H (Ex.refl H) (.bl b)
theorem nd_int {i : Int} : Nd K (tC (.int i)) (.int i) := fun _ H _ q => q _ H (Ex.refl H) (.int i)
theorem nd_str {z : Str} : Nd K (tC (.str z)) (.str z) := fun _ H _ q => q _ H (Ex.refl H) (.str z)
theorem nd_neg {i : Int} : Nd K (tUn (rU fun i => .int (-i)) (tC (.int i))) (.int (-i)) := fun _ H _ q => ⟨i, rfl, q _ H (Ex.refl H) (.int (-i))⟩
theorem nds_nil : Nds K tNil [] := fun _ H _ q => q _ H (Ex.refl H) .nil
theorem nds_cons (a : Nd K te d) (b : Nds K ta ds) : Nds K (tCons te ta) (d :: ds) := fun σ H Q q =>
  a σ H _ fun x H1 e1 h1 => b σ H1 _ fun xs H2 e2 h2 => q _ H2 (e1.trans e2) (.cons (dp_exG (nw_ex e2) h1) (dpAll_exG (nw_back e1) h2))
theorem DpAll.lenG {H : Hp} : ∀ {ds : List PyData} {xs : List V}, DpAll K H xs ds → xs.length = ds.length
  | [], _, h => by cases h; rfl
  | _ :: _, _, h => by
    cases h with
    | cons _ b => simp [DpAll.lenG b]
theorem nd_tup (a : Nds K ta ds) (hl : ds.length ≤ 1000) : Nd K (tTup ta) (.tuple ds) := fun σ H Q q =>
  a σ H _ fun xs H1 e1 h1 => ⟨Nat.le_trans (by rw [DpAll.lenG h1]; exact hl) (show 1000 ≤ sizeLine by decide), fun p hp => by
    have e2 : Ex H1 (upd H1 p (.tup xs)) := Ex.new hp
    refine q _ _ (e1.trans e2) (.tup (xs := xs) (.inl (.inl ?_)) (dpAll_exG (nw_ex e2) h1))
    rw [nw_some]
    exact ⟨fresh_back e1 hp, upd_same⟩⟩
theorem nd_lst (a : Nds K ta ds) (hl : ds.length ≤ 1000) : Nd K (tLst ta) (.list ds) := fun σ H Q q =>
  a σ H _ fun xs H1 e1 h1 => ⟨Nat.le_trans (by rw [DpAll.lenG h1]; exact hl) (show 1000 ≤ sizeLine by decide), fun p hp => by
    have e2 : Ex H1 (upd H1 p (.lst xs)) := Ex.new hp
    refine q _ _ (e1.trans e2) (.lst (xs := xs) (.inl (.inl ?_)) (dpAll_exG (nw_ex e2) h1))
    rw [nw_some]
    exact ⟨fresh_back e1 hp, upd_same⟩⟩
theorem ndd_of (a : Nd K te d) : Ndd K te d := fun σ H Q q => a σ H Q fun x H' e h => q x H' e (.dp h)
theorem ndds_nil : Ndds K tNil [] := fun _ H _ q => q _ H (Ex.refl H) .nil
theorem ndds_cons (a : Ndd K te d) (b : Ndds K ta ds) : Ndds K (tCons te ta) (d :: ds) := fun σ H Q q =>
  a σ H _ fun x H1 e1 h1 => b σ H1 _ fun xs H2 e2 h2 => q _ H2 (e1.trans e2) (.cons (dd_exG (nw_ex e2) h1) (h2.ex (nw_back e1)))
theorem ndd_empty : Ndd K tDNewK (.dict []) := fun σ H Q q p hp => q _ _ (Ex.new hp) (.dk (kvs := []) (nw_some.mpr ⟨hp, upd_same⟩) .nil)
/-- a list of data, written out: l is new -/
theorem rd_data {σ : L2.St} {H : Hp} {Q : VK} (a : Ndds K ta ds) (hl : ds.length ≤ 1000) (q : ∀ l xs H', H l = none → Ex H H' → H' l = some (.lst xs) → DdAll K (nw H H') xs ds → Q (.ref l) H') : tLst ta σ H Q :=
  a σ H _ fun xs H1 e1 h1 => ⟨Nat.le_trans (by rw [h1.len]; exact hl) (show 1000 ≤ sizeLine by decide), fun p hp =>
    q p xs _ (fresh_back e1 hp) (e1.trans (Ex.new hp)) upd_same (h1.ex (nw_ex (Ex.new hp)))⟩
end
end G

set_option Elab.async false
set_option linter.all false
set_option maxRecDepth 100000
set_option maxHeartbeats 4000000
/-! Values without changes: more of what evaluates to what. -/
namespace G
open PySem PySem.Spec PyProof.Rows L2 Evl
/-- a list, new or not -/
def EvLs (te : TE) (σ : L2.St) (H : Hp) (xs : List V) : Prop := ∀ H1, Ex H H1 → ∀ Q : VK, (∀ p H2, Ex H1 H2 → H2 p = some (.lst xs) → Q (.ref p) H2) → te σ H1 Q
section
variable {K : PySem.W.Frag} {σ : L2.St} {H : Hp} {ta tb te : TE} {xs ys : List V} {x y z v : V}
theorem EvLs.of (h : EvL te σ H xs) : EvLs te σ H xs := fun H1 e Q q => h H1 e Q fun p H2 _ e2 h2 => q p H2 e2 h2
theorem evs_var {i : Nat} {a : Addr} (hs : σ[i]? = some (some (.ref a))) (hl : H a = some (.lst xs)) : EvLs (tVar i) σ H xs := fun H1 e Q q => ⟨_, hs, q a H1 (Ex.refl H1) (e _ _ hl)⟩
theorem el_cat (ha : EvLs ta σ H xs) (hb : EvLs tb σ H ys) (hz : xs.length + ys.length ≤ 100000) : EvL (tOp rCat ta tb) σ H (xs ++ ys) := fun H1 e Q q =>
  ha H1 e _ fun p H2 e2 h2 => hb H2 (e.trans e2) _ fun p' H3 e3 h3 => ⟨p, p', xs, ys, rfl, rfl, e3 _ _ h2, h3, sz_of hz, fun c hc => q c _ (fresh_back (e2.trans e3) hc) ((e2.trans e3).trans (Ex.new hc)) upd_same⟩
theorem ev_callK {pro : Sp} {gW : List V → List V → List V} {E : XK} {tk : TA} {vs : List V} (h : EvA tk σ H vs) (hs : SpV pro (gW [] vs) H z) : Ev (tCallK pro gW E tNil tk) σ H z := fun H1 e Q q =>
  h H1 e _ fun H2 e2 => hs H2 (e.trans e2) Q (fun H3 e3 => q H3 (e2.trans e3)) E
theorem ea_2 {t1 t2 : TE} (h1 : Ev t1 σ H x) (h2 : Ev t2 σ H y) : EvA (tCons t1 (tCons t2 tNil)) σ H [x, y] := ea_cons h1 (ea_cons h2 ea_nil)
theorem ea_1 {t1 : TE} (h1 : Ev t1 σ H x) : EvA (tCons t1 tNil) σ H [x] := ea_cons h1 ea_nil
theorem el_rep {n : Nat} (ha : EvLs ta σ H xs) (hz : xs.length * n ≤ 100000) (hn : n ≤ 100000) : EvL (tOp rRep ta (tC (.int (n : Int)))) σ H (List.replicate n xs).flatten := fun H1 e Q q =>
  ha H1 e _ fun p H2 e2 h2 => ⟨p, (n : Int), xs, rfl, rfl, h2, by omega, by omega, by
    have : ((n : Int)).toNat = n := by omega
    rw [this]
    exact sz_of hz, fun c hc => by
    have : ((n : Int)).toNat = n := by omega
    rw [this]
    exact q c _ (fresh_back e2 hc) (e2.trans (Ex.new hc)) upd_same⟩
/-- a new list, then what follows -/
theorem rd_l {Q : VK} (xs : List V) (h : EvL te σ H xs) (q : ∀ p H1, H p = none → Ex H H1 → H1 p = some (.lst xs) → Q (.ref p) H1) : te σ H Q := h H (Ex.refl H) Q q
theorem rd_v {Q : VK} (v : V) (h : Ev te σ H v) (q : ∀ H1, Ex H H1 → Q v H1) : te σ H Q := h H (Ex.refl H) Q q
variable {u : TS} {D : Ends} {i j : Nat}
theorem q_asgL (xs : List V) (h : EvL te σ H xs) (k : ∀ p H1, H p = none → Ex H H1 → H1 p = some (.lst xs) → u D (σ.set i (some (.ref p))) H1) : tSeq (tAsg te (gName i)) u D σ H := h H (Ex.refl H) _ fun p H1 a b c => k p H1 a b c
theorem q_asgV (v : V) (h : Ev te σ H v) (k : ∀ H1, Ex H H1 → u D (σ.set i (some v)) H1) : tSeq (tAsg te (gName i)) u D σ H := h H (Ex.refl H) _ fun H1 a => k H1 a
theorem q_par {ta : TA} (v z : V) (h : EvA ta σ H [v, z]) (k : ∀ H1, Ex H H1 → u D ((σ.set i (some v)).set j (some z)) H1) : tSeq (tPar i j ta) u D σ H := h H (Ex.refl H) _ fun H1 a => ⟨v, z, rfl, k H1 a⟩
/-- for x in range(n), n written -/
theorem q_forR {tb : TS} {n : Nat} (hn : n ≤ 100000) (Pv : Nat → L2.St → Hp → Prop) (h0 : Pv 0 σ H)
    (hs : ∀ (i : Nat) (σ' : L2.St) (H' : Hp), i < n → Pv i σ' H' → tb { D with nx := Pv (i + 1), ct := Pv (i + 1), bk := u D } (σ'.set j (some (.int (i : Int)))) H') (hd : ∀ σ' H', Pv n σ' H' → u D σ' H') :
    tSeq (tFor (iRng1 (tCons (tC (.int (n : Int))) tNil)) (gName j) tb) u D σ H :=
  ⟨(n : Int), rfl, by omega, by omega, for_range (lo := 0) (n := (n : Int).toNat) Pv h0 (fun i σ' H' hi p => by
    have e0 : (0 : Int) + (i : Int) = (i : Int) := Int.zero_add _
    show tb { D with nx := Pv (i + 1), ct := Pv (i + 1), bk := u D } (σ'.set j (some (.int ((0 : Int) + (i : Int))))) H'
    rw [e0]
    exact hs i σ' H' (by omega) p) (fun σ' H' p => hd σ' H' (by simpa using p))⟩
end
end G

set_option Elab.async false
set_option linter.all false
set_option maxRecDepth 100000
set_option maxHeartbeats 4000000
/-! Comprehensions that make data. -/
namespace G
open PySem PySem.Spec PyProof.Rows L2 Evl
/-- H without D -/
def hid (D : Addr) (H : Hp) : Hp := fun b => if b = D then none else H b
theorem hid_some {D b : Addr} {H : Hp} {o : HO} : hid D H b = some o ↔ b ≠ D ∧ H b = some o := by
  unfold hid
  by_cases h : b = D
  · rw [if_pos h]; exact ⟨fun e => (by cases e), fun e => absurd h e.1⟩
  · rw [if_neg h]; exact ⟨fun e => ⟨h, e⟩, fun e => e.2⟩
theorem hid_ex {D : Addr} {H H' : Hp} (e : Ex H H') : Ex (hid D H) (hid D H') := fun b o q => hid_some.mpr ⟨(hid_some.mp q).1, e b o (hid_some.mp q).2⟩
theorem hid_upd {D : Addr} {H : Hp} {o : HO} : Ex (hid D H) (hid D (upd H D o)) := fun b u q => by
  rw [hid_some] at q ⊢
  exact ⟨q.1, by rw [upd_ne q.1]; exact q.2⟩
theorem hid_out {D : Addr} {H : Hp} : Ex (hid D H) H := fun b o q => (hid_some.mp q).2
theorem hid_nw {D : Addr} {Ha H' : Hp} (h : Ha D ≠ none) : Ex (nw Ha H') (hid D H') := fun b o q => by
  rw [nw_some] at q
  exact hid_some.mpr ⟨fun z => h (by rw [← z]; exact q.1), q.2⟩
theorem hid_old {D : Addr} {H Ha : Hp} (h : H D = none) (e : Ex H Ha) : Ex H (hid D Ha) := fun b o q => hid_some.mpr ⟨ne_of_none q h, e b o q⟩
theorem dpAll_appG {K : PySem.W.Frag} {H : Hp} : ∀ {xs ys : List V} {ds es : List PyData}, DpAll K H xs ds → DpAll K H ys es → DpAll K H (xs ++ ys) (ds ++ es)
  | [], _, _, _, h, q => by cases h; exact q
  | _ :: _, _, _, _, h, q => by
    cases h with
    | cons a b => exact .cons a (dpAll_appG b q)
theorem tVar_eq {i : Nat} {v : V} {σ : L2.St} {H : Hp} (h : σ[i]? = some (some v)) : tVar i σ H = fun R => R v H := by
  funext R
  refine propext ⟨fun ⟨v', e, q⟩ => ?_, fun q => ⟨v, h, q⟩⟩
  rw [h] at e
  cases e
  exact q
theorem pi_tupK {Y : Cx} {K : PySem.W.Frag} {tg l : Expr} {tl : TE} (hl : PE Y l tl) (h : Y.K = K := by rfl) : PI Y tg l (iTup K tl) := by
  subst h
  exact pi_tup hl
/-- [e for x in xs for b in (0, 1)]: what it asks, slots j and j2; each e makes a new datum -/
theorem lc2_new {K : PySem.W.Frag} {a : Addr} {xs : List V} {te : TE} {σ : L2.St} {j j2 : Nat} {H : Hp} {Q : VK} (f : Nat → Nat → PyData) (hx : SqL K H a xs) (hz : xs.length ≤ 1000) {tl : TE} (hl : tl σ H = fun R => R (.ref a) H) (hjj : j ≠ j2)
    (he : ∀ (i c : Nat) (x : V), xs[i]? = some x → c < 2 → ∀ Ha, Ex H Ha → ∀ Q1 : VK, (∀ v H', Ex Ha H' → Dp K (nw Ha H') v (f i c) → Q1 v H') → te (((wipe σ [j, j2]).set j (some x)).set j2 (some (.int (c : Int)))) Ha Q1)
    (hd : ∀ D vs H', H D = none → Ex H H' → H' D = some (.lst vs) → DpAll K (hid D H') vs ((List.range xs.length).flatMap fun i => [f i 0, f i 1]) → Q (.ref D) H') :
    tLc2 (iList K tl) (gName j) tYes (iTup K (tTup (tCons (tC (.int 0)) (tCons (tC (.int 1)) tNil)))) (gName j2) tYes te [j, j2] [j2] σ H Q := by
  show iList K tl σ H _
  unfold iList
  rw [hl]
  refine ⟨a, rfl, ⟨xs, hx⟩, fun D new => ?_⟩
  have w0 : ∀ x, wipe ((wipe σ [j, j2]).set j (some x)) [j, j2] = wipe σ [j, j2] := fun x => by
    show ((((σ.set j2 none).set j none).set j (some x)).set j2 none).set j none = (σ.set j2 none).set j none
    rw [List.set_set, List.set_comm _ _ hjj, List.set_set, List.set_set]
  refine ⟨fun i m Hc => m = xs.length - i ∧ i ≤ xs.length ∧ Ex H Hc ∧ ∃ vs, Hc D = some (.lst vs) ∧ DpAll K (hid D Hc) vs ((List.range i).flatMap fun i => [f i 0, f i 1]) ∧ vs.length = 2 * i, ⟨xs.length, by simp, Nat.zero_le _, Ex.new new, [], upd_same, .nil, rfl⟩, ?_⟩
  rintro i m Hc ⟨rfl, hi, e, vs, hD, hv, hvl⟩
  by_cases hlt : i < xs.length
  · refine .inr ⟨⟨xs, xs[i], ex_l e hx, by simp [hlt]⟩, fun H' => Ex H H' ∧ ∃ vs, H' D = some (.lst vs) ∧ DpAll K (hid D H') vs ((List.range (i + 1)).flatMap fun i => [f i 0, f i 1]) ∧ vs.length = 2 * (i + 1), fun H' p => ⟨xs.length - (i + 1), by omega, rfl, hlt, p⟩, fun x H' y => ?_⟩
    have hxi : xs[i]? = some x := y.2 xs (ex_l e hx)
    obtain rfl : H' = Hc := y.1
    refine ⟨w0 x, ?_⟩
    unfold tYes
    dsimp only
    rw [if_pos rfl]
    refine ⟨(by show 2 ≤ sizeLine; decide), fun t ht => ⟨t, rfl, ⟨_, st_of upd_same⟩, ?_⟩⟩
    have e1 : Ex H' (upd H' t (.tup [.int 0, .int 1])) := Ex.new ht
    have hv1 := dpAll_exG (hid_ex (D := D) e1) hv
    refine ⟨fun c k Hc => k = 2 - c ∧ c ≤ 2 ∧ Ex H Hc ∧ Hc t = some (.tup [.int 0, .int 1]) ∧ ∃ vs, Hc D = some (.lst vs) ∧ DpAll K (hid D Hc) vs (((List.range i).flatMap fun i => [f i 0, f i 1]) ++ (List.range c).map (f i)) ∧ vs.length = 2 * i + c,
      ⟨2, rfl, Nat.zero_le _, e.trans e1, upd_same, vs, e1 _ _ hD, by simpa using hv1, hvl⟩, ?_⟩
    rintro c k Hd ⟨rfl, hc, e2, ht2, ws, hD2, hw, hwl⟩
    by_cases hc2 : c < 2
    · refine .inr ⟨⟨[.int 0, .int 1], [V.int 0, V.int 1][c], st_of ht2, by simp [hc2]⟩, fun H' => Ex H H' ∧ H' t = some (.tup [.int 0, .int 1]) ∧ ∃ vs, H' D = some (.lst vs) ∧ DpAll K (hid D H') vs (((List.range i).flatMap fun i => [f i 0, f i 1]) ++ (List.range (c + 1)).map (f i)) ∧ vs.length = 2 * i + (c + 1), fun H' p => ⟨2 - (c + 1), by omega, rfl, hc2, p⟩, fun b Hb yb => ?_⟩
      have hb : [V.int 0, V.int 1][c]? = some b := yb.2 _ (st_of ht2)
      obtain rfl : Hb = Hd := yb.1
      have hb2 : b = .int (c : Int) := by
        match c, hc2, hb with
        | 0, _, hb => simpa using hb.symm
        | 1, _, hb => simpa using hb.symm
      subst hb2
      refine ⟨?_, ?_⟩
      · show ((((wipe σ [j, j2]).set j (some x)).set j2 none).set j2 (some (.int (c : Int)))).set j2 none = ((wipe σ [j, j2]).set j (some x)).set j2 none
        simp
      rw [if_pos rfl]
      have es : (((wipe σ [j, j2]).set j (some x)).set j2 none).set j2 (some (V.int (c : Int))) = ((wipe σ [j, j2]).set j (some x)).set j2 (some (.int (c : Int))) := by simp
      have es2 : (List.set (wipe (List.set (wipe σ [j, j2]) j (some x)) [j2]) j2 (some (V.int (c : Int)))) = ((wipe σ [j, j2]).set j (some x)).set j2 (some (.int (c : Int))) := es
      rw [es2]
      refine he i c x hxi hc2 Hb e2 _ fun v He e3 dv => ⟨ws, e3 _ _ hD2, ?_, ?_, ?_, ws ++ [v], upd_same, ?_, ?_⟩
      · exact Nat.lt_of_lt_of_le (show ws.length < 3000 by omega) (by decide)
      · exact (e2.trans e3).mut new
      · rw [upd_ne (fun z => by rw [z, hD2] at ht2; cases ht2)]
        exact e3 _ _ ht2
      · rw [List.range_succ, List.map_append, ← List.append_assoc]
        refine dpAll_appG (dpAll_exG hid_upd (dpAll_exG (hid_ex e3) hw)) (.cons (dp_exG hid_upd (dp_exG (hid_nw (by rw [hD2]; simp)) dv)) .nil)
      · simp [hwl]
        omega
    · have : c = 2 := by omega
      subst this
      refine .inl ⟨⟨_, st_of ht2, Nat.le_refl _⟩, e2, ws, hD2, ?_, by omega⟩
      rw [List.range_succ, List.flatMap_append]
      have r2 : (List.range 2).map (f i) = [f i 0, f i 1] := rfl
      rw [r2] at hw
      simpa using hw
  · have : i = xs.length := by omega
    subst this
    exact .inl ⟨⟨xs, ex_l e hx, Nat.le_refl _⟩, hd D vs Hc new e hD hv⟩
end G

set_option Elab.async false
set_option linter.all false
set_option maxRecDepth 100000
set_option maxHeartbeats 4000000
/-! try with several clauses, each one with the same name behind «as». -/
namespace G
open PySem PySem.Spec PyProof.Rows L2 Evl
/-- the ends within a suite: its name, slot i, is gone behind it -/
def endsAs (i : Nat) (D : Ends) : Ends := { nx := fun σ' H' => D.nx (σ'.set i none) H', rt := D.rt, bk := fun σ' H' => D.bk (σ'.set i none) H', ct := fun σ' H' => D.ct (σ'.set i none) H' }
/-- what the clauses wish of an exception, one behind the other -/
def wAll (K : PySem.W.Frag) (i : Nat) (Wo : WX) (D : Ends) : List (Value × (Addr → Value → Option Addr → TS)) → WX
  | [] => Wo
  | (c, ts) :: r => fun cls d σ H => ∃ b, PySem.W.exmOne K cls c = some b ∧ (b = true → ∀ a, H a = none → ts a cls d (endsAs i D) (σ.set i (some (.ref a))) H) ∧ (b = false → wAll K i Wo D r cls d σ H)
/-- the clauses of a try, each with its class and its suite's reading -/
inductive Cls' (X : Cx) (n : Str) : List ExceptHandler → List (Value × (Addr → Value → Option Addr → TS)) → Prop
  | nil : Cls' X n [] []
  | cons {x : Str} {c : Value} {ts : Addr → Value → Option Addr → TS} {b0 : Stmt} {su : List Stmt} {q1 q2 : Pos} {hs : List ExceptHandler} {l : List (Value × (Addr → Value → Option Addr → TS))} (hc : Names X x c)
      (hsu : ∀ (a : Addr) (oe : Obj) (cls : Value) (d : Option Addr) (pn : List (Addr × Obj)), Zc cls d oe → (∃ vs, oe.data = .fields vs) → PSs (X.suite a ((a, oe) :: pn)) (b0 :: su) (ts a cls d))
      (r : Cls' X n hs l) : Cls' X n (.ExceptHandler (some (.Name x q1)) (some n) (b0 :: su) q2 :: hs) ((c, ts) :: l)
section
variable {X : Cx} {n : Str} {i : Nat} {body : List Stmt} {h0 : ExceptHandler} {hs : List ExceptHandler} {l : List (Value × (Addr → Value → Option Addr → TS))} {pos : Pos} {tb : WX → TS} {Wo : WX}
theorem ps_tries (hst : X.stack = X.env :: X.outer) (hfr : X.env.frame = some X.env.locals) (hN : X.N.Nodup) (hi : X.N[i]? = some n) (hln : X.env.kindOf n = some .local) (tk : Takes X Wo)
    (hb : ∀ (W : WX) (pn : List (Addr × Obj)) (xe : Value → Shared → Prop), Takes (X.tr pn xe) W → PassesOwn (model X.prog X.w) X.A X.env xe → PSs (X.tr pn xe) body (tb W))
    (hh : Cls' X n (h0 :: hs) l) : PS X (.Try body (h0 :: hs) [] [] pos) (fun D σ H => tb (wAll X.K i Wo D l) D σ H) := by
  refine ⟨fun pins s σ H D I hyp => ?_⟩
  have okX := I.ok
  have hA : X.A.frames = some (X.env :: X.outer) := okX.frames.trans (by rw [hst])
  have hlc : Loc X.env.scope n := .inl hln
  refine wpAny_Try_except ?_
  have run := (hb (wAll X.K i Wo D l) (X.pn ++ pins)
    (fun e s1 => wpAny (model X.prog X.w) X.A (noteFrame e X.env)
      (fun _ s2 => wpAny (model X.prog X.w) X.A (setFlight e none)
        (fun _ s3 => wpAny (model X.prog X.w) X.A (handleBy e X.env (h0 :: hs)) (SP X pins D) X.xe s3) X.xe s2) X.xe s1)
    (fun u s' xx => ?_) PassesOwn.looking).run [] s σ H D (I.toTry _) hyp
  · refine wpAny_mono run (fun fl s1 hsp => ?_) fun _ _ z => z
    match fl, hsp with
    | .next, ⟨σ', H', J, q⟩ => exact wpAny_execs_nil ⟨σ', H', J.ofTry okX, q⟩
    | .brk, ⟨σ', H', J, q⟩ => exact ⟨σ', H', J.ofTry okX, q⟩
    | .cont, ⟨σ', H', J, q⟩ => exact ⟨σ', H', J.ofTry okX, q⟩
    | .ret _, ⟨v, σ', H', J, r, q⟩ => exact ⟨v, σ', H', J.ofTry okX, r, q⟩
  · obtain ⟨a, B, sI, pins', σ', H', cls, d, rfl, J', nb, up, sky0, na, hos, hag, wish⟩ := xx
    have J : Inv X pins σ' H' sI := J'.ofTry okX
    have sky : Sky B (X.env :: X.outer) a (Zc cls d) X.env.locals s'.heap := hst ▸ sky0
    show wpAny (model X.prog X.w) X.A (noteFrame (.ref a) X.env) _ _ _
    refine Sky.land Zc.steady hA hfr sky fun h3 f3 u3 => ?_
    have J3 : Inv X pins σ' H' { s' with heap := h3 } := J.landed nb f3.1 (up.trans u3) hos hag
    obtain ⟨oe3, vs3, he3, hz3, hd3⟩ := f3.there
    have nofr : a ∉ frs (X.env :: X.outer) := fun hm => by
      obtain ⟨_, o1, e1, hno⟩ := f3.2.2.1.mem hm
      rw [he3] at e1
      cases e1
      exact hno _ hd3
    have nL : a ≠ X.env.locals := fun z => nofr (List.mem_filterMap.mpr ⟨X.env, List.mem_cons_self, by rw [hfr, z]⟩)
    have nF : a ∉ X.fs := fun hm => by
      obtain ⟨ev, hev, hq⟩ := List.mem_filterMap.mp hm
      exact nofr (List.mem_filterMap.mpr ⟨ev, List.mem_cons_of_mem _ hev, hq⟩)
    have S3 := J3.suite he3 hd3 na nL nF
    have LT : PySem.W.Looks (model X.prog X.w) h3 (typeOf (.ref a)) cls := fun A Q E s k q => wpAny_typeOf_ref (k _ _ he3) (by rw [hz3.1]; exact q)
    have try1 : ∀ {hds : List ExceptHandler} {ll : List (Value × (Addr → Value → Option Addr → TS))}, Cls' X n hds ll → wAll X.K i Wo D ll cls d σ' H' →
        wpAny (model X.prog X.w) X.A (handleBy (.ref a) X.env hds) (SP X pins D) X.xe { s' with heap := h3 } := by
      intro hds ll hk
      induction hk with
      | nil =>
        intro wi
        refine wpAny_handleBy_nil ?_
        obtain ⟨_, _, _, oe, vs, TT, oT, ts', he, hz, hd, h1, hr⟩ := id f3
        unfold PySem.passOn
        refine wpAny_bind (wpAny_field he hd h1 ?_)
        rw [if_neg (show ¬ ((Value.ref TT == Value.none) = true) from by simp)]
        have out : wpAny (model X.prog X.w) X.A (setFlight (.ref a) X.env.frame) (fun _ s4 => wpAny (model X.prog X.w) X.A (throw (.ref a) : Sem Flow) (SP X pins D) X.xe s4) X.xe { s' with heap := h3 } := by
          rw [hfr]
          refine HandSPX.setFlight_upZ f3 fun h4 g4 u4 => wpAny_throw (tk _ _ ⟨a, B, sI, pins, σ', H', cls, d, rfl, J, nb, (up.trans u3).trans u4, .inr (.inr (by rw [hst]; exact g4)), na, hos, hag, wi⟩)
        first
          | exact wpAny_bind (wpAny_pure (wpAny_bind out))
          | exact wpAny_bind out
      | @cons x c ts b0 su q1 q2 hs2 l2 hc hsu r ih =>
        intro wi
        obtain ⟨b, hb1, yes, no⟩ := wi
        refine wpAny_handleBy_cons (codeAny_handlers_test ?_) (by intro q; cases q)
        have LM := PySem.W.exm_one (M := model X.prog X.w) (J3.kIn) LT hb1
        have test : ∀ {Q : Value → Shared → Prop} {E : Value → Shared → Prop}, Q c { s' with heap := h3 } →
            wpAny (model X.prog X.w) (X.A.mark (some (.ref a))) (eval (.Name x q1) X.env) Q E { s' with heap := h3 } := fun {Q E} q => by
          obtain ⟨hg, hdbg, hm | ⟨hm, hv, hnn⟩⟩ := hc
          · exact ld_glob (X := X.suite a ((a, oe3) :: (X.pn ++ pins))) S3 hg hm q hdbg
          · exact ld_blt (X := X.suite a ((a, oe3) :: (X.pn ++ pins))) S3 hg hm hv q hnn hdbg
        refine test (LM.here ?_)
        cases b with
        | false => exact ih (no rfl)
        | true =>
          refine codeAny_handlers_suite_as (HandSPX.lands_againZ f3 fun h4 f4 u4 => ?_)
          have J4 : Inv X pins σ' H' { s' with heap := h4 } := J.landed nb f4.1 ((up.trans u3).trans u4) hos hag
          obtain ⟨oe4, vs4, he4, hz4, hd4⟩ := f4.there
          have S4 := J4.suite he4 hd4 na nL nF
          refine store_ok (X := X.suite a ((a, oe4) :: (X.pn ++ pins))) (v := .ref a) S4 hN hi hlc rfl (fun s5 S5 => ?_) (.inr hln)
          refine wpAny_mono ((hsu a oe4 cls d (X.pn ++ pins) hz4 ⟨_, hd4⟩).run [] s5 _ H' _ S5 (yes rfl a na)) (fun fl s6 hsp => ?_) (fun _ _ z => z.elim)
          have gone : ∀ {σ6 : L2.St} {H6 : Hp} {Q : Shared → Prop}, Inv (X.suite a ((a, oe4) :: (X.pn ++ pins))) [] σ6 H6 s6 → (∀ s7, Inv X pins (σ6.set i none) H6 s7 → Q s7) →
              wpAny (model X.prog X.w) X.A (do bindName X.env n .none; unbindBehindTheSuite X.env n q2) (fun _ s7 => Q s7) X.xe s6 := fun {σ6 H6 Q} S6 hq => gone_ok (S6.unsuite okX) hN hi hln hq
          match fl, hsp with
          | .next, ⟨_, _, S6, q6⟩ => exact gone S6 fun s7 J7 => ⟨_, _, J7, q6⟩
          | .brk, ⟨_, _, S6, q6⟩ => exact gone S6 fun s7 J7 => ⟨_, _, J7, q6⟩
          | .cont, ⟨_, _, S6, q6⟩ => exact gone S6 fun s7 J7 => ⟨_, _, J7, q6⟩
          | .ret _, ⟨_, _, _, S6, r6, q6⟩ => exact gone S6 fun s7 J7 => ⟨_, _, _, J7, r6, q6⟩
    exact try1 hh wish
end
end G

set_option Elab.async false
set_option linter.all false
set_option maxRecDepth 100000
set_option maxHeartbeats 4000000
namespace W
open PySem PySem.Spec PyProof.Rows L2 Evl G
/-- the text by places -/
def top (i : Nat) : Stmt := PySem.Challenge.pw_wirewords_k10_bits_names_letters_and_kin.main.body.getD i (.Pass ⟨0, 0, 0, 0⟩)
abbrev dInteger : Stmt := top 19
abbrev dCount : Stmt := top 20
abbrev dBit : Stmt := top 21
abbrev dName : Stmt := top 22
abbrev dList : Stmt := top 23
abbrev dLetter : Stmt := top 24
abbrev dWord : Stmt := top 25
abbrev dKind : Stmt := top 26
abbrev dAllBits : Stmt := top 27
abbrev dLetters : Stmt := top 28
abbrev dNumberOf : Stmt := top 29
abbrev dBitOf : Stmt := top 30
abbrev dSays : Stmt := top 31
abbrev dPot : Stmt := top 33
abbrev dDraw : Stmt := top 34
abbrev dPick : Stmt := top 35
abbrev dHeard : Stmt := top 37
abbrev dLName : Stmt := top 38
abbrev dLBit : Stmt := top 39
abbrev dLLetter : Stmt := top 40
abbrev dLWord : Stmt := top 41
abbrev dValues : Stmt := top 42
abbrev dValuesR : Stmt := top 43
abbrev dLettersR : Stmt := top 44
abbrev dLonger : Stmt := top 45
abbrev dSaidBy : Stmt := top 46
abbrev dKindsR : Stmt := top 47
abbrev dErrorsR : Stmt := top 48
abbrev dLaw : Stmt := top 49
/-- what the top has left of names -/
structure Names (mg : Str → Option Value) : Prop where
  isinstance : mg "isinstance" = none
  int : mg "int" = none
  bool : mg "bool" = none
  str : mg "str" = none
  list : mg "list" = none
  tuple : mg "tuple" = none
  len : mg "len" = none
  all : mg "all" = none
  abs : mg "abs" = none
  max : mg "max" = none
  divmod : mg "divmod" = none
  range : mg "range" = none
  repr : mg "repr" = none
  sum : mg "sum" = none
  dict : mg "dict" = none
  valueError : mg "ValueError" = none
  small : ∃ t, mg "SMALL" = some (.str "abcdefghijklmnopqrstuvwxyz" t)
  digits : ∃ t, mg "DIGITS" = some (.str "0123456789" t)
  longest : ∃ t, mg "LONGEST_NAME" = some (.int 12 t)
  greatest : ∃ t, mg "GREATEST_WIDTH" = some (.int 8 t)
/-- a def of the module's top, where it stands -/
structure At (K : PySem.W.Frag) (mg : Str → Option Value) (x : Str) (de : Stmt) (ps : List Str) (f : Addr) (fd : FuncData) : Prop where
  fn : Fun K x x de f fd
  gl : mg x = some (.ref f)
  bi : Binds K fd ps []
/-- a test of a datum -/
def spT (K : PySem.W.Frag) (g : PyData → Bool) : Sp := fun vs H Q _ => ∃ x d, vs = [x] ∧ Dd K H x d ∧ ∀ H', Ex H H' → Q (.bl (g d)) H'
/-- a test of a datum, and a width -/
def spW (K : PySem.W.Frag) (g : PyData → Nat → Bool) : Sp := fun vs H Q _ => ∃ (x : V) (d : PyData) (n : Nat), vs = [x, .int (n : Int)] ∧ Dd K H x d ∧ n ≤ 100 ∧ ∀ H', Ex H H' → Q (.bl (g d n)) H'
def isInteger (d : PyData) : Bool := isI d && !isB d
def isCount : PyData → Bool | .int i => decide (0 ≤ i) | _ => false
def isBit : PyData → Bool | .int i => decide (0 ≤ i) && decide (i ≤ 1) | _ => false
/-- a built-in type as a value -/
theorem pTy {X : Cx} {x : Str} (T : String) {pos : Pos} (hg : Gl X x) (hm : X.mg x = none) (hv : bootBuiltins x = some (.type T)) (hn : x ≠ "__name__" := by decide) (hd : (x == ("__debug__" : Str)) = false := by decide) : PE X (.Name x pos) (tC (.ty T)) :=
  pe_bltn hg hm hv rfl hn hd
theorem pGs {X : Cx} {x z : Str} {t : Tok} {pos : Pos} (hg : Gl X x) (hm : X.mg x = some (.str z t)) (hd : (x == ("__debug__" : Str)) = false := by decide) : PE X (.Name x pos) (tC (.str z)) := pe_glob hg hm ⟨t, rfl⟩ hd
theorem pGi {X : Cx} {x : Str} {i : Int} {t : Tok} {pos : Pos} (hg : Gl X x) (hm : X.mg x = some (.int i t)) (hd : (x == ("__debug__" : Str)) = false := by decide) : PE X (.Name x pos) (tC (.int i)) := pe_glob hg hm ⟨t, rfl⟩ hd
/-- isinstance(x, T) of two arguments -/
abbrev tIsi (K : PySem.W.Frag) (i : Nat) (T : String) : TE := tCB (rIsi K) (tCons (tVar i) (tCons (tC (.ty T)) tNil))
theorem rd_isi {K : PySem.W.Frag} {i : Nat} {T : String} {σ : L2.St} {H : Hp} {Q : VK} {x : V} {d : PyData} {b : Bool} (hs : σ[i]? = some (some x)) (hd : Dd K H x d) (hk : kitB (tyD d) T = some b) (h : Q (.bl b) H) : tIsi K i T σ H Q :=
  ⟨x, hs, x, _, _, _, b, rfl, .ty _, hd.ty, kit_ty hk, h⟩
/-- what the top has left: the names, the defs -/
structure Txt (K : PySem.W.Frag) (mg : Str → Option Value) : Prop extends Names mg where
  integer : ∃ f fd, At K mg "is_integer" dInteger ["value"] f fd
  count : ∃ f fd, At K mg "is_count" dCount ["value"] f fd
  bit : ∃ f fd, At K mg "is_bit" dBit ["value"] f fd
  name : ∃ f fd, At K mg "is_name" dName ["value"] f fd
  lst : ∃ f fd, At K mg "is_list" dList ["value"] f fd
  letter : ∃ f fd, At K mg "is_letter" dLetter ["value", "width"] f fd
  word : ∃ f fd, At K mg "is_word" dWord ["value", "width"] f fd
  kind : ∃ f fd, At K mg "is_kind" dKind ["value"] f fd
  allBits : ∃ f fd, At K mg "all_bits" dAllBits ["width"] f fd
  letters : ∃ f fd, At K mg "letters" dLetters ["width"] f fd
  numberOf : ∃ f fd, At K mg "number_of" dNumberOf ["bits"] f fd
  bitOf : ∃ f fd, At K mg "bit_of" dBitOf ["kind", "bits"] f fd
  says : ∃ f fd, At K mg "says" dSays ["kind", "bits"] f fd
  pot : ∃ f fd, At K mg "_law_pot" dPot ["_law_script", "_law_k"] f fd
  draw : ∃ f fd, At K mg "_law_draw" dDraw ["_law_pot_here", "_law_many"] f fd
  pick : ∃ f fd, At K mg "_law_pick" dPick ["_law_pot_here", "_law_some"] f fd
  heard : ∃ f fd, At K mg "_law_heard" dHeard ["_law_call"] f fd
  lName : ∃ f fd, At K mg "_law_is_name" dLName ["_law_thing"] f fd
  lBit : ∃ f fd, At K mg "_law_is_bit" dLBit ["_law_thing"] f fd
  lLetter : ∃ f fd, At K mg "_law_is_letter" dLLetter ["_law_thing", "_law_many"] f fd
  lWord : ∃ f fd, At K mg "_law_is_word" dLWord ["_law_thing", "_law_many"] f fd
  values : ∃ f fd, At K mg "_law_values" dValues ["_law_pot_here"] f fd
  valuesR : ∃ f fd, At K mg "_law_values_right" dValuesR ["_law_pot_here"] f fd
  lettersR : ∃ f fd, At K mg "_law_letters_right" dLettersR [] f fd
  longer : ∃ f fd, At K mg "_law_longer" dLonger ["_law_some"] f fd
  saidBy : ∃ f fd, At K mg "_law_said_by" dSaidBy ["_law_sort", "_law_row"] f fd
  kindsR : ∃ f fd, At K mg "_law_kinds_right" dKindsR [] f fd
  errorsR : ∃ f fd, At K mg "_law_errors_right" dErrorsR [] f fd
section
variable {K : PySem.W.Frag} {H H' : Hp} {x : V} {d : PyData} {σ : L2.St} {Q : VK} {g : PyData → Bool}
mutual
theorem dp_ex (e : Ex H H') : ∀ {d : PyData} {x : V}, Dp K H x d → Dp K H' x d
  | .none, _, h => by cases h; exact .non
  | .bool b, _, h => by cases h; exact .bl b
  | .int i, _, h => by cases h; exact .int i
  | .str z, _, h => by cases h; exact .str z
  | .list ds, _, h => by
    cases h with
    | lst hs a => exact .lst (ex_l e hs) (dpAll_ex e a)
  | .tuple ds, _, h => by
    cases h with
    | tup hs a => exact .tup (ex_t e hs) (dpAll_ex e a)
  | .dict _, _, h => by cases h
theorem dpAll_ex (e : Ex H H') : ∀ {ds : List PyData} {xs : List V}, DpAll K H xs ds → DpAll K H' xs ds
  | [], _, h => by cases h; exact .nil
  | d :: ds, _, h => by
    cases h with
    | cons a b => exact .cons (dp_ex e a) (dpAll_ex e b)
end
theorem dd_ex (e : Ex H H') (h : Dd K H x d) : Dd K H' x d := by
  cases h with
  | dp q => exact .dp (dp_ex e q)
  | dk q k => exact .dk (e _ _ q) k
theorem dpAll_at : ∀ {xs : List V} {ds : List PyData} {i : Nat} {x : V}, DpAll K H xs ds → xs[i]? = some x → ∃ d, ds[i]? = some d ∧ Dp K H x d
  | _, _, _, _, .nil, e => by simp at e
  | _, _, 0, _, .cons a b, e => by
    simp at e
    subst e
    exact ⟨_, rfl, a⟩
  | _, _, i + 1, x, .cons a b, e => by
    obtain ⟨d, e1, e2⟩ := dpAll_at (i := i) (x := x) b (by simpa using e)
    exact ⟨d, by simpa using e1, e2⟩
theorem dpAll_len : ∀ {xs : List V} {ds : List PyData}, DpAll K H xs ds → xs.length = ds.length
  | _, _, .nil => rfl
  | _, _, .cons _ b => by simp [dpAll_len b]
/-- f(x), f a test -/
theorem rd_t {i : Nat} {E : XK} (hs : σ[i]? = some (some x)) (hd : Dd K H x d) (h : ∀ H', Ex H H' → Q (.bl (g d)) H') : tCall (spT K g) [] E (tCons (tVar i) tNil) σ H Q := ⟨x, hs, x, d, rfl, hd, h⟩
end
end W

set_option Elab.async false
set_option linter.all false
set_option maxRecDepth 100000
set_option maxHeartbeats 4000000
namespace W
open PySem PySem.Spec PyProof.Rows L2 Evl G
section
variable {P : Program} {w : World} {K : PySem.W.Frag} {mg : Str → Option Value} {base : Heap}
theorem scInteger : FnScope ["value"] ["value"] (defScope dInteger) := ⟨rfl, rfl, rfl, by decide +kernel, rfl, by decide +kernel, by decide +kernel⟩
theorem okInteger {f : Addr} {fd : FuncData} (F : At K mg "is_integer" dInteger ["value"] f fd) (T : Txt K mg) : FnOk P w K mg base CX0 1 f fd ["value"] (spT K isInteger) := by
  refine F.fn.ok scInteger (fun vs H Q E h => ?_) (fun cdv A outer s H vs Q E hr h => ?_)
  · obtain ⟨x, d, rfl, _⟩ := h
    rfl
  · obtain ⟨x, d, rfl, hd, k⟩ := h
    refine ⟨_, pss_one (ps_ret (pe_and (pe_callB call_isi (by rfl) T.isinstance (by decide +kernel) (pa_cons (pv 0) (pa_cons (pTy "int" (by rfl) T.int (by decide +kernel)) pa_nil)))
      (pe_one (pe_not (pe_callB call_isi (by rfl) T.isinstance (by decide +kernel) (pa_cons (pv 0) (pa_cons (pTy "bool" (by rfl) T.bool (by decide +kernel)) pa_nil))))))), ?_⟩
    refine ⟨_, rfl, x, _, _, _, _, rfl, .ty _, hd.ty, kit_ty (kit_I d), _, rfl, ?_⟩
    cases e : isI d with
    | false =>
      refine iteF ?_
      have e2 : isInteger d = false := by unfold isInteger; rw [e]; rfl
      have q := k H (Ex.refl H)
      rw [e2] at q
      exact q
    | true =>
      refine iteT ?_
      refine ⟨_, rfl, x, _, _, _, _, rfl, .ty _, hd.ty, kit_ty (kit_B d), _, rfl, ?_⟩
      have e2 : isInteger d = !isB d := by unfold isInteger; rw [e]; rfl
      have q := k H (Ex.refl H)
      rw [e2] at q
      exact q
theorem scCount : FnScope ["value"] ["value"] (defScope dCount) := ⟨rfl, rfl, rfl, by decide +kernel, rfl, by decide +kernel, by decide +kernel⟩
theorem okCount {f : Addr} {fd : FuncData} (F : At K mg "is_count" dCount ["value"] f fd) (T : Txt K mg) : FnOk P w K mg base CX0 2 f fd ["value"] (spT K isCount) := by
  obtain ⟨fI, fdI, FI⟩ := T.integer
  have GI : FnOk P w K mg base CX0 1 fI fdI ["value"] (spT K isInteger) := okInteger FI T
  refine F.fn.ok scCount (fun vs H Q E h => ?_) (fun cdv A outer s H vs Q E hr h => ?_)
  · obtain ⟨x, d, rfl, _⟩ := h
    rfl
  · obtain ⟨x, d, rfl, hd, k⟩ := h
    refine ⟨_, pss_one (ps_ret (pe_and (pe_call GI hr (by rfl) FI.gl FI.fn.kp FI.bi .nil pass0 (pa_cons (pv 0) pa_nil)) (pe_one (pe_cmpR op_ge (pv 0) pe_int (nomark _))))), ?_⟩
    refine rd_t rfl hd fun H1 e1 => ⟨_, rfl, ?_⟩
    have kk := k H1 e1
    cases e : isInteger d with
    | false =>
      have e2 : isCount d = false := by cases d <;> first | rfl | (simp [isInteger, isI, isB] at e)
      rw [e2] at kk
      exact iteF kk
    | true =>
      refine iteT ?_
      obtain ⟨i, rfl⟩ : ∃ i, d = .int i := by cases d <;> first | exact ⟨_, rfl⟩ | (simp [isInteger, isI, isB] at e)
      cases hd with
      | dp z =>
        cases z
        exact ⟨_, rfl, _, _, rfl, rfl, kk⟩
theorem scBit : FnScope ["value"] ["value"] (defScope dBit) := ⟨rfl, rfl, rfl, by decide +kernel, rfl, by decide +kernel, by decide +kernel⟩
theorem okBit {f : Addr} {fd : FuncData} (F : At K mg "is_bit" dBit ["value"] f fd) (T : Txt K mg) : FnOk P w K mg base CX0 2 f fd ["value"] (spT K isBit) := by
  obtain ⟨fI, fdI, FI⟩ := T.integer
  have GI : FnOk P w K mg base CX0 1 fI fdI ["value"] (spT K isInteger) := okInteger FI T
  refine F.fn.ok scBit (fun vs H Q E h => ?_) (fun cdv A outer s H vs Q E hr h => ?_)
  · obtain ⟨x, d, rfl, _⟩ := h
    rfl
  · obtain ⟨x, d, rfl, hd, k⟩ := h
    refine ⟨_, pss_one (ps_ret (pe_and (pe_call GI hr (by rfl) FI.gl FI.fn.kp FI.bi .nil pass0 (pa_cons (pv 0) pa_nil)) (pe_one (pe_chain op_le op_le pe_int (pv 0) pe_int)))), ?_⟩
    refine rd_t rfl hd fun H1 e1 => ⟨_, rfl, ?_⟩
    have kk := k H1 e1
    cases e : isInteger d with
    | false =>
      have e2 : isBit d = false := by cases d <;> first | rfl | (simp [isInteger, isI, isB] at e)
      rw [e2] at kk
      exact iteF kk
    | true =>
      refine iteT ?_
      obtain ⟨i, rfl⟩ : ∃ i, d = .int i := by cases d <;> first | exact ⟨_, rfl⟩ | (simp [isInteger, isI, isB] at e)
      cases hd with
      | dp z =>
        cases z
        have e3 : isBit (.int i) = (decide (0 ≤ i) && decide (i ≤ 1)) := rfl
        rw [e3] at kk
        refine ⟨_, rfl, _, _, rfl, rfl, _, rfl, ?_⟩
        cases e4 : decide ((0 : Int) ≤ i) with
        | false =>
          rw [e4] at kk
          exact iteF kk
        | true =>
          rw [e4] at kk
          exact iteT ⟨_, _, rfl, rfl, kk⟩
end
end W

set_option Elab.async false
set_option linter.all false
set_option maxRecDepth 100000
set_option maxHeartbeats 4000000
namespace W
open PySem PySem.Spec PyProof.Rows L2 Evl G
def isList (d : PyData) : Bool := isL d || isT d
def isLetter (d : PyData) (n : Nat) : Bool := match d with
  | .tuple ds => decide (ds.length = n) && ds.all isBit
  | _ => false
def isWord (d : PyData) (n : Nat) : Bool := match d with
  | .tuple ds => ds.all fun d => isLetter d n
  | .list ds => ds.all fun d => isLetter d n
  | _ => false
section
variable {P : Program} {w : World} {K : PySem.W.Frag} {mg : Str → Option Value} {base : Heap}
theorem scList : FnScope ["value"] ["value"] (defScope dList) := ⟨rfl, rfl, rfl, by decide +kernel, rfl, by decide +kernel, by decide +kernel⟩
theorem okList {f : Addr} {fd : FuncData} (F : At K mg "is_list" dList ["value"] f fd) (T : Txt K mg) : FnOk P w K mg base CX0 1 f fd ["value"] (spT K isList) := by
  refine F.fn.ok scList (fun vs H Q E h => ?_) (fun cdv A outer s H vs Q E hr h => ?_)
  · obtain ⟨x, d, rfl, _⟩ := h
    rfl
  · obtain ⟨x, d, rfl, hd, k⟩ := h
    refine ⟨_, pss_one (ps_ret (pe_callB call_isiT (by rfl) T.isinstance (by decide +kernel) (pa_cons (pv 0) (pa_cons (pe_tup (pa_cons (pTy "list" (by rfl) T.list (by decide +kernel)) (pa_cons (pTy "tuple" (by rfl) T.tuple (by decide +kernel)) pa_nil))) pa_nil)))), ?_⟩
    refine ⟨_, rfl, (by show 2 ≤ sizeLine; decide), fun p hp => ?_⟩
    have e1 : Ex H (upd H p (.tup [.ty "list", .ty "tuple"])) := Ex.new hp
    refine ⟨x, p, _, _, [.type "list", .type "tuple"], isList d, rfl, upd_same, .cons (.ty _) (.cons (.ty _) .nil), (dd_ex e1 hd).ty, ?_, k _ e1⟩
    refine kitAny_cons (kit_ty (kit_L d)) (fun e => kitAny_cons (kit_ty (kit_T d)) (fun e2 => ?_) (fun e2 => ?_)) (fun e => ?_)
    · have z : isList d = false := by unfold isList; rw [e, e2]; rfl
      rw [z]
      exact kitAny_nil
    · unfold isList
      rw [e2]
      simp
    · unfold isList
      rw [e]
      rfl
theorem scLetter : FnScope ["value", "width", "bit"] ["value", "width"] (defScope dLetter) := ⟨rfl, rfl, rfl, by decide +kernel, rfl, by decide +kernel, by decide +kernel⟩
theorem okLetter {f : Addr} {fd : FuncData} (F : At K mg "is_letter" dLetter ["value", "width"] f fd) (T : Txt K mg) : FnOk P w K mg base CX0 3 f fd ["value", "width"] (spW K isLetter) := by
  obtain ⟨fB, fdB, FB⟩ := T.bit
  have GB : FnOk P w K mg base CX0 2 fB fdB ["value"] (spT K isBit) := okBit FB T
  refine F.fn.ok scLetter (fun vs H Q E h => ?_) (fun cdv A outer s H vs Q E hr h => ?_)
  · obtain ⟨x, d, n, rfl, _⟩ := h
    rfl
  · obtain ⟨x, d, n, rfl, hd, hn, k⟩ := h
    refine ⟨_, pss_one (ps_ret (pe_and (pe_callB call_isi (by rfl) T.isinstance (by decide +kernel) (pa_cons (pv 0) (pa_cons (pTy "tuple" (by rfl) T.tuple (by decide +kernel)) pa_nil)))
      (pe_and (pe_cmpR op_eq (pe_callB call_len_seq (by rfl) T.len PySem.boot_len (pa_cons (pv 0) pa_nil)) (pv 1) (nomark _))
      (pe_one (pe_callB (cr_all rfl) (by rfl) T.all (by decide +kernel) (pa_cons (pe_lc (own := [("bit", 2)]) (g := gName 2) (by rfl) scLetter.nd (pi_tup (pv 0)) (blkOk_by (own := [("bit", 2)]) (N := ["value", "width", "bit"]) (sc := defScope dLetter) (by decide +kernel))
        (fun _ _ _ _ _ => pg_name (i := 2) scLetter.nd rfl (Or.inl rfl)) (fun _ _ _ _ _ => pts_nil) (fun _ _ _ _ _ => pe_call GB hr (by rfl) FB.gl FB.fn.kp FB.bi .nil pass0 (pa_cons (pv 2) pa_nil))) pa_nil)))))), ?_⟩
    refine rd_isi (K := K) (i := 0) (T := "tuple") rfl hd (kit_T d) ⟨_, rfl, ?_⟩
    cases e : isT d with
    | false =>
      have kk := k H (Ex.refl H)
      have e2 : isLetter d n = false := by cases d <;> first | rfl | (simp [isT] at e)
      rw [e2] at kk
      exact iteF kk
    | true =>
      obtain ⟨ds, rfl⟩ : ∃ ds, d = .tuple ds := by cases d <;> first | exact ⟨_, rfl⟩ | (simp [isT] at e)
      refine iteT ?_
      cases hd with
      | dp z =>
        cases z with
        | @tup a xs _ hs ha =>
          have hl := dpAll_len ha
          refine ⟨_, rfl, a, xs, rfl, .inr hs, _, rfl, rfl, _, rfl, ?_⟩
          have e3 : isLetter (.tuple ds) n = (decide (ds.length = n) && ds.all isBit) := rfl
          rw [e3] at k
          by_cases c : ds.length = n
          · have c' : decide ((V.int (xs.length : Int)) = V.int (n : Int)) = true := by
              rw [hl, c]
              exact decide_eq_true rfl
            rw [c']
            refine iteT ?_
            rw [decide_eq_true c] at k
            refine ⟨_, rfl, a, rfl, ⟨_, hs⟩, fun D new => ?_⟩
            refine lc_data (K := K) (ds := ds) walk_tup isBit (by omega) (fun H' e => ex_t e hs) ha (fun x d hx => ?_) (fun i x e => dpAll_at ha e) new (fun H' e q => ?_)
            · intro H1 e1 Q1 q1
              exact rd_t (i := 2) rfl (.dp (dp_ex e1 hx)) q1
            · refine ⟨D, ds.map isBit, rfl, .inl (.inl q), ?_⟩
              have kk := k H' e
              have e5 : (ds.map isBit).all id = ds.all isBit := by rw [List.all_map]; rfl
              rw [e5]
              simpa using kk
          · have c' : decide ((V.int (xs.length : Int)) = V.int (n : Int)) = false := by
              rw [hl]
              refine decide_eq_false fun z => c ?_
              have := V.int.inj z
              omega
            rw [c']
            have kk := k H (Ex.refl H)
            rw [decide_eq_false c] at kk
            exact iteF kk
end
end W

set_option Elab.async false
set_option linter.all false
set_option maxRecDepth 100000
set_option maxHeartbeats 4000000
namespace W
open PySem PySem.Spec PyProof.Rows L2 Evl G
def szD : PyData → Nat
  | .list ds => ds.length
  | .tuple ds => ds.length
  | _ => 0
theorem isWord_no {d : PyData} {n : Nat} (e : isL d = false) (e0 : isT d = false) : isWord d n = false := by
  cases d with
  | list ds => cases e
  | tuple ds => cases e0
  | _ => rfl
def spWs (K : PySem.W.Frag) (g : PyData → Nat → Bool) : Sp := fun vs H Q _ => ∃ (x : V) (d : PyData) (n : Nat), vs = [x, .int (n : Int)] ∧ Dd K H x d ∧ n ≤ 100 ∧ szD d ≤ 1000 ∧ ∀ H', Ex H H' → Q (.bl (g d n)) H'
section
variable {P : Program} {w : World} {K : PySem.W.Frag} {mg : Str → Option Value} {base : Heap}
theorem rd_w {H : Hp} {σ : L2.St} {Q : VK} {g : PyData → Nat → Bool} {x : V} {d : PyData} {n : Nat} {i j : Nat} {E : XK} (hs : σ[i]? = some (some x)) (hj : σ[j]? = some (some (.int (n : Int)))) (hd : Dd K H x d) (hn : n ≤ 100) (h : ∀ H', Ex H H' → Q (.bl (g d n)) H') :
    tCall (spW K g) [] E (tCons (tVar i) (tCons (tVar j) tNil)) σ H Q := ⟨x, hs, .int (n : Int), hj, x, d, n, rfl, hd, hn, h⟩
theorem scWord : FnScope ["value", "width", "letter"] ["value", "width"] (defScope dWord) := ⟨rfl, rfl, rfl, by decide +kernel, rfl, by decide +kernel, by decide +kernel⟩
theorem okWord {f : Addr} {fd : FuncData} (F : At K mg "is_word" dWord ["value", "width"] f fd) (T : Txt K mg) : FnOk P w K mg base CX0 4 f fd ["value", "width"] (spWs K isWord) := by
  obtain ⟨fL, fdL, FL⟩ := T.lst
  obtain ⟨fB, fdB, FB⟩ := T.letter
  have GL : FnOk P w K mg base CX0 1 fL fdL ["value"] (spT K isList) := okList FL T
  have GB : FnOk P w K mg base CX0 3 fB fdB ["value", "width"] (spW K isLetter) := okLetter FB T
  refine F.fn.ok scWord (fun vs H Q E h => ?_) (fun cdv A outer s H vs Q E hr h => ?_)
  · obtain ⟨x, d, n, rfl, _⟩ := h
    rfl
  · obtain ⟨x, d, n, rfl, hd, hn, hz, k⟩ := h
    have hr1 : Room 1 _ := hr.mono (by decide)
    cases e : isL d with
    | true =>
      obtain ⟨ds, rfl⟩ : ∃ ds, d = .list ds := by cases d <;> first | exact ⟨_, rfl⟩ | (simp [isL] at e)
      refine ⟨_, pss_one (ps_ret (pe_and (pe_call GL hr1 (by rfl) FL.gl FL.fn.kp FL.bi .nil pass0 (pa_cons (pv 0) pa_nil))
        (pe_one (pe_callB (cr_all rfl) (by rfl) T.all (by decide +kernel) (pa_cons (pe_lc (own := [("letter", 2)]) (g := gName 2) (by rfl) scWord.nd (pi_list (pv 0)) (blkOk_by (own := [("letter", 2)]) (N := ["value", "width", "letter"]) (sc := defScope dWord) (by decide +kernel))
          (fun _ _ _ _ _ => pg_name (i := 2) scWord.nd rfl (Or.inl rfl)) (fun _ _ _ _ _ => pts_nil) (fun _ _ _ _ _ => pe_call GB hr (by rfl) FB.gl FB.fn.kp FB.bi .nil pass0 (pa_cons (pv 2) (pa_cons (pv 1) pa_nil)))) pa_nil))))), ?_⟩
      refine rd_t rfl hd fun H1 e1 => ⟨true, rfl, iteT ?_⟩
      have hd1 := dd_ex e1 hd
      cases hd1 with
      | dp z =>
        cases z with
        | @lst a xs _ hs ha =>
          have hl := dpAll_len ha
          refine ⟨_, rfl, a, rfl, ⟨_, hs⟩, fun D new => ?_⟩
          refine lc_data (K := K) (ds := ds) walk_list (fun d => isLetter d n) (by have : ds.length ≤ 1000 := hz; omega) (fun H' e => ex_l e hs) ha (fun x d hx => ?_) (fun i x e => dpAll_at ha e) new (fun H' e q => ?_)
          · intro H2 e2 Q1 q1
            exact rd_w (i := 2) (j := 1) rfl rfl (.dp (dp_ex e2 hx)) hn q1
          · refine ⟨D, ds.map (fun d => isLetter d n), rfl, .inl (.inl q), ?_⟩
            have kk := k H' (e1.trans e)
            have e5 : (ds.map (fun d => isLetter d n)).all id = ds.all (fun d => isLetter d n) := by rw [List.all_map]; rfl
            rw [e5]
            exact kk
    | false =>
      refine ⟨_, pss_one (ps_ret (pe_and (pe_call GL hr1 (by rfl) FL.gl FL.fn.kp FL.bi .nil pass0 (pa_cons (pv 0) pa_nil))
        (pe_one (pe_callB (cr_all rfl) (by rfl) T.all (by decide +kernel) (pa_cons (pe_lc (own := [("letter", 2)]) (g := gName 2) (by rfl) scWord.nd (pi_tup (pv 0)) (blkOk_by (own := [("letter", 2)]) (N := ["value", "width", "letter"]) (sc := defScope dWord) (by decide +kernel))
          (fun _ _ _ _ _ => pg_name (i := 2) scWord.nd rfl (Or.inl rfl)) (fun _ _ _ _ _ => pts_nil) (fun _ _ _ _ _ => pe_call GB hr (by rfl) FB.gl FB.fn.kp FB.bi .nil pass0 (pa_cons (pv 2) (pa_cons (pv 1) pa_nil)))) pa_nil))))), ?_⟩
      refine rd_t rfl hd fun H1 e1 => ⟨_, rfl, ?_⟩
      cases e0 : isT d with
      | false =>
        have kk := k H1 e1
        have e2 : isWord d n = false := isWord_no e e0
        have e3 : isList d = false := by unfold isList; rw [e, e0]; rfl
        rw [e2] at kk
        rw [e3]
        exact iteF kk
      | true =>
        obtain ⟨ds, rfl⟩ : ∃ ds, d = .tuple ds := by cases d <;> first | exact ⟨_, rfl⟩ | (simp [isT] at e0)
        refine iteT ?_
        have hd1 := dd_ex e1 hd
        cases hd1 with
        | dp z =>
          cases z with
          | @tup a xs _ hs ha =>
            have hl := dpAll_len ha
            refine ⟨_, rfl, a, rfl, ⟨_, hs⟩, fun D new => ?_⟩
            refine lc_data (K := K) (ds := ds) walk_tup (fun d => isLetter d n) (by have : ds.length ≤ 1000 := hz; omega) (fun H' e => ex_t e hs) ha (fun x d hx => ?_) (fun i x e => dpAll_at ha e) new (fun H' e q => ?_)
            · intro H2 e2 Q1 q1
              exact rd_w (i := 2) (j := 1) rfl rfl (.dp (dp_ex e2 hx)) hn q1
            · refine ⟨D, ds.map (fun d => isLetter d n), rfl, .inl (.inl q), ?_⟩
              have kk := k H' (e1.trans e)
              have e5 : (ds.map (fun d => isLetter d n)).all id = ds.all (fun d => isLetter d n) := by rw [List.all_map]; rfl
              rw [e5]
              exact kk
end
end W

set_option Elab.async false
set_option linter.all false
set_option maxRecDepth 100000
set_option maxHeartbeats 4000000
namespace W
open PySem PySem.Spec PyProof.Rows L2 Evl G
def smalls : List Nat := [97, 98, 99, 100, 101, 102, 103, 104, 105, 106, 107, 108, 109, 110, 111, 112, 113, 114, 115, 116, 117, 118, 119, 120, 121, 122]
def digs : List Nat := [48, 49, 50, 51, 52, 53, 54, 55, 56, 57]
/-- a name, by its signs -/
def nameL (l : List Nat) : Bool := match l with
  | [] => false
  | c :: r => decide (r.length < 12) && smalls.contains c && (c :: r).all fun c => smalls.contains c || digs.contains c
def isName : PyData → Bool
  | .str z => nameL z.cps.toList
  | _ => false
theorem small_in (c : Nat) : decide (c ∈ (("abcdefghijklmnopqrstuvwxyz" : Str)).cps.toList) = smalls.contains c := by
  have e : (("abcdefghijklmnopqrstuvwxyz" : Str)).cps.toList = smalls := by decide +kernel
  rw [e, List.contains_eq_mem]
theorem dig_in (c : Nat) : decide (c ∈ (("0123456789" : Str)).cps.toList) = digs.contains c := by
  have e : (("0123456789" : Str)).cps.toList = digs := by decide +kernel
  rw [e, List.contains_eq_mem]
theorem isName_no {d : PyData} (e : isS d = false) : isName d = false := by
  cases d with
  | str z => cases e
  | _ => rfl
def szS : PyData → Nat
  | .str z => z.length
  | _ => 0
def spTs (K : PySem.W.Frag) (g : PyData → Bool) : Sp := fun vs H Q _ => ∃ x d, vs = [x] ∧ Dd K H x d ∧ szS d ≤ 1000 ∧ ∀ H', Ex H H' → Q (.bl (g d)) H'
section
variable {P : Program} {w : World} {K : PySem.W.Frag} {mg : Str → Option Value} {base : Heap}
theorem scName : FnScope ["value", "sign"] ["value"] (defScope dName) := ⟨rfl, rfl, rfl, by decide +kernel, rfl, by decide +kernel, by decide +kernel⟩
theorem okName {f : Addr} {fd : FuncData} (F : At K mg "is_name" dName ["value"] f fd) (T : Txt K mg) : FnOk P w K mg base CX0 1 f fd ["value"] (spTs K isName) := by
  obtain ⟨t1, m1⟩ := T.small
  obtain ⟨t2, m2⟩ := T.digits
  obtain ⟨t3, m3⟩ := T.longest
  refine F.fn.ok scName (fun vs H Q E h => ?_) (fun cdv A outer s H vs Q E hr h => ?_)
  · obtain ⟨x, d, rfl, _⟩ := h
    rfl
  · obtain ⟨x, d, rfl, hd, hz, k⟩ := h
    refine ⟨_, pss_cons (ps_if (PW.pt (pw_or (pt_not (pt_val (pe_callB call_isi (by rfl) T.isinstance (by decide +kernel) (pa_cons (pv 0) (pa_cons (pTy "str" (by rfl) T.str (by decide +kernel)) pa_nil)))))
        (pw_or1 (pt_not (pt_chain op_le op_le pe_int (pe_callB call_len_str (by rfl) T.len PySem.boot_len (pa_cons (pv 0) pa_nil)) (pGi rfl m3)))))) (pss_one (ps_ret pe_bl)) pss_nil)
      (pss_one (ps_ret (pe_and (pe_cmpR op_in_sign (pe_item_str (pv 0) pe_int (fun _ _ => rfl)) (pGs rfl m1) (by rfl))
        (pe_one (pe_callB (cr_all rfl) (by rfl) T.all (by decide +kernel) (pa_cons (pe_lc (own := [("sign", 1)]) (g := gName 1) (by rfl) scName.nd (pi_str (pv 0)) (blkOk_by (own := [("sign", 1)]) (N := ["value", "sign"]) (sc := defScope dName) (by decide +kernel))
          (fun _ _ _ _ _ => pg_name (i := 1) scName.nd rfl (Or.inl rfl)) (fun _ _ _ _ _ => pts_nil) (fun _ _ _ _ _ => pe_or (pe_cmpR op_in_sign (pv 1) (pGs rfl m1) (by rfl)) (pe_one (pe_cmpR op_in_sign (pv 1) (pGs rfl m2) (by rfl))))) pa_nil)))))), ?_⟩
    refine rd_isi (K := K) (i := 0) (T := "str") rfl hd (kit_S d) ⟨_, rfl, ?_⟩
    cases e : isS d with
    | false =>
      have kk := k H (Ex.refl H)
      have e2 : isName d = false := isName_no e
      rw [e2] at kk
      exact iteT (iteT kk)
    | true =>
      obtain ⟨z, rfl⟩ : ∃ z, d = .str z := by cases d <;> first | exact ⟨_, rfl⟩ | (simp [isS] at e)
      cases hd with
      | dp hp =>
        cases hp
        have hz1 : z.length ≤ 1000 := hz
        have hl : z.length = z.cps.toList.length := by rw [Array.length_toList]; rfl
        refine iteF ⟨_, rfl, z, rfl, Nat.le_trans hz1 (by decide), _, _, rfl, rfl, _, rfl, ?_⟩
        have kn : isName (.str z) = nameL z.cps.toList := rfl
        rw [kn] at k
        cases el : z.cps.toList with
        | nil =>
          rw [el] at k hl
          have c : decide ((1 : Int) ≤ (z.length : Int)) = false := by
            rw [hl]
            rfl
          rw [c]
          exact iteF ⟨_, rfl, iteT (k H (Ex.refl H))⟩
        | cons c r =>
          rw [el] at k hl
          have hl2 : z.length = r.length + 1 := hl
          have c1 : decide ((1 : Int) ≤ (z.length : Int)) = true := decide_eq_true (by omega)
          rw [c1]
          refine iteT ⟨_, _, rfl, rfl, _, rfl, ?_⟩
          have kb : nameL (c :: r) = (decide (r.length < 12) && smalls.contains c && (c :: r).all fun c => smalls.contains c || digs.contains c) := rfl
          rw [kb] at k
          by_cases hlen : r.length < 12
          · have c2 : decide ((z.length : Int) ≤ 12) = true := decide_eq_true (by omega)
            rw [c2]
            refine iteF ?_
            have hc0 : z.cps[0]? = some c := by
              have : z.cps.toList[0]? = some c := by rw [el]; rfl
              simpa using this
            refine ⟨_, rfl, z, 0, c, rfl, rfl, by decide, by decide, by omega, hc0, c, _, rfl, rfl, _, rfl, ?_⟩
            rw [small_in]
            rw [decide_eq_true hlen] at k
            cases es : smalls.contains c with
            | false =>
              rw [es] at k
              exact iteF (k H (Ex.refl H))
            | true =>
              rw [es] at k
              refine iteT ⟨_, rfl, z, rfl, fun D new => ?_⟩
              refine lc_pure (walk_str (z := z)) (fun i => .bl ((fun c => smalls.contains c || digs.contains c) (z.cps.toList.getD i 0))) (by have : z.cps.size = z.length := rfl; omega) (fun _ _ => trivial) (fun i v => ∃ c, z.cps[i]? = some c ∧ v = .str ⟨#[c]⟩) (fun i Ha x Hb _ _ y => ⟨y.1, y.2⟩) (fun i v hi hv => ?_) new (fun H' e q => ?_)
              · obtain ⟨c', e1, rfl⟩ := hv
                have e2 : z.cps.toList.getD i 0 = c' := by
                  rw [List.getD_eq_getElem?_getD]
                  have : z.cps.toList[i]? = some c' := by simpa using e1
                  rw [this]
                  rfl
                rw [e2]
                intro H1 _ Q1 q1
                refine ⟨_, rfl, c', _, rfl, rfl, _, rfl, ?_⟩
                rw [small_in]
                show if (smalls.contains c') = true then _ else _
                have qq := q1 H1 (Ex.refl H1)
                cases e3 : smalls.contains c' with
                | true =>
                  simp only [e3, Bool.true_or] at qq
                  exact iteT qq
                | false =>
                  simp only [e3, Bool.false_or] at qq
                  refine iteF ⟨_, rfl, c', _, rfl, rfl, ?_⟩
                  rw [dig_in]
                  exact qq
              · refine ⟨D, (z.cps.toList.map fun c => smalls.contains c || digs.contains c), rfl, .inl (.inl ?_), ?_⟩
                · rw [q, List.map_map]
                  congr 2
                  have hs : z.cps.size = z.cps.toList.length := by simp
                  rw [hs]
                  exact range_map z.cps.toList _ _ fun i c e => by
                    show V.bl _ = V.bl _
                    rw [List.getD_eq_getElem?_getD, e]
                    rfl
                · have kk := k H' e
                  rw [el, List.all_map]
                  simpa using kk
          · have c2 : decide ((z.length : Int) ≤ 12) = false := decide_eq_false (by omega)
            rw [c2]
            rw [decide_eq_false hlen] at k
            exact iteT (k H (Ex.refl H))
end
end W

set_option Elab.async false
set_option linter.all false
set_option maxRecDepth 100000
set_option maxHeartbeats 4000000
namespace W
open PySem PySem.Spec PyProof.Rows L2 Evl G
theorem long_ne {s : Str} (h : 2 ≤ s.length) : s ≠ ("0" : Str) ∧ s ≠ ("1" : Str) := by
  constructor <;> (intro e; rw [e] at h; exact absurd h (by decide +kernel))
theorem shown_list (ts : List Str) : 2 ≤ (listText ts).length := by
  rw [listText_eq_join, strLen_append, strLen_append]
  have : (("[" : Str)).length = 1 := by decide +kernel
  have : (("]" : Str)).length = 1 := by decide +kernel
  omega
theorem shown_tuple (ts : List Str) : 2 ≤ (tupleText ts).length := by
  unfold tupleText
  rw [strLen_append, strLen_append]
  have : (("(" : Str)).length = 1 := by decide +kernel
  have : (((if ts.length == 1 then ",)" else ")" : String) : Str)).length ≥ 1 := by
    by_cases h : (ts.length == 1) = true
    · rw [if_pos h]; decide +kernel
    · rw [if_neg h]; decide +kernel
  omega
theorem shown_dict (ts : List Str) : 2 ≤ (dictText ts).length := by
  unfold dictText
  rw [strLen_append, strLen_append]
  have : (("{" : Str)).length = 1 := by decide +kernel
  have : (("}" : Str)).length = 1 := by decide +kernel
  omega
theorem shown_neg (m : Nat) : (Str.ofString (toString (Int.negSucc m))) ≠ ("0" : Str) ∧ (Str.ofString (toString (Int.negSucc m))) ≠ ("1" : Str) := by
  have e0 : (Str.ofString (toString (Int.negSucc m))).cps.toList.head? = some 45 := by
    rw [signs_ofString]
    have : toString (Int.negSucc m) = "-" ++ Nat.repr (m + 1) := rfl
    rw [this, String.toList_append]
    rfl
  constructor <;> (intro e; rw [e] at e0; exact absurd e0 (by decide +kernel))
theorem shown_pos (m k : Nat) (e : Str.ofString (toString (m : Int)) = Str.ofString (toString (k : Int))) : m = k := by
  have e1 := congrArg (fun s : Str => s.cps.toList) e
  have e1 : (Str.ofString (toString (m : Int))).cps.toList = (Str.ofString (toString (k : Int))).cps.toList := e1
  rw [PySem.W.KIN.signs_num, PySem.W.KIN.signs_num] at e1
  have a := PySem.W.KIN.val_back m
  rw [e1, PySem.W.KIN.val_back] at a
  exact a.symm
theorem shown_bit (d : PyData) : inV (.str d.shown) [.str "0", .str "1"] = isBit d := by
  have base : ∀ d : PyData, d.shown ≠ ("0" : Str) ∧ d.shown ≠ ("1" : Str) → inV (.str d.shown) [.str "0", .str "1"] = false := by
    intro d h
    show ((("0" : Str) == d.shown) || ((("1" : Str) == d.shown) || false)) = false
    have h0 : (("0" : Str) == d.shown) = false := by simpa using fun e => h.1 e.symm
    have h1 : (("1" : Str) == d.shown) = false := by simpa using fun e => h.2 e.symm
    rw [h0, h1]
    rfl
  cases d with
  | none => exact base _ (by constructor <;> decide +kernel)
  | bool b => exact base _ (by cases b <;> constructor <;> decide +kernel)
  | str z => exact base _ (long_ne (by simpa [PyData.shown] using StrLaws.reprText_ge2 z))
  | list ds => exact base _ (long_ne (by simpa [PyData.shown] using shown_list _))
  | tuple ds => exact base _ (long_ne (by simpa [PyData.shown] using shown_tuple _))
  | dict ds => exact base _ (long_ne (by simpa [PyData.shown] using shown_dict _))
  | int i =>
    cases i with
    | negSucc m =>
      rw [base _ (by simpa [PyData.shown] using shown_neg m)]
      rfl
    | ofNat m =>
      show ((("0" : Str) == Str.ofString (toString (m : Int))) || ((("1" : Str) == Str.ofString (toString (m : Int))) || false)) = (decide ((0 : Int) ≤ (m : Int)) && decide ((m : Int) ≤ 1))
      have c0 : (("0" : Str)) = Str.ofString (toString ((0 : Nat) : Int)) := by decide +kernel
      have c1 : (("1" : Str)) = Str.ofString (toString ((1 : Nat) : Int)) := by decide +kernel
      rw [c0, c1]
      by_cases h0 : m = 0
      · subst h0; simp
      · have n0 : (Str.ofString (toString ((0 : Nat) : Int)) == Str.ofString (toString (m : Int))) = false := by simpa using fun e => h0 (shown_pos 0 m e).symm
        rw [n0]
        by_cases h1 : m = 1
        · subst h1; simp
        · have n1 : (Str.ofString (toString ((1 : Nat) : Int)) == Str.ofString (toString (m : Int))) = false := by simpa using fun e => h1 (shown_pos 1 m e).symm
          rw [n1]
          have : decide ((m : Int) ≤ 1) = false := decide_eq_false (by omega)
          rw [this]
          simp
end W

set_option Elab.async false
set_option linter.all false
set_option maxRecDepth 100000
set_option maxHeartbeats 4000000
namespace W
open PySem PySem.Spec PyProof.Rows L2 Evl G
/-- a test of a datum that can be shown -/
def spTx (K : PySem.W.Frag) (g : PyData → Bool) : Sp := fun vs H Q _ => ∃ x d, vs = [x] ∧ Dd K H x d ∧ Showy d ∧ ∀ H', Ex H H' → Q (.bl (g d)) H'
section
variable {P : Program} {w : World} {K : PySem.W.Frag} {mg : Str → Option Value} {base : Heap}
theorem scLBit : FnScope ["_law_thing"] ["_law_thing"] (defScope dLBit) := ⟨rfl, rfl, rfl, by decide +kernel, rfl, by decide +kernel, by decide +kernel⟩
theorem okLBit {f : Addr} {fd : FuncData} (F : At K mg "_law_is_bit" dLBit ["_law_thing"] f fd) (T : Txt K mg) : Fn P w K mg base CX0 1 f fd ["_law_thing"] (spTx K isBit) := by
  refine okN F.fn scLBit (fun vs H Q E h => ?_) (fun cdv A outer s H vs Q E hr h => ?_)
  · obtain ⟨x, d, rfl, _⟩ := h
    rfl
  · obtain ⟨x, d, rfl, hd, hs, k⟩ := h
    refine ⟨_, pss_one (ps_ret (pe_cmpR op_in_seq (pe_callB (call_rx hr) (by rfl) T.repr (by decide +kernel) (pa_cons (pv 0) pa_nil)) (pe_tup (pa_cons pe_str (pa_cons pe_str pa_nil))) (by with_unfolding_all rfl))), ?_⟩
    refine ⟨x, rfl, x, d, rfl, hd, hs, (by show 2 ≤ sizeLine; decide), fun p hp => ?_⟩
    refine ⟨p, [.str "0", .str "1"], rfl, .inr (.inl (.inl upd_same)), rfl, rfl, ?_⟩
    have q := k (upd H p (.tup [.str "0", .str "1"])) (Ex.new hp)
    rw [← shown_bit d] at q
    exact q
theorem scLLetter : FnScope ["_law_thing", "_law_many", "_law_one"] ["_law_thing", "_law_many"] (defScope dLLetter) := ⟨rfl, rfl, rfl, by decide +kernel, rfl, by decide +kernel, by decide +kernel⟩
/-- all of a datum's parts can be shown -/
def partsShowy : PyData → Prop
  | .list ds => ∀ d ∈ ds, Showy d
  | .tuple ds => ∀ d ∈ ds, Showy d
  | _ => True
def spWx (K : PySem.W.Frag) (g : PyData → Nat → Bool) : Sp := fun vs H Q _ => ∃ (x : V) (d : PyData) (n : Nat), vs = [x, .int (n : Int)] ∧ Dd K H x d ∧ n ≤ 100 ∧ partsShowy d ∧ ∀ H', Ex H H' → Q (.bl (g d n)) H'
theorem okLLetter {f : Addr} {fd : FuncData} (F : At K mg "_law_is_letter" dLLetter ["_law_thing", "_law_many"] f fd) (T : Txt K mg) : Fn P w K mg base CX0 2 f fd ["_law_thing", "_law_many"] (spWx K isLetter) := by
  obtain ⟨fB, fdB, FB⟩ := T.lBit
  have GB : Fn P w K mg base CX0 1 fB fdB ["_law_thing"] (spTx K isBit) := okLBit FB T
  refine okN F.fn scLLetter (fun vs H Q E h => ?_) (fun cdv A outer s H vs Q E hr h => ?_)
  · obtain ⟨x, d, n, rfl, _⟩ := h
    rfl
  · obtain ⟨x, d, n, rfl, hd, hn, hp, k⟩ := h
    refine ⟨_, pss_one (ps_ret (pe_and (pe_callB call_isi (by rfl) T.isinstance (by decide +kernel) (pa_cons (pv 0) (pa_cons (pTy "tuple" (by rfl) T.tuple (by decide +kernel)) pa_nil)))
      (pe_and (pe_cmpR op_eq (pe_callB call_len_seq (by rfl) T.len PySem.boot_len (pa_cons (pv 0) pa_nil)) (pv 1) (nomark _))
      (pe_one (pe_callB (cr_all rfl) (by rfl) T.all (by decide +kernel) (pa_cons (pe_lc (own := [("_law_one", 2)]) (g := gName 2) (by rfl) scLLetter.nd (pi_tup (pv 0)) (blkOk_by (own := [("_law_one", 2)]) (N := ["_law_thing", "_law_many", "_law_one"]) (sc := defScope dLLetter) (by decide +kernel))
        (fun _ _ _ _ _ => pg_name (i := 2) scLLetter.nd rfl (Or.inl rfl)) (fun _ _ _ _ _ => pts_nil) (fun _ _ _ _ _ => pc GB hr (by rfl) FB.gl FB.fn.kp FB.bi .nil pass0 (pa_cons (pv 2) pa_nil))) pa_nil)))))), ?_⟩
    refine rd_isi (K := K) (i := 0) (T := "tuple") rfl hd (kit_T d) ⟨_, rfl, ?_⟩
    cases e : isT d with
    | false =>
      have kk := k H (Ex.refl H)
      have e2 : isLetter d n = false := by cases d <;> first | rfl | (simp [isT] at e)
      rw [e2] at kk
      exact iteF kk
    | true =>
      obtain ⟨ds, rfl⟩ : ∃ ds, d = .tuple ds := by cases d <;> first | exact ⟨_, rfl⟩ | (simp [isT] at e)
      refine iteT ?_
      cases hd with
      | dp z =>
        cases z with
        | @tup a xs _ hs ha =>
          have hl := dpAll_len ha
          refine ⟨_, rfl, a, xs, rfl, .inr hs, _, rfl, rfl, _, rfl, ?_⟩
          have e3 : isLetter (.tuple ds) n = (decide (ds.length = n) && ds.all isBit) := rfl
          rw [e3] at k
          by_cases c : ds.length = n
          · have c' : decide ((V.int (xs.length : Int)) = V.int (n : Int)) = true := by
              rw [hl, c]
              exact decide_eq_true rfl
            rw [c']
            refine iteT ?_
            rw [decide_eq_true c] at k
            refine ⟨_, rfl, a, rfl, ⟨_, hs⟩, fun D new => ?_⟩
            refine lc_dataS (K := K) (ds := ds) walk_tup isBit (by omega) (fun H' e => ex_t e hs) ha hp (fun x d hx sx => ?_) (fun i x e => dpAll_at ha e) new (fun H' e q => ?_)
            · intro H1 e1 Q1 q1
              exact ⟨x, rfl, x, d, rfl, .dp (dp_ex e1 hx), sx, q1⟩
            · refine ⟨D, ds.map isBit, rfl, .inl (.inl q), ?_⟩
              have kk := k H' e
              have e5 : (ds.map isBit).all id = ds.all isBit := by rw [List.all_map]; rfl
              rw [e5]
              simpa using kk
          · have c' : decide ((V.int (xs.length : Int)) = V.int (n : Int)) = false := by
              rw [hl]
              refine decide_eq_false fun z => c ?_
              have := V.int.inj z
              omega
            rw [c']
            have kk := k H (Ex.refl H)
            rw [decide_eq_false c] at kk
            exact iteF kk
end
end W

set_option Elab.async false
set_option linter.all false
set_option maxRecDepth 100000
set_option maxHeartbeats 4000000
namespace W
open PySem PySem.Spec PyProof.Rows L2 Evl G
def partsParts : PyData → Prop
  | .list ds => ∀ d ∈ ds, partsShowy d
  | .tuple ds => ∀ d ∈ ds, partsShowy d
  | _ => True
def spWy (K : PySem.W.Frag) (g : PyData → Nat → Bool) : Sp := fun vs H Q _ => ∃ (x : V) (d : PyData) (n : Nat), vs = [x, .int (n : Int)] ∧ Dd K H x d ∧ n ≤ 100 ∧ szD d ≤ 1000 ∧ partsParts d ∧ ∀ H', Ex H H' → Q (.bl (g d n)) H'
section
variable {P : Program} {w : World} {K : PySem.W.Frag} {mg : Str → Option Value} {base : Heap}
theorem scLWord : FnScope ["_law_thing", "_law_many", "_law_one"] ["_law_thing", "_law_many"] (defScope dLWord) := ⟨rfl, rfl, rfl, by decide +kernel, rfl, by decide +kernel, by decide +kernel⟩
theorem okLWord {f : Addr} {fd : FuncData} (F : At K mg "_law_is_word" dLWord ["_law_thing", "_law_many"] f fd) (T : Txt K mg) : Fn P w K mg base CX0 3 f fd ["_law_thing", "_law_many"] (spWy K isWord) := by
  obtain ⟨fB, fdB, FB⟩ := T.lLetter
  have GB : Fn P w K mg base CX0 2 fB fdB ["_law_thing", "_law_many"] (spWx K isLetter) := okLLetter FB T
  refine okN F.fn scLWord (fun vs H Q E h => ?_) (fun cdv A outer s H vs Q E hr h => ?_)
  · obtain ⟨x, d, n, rfl, _⟩ := h
    rfl
  · obtain ⟨x, d, n, rfl, hd, hn, hz, hpp, k⟩ := h
    -- isinstance(thing, (list, tuple))
    have first : ∀ (t2 : TE) (p : Addr), H p = none → ∀ Q1 : VK, (∀ H1, Ex H H1 → (isList d = true → t2 (L2.start ["_law_thing", "_law_many", "_law_one"] [x, .int (n : Int)]) H1 Q1) ∧ (isList d = false → Q1 (.bl false) H1)) →
        rIsiT K [x, .ref p] (upd H p (.tup [.ty "list", .ty "tuple"])) fun v H1 => ∃ c, v = .bl c ∧ if c = true then t2 (L2.start ["_law_thing", "_law_many", "_law_one"] [x, .int (n : Int)]) H1 Q1 else Q1 (.bl false) H1 := by
      intro t2 p hp Q1 hq
      have e1 : Ex H (upd H p (.tup [.ty "list", .ty "tuple"])) := Ex.new hp
      refine ⟨x, p, _, _, [.type "list", .type "tuple"], isList d, rfl, upd_same, .cons (.ty _) (.cons (.ty _) .nil), (dd_ex e1 hd).ty, ?_, _, rfl, ?_⟩
      · refine kitAny_cons (kit_ty (kit_L d)) (fun e => kitAny_cons (kit_ty (kit_T d)) (fun e2 => ?_) (fun e2 => ?_)) (fun e => ?_)
        · have z : isList d = false := by unfold isList; rw [e, e2]; rfl
          rw [z]
          exact kitAny_nil
        · unfold isList
          rw [e2]
          simp
        · unfold isList
          rw [e]
          rfl
      · obtain ⟨q1, q2⟩ := hq _ e1
        cases e : isList d with
        | true => exact iteT (q1 e)
        | false => exact iteF (q2 e)
    cases e : isL d with
    | true =>
      obtain ⟨ds, rfl⟩ : ∃ ds, d = .list ds := by cases d <;> first | exact ⟨_, rfl⟩ | (simp [isL] at e)
      refine ⟨_, pss_one (ps_ret (pe_and (pe_callB call_isiT (by rfl) T.isinstance (by decide +kernel) (pa_cons (pv 0) (pa_cons (pe_tup (pa_cons (pTy "list" (by rfl) T.list (by decide +kernel)) (pa_cons (pTy "tuple" (by rfl) T.tuple (by decide +kernel)) pa_nil))) pa_nil)))
        (pe_one (pe_callB (cr_all rfl) (by rfl) T.all (by decide +kernel) (pa_cons (pe_lc (own := [("_law_one", 2)]) (g := gName 2) (by rfl) scLWord.nd (pi_list (pv 0)) (blkOk_by (own := [("_law_one", 2)]) (N := ["_law_thing", "_law_many", "_law_one"]) (sc := defScope dLWord) (by decide +kernel))
          (fun _ _ _ _ _ => pg_name (i := 2) scLWord.nd rfl (Or.inl rfl)) (fun _ _ _ _ _ => pts_nil) (fun _ _ _ _ _ => pc GB hr (by rfl) FB.gl FB.fn.kp FB.bi .nil pass0 (pa_cons (pv 2) (pa_cons (pv 1) pa_nil)))) pa_nil))))), ?_⟩
      refine ⟨x, rfl, (by show 2 ≤ sizeLine; decide), fun p hp => first _ p hp _ fun H1 e1 => ⟨fun _ => ?_, fun z => by cases z⟩⟩
      have hd1 := dd_ex e1 hd
      cases hd1 with
      | dp z =>
        cases z with
        | @lst a xs _ hs ha =>
          have hl := dpAll_len ha
          refine ⟨_, rfl, a, rfl, ⟨_, hs⟩, fun D new => ?_⟩
          refine lc_dataS (K := K) (ds := ds) walk_list (fun d => isLetter d n) (by have : ds.length ≤ 1000 := hz; omega) (fun H' e => ex_l e hs) ha hpp (fun x d hx sx => ?_) (fun i x e => dpAll_at ha e) new (fun H' e q => ?_)
          · intro H2 e2 Q1 q1
            exact ⟨x, rfl, _, rfl, x, d, n, rfl, .dp (dp_ex e2 hx), hn, sx, q1⟩
          · refine ⟨D, ds.map (fun d => isLetter d n), rfl, .inl (.inl q), ?_⟩
            have kk := k H' (e1.trans e)
            have e5 : (ds.map (fun d => isLetter d n)).all id = ds.all (fun d => isLetter d n) := by rw [List.all_map]; rfl
            rw [e5]
            exact kk
    | false =>
      refine ⟨_, pss_one (ps_ret (pe_and (pe_callB call_isiT (by rfl) T.isinstance (by decide +kernel) (pa_cons (pv 0) (pa_cons (pe_tup (pa_cons (pTy "list" (by rfl) T.list (by decide +kernel)) (pa_cons (pTy "tuple" (by rfl) T.tuple (by decide +kernel)) pa_nil))) pa_nil)))
        (pe_one (pe_callB (cr_all rfl) (by rfl) T.all (by decide +kernel) (pa_cons (pe_lc (own := [("_law_one", 2)]) (g := gName 2) (by rfl) scLWord.nd (pi_tup (pv 0)) (blkOk_by (own := [("_law_one", 2)]) (N := ["_law_thing", "_law_many", "_law_one"]) (sc := defScope dLWord) (by decide +kernel))
          (fun _ _ _ _ _ => pg_name (i := 2) scLWord.nd rfl (Or.inl rfl)) (fun _ _ _ _ _ => pts_nil) (fun _ _ _ _ _ => pc GB hr (by rfl) FB.gl FB.fn.kp FB.bi .nil pass0 (pa_cons (pv 2) (pa_cons (pv 1) pa_nil)))) pa_nil))))), ?_⟩
      refine ⟨x, rfl, (by show 2 ≤ sizeLine; decide), fun p hp => first _ p hp _ fun H1 e1 => ⟨fun z => ?_, fun z => ?_⟩⟩
      · have e0 : isT d = true := by
          unfold isList at z
          rw [e] at z
          exact z
        obtain ⟨ds, rfl⟩ : ∃ ds, d = .tuple ds := by cases d <;> first | exact ⟨_, rfl⟩ | (simp [isT] at e0)
        have hd1 := dd_ex e1 hd
        cases hd1 with
        | dp z =>
          cases z with
          | @tup a xs _ hs ha =>
            have hl := dpAll_len ha
            refine ⟨_, rfl, a, rfl, ⟨_, hs⟩, fun D new => ?_⟩
            refine lc_dataS (K := K) (ds := ds) walk_tup (fun d => isLetter d n) (by have : ds.length ≤ 1000 := hz; omega) (fun H' e => ex_t e hs) ha hpp (fun x d hx sx => ?_) (fun i x e => dpAll_at ha e) new (fun H' e q => ?_)
            · intro H2 e2 Q1 q1
              exact ⟨x, rfl, _, rfl, x, d, n, rfl, .dp (dp_ex e2 hx), hn, sx, q1⟩
            · refine ⟨D, ds.map (fun d => isLetter d n), rfl, .inl (.inl q), ?_⟩
              have kk := k H' (e1.trans e)
              have e5 : (ds.map (fun d => isLetter d n)).all id = ds.all (fun d => isLetter d n) := by rw [List.all_map]; rfl
              rw [e5]
              exact kk
      · have kk := k H1 e1
        have e0 : isT d = false := by
          unfold isList at z
          rw [e] at z
          exact z
        rw [isWord_no e e0] at kk
        exact kk
theorem scLName : FnScope ["_law_thing", "_law_smalls", "_law_sign"] ["_law_thing"] (defScope dLName) := ⟨rfl, rfl, rfl, by decide +kernel, rfl, by decide +kernel, by decide +kernel⟩
theorem both_in (c : Nat) : decide (c ∈ ((("abcdefghijklmnopqrstuvwxyz" : Str)) ++ (("0123456789" : Str))).cps.toList) = (smalls.contains c || digs.contains c) := by
  have e : ((("abcdefghijklmnopqrstuvwxyz" : Str)) ++ (("0123456789" : Str))).cps.toList = smalls ++ digs := by decide +kernel
  rw [e, List.contains_eq_mem, List.contains_eq_mem]
  simp
theorem okLName {f : Addr} {fd : FuncData} (F : At K mg "_law_is_name" dLName ["_law_thing"] f fd) (T : Txt K mg) : Fn P w K mg base CX0 1 f fd ["_law_thing"] (spTs K isName) := by
  refine okN F.fn scLName (fun vs H Q E h => ?_) (fun cdv A outer s H vs Q E hr h => ?_)
  · obtain ⟨x, d, rfl, _⟩ := h
    rfl
  · obtain ⟨x, d, rfl, hd, hz, k⟩ := h
    refine ⟨_, pss_cons (ps_if (PW.pt (pw_or (pt_not (pt_val (pe_callB call_isi (by rfl) T.isinstance (by decide +kernel) (pa_cons (pv 0) (pa_cons (pTy "str" (by rfl) T.str (by decide +kernel)) pa_nil)))))
        (pw_or (pt_cmpR op_eq (pe_callB call_len_str (by rfl) T.len PySem.boot_len (pa_cons (pv 0) pa_nil)) pe_int (nomark _))
        (pw_or1 (pt_cmpR op_gt (pe_callB call_len_str (by rfl) T.len PySem.boot_len (pa_cons (pv 0) pa_nil)) pe_int (nomark _)))))) (pss_one (ps_ret pe_bl)) pss_nil)
      (pss_cons (ps_set (i := 1) scLName.nd rfl (Or.inr rfl) pe_str)
      (pss_one (ps_ret (pe_and (pe_cmpR op_in_sign (pe_item_str (pv 0) pe_int (fun _ _ => rfl)) (pv 1) (by rfl))
        (pe_one (pe_callB (cr_all rfl) (by rfl) T.all (by decide +kernel) (pa_cons (pe_lc (own := [("_law_sign", 2)]) (g := gName 2) (by rfl) scLName.nd (pi_str (pv 0)) (blkOk_by (own := [("_law_sign", 2)]) (N := ["_law_thing", "_law_smalls", "_law_sign"]) (sc := defScope dLName) (by decide +kernel))
          (fun _ _ _ _ _ => pg_name (i := 2) scLName.nd rfl (Or.inl rfl)) (fun _ _ _ _ _ => pts_nil) (fun _ _ _ _ _ => pe_cmpR op_in_sign (pv 2) (pe_op op_add_str (pv 1) pe_str) (by rfl))) pa_nil))))))), ?_⟩
    refine rd_isi (K := K) (i := 0) (T := "str") rfl hd (kit_S d) ⟨_, rfl, ?_⟩
    cases e : isS d with
    | false =>
      have kk := k H (Ex.refl H)
      rw [isName_no e] at kk
      exact iteT (iteT kk)
    | true =>
      obtain ⟨z, rfl⟩ : ∃ z, d = .str z := by cases d <;> first | exact ⟨_, rfl⟩ | (simp [isS] at e)
      cases hd with
      | dp hp =>
        cases hp
        have hz1 : z.length ≤ 1000 := hz
        have hl : z.length = z.cps.toList.length := by rw [Array.length_toList]; rfl
        refine iteF ⟨_, rfl, z, rfl, Nat.le_trans hz1 (by decide), rfl, _, rfl, ?_⟩
        have kn : isName (.str z) = nameL z.cps.toList := rfl
        rw [kn] at k
        cases el : z.cps.toList with
        | nil =>
          rw [el] at k hl
          have c : decide (V.int (z.length : Int) = V.int 0) = true := by
            rw [hl]
            rfl
          rw [c]
          exact iteT (iteT (k H (Ex.refl H)))
        | cons c r =>
          rw [el] at k hl
          have hl2 : z.length = r.length + 1 := hl
          have c1 : decide (V.int (z.length : Int) = V.int 0) = false := decide_eq_false fun q => by
            have := V.int.inj q
            omega
          rw [c1]
          refine iteF ⟨_, rfl, z, rfl, Nat.le_trans hz1 (by decide), _, _, rfl, rfl, _, rfl, ?_⟩
          have kb : nameL (c :: r) = (decide (r.length < 12) && smalls.contains c && (c :: r).all fun c => smalls.contains c || digs.contains c) := rfl
          rw [kb] at k
          by_cases hlen : r.length < 12
          · have c2 : decide ((12 : Int) < (z.length : Int)) = false := decide_eq_false (by omega)
            show if decide ((12 : Int) < (z.length : Int)) = true then _ else _
            rw [c2]
            refine iteF ?_
            have hc0 : z.cps[0]? = some c := by
              have : z.cps.toList[0]? = some c := by rw [el]; rfl
              simpa using this
            refine ⟨_, rfl, z, 0, c, rfl, rfl, by decide, by decide, by omega, hc0, _, rfl, c, _, rfl, rfl, _, rfl, ?_⟩
            rw [small_in]
            rw [decide_eq_true hlen] at k
            cases es : smalls.contains c with
            | false =>
              rw [es] at k
              exact iteF (k H (Ex.refl H))
            | true =>
              rw [es] at k
              refine iteT ⟨_, rfl, z, rfl, fun D new => ?_⟩
              refine lc_pure (walk_str (z := z)) (fun i => .bl ((fun c => smalls.contains c || digs.contains c) (z.cps.toList.getD i 0))) (by have : z.cps.size = z.length := rfl; omega) (fun _ _ => trivial) (fun i v => ∃ c, z.cps[i]? = some c ∧ v = .str ⟨#[c]⟩) (fun i Ha x Hb _ _ y => ⟨y.1, y.2⟩) (fun i v hi hv => ?_) new (fun H' e q => ?_)
              · obtain ⟨c', e1, rfl⟩ := hv
                have e2 : z.cps.toList.getD i 0 = c' := by
                  rw [List.getD_eq_getElem?_getD]
                  have : z.cps.toList[i]? = some c' := by simpa using e1
                  rw [this]
                  rfl
                rw [e2]
                intro H1 _ Q1 q1
                refine ⟨_, rfl, _, rfl, _, _, rfl, rfl, (by decide +kernel), c', _, rfl, rfl, ?_⟩
                rw [both_in]
                exact q1 H1 (Ex.refl H1)
              · refine ⟨D, (z.cps.toList.map fun c => smalls.contains c || digs.contains c), rfl, .inl (.inl ?_), ?_⟩
                · rw [q, List.map_map]
                  congr 2
                  have hs : z.cps.size = z.cps.toList.length := by simp
                  rw [hs]
                  exact range_map z.cps.toList _ _ fun i c e => by
                    show V.bl _ = V.bl _
                    rw [List.getD_eq_getElem?_getD, e]
                    rfl
                · have kk := k H' e
                  rw [el, List.all_map]
                  simpa using kk
          · have c2 : decide ((12 : Int) < (z.length : Int)) = true := decide_eq_true (by omega)
            show if decide ((12 : Int) < (z.length : Int)) = true then _ else _
            rw [c2]
            rw [decide_eq_false hlen] at k
            exact iteT (k H (Ex.refl H))
end
end W

set_option Elab.async false
set_option linter.all false
set_option maxRecDepth 100000
set_option maxHeartbeats 4000000
namespace W
open PySem PySem.Spec PyProof.Rows L2 Evl G
/-- a pot stands at p -/
def Pot (H : Hp) (p : Addr) : Prop := ∃ a b : Int, H p = some (.lst [.int a, .int b]) ∧ 0 ≤ a ∧ 0 ≤ b ∧ b < 4294967296
/-- all but p stays -/
def ExBut (p : Addr) (H H' : Hp) : Prop := ∀ b o, H b = some o → b ≠ p → H' b = some o
theorem ExBut.refl (p : Addr) (H : Hp) : ExBut p H H := fun _ _ e _ => e
theorem ExBut.trans {p : Addr} {H H1 H2 : Hp} (a : ExBut p H H1) (b : ExBut p H1 H2) : ExBut p H H2 := fun c o e n => b c o (a c o e n) n
theorem ExBut.of {p : Addr} {H H' : Hp} (e : Ex H H') : ExBut p H H' := fun b o h _ => e b o h
theorem ExBut.upd {p : Addr} {H : Hp} {o : HO} : ExBut p H (upd H p o) := fun b u e n => by rw [upd_ne n]; exact e
theorem Pot.ex {H H' : Hp} {p : Addr} (h : Pot H p) (e : Ex H H') : Pot H' p := by
  obtain ⟨a, b, h, r⟩ := h
  exact ⟨a, b, e _ _ h, r⟩
def spPot (K : PySem.W.Frag) : Sp := fun vs H Q _ => ∃ (a : Addr) (ns : List Int), vs = [.ref a, .int 0] ∧ SqL K H a (ns.map V.int) ∧ ns.length ≤ 1000 ∧ ∀ p H', H p = none → Ex H H' → Pot H' p → Q (.ref p) H'
def spDraw : Sp := fun vs H Q _ => ∃ (p : Addr) (m : Int), vs = [.ref p, .int m] ∧ Pot H p ∧ 0 < m ∧ m ≤ 1000 ∧ ∀ (r : Int) (H' : Hp), 0 ≤ r → r < m → ExBut p H H' → Pot H' p → Q (.int r) H'
def spPick : Sp := fun vs H Q _ => ∃ (p : Addr) (z : Str), vs = [.ref p, .str z] ∧ Pot H p ∧ 0 < z.length ∧ z.length ≤ 1000 ∧ ∀ (c : Nat) (H' : Hp), c ∈ z.cps.toList → ExBut p H H' → Pot H' p → Q (.str ⟨#[c]⟩) H'
section
variable {P : Program} {w : World} {K : PySem.W.Frag} {mg : Str → Option Value} {base : Heap}
theorem scPot : FnScope ["_law_script", "_law_k", "_law_cell"] ["_law_script", "_law_k"] (defScope dPot) := ⟨rfl, rfl, rfl, by decide +kernel, rfl, by decide +kernel, by decide +kernel⟩
theorem okPot {f : Addr} {fd : FuncData} (F : At K mg "_law_pot" dPot ["_law_script", "_law_k"] f fd) (T : Txt K mg) : Fn P w K mg base CX0 1 f fd ["_law_script", "_law_k"] (spPot K) := by
  refine okN F.fn scPot (fun vs H Q E h => ?_) (fun cdv A outer s H vs Q E hr h => ?_)
  · obtain ⟨x, d, rfl, _⟩ := h
    rfl
  · obtain ⟨a, ns, rfl, hs, hl, k⟩ := h
    have cell : ∀ c : Int, 0 ≤ c → ∀ p, H p = none → Q (.ref p) (upd H p (.lst [.int (if c - 10 ^ (18 : Int).toNat > 0 then c - 10 ^ (18 : Int).toNat else 0), .int ((c % 2147483579 * 40153 + 7621 * 0 + 71) % 2147483629 + 1)])) := by
      intro c hc p hp
      refine k p _ hp (Ex.new hp) ⟨_, _, upd_same, ?_, ?_, ?_⟩
      · by_cases q : c - 10 ^ (18 : Int).toNat > 0
        · rw [if_pos q]; omega
        · rw [if_neg q]; omega
      · have := Int.emod_nonneg (c % 2147483579 * 40153 + 7621 * 0 + 71) (show (2147483629 : Int) ≠ 0 by decide)
        omega
      · have := Int.emod_lt_of_pos (c % 2147483579 * 40153 + 7621 * 0 + 71) (show (0 : Int) < 2147483629 by decide)
        omega
    refine ⟨_, pss_cons (ps_set (i := 2) scPot.nd rfl (Or.inl rfl) (pe_ifExp (pt_cmpR op_lt (pv 1) (pe_callB call_len_seq (by rfl) T.len PySem.boot_len (pa_cons (pv 0) pa_nil)) (nomark _))
        (pe_callB call_abs (by rfl) T.abs (by decide +kernel) (pa_cons (pe_ix ix_list (pv 0) (pv 1) (fun _ _ => rfl)) pa_nil))
        (pe_op op_add (pe_op op_mul pe_int (pv 1)) pe_int)))
      (pss_one (ps_ret (pe_lst (pa_cons (pe_callB (call_max2 rfl) (by rfl) T.max (by decide +kernel) (pa_cons pe_int (pa_cons (pe_op op_sub (pv 2) (pe_op op_pow pe_int pe_int)) pa_nil)))
        (pa_cons (pe_op op_add (pe_op op_mod (pe_callTy call_int1 (by rfl) T.int (by decide +kernel) (pa_cons (pe_op op_add (pe_op op_add (pe_op op_mul (pe_op op_mod (pe_callTy call_int1 (by rfl) T.int (by decide +kernel) (pa_cons (pv 2) pa_nil)) pe_int) pe_int) (pe_op op_mul pe_int (pv 1))) pe_int) pa_nil)) pe_int) pe_int) pa_nil))))), ?_⟩
    cases ns with
    | nil =>
      refine ⟨_, rfl, _, rfl, a, _, rfl, .inl hs, _, _, rfl, rfl, _, rfl, ?_⟩
      refine iteF ⟨_, rfl, _, _, rfl, rfl, .inl ⟨by decide, by decide⟩, _, _, rfl, rfl, ?_⟩
      refine ⟨_, rfl, _, _, rfl, rfl, ⟨by decide, by decide, by decide⟩, _, _, rfl, rfl, _, _, rfl, _, rfl, .inl ⟨_, rfl, _, _, rfl, rfl, (by show (0 : Int) < 2147483579; decide), _, _, rfl, rfl, .inr ⟨by decide, by decide⟩, _, rfl, _, _, rfl, rfl, .inl ⟨by decide, by decide⟩, _, _, rfl, rfl, _, _, rfl, rfl,
        .inl ⟨_, rfl, _, _, rfl, rfl, (by show (0 : Int) < 2147483629; decide), _, _, rfl, rfl, (by show 2 ≤ sizeLine; decide), fun p hp => cell _ ?_ p hp⟩⟩⟩
      decide
    | cons n0 r =>
      refine ⟨_, rfl, _, rfl, a, _, rfl, .inl hs, _, _, rfl, rfl, _, rfl, ?_⟩
      have c1 : decide ((0 : Int) < ((List.map V.int (n0 :: r)).length : Int)) = true := decide_eq_true (by simp only [List.length_map, List.length_cons]; omega)
      show if decide ((0 : Int) < ((List.map V.int (n0 :: r)).length : Int)) = true then _ else _
      rw [c1]
      refine iteT ⟨_, rfl, _, rfl, a, _, _, .int n0, rfl, rfl, hs, atI_nat (j := 0) rfl, n0, rfl, ?_⟩
      refine ⟨_, rfl, _, _, rfl, rfl, ⟨by decide, by decide, by decide⟩, _, _, rfl, rfl, _, _, rfl, _, rfl, .inl ⟨_, rfl, _, _, rfl, rfl, (by show (0 : Int) < 2147483579; decide), _, _, rfl, rfl, .inr ⟨by decide, by decide⟩, _, rfl, _, _, rfl, rfl, .inl ⟨by decide, by decide⟩, _, _, rfl, rfl, _, _, rfl, rfl,
        .inl ⟨_, rfl, _, _, rfl, rfl, (by show (0 : Int) < 2147483629; decide), _, _, rfl, rfl, (by show 2 ≤ sizeLine; decide), fun p hp => cell _ ?_ p hp⟩⟩⟩
      by_cases q : n0 < 0
      · rw [if_pos q]; omega
      · rw [if_neg q]; omega
theorem scDraw : FnScope ["_law_pot_here", "_law_many", "_law_digit"] ["_law_pot_here", "_law_many"] (defScope dDraw) := ⟨rfl, rfl, rfl, by decide +kernel, rfl, by decide +kernel, by decide +kernel⟩
theorem okDraw {f : Addr} {fd : FuncData} (F : At K mg "_law_draw" dDraw ["_law_pot_here", "_law_many"] f fd) (T : Txt K mg) : Fn P w K mg base CX0 1 f fd ["_law_pot_here", "_law_many"] spDraw := by
  refine okN F.fn scDraw (fun vs H Q E h => ?_) (fun cdv A outer s H vs Q E hr h => ?_)
  · obtain ⟨x, d, rfl, _⟩ := h
    rfl
  · obtain ⟨p, m, rfl, ⟨a, b, hp, ha, hb, hb2⟩, hm, hm2, k⟩ := h
    refine ⟨_, pss_cons (ps_if (pt_cmpR op_gt (pe_ix ix_list (pv 0) pe_int (fun _ _ => rfl)) pe_int (nomark _))
        (pss_cons (ps_asg (pe_callB call_divmod (by rfl) T.divmod (by decide +kernel) (pa_cons (pe_ix ix_list (pv 0) pe_int (fun _ _ => rfl)) (pa_cons (pv 1) pa_nil)))
            (pg_tup rfl (pgs_cons (pg_sub (pv 0) pe_int set_list) (pgs_cons (pg_name (i := 2) scDraw.nd rfl (.inl rfl)) pgs_nil))))
          (pss_one (ps_ret (pv 2)))) pss_nil)
      (pss_cons (ps_asg (pe_op op_mod (pe_callTy call_int1 (by rfl) T.int (by decide +kernel) (pa_cons (pe_op op_add (pe_op op_mul (pe_ix ix_list (pv 0) pe_int (fun _ _ => rfl)) pe_int) pe_int) pa_nil)) pe_int) (pg_sub (pv 0) pe_int set_list))
      (pss_one (ps_ret (pe_op op_mod (pe_callTy call_int1 (by rfl) T.int (by decide +kernel) (pa_cons (pe_op op_fdiv (pe_op op_mod (pe_callTy call_int1 (by rfl) T.int (by decide +kernel) (pa_cons (pe_op op_mul (pe_ix ix_list (pv 0) pe_int (fun _ _ => rfl)) (pe_ix ix_list (pv 0) pe_int (fun _ _ => rfl))) pa_nil)) pe_int) pe_int) pa_nil)) (pv 1))))), ?_⟩
    have hS : SqL K H p [.int a, .int b] := SqL.of hp
    refine ⟨_, rfl, p, _, _, .int a, rfl, rfl, hS, atI_nat (j := 0) rfl, _, _, rfl, rfl, _, rfl, ?_⟩
    by_cases c : (0 : Int) < a
    · have c1 : decide ((0 : Int) < a) = true := decide_eq_true c
      show if decide ((0 : Int) < a) = true then _ else _
      rw [c1]
      refine iteT ⟨_, rfl, p, _, _, .int a, rfl, rfl, hS, atI_nat (j := 0) rfl, _, rfl, a, m, rfl, ⟨hm, by omega⟩, fun t ht => ?_⟩
      have npt : p ≠ t := ne_of_none hp ht
      have e1 : (upd H t (.tup [.int (a / m), .int (a % m)])) p = some (.lst [.int a, .int b]) := by rw [upd_ne npt]; exact hp
      refine ⟨t, _, rfl, .inl (.inl upd_same), rfl, _, _, rfl, _, rfl, p, _, _, 0, rfl, rfl, e1, rfl, _, _, rfl, rfl, _, rfl, ?_⟩
      refine k (a % m) _ (Int.emod_nonneg _ (by omega)) (Int.emod_lt_of_pos _ hm) (fun x o e n => ?_) ⟨a / m, b, upd_same, ?_, hb, hb2⟩
      · rw [upd_ne n, upd_ne (ne_of_none e ht)]
        exact e
      · exact Int.ediv_nonneg ha (by omega)
    · have c1 : decide ((0 : Int) < a) = false := decide_eq_false c
      show if decide ((0 : Int) < a) = true then _ else _
      rw [c1]
      refine iteF ⟨_, rfl, p, _, _, .int b, rfl, rfl, hS, atI_nat (j := 1) rfl, _, _, rfl, rfl, .inr ⟨by decide, by decide⟩, _, _, rfl, rfl, .inl ⟨_, rfl, _, _, rfl, rfl, (by show (0 : Int) < 2147483629; decide), _, rfl, p, _, _, 1, rfl, rfl, hp, rfl, ?_⟩⟩
      have b0 := Int.emod_nonneg (b * 48271 + 11083) (show (2147483629 : Int) ≠ 0 by decide)
      have b1 := Int.emod_lt_of_pos (b * 48271 + 11083) (show (0 : Int) < 2147483629 by decide)
      have hS2 : SqL K (upd H p (.lst [.int a, .int ((b * 48271 + 11083) % 2147483629)])) p [.int a, .int ((b * 48271 + 11083) % 2147483629)] := SqL.of upd_same
      refine ⟨_, rfl, p, _, _, .int ((b * 48271 + 11083) % 2147483629), rfl, rfl, hS2, atI_nat (j := 1) rfl, _, rfl, p, _, _, .int ((b * 48271 + 11083) % 2147483629), rfl, rfl, hS2, atI_nat (j := 1) rfl, _, _, rfl, rfl, .inl ⟨by omega, by omega⟩,
        .inl ⟨_, rfl, _, _, rfl, rfl, (by show (0 : Int) < 2147483587; decide), _, _, rfl, rfl, ⟨by decide, by decide⟩, .inl ⟨_, rfl, _, rfl, _, _, rfl, rfl, hm, ?_⟩⟩⟩
      exact k _ _ (Int.emod_nonneg _ (by omega)) (Int.emod_lt_of_pos _ hm) ExBut.upd ⟨a, _, upd_same, ha, b0, by omega⟩
theorem scPick : FnScope ["_law_pot_here", "_law_some"] ["_law_pot_here", "_law_some"] (defScope dPick) := ⟨rfl, rfl, rfl, by decide +kernel, rfl, by decide +kernel, by decide +kernel⟩
theorem okPick {f : Addr} {fd : FuncData} (F : At K mg "_law_pick" dPick ["_law_pot_here", "_law_some"] f fd) (T : Txt K mg) : Fn P w K mg base CX0 2 f fd ["_law_pot_here", "_law_some"] spPick := by
  obtain ⟨fB, fdB, FB⟩ := T.draw
  have GB : Fn P w K mg base CX0 1 fB fdB ["_law_pot_here", "_law_many"] spDraw := okDraw FB T
  refine okN F.fn scPick (fun vs H Q E h => ?_) (fun cdv A outer s H vs Q E hr h => ?_)
  · obtain ⟨x, d, rfl, _⟩ := h
    rfl
  · obtain ⟨p, z, rfl, hp, h1, h2, k⟩ := h
    refine ⟨_, pss_one (ps_ret (pe_item_str (pv 1) (pc GB hr (by rfl) FB.gl FB.fn.kp FB.bi .nil pass0 (pa_cons (pv 0) (pa_cons (pe_callB call_len_str (by rfl) T.len PySem.boot_len (pa_cons (pv 1) pa_nil)) pa_nil))) (fun _ _ => rfl))), ?_⟩
    refine ⟨_, rfl, _, rfl, _, rfl, z, rfl, Nat.le_trans h2 (by decide), p, _, rfl, hp, by omega, by omega, fun r H' r0 r1 e hp' => ?_⟩
    have hi : r.toNat < z.cps.size := by
      have : z.length = z.cps.size := rfl
      omega
    refine ⟨z, r, z.cps[r.toNat], rfl, rfl, r0, by omega, r1, by simp [hi], ?_⟩
    exact k _ H' (by simp) e hp'
end
end W

set_option Elab.async false
set_option linter.all false
set_option maxRecDepth 100000
set_option maxHeartbeats 4000000
namespace W
open PySem PySem.Spec PyProof.Rows L2 Evl G
def Okd (d : PyData) : Prop := Showy d ∧ szS d ≤ 1000 ∧ szD d ≤ 1000 ∧ partsShowy d ∧ partsParts d
def data0 : List PyData := [.none, .bool true, .bool false, .int 0, .int 1, .int 2, .int (-1), .int (10 ^ 29), .str "", .str "a", .str "A", .str "9a", .str "a9", .str "a b", .str "a_", .str "0", .str "abcdefghijkl"]
def data1 : List PyData := [.str "abcdefghijklm", .tuple [], .tuple [.int 0], .tuple [.int 1, .int 0], .list [.int 0], .tuple [.bool true], .tuple [.str "0"], .list [], .list [.tuple [.int 0]], .tuple [.tuple [.int 0], .tuple [.int 1]], .dict [], .dict [(.int 0, .int 1)], .str "01"]
def data2 : List PyData := [.list [.tuple [.int 0], .tuple [.int 0, .int 1]], .list [.list [.int 0]], .list [.tuple [.int 0, .int 1], .tuple [.int 1, .int 1]], .tuple [.int 0, .none], .list [.tuple []], .list [.tuple [], .tuple []], .tuple [.int 2], .tuple [.int 0, .int (-1)], .list [.none]]
def data3 : List PyData := [.tuple [.int 0, .int 1, .bool false], .str "a\n", .str "aB", .str "a\nb", .str "\n"]
theorem nd_pow29 {K : PySem.W.Frag} : Nd K (tOp (rI CPow fun i j => .int (i ^ j.toNat)) (tC (.int 10)) (tC (.int 29))) (.int (10 ^ 29)) := fun _ H _ q => ⟨10, 29, rfl, rfl, ⟨by decide, by decide, by decide⟩, q _ H (Ex.refl H) (.int (10 ^ 29))⟩
theorem ndd_01 {K : PySem.W.Frag} : Ndd K (tDisp [(tC (.int 0), tC (.int 1))]) (.dict [(.int 0, .int 1)]) := fun σ H Q q p hp =>
  ⟨upd_same, [(Sum.inl 0, .int 1)], rfl, (by decide), by
    rw [upd_upd]
    exact q _ _ (Ex.new hp) (.dk (kvs := [(Sum.inl 0, .int 1)]) (nw_some.mpr ⟨hp, upd_same⟩) (.cons rfl .nil))⟩
instance (d : PyData) : Decidable (Showy d) := by unfold Showy; exact inferInstance
def showyB : PyData → Bool := fun d => decide (Showy d)
def okB (d : PyData) : Bool := decide (Showy d) && decide (szS d ≤ 1000) && decide (szD d ≤ 1000) && (match d with | .list ds => ds.all showyB | .tuple ds => ds.all showyB | _ => true) &&
  (match d with | .list ds => ds.all (fun d => match d with | .list ds => ds.all showyB | .tuple ds => ds.all showyB | _ => true) | .tuple ds => ds.all (fun d => match d with | .list ds => ds.all showyB | .tuple ds => ds.all showyB | _ => true) | _ => true)
theorem parts_of {d : PyData} (h : (match d with | .list ds => ds.all showyB | .tuple ds => ds.all showyB | _ => true) = true) : partsShowy d := by
  cases d with
  | list ds => intro x hx; exact of_decide_eq_true (List.all_eq_true.mp h x hx)
  | tuple ds => intro x hx; exact of_decide_eq_true (List.all_eq_true.mp h x hx)
  | _ => trivial
theorem okd_of {d : PyData} (h : okB d = true) : Okd d := by
  unfold okB at h
  simp only [Bool.and_eq_true, decide_eq_true_eq] at h
  obtain ⟨⟨⟨⟨h1, h2⟩, h3⟩, h4⟩, h5⟩ := h
  refine ⟨h1, h2, h3, parts_of h4, ?_⟩
  cases d with
  | list ds => intro x hx; exact parts_of (List.all_eq_true.mp h5 x hx)
  | tuple ds => intro x hx; exact parts_of (List.all_eq_true.mp h5 x hx)
  | _ => trivial
theorem ok0 : ∀ d ∈ data0, Okd d := fun d h => okd_of (List.all_eq_true.mp (show data0.all okB = true by decide +kernel) d h)
theorem ok1 : ∀ d ∈ data1, Okd d := fun d h => okd_of (List.all_eq_true.mp (show data1.all okB = true by decide +kernel) d h)
theorem ok2 : ∀ d ∈ data2, Okd d := fun d h => okd_of (List.all_eq_true.mp (show data2.all okB = true by decide +kernel) d h)
theorem ok3 : ∀ d ∈ data3, Okd d := fun d h => okd_of (List.all_eq_true.mp (show data3.all okB = true by decide +kernel) d h)
end W

set_option Elab.async false
set_option linter.all false
set_option maxRecDepth 100000
set_option maxHeartbeats 4000000
namespace W
open PySem PySem.Spec PyProof.Rows L2 Evl G
/-! drawn data are small -/
def Tiny (d : PyData) : Prop := d = .int 0 ∨ d = .int 1 ∨ d = .bool true
def Flat (d : PyData) : Prop := ∃ ts, d = .tuple ts ∧ ts.length ≤ 5 ∧ ∀ t ∈ ts, Tiny t
theorem shownAll_sum {c : Nat} : ∀ ds : List PyData, (∀ d ∈ ds, d.shown.length ≤ c) → ((PyData.shownAll ds).map (·.length)).sum ≤ ds.length * c
  | [], _ => by simp [PyData.shownAll]
  | d :: ds, h => by
    have ih := shownAll_sum ds fun x hx => h x (List.mem_cons_of_mem _ hx)
    have h1 := h d List.mem_cons_self
    simp only [PyData.shownAll, List.map_cons, List.sum_cons, List.length_cons]
    rw [Nat.add_mul]
    omega
theorem shownAll_len : ∀ ds : List PyData, (PyData.shownAll ds).length = ds.length
  | [] => rfl
  | d :: ds => by simp [PyData.shownAll, shownAll_len ds]
theorem showableAll_of : ∀ {ds : List PyData}, (∀ d ∈ ds, d.showable = true) → PyData.showableAll ds = true
  | [], _ => rfl
  | d :: ds, h => by
    simp only [PyData.showableAll, Bool.and_eq_true]
    exact ⟨h d List.mem_cons_self, showableAll_of fun x hx => h x (List.mem_cons_of_mem _ hx)⟩
theorem depthAll_of {c : Nat} : ∀ {ds : List PyData}, (∀ d ∈ ds, d.depth ≤ c) → PyData.depthAll ds ≤ c
  | [], _ => Nat.zero_le _
  | d :: ds, h => by
    simp only [PyData.depthAll]
    exact Nat.max_le.mpr ⟨h d List.mem_cons_self, depthAll_of fun x hx => h x (List.mem_cons_of_mem _ hx)⟩
theorem tiny_shown {d : PyData} (h : Tiny d) : d.shown.length ≤ 5 ∧ d.showable = true ∧ d.depth = 0 := by
  rcases h with rfl | rfl | rfl <;> exact ⟨by decide +kernel, by decide +kernel, rfl⟩
theorem tiny_showy {d : PyData} (h : Tiny d) : Showy d := by
  obtain ⟨a, b, c⟩ := tiny_shown h
  exact ⟨b, by omega, by omega⟩
theorem tuple_bound {ts : List PyData} {c e : Nat} (hl : ts.length ≤ 5) (h : ∀ t ∈ ts, t.shown.length ≤ c ∧ t.showable = true ∧ t.depth ≤ e) : (PyData.tuple ts).shown.length ≤ 5 * c + 13 ∧ (PyData.tuple ts).showable = true ∧ (PyData.tuple ts).depth ≤ e + 1 := by
  refine ⟨?_, showableAll_of fun d hd => (h d hd).2.1, Nat.succ_le_succ (depthAll_of fun d hd => (h d hd).2.2)⟩
  have a := tupleText_len_le (PyData.shownAll ts)
  have b := shownAll_sum ts fun d hd => (h d hd).1
  rw [shownAll_len] at a
  have e1 : ts.length * c ≤ 5 * c := Nat.mul_le_mul_right c hl
  show (tupleText (PyData.shownAll ts)).length ≤ _
  omega
theorem list_bound {ts : List PyData} {c e : Nat} (hl : ts.length ≤ 5) (h : ∀ t ∈ ts, t.shown.length ≤ c ∧ t.showable = true ∧ t.depth ≤ e) : (PyData.list ts).shown.length ≤ 5 * c + 13 ∧ (PyData.list ts).showable = true ∧ (PyData.list ts).depth ≤ e + 1 := by
  refine ⟨?_, showableAll_of fun d hd => (h d hd).2.1, Nat.succ_le_succ (depthAll_of fun d hd => (h d hd).2.2)⟩
  have a := listText_len_le (PyData.shownAll ts)
  have b := shownAll_sum ts fun d hd => (h d hd).1
  rw [shownAll_len] at a
  have e1 : ts.length * c ≤ 5 * c := Nat.mul_le_mul_right c hl
  show (listText (PyData.shownAll ts)).length ≤ _
  omega
theorem flat_bound {d : PyData} (h : Flat d) : d.shown.length ≤ 38 ∧ d.showable = true ∧ d.depth ≤ 1 := by
  obtain ⟨ts, rfl, hl, ht⟩ := h
  exact tuple_bound (c := 5) (e := 0) hl fun t m => ⟨(tiny_shown (ht t m)).1, (tiny_shown (ht t m)).2.1, Nat.le_of_eq (tiny_shown (ht t m)).2.2⟩
theorem flat_showy {d : PyData} (h : Flat d) : Showy d := by
  obtain ⟨a, b, c⟩ := flat_bound h
  exact ⟨b, by omega, by omega⟩
theorem flat_parts {d : PyData} (h : Flat d) : partsShowy d := by
  obtain ⟨ts, rfl, hl, ht⟩ := h
  exact fun t m => tiny_showy (ht t m)
theorem okd_list {ds : List PyData} (hl : ds.length ≤ 5) (h : ∀ d ∈ ds, Flat d) : Okd (.list ds) := by
  obtain ⟨a, b, c⟩ := list_bound (c := 38) (e := 1) hl fun t m => flat_bound (h t m)
  exact ⟨⟨b, by omega, by omega⟩, Nat.zero_le _, Nat.le_trans hl (by decide), fun d m => flat_showy (h d m), fun d m => flat_parts (h d m)⟩
theorem okd_tuple {ds : List PyData} (hl : ds.length ≤ 5) (h : ∀ d ∈ ds, Flat d) : Okd (.tuple ds) := by
  obtain ⟨a, b, c⟩ := tuple_bound (c := 38) (e := 1) hl fun t m => flat_bound (h t m)
  exact ⟨⟨b, by omega, by omega⟩, Nat.zero_le _, Nat.le_trans hl (by decide), fun d m => flat_showy (h d m), fun d m => flat_parts (h d m)⟩
theorem okd_str {z : Str} (hl : z.length ≤ 100) (h : ∀ c ∈ z.cps.toList, c < 16 ^ 8) : Okd (.str z) := by
  have a := StrLaws.reprText_len z h
  exact ⟨⟨rfl, Nat.zero_le _, (by show (reprText z).length ≤ 100000; omega)⟩, Nat.le_trans hl (by decide), Nat.zero_le _, trivial, trivial⟩
/-- a comprehension over a range, in which the pot at p is drawn from; what comes is told by R of the heap and each value -/
theorem lc_pot {p D : Addr} {lo : Int} {n : Nat} {te : TE} {σ : L2.St} {j : Nat} {H : Hp} {Qd : Hp → Prop} (R : Hp → V → Prop) (hn : n ≤ 1000) (hp : Pot H p) (new : H D = none)
    (mono : ∀ Ha Hb v, (∀ b o, Ha b = some o → b ≠ p → b ≠ D → Hb b = some o) → R Ha v → R Hb v)
    (he : ∀ i, i < n → ∀ Ha, ExBut p H Ha → Pot Ha p → Ha D ≠ none → ∀ Q1 : VK, (∀ v Hb, R Hb v → ExBut p Ha Hb → Pot Hb p → Q1 v Hb) → te ((wipe σ [j]).set j (some (.int (lo + (i : Int))))) Ha Q1)
    (hd : ∀ H' vs, ExBut p H H' → Pot H' p → vs.length = n → (∀ v ∈ vs, R H' v) → H' D = some (.lst vs) → Qd H') : LcG (Itr lo n) j te σ H D Qd := by
  have npD : D ≠ p := by
    obtain ⟨a, b, hp, _⟩ := hp
    exact (ne_of_none hp new).symm
  refine lc_it (g := gName j) (tt := tYes) (te := te) (vs := [j]) (σ := σ) walk_range (fun i Hc => ExBut p H Hc ∧ Pot Hc p ∧ ∃ vs, vs.length = i ∧ (∀ v ∈ vs, R Hc v) ∧ Hc D = some (.lst vs))
    ⟨ExBut.of (Ex.new new), hp.ex (Ex.new new), [], rfl, (fun v m => by cases m), upd_same⟩ (fun _ _ _ _ => trivial) (fun i x Ha Hb hi pv y => ?_) (fun Hc pv => ?_)
  · obtain ⟨e, pt, vs, hl, hR, hD⟩ := pv
    obtain ⟨rfl, rfl⟩ := y
    refine ⟨wipe_set σ j _, ?_⟩
    show te ((wipe σ [j]).set j (some (.int (lo + (i : Int))))) Hb _
    refine he i hi Hb e pt (by rw [hD]; simp) _ fun v Hc rv e2 pt2 => ?_
    have hD2 := e2 D _ hD npD
    have keep : ∀ b o, Hc b = some o → b ≠ p → b ≠ D → (upd Hc D (.lst (vs ++ [v]))) b = some o := fun b o q _ n => by rw [upd_ne n]; exact q
    refine ⟨vs, hD2, ?_, fun b o q n => ?_, ?_, vs ++ [v], by simp [hl], fun z m => ?_, upd_same⟩
    · rw [hl]
      exact Nat.lt_of_lt_of_le (Nat.lt_of_lt_of_le hi hn) (by decide)
    · rw [upd_ne (ne_of_none q new)]
      exact e2 b o (e b o q n) n
    · obtain ⟨a, b, q, r⟩ := pt2
      exact ⟨a, b, by rw [upd_ne npD.symm]; exact q, r⟩
    · rcases List.mem_append.mp m with m | m
      · exact mono Hc _ z keep (mono Hb Hc z (fun b o q n _ => e2 b o q n) (hR z m))
      · have : z = v := by simpa using m
        rw [this]
        exact mono Hc _ v keep rv
  · obtain ⟨e, pt, vs, hl, hR, hD⟩ := pv
    exact hd Hc vs e pt hl hR hD
end W

set_option Elab.async false
set_option linter.all false
set_option maxRecDepth 100000
set_option maxHeartbeats 4000000
namespace W
open PySem PySem.Spec PyProof.Rows L2 Evl G
section
variable {K : PySem.W.Frag}
/-- xs + [data, ..] -/
theorem rd_cat {σ : L2.St} {H0 H1 : Hp} {Q : VK} {l : Addr} {xs : List V} {ds es : List PyData} {i : Nat} {ta : TA} (hσ : σ[i]? = some (some (.ref l))) (e : Ex H0 H1) (hl : H1 l = some (.lst xs)) (hd : DdAll K (nw H0 H1) xs ds) (a : Ndds K ta es) (hz : ds.length ≤ 500) (hz2 : es.length ≤ 500)
    (k : ∀ l' xs' H', Ex H0 H' → H0 l' = none → H' l' = some (.lst xs') → DdAll K (nw H0 H') xs' (ds ++ es) → Q (.ref l') H') : tOp rCat (tVar i) (tLst ta) σ H1 Q := by
  refine ⟨_, hσ, rd_data (K := K) a (by omega) fun l1 xs1 H2 n1 e2 hl1 hd1 => ?_⟩
  refine ⟨l, l1, xs, xs1, rfl, rfl, e2 _ _ hl, hl1, ?_, fun c hc => ?_⟩
  · rw [hd.len, hd1.len]
    exact Nat.le_trans (Nat.add_le_add hz hz2) (show 1000 ≤ sizeLine by decide)
  · have e3 : Ex H2 (upd H2 c (.lst (xs ++ xs1))) := Ex.new hc
    exact k c _ _ ((e.trans e2).trans e3) (fresh_back (e.trans e2) hc) upd_same ((hd.ex (nw_ex (e2.trans e3))).append ((hd1.ex (nw_back e)).ex (nw_ex e3)))
theorem rd_repA {H : Hp} {Q : VK} {l : Addr} {n : Nat} {xs : List V} {y : V} {k : Int} (hy : y = .int k) (hk : k = (n : Int)) (hT : SqT K H l xs) (hne : xs ≠ []) (hn : n ≤ 1000) (hz : xs.length ≤ 1000)
    (q : ∀ p H', Ex H H' → SqT K H' p (List.replicate n xs).flatten → Q (.ref p) H') : rRepA K (.ref l) y H Q := by
  refine ⟨l, k, xs, rfl, hy, hT, hne, by omega, by omega, hz, fun e => ?_, fun e p hp => ?_⟩
  · have : n = 1 := by omega
    subst this
    refine q l H (Ex.refl H) ?_
    simpa using hT
  · have : k.toNat = n := by omega
    rw [this]
    exact q p _ (Ex.new hp) (st_of upd_same)
theorem rep_one {α : Type} (n : Nat) (x : α) : (List.replicate n [x]).flatten = List.replicate n x := by
  induction n with
  | zero => rfl
  | succ n ih => simp [List.replicate_succ, ih]
theorem dpAll_rep {H : Hp} {x : V} {d : PyData} (n : Nat) (h : Dp K H x d) : DpAll K H (List.replicate n x) (List.replicate n d) := by
  induction n with
  | zero => exact .nil
  | succ n ih => exact .cons h ih
theorem dpAll_ints {H : Hp} : ∀ bs : List Int, DpAll K H (bs.map V.int) (bs.map PyData.int)
  | [] => .nil
  | b :: bs => .cons (.int b) (dpAll_ints bs)
theorem dpAll_app {H : Hp} : ∀ {xs ys : List V} {ds es : List PyData}, DpAll K H xs ds → DpAll K H ys es → DpAll K H (xs ++ ys) (ds ++ es)
  | [], _, _, _, h, q => by cases h; exact q
  | _ :: _, _, _, _, h, q => by
    cases h with
    | cons a b => exact .cons a (dpAll_app b q)
end
/-- drawn signs, joined -/
theorem signs_of {A : List Nat} : ∀ {vs : List V}, (∀ v ∈ vs, ∃ c : Nat, v = .str ⟨#[c]⟩ ∧ c ∈ A) → ∃ cs : List Nat, vs = (cs.map fun c => (⟨#[c]⟩ : Str)).map V.str ∧ cs.length = vs.length ∧ ∀ c ∈ cs, c ∈ A
  | [], _ => ⟨[], rfl, rfl, fun _ m => by cases m⟩
  | v :: vs, h => by
    obtain ⟨c, rfl, hc⟩ := h v List.mem_cons_self
    obtain ⟨cs, e1, e2, e3⟩ := signs_of (A := A) fun x hx => h x (List.mem_cons_of_mem _ hx)
    refine ⟨c :: cs, by rw [e1]; rfl, by simp [e2], fun x m => ?_⟩
    rcases List.mem_cons.mp m with rfl | m
    · exact hc
    · exact e3 x m
theorem joined_signs0 : ∀ cs : List Nat, (Str.join ("" : Str) (cs.map fun c => (⟨#[c]⟩ : Str))).cps.toList = cs
  | [] => rfl
  | [c] => rfl
  | c :: d :: r => by
    have ih := joined_signs0 (d :: r)
    have e : Str.join ("" : Str) ((c :: d :: r).map fun c => (⟨#[c]⟩ : Str)) = (⟨#[c]⟩ : Str) ++ ("" : Str) ++ Str.join ("" : Str) ((d :: r).map fun c => (⟨#[c]⟩ : Str)) := rfl
    rw [e, cps_toList_append, cps_toList_append, ih]
    rfl
theorem joined_signs (cs : List Nat) : (Txt.join ("" : Str) (cs.map fun c => (⟨#[c]⟩ : Str))).cps.toList = cs := by
  have e : Txt.join ("" : Str) (cs.map fun c => (⟨#[c]⟩ : Str)) = Str.join ("" : Str) (cs.map fun c => (⟨#[c]⟩ : Str)) := by simpa using join_plain_closes ("" : Str) (cs.map fun c => (⟨#[c]⟩ : Str))
  rw [e]
  exact joined_signs0 cs
theorem singles_sum : ∀ cs : List Nat, ((cs.map fun c => (⟨#[c]⟩ : Str)).map (·.length)).sum = cs.length
  | [] => rfl
  | c :: r => by
    have ih := singles_sum r
    have e : ((⟨#[c]⟩ : Str)).length = 1 := rfl
    simp only [List.map_cons, List.sum_cons, List.length_cons, e]
    omega
theorem ints_of : ∀ {vs : List V}, (∀ v ∈ vs, ∃ b : Int, v = .int b ∧ (b = 0 ∨ b = 1)) → ∃ bs : List Int, vs = bs.map V.int ∧ bs.length = vs.length ∧ ∀ b ∈ bs, b = 0 ∨ b = 1
  | [], _ => ⟨[], rfl, rfl, fun _ m => by cases m⟩
  | v :: vs, h => by
    obtain ⟨c, rfl, hc⟩ := h v List.mem_cons_self
    obtain ⟨cs, e1, e2, e3⟩ := ints_of fun x hx => h x (List.mem_cons_of_mem _ hx)
    refine ⟨c :: cs, by rw [e1]; rfl, by simp [e2], fun x m => ?_⟩
    rcases List.mem_cons.mp m with rfl | m
    · exact hc
    · exact e3 x m
/-- a drawn row of bits, as a tuple that stands -/
def RowAt (n : Nat) (H : Hp) (v : V) : Prop := ∃ (bs : List Int) (t : Addr), bs.length = n ∧ (∀ b ∈ bs, b = 0 ∨ b = 1) ∧ v = .ref t ∧ H t = some (.tup (bs.map V.int))
theorem rows_of {K : PySem.W.Frag} {n : Nat} {H : Hp} (hn : n ≤ 5) : ∀ {vs : List V}, (∀ v ∈ vs, RowAt n H v) → ∃ ds : List PyData, DpAll K H vs ds ∧ ds.length = vs.length ∧ ∀ d ∈ ds, Flat d
  | [], _ => ⟨[], .nil, rfl, fun _ m => by cases m⟩
  | v :: vs, h => by
    obtain ⟨bs, t, hl, hb, rfl, ht⟩ := h v List.mem_cons_self
    obtain ⟨ds, e1, e2, e3⟩ := rows_of (K := K) hn fun x hx => h x (List.mem_cons_of_mem _ hx)
    refine ⟨.tuple (bs.map PyData.int) :: ds, .cons (.tup (st_of ht) (dpAll_ints bs)) e1, by simp [e2], fun x m => ?_⟩
    rcases List.mem_cons.mp m with rfl | m
    · refine ⟨_, rfl, by simp; omega, fun t m => ?_⟩
      obtain ⟨b, hb1, rfl⟩ := List.mem_map.mp m
      rcases hb b hb1 with rfl | rfl
      · exact .inl rfl
      · exact .inr (.inl rfl)
    · exact e3 x m
end W

set_option Elab.async false
set_option linter.all false
set_option maxRecDepth 100000
set_option maxHeartbeats 8000000
namespace W
open PySem PySem.Spec PyProof.Rows L2 Evl G
/-- tuple(list or tuple) -/
def rTup (K : PySem.W.Frag) : List V → Hp → VK → Prop := fun xs H Q => ∃ p ys, xs = [.ref p] ∧ ((SqL K H p ys ∧ ∀ l, H l = none → Q (.ref l) (upd H l (.tup ys))) ∨ (SqT K H p ys ∧ Q (.ref p) H))
theorem call_tup {Y : Cx} {K : PySem.W.Frag} (h : Y.K = K := by rfl) : CallR Y (.type "tuple") (rTup K) := by
  subst h
  exact call_tuple_of
def spValues (K : PySem.W.Frag) : Sp := fun vs H Q _ => ∃ p : Addr, vs = [.ref p] ∧ Pot H p ∧ ∀ l xs ds H', ExBut p H H' → H' l = some (.lst xs) → DdAll K H' xs ds → (∀ d ∈ ds, Okd d) → ds.length ≤ 100 → Q (.ref l) H'
section
variable {P : Program} {w : World} {K : PySem.W.Frag} {mg : Str → Option Value} {base : Heap}
theorem scValues : FnScope ["_law_pot_here", "_law_some", "_law_letter_now", "_law_many", "_law_row", "_law_turn", "_law_spot"] ["_law_pot_here"] (defScope dValues) := ⟨rfl, rfl, rfl, by decide +kernel, rfl, by decide +kernel, by decide +kernel⟩
theorem okValues {f : Addr} {fd : FuncData} (F : At K mg "_law_values" dValues ["_law_pot_here"] f fd) (T : Txt K mg) : Fn P w K mg base CX0 3 f fd ["_law_pot_here"] (spValues K) := by
  obtain ⟨fD, fdD, FD⟩ := T.draw
  obtain ⟨fC, fdC, FC⟩ := T.pick
  have GD : Fn P w K mg base CX0 1 fD fdD ["_law_pot_here", "_law_many"] spDraw := okDraw FD T
  have GC : Fn P w K mg base CX0 2 fC fdC ["_law_pot_here", "_law_some"] spPick := okPick FC T
  refine okN F.fn scValues (fun vs H Q E h => ?_) (fun cdv A outer s H vs Q E hr h => ?_)
  · obtain ⟨x, rfl, _⟩ := h
    rfl
  · obtain ⟨p, rfl, hp, k⟩ := h
    have hr1 : Rm 1 _ := hr.mono (by decide)
    refine ⟨_, pss_cons (ps_set (i := 1) scValues.nd rfl (Or.inl rfl) (pe_lst (pa_cons pe_non (pa_cons pe_bl (pa_cons pe_bl (pa_cons pe_int (pa_cons pe_int (pa_cons pe_int (pa_cons (pe_un un_neg pe_int) (pa_cons (pe_op op_pow pe_int pe_int) (pa_cons pe_str (pa_cons pe_str (pa_cons pe_str (pa_cons pe_str (pa_cons pe_str (pa_cons pe_str (pa_cons pe_str (pa_cons pe_str (pa_cons pe_str pa_nil)))))))))))))))))))
      (pss_cons (ps_set (i := 1) scValues.nd rfl (Or.inl rfl) (pe_op op_cat (pv 1) (pe_lst (pa_cons pe_str (pa_cons (pe_tup pa_nil) (pa_cons (pe_tup (pa_cons pe_int pa_nil)) (pa_cons (pe_tup (pa_cons pe_int (pa_cons pe_int pa_nil))) (pa_cons (pe_lst (pa_cons pe_int pa_nil)) (pa_cons (pe_tup (pa_cons pe_bl pa_nil)) (pa_cons (pe_tup (pa_cons pe_str pa_nil)) (pa_cons (pe_lst pa_nil) (pa_cons (pe_lst (pa_cons (pe_tup (pa_cons pe_int pa_nil)) pa_nil)) (pa_cons (pe_tup (pa_cons (pe_tup (pa_cons pe_int pa_nil)) (pa_cons (pe_tup (pa_cons pe_int pa_nil)) pa_nil))) (pa_cons pe_dnewK (pa_cons (pe_disp (pps_cons pe_int pe_int pps_nil) (by rfl) (by rfl) (fun z => by cases z) (by decide)) (pa_cons pe_str pa_nil))))))))))))))))
      (pss_cons (ps_set (i := 1) scValues.nd rfl (Or.inl rfl) (pe_op op_cat (pv 1) (pe_lst (pa_cons (pe_lst (pa_cons (pe_tup (pa_cons pe_int pa_nil)) (pa_cons (pe_tup (pa_cons pe_int (pa_cons pe_int pa_nil))) pa_nil))) (pa_cons (pe_lst (pa_cons (pe_lst (pa_cons pe_int pa_nil)) pa_nil)) (pa_cons (pe_lst (pa_cons (pe_tup (pa_cons pe_int (pa_cons pe_int pa_nil))) (pa_cons (pe_tup (pa_cons pe_int (pa_cons pe_int pa_nil))) pa_nil))) (pa_cons (pe_tup (pa_cons pe_int (pa_cons pe_non pa_nil))) (pa_cons (pe_lst (pa_cons (pe_tup pa_nil) pa_nil)) (pa_cons (pe_lst (pa_cons (pe_tup pa_nil) (pa_cons (pe_tup pa_nil) pa_nil))) (pa_cons (pe_tup (pa_cons pe_int pa_nil)) (pa_cons (pe_tup (pa_cons pe_int (pa_cons (pe_un un_neg pe_int) pa_nil))) (pa_cons (pe_lst (pa_cons pe_non pa_nil)) pa_nil))))))))))))
      (pss_cons (ps_set (i := 1) scValues.nd rfl (Or.inl rfl) (pe_op op_cat (pv 1) (pe_lst (pa_cons (pe_tup (pa_cons pe_int (pa_cons pe_int (pa_cons pe_bl pa_nil)))) (pa_cons pe_str (pa_cons pe_str (pa_cons pe_str (pa_cons pe_str pa_nil))))))))
      (pss_cons (ps_set (i := 2) scValues.nd rfl (Or.inl rfl) (pe_join pe_str (pe_lc (own := [("_law_turn", 5)]) (g := gName 5) (by rfl) scValues.nd (pi_range1 (by rfl) T.range (pa_cons (pe_op op_add pe_int (pc GD hr1 (by rfl) FD.gl FD.fn.kp FD.bi .nil pass0 (pa_cons (pv 0) (pa_cons pe_int pa_nil)))) pa_nil))
          (blkOk_by (own := [("_law_turn", 5)]) (N := ["_law_pot_here", "_law_some", "_law_letter_now", "_law_many", "_law_row", "_law_turn", "_law_spot"]) (sc := defScope dValues) (by decide +kernel)) (fun _ _ _ _ _ => pg_name (i := 5) scValues.nd rfl (Or.inl rfl)) (fun _ _ _ _ _ => pts_nil)
          (fun _ _ _ _ _ => pc GC hr (by rfl) FC.gl FC.fn.kp FC.bi .nil pass0 (pa_cons (pv 0) (pa_cons pe_str pa_nil))))))
      (pss_cons (ps_set (i := 3) scValues.nd rfl (Or.inr rfl) (pc GD hr1 (by rfl) FD.gl FD.fn.kp FD.bi .nil pass0 (pa_cons (pv 0) (pa_cons pe_int pa_nil))))
      (pss_cons (ps_setLc (i := 4) (own := [("_law_turn", 5)]) (g := gName 5) (by rfl) scValues.nd rfl rfl (sw_true rfl rfl rfl (by decide +kernel)) (pi_range1 (by rfl) T.range (pa_cons (pc GD hr1 (by rfl) FD.gl FD.fn.kp FD.bi .nil pass0 (pa_cons (pv 0) (pa_cons pe_int pa_nil))) pa_nil))
          (blkOk_by (own := [("_law_turn", 5)]) (N := ["_law_pot_here", "_law_some", "_law_letter_now", "_law_many", "_law_row", "_law_turn", "_law_spot"]) (sc := defScope dValues) (by decide +kernel)) (fun _ _ _ _ _ => pg_name (i := 5) scValues.nd rfl (Or.inl rfl)) (fun _ _ _ _ _ => pts_nil)
          (fun _ _ _ _ _ => pe_callTy (call_tup (K := K)) (by rfl) T.tuple (by decide +kernel) (pa_cons (pe_lc (own := [("_law_spot", 6)]) (g := gName 6) (by rfl) scValues.nd (pi_range1 (by rfl) T.range (pa_cons (pv 3) pa_nil))
            (blkOk_by (own := [("_law_spot", 6)]) (by rfl)) (fun _ _ _ _ _ => pg_name (i := 6) scValues.nd rfl (Or.inl rfl)) (fun _ _ _ _ _ => pts_nil)
            (fun _ _ _ _ _ => pc GD hr1 (by rfl) FD.gl FD.fn.kp FD.bi .nil pass0 (pa_cons (pv 0) (pa_cons pe_int pa_nil)))) pa_nil)))
      (pss_one (ps_ret (pe_op op_cat (pv 1) (pe_lst (pa_cons (pv 2) (pa_cons (pe_upper (pv 2)) (pa_cons (pv 4) (pa_cons (pe_callTy call_tuple_of (by rfl) T.tuple (by decide +kernel) (pa_cons (pv 4) pa_nil))
        (pa_cons (pe_op op_cat (pv 4) (pe_lst (pa_cons (pe_op op_repA (pe_tup (pa_cons pe_int pa_nil)) (pe_op op_add (pv 3) pe_int)) pa_nil)))
        (pa_cons (pe_op op_cat (pv 4) (pe_lst (pa_cons (pe_op op_repA (pe_tup (pa_cons pe_bl pa_nil)) (pv 3)) pa_nil))) pa_nil)))))))))))))))), ?_⟩
    have np : ∀ {b : Addr}, H b = none → b ≠ p := fun {b} n z => by
      obtain ⟨a1, a2, q, _⟩ := hp
      rw [z, q] at n
      cases n
    unfold tSeq tAsg
    refine rd_data (K := K) (ds := data0) (ndds_cons (ndd_of nd_non) (ndds_cons (ndd_of nd_bl) (ndds_cons (ndd_of nd_bl) (ndds_cons (ndd_of nd_int) (ndds_cons (ndd_of nd_int) (ndds_cons (ndd_of nd_int) (ndds_cons (ndd_of nd_neg) (ndds_cons (ndd_of nd_pow29) (ndds_cons (ndd_of nd_str) (ndds_cons (ndd_of nd_str) (ndds_cons (ndd_of nd_str) (ndds_cons (ndd_of nd_str) (ndds_cons (ndd_of nd_str) (ndds_cons (ndd_of nd_str) (ndds_cons (ndd_of nd_str) (ndds_cons (ndd_of nd_str) (ndds_cons (ndd_of nd_str) ndds_nil))))))))))))))))) (by decide) fun l0 xs0 H1 n0 e1 hl0 hd0 => ?_
    refine rd_cat (K := K) (H0 := H) (es := data1) rfl e1 hl0 hd0 (ndds_cons (ndd_of nd_str) (ndds_cons (ndd_of (nd_tup nds_nil (by decide))) (ndds_cons (ndd_of (nd_tup (nds_cons nd_int nds_nil) (by decide))) (ndds_cons (ndd_of (nd_tup (nds_cons nd_int (nds_cons nd_int nds_nil)) (by decide))) (ndds_cons (ndd_of (nd_lst (nds_cons nd_int nds_nil) (by decide))) (ndds_cons (ndd_of (nd_tup (nds_cons nd_bl nds_nil) (by decide))) (ndds_cons (ndd_of (nd_tup (nds_cons nd_str nds_nil) (by decide))) (ndds_cons (ndd_of (nd_lst nds_nil (by decide))) (ndds_cons (ndd_of (nd_lst (nds_cons (nd_tup (nds_cons nd_int nds_nil) (by decide)) nds_nil) (by decide))) (ndds_cons (ndd_of (nd_tup (nds_cons (nd_tup (nds_cons nd_int nds_nil) (by decide)) (nds_cons (nd_tup (nds_cons nd_int nds_nil) (by decide)) nds_nil)) (by decide))) (ndds_cons ndd_empty (ndds_cons ndd_01 (ndds_cons (ndd_of nd_str) ndds_nil))))))))))))) (by decide) (by decide) fun l1 xs1 H2 e2 n1 hl1 hd1 => ?_
    refine rd_cat (K := K) (H0 := H) (es := data2) rfl e2 hl1 hd1 (ndds_cons (ndd_of (nd_lst (nds_cons (nd_tup (nds_cons nd_int nds_nil) (by decide)) (nds_cons (nd_tup (nds_cons nd_int (nds_cons nd_int nds_nil)) (by decide)) nds_nil)) (by decide))) (ndds_cons (ndd_of (nd_lst (nds_cons (nd_lst (nds_cons nd_int nds_nil) (by decide)) nds_nil) (by decide))) (ndds_cons (ndd_of (nd_lst (nds_cons (nd_tup (nds_cons nd_int (nds_cons nd_int nds_nil)) (by decide)) (nds_cons (nd_tup (nds_cons nd_int (nds_cons nd_int nds_nil)) (by decide)) nds_nil)) (by decide))) (ndds_cons (ndd_of (nd_tup (nds_cons nd_int (nds_cons nd_non nds_nil)) (by decide))) (ndds_cons (ndd_of (nd_lst (nds_cons (nd_tup nds_nil (by decide)) nds_nil) (by decide))) (ndds_cons (ndd_of (nd_lst (nds_cons (nd_tup nds_nil (by decide)) (nds_cons (nd_tup nds_nil (by decide)) nds_nil)) (by decide))) (ndds_cons (ndd_of (nd_tup (nds_cons nd_int nds_nil) (by decide))) (ndds_cons (ndd_of (nd_tup (nds_cons nd_int (nds_cons nd_neg nds_nil)) (by decide))) (ndds_cons (ndd_of (nd_lst (nds_cons nd_non nds_nil) (by decide))) ndds_nil))))))))) (by decide) (by decide) fun l2 xs2 H3 e3 n2 hl2 hd2 => ?_
    refine rd_cat (K := K) (H0 := H) (es := data3) rfl e3 hl2 hd2 (ndds_cons (ndd_of (nd_tup (nds_cons nd_int (nds_cons nd_int (nds_cons nd_bl nds_nil))) (by decide))) (ndds_cons (ndd_of nd_str) (ndds_cons (ndd_of nd_str) (ndds_cons (ndd_of nd_str) (ndds_cons (ndd_of nd_str) ndds_nil))))) (by decide) (by decide) fun l3 xs3 H4 e4 n3 hl3 hd3 => ?_
    have hp4 := hp.ex e4
    -- letter_now
    refine ⟨⟨_, rfl⟩, _, rfl, p, 13, rfl, hp4, by decide, by decide, fun r H5 r0 r1 e5 hp5 => ⟨_, _, rfl, rfl, _, rfl, by omega, by omega, fun D new => ?_⟩⟩
    refine lc_pot (p := p) (fun _ v => ∃ c : Nat, v = .str ⟨#[c]⟩ ∧ c ∈ ("abz0918" : Str).cps.toList) (by omega) hp5 new (fun _ _ _ _ q => q) (fun i hi Ha _ pa _ Q1 q1 => ?_) (fun H6 vs e6 hp6 hl6 hR hD6 => ?_)
    · exact ⟨_, rfl, p, _, rfl, pa, by decide +kernel, by decide +kernel, fun c Hb hc eb pb => q1 _ Hb ⟨c, rfl, hc⟩ eb pb⟩
    obtain ⟨cs, rfl, hcl, hcs⟩ := signs_of hR
    have hz0 := joined_signs cs
    have hzl : (Txt.join ("" : Str) (cs.map fun c => (⟨#[c]⟩ : Str))).length = cs.length := by
      have : (Txt.join ("" : Str) (cs.map fun c => (⟨#[c]⟩ : Str))).cps.toList.length = cs.length := by rw [hz0]
      rw [Array.length_toList] at this
      exact this
    have hcn : cs.length ≤ 13 := by
      have := hcl.trans hl6
      omega
    refine ⟨("" : Str), D, cs.map fun c => (⟨#[c]⟩ : Str), rfl, rfl, .inl (sq_of hD6), ?_, ?_⟩
    · rw [singles_sum, List.length_map, show (("" : Str)).length = 0 by decide +kernel]
      omega
    generalize hzz : Txt.join ("" : Str) (cs.map fun c => (⟨#[c]⟩ : Str)) = z at hz0 hzl
    -- many
    refine ⟨_, rfl, p, 4, rfl, hp6, by decide, by decide, fun m H7 m0 m1 e7 hp7 => ?_⟩
    -- row
    refine ⟨_, rfl, p, 5, rfl, hp7, by decide, by decide, fun r8 H8 r80 r81 e8 hp8 => ⟨_, rfl, by omega, by omega, fun D8 new8 => ?_⟩⟩
    have np8 : ∀ {b : Addr}, H8 b = none → b ≠ p := fun {b} n z => by
      obtain ⟨a1, a2, q, _⟩ := hp8
      rw [z, q] at n
      cases n
    refine lc_pot (p := p) (fun Hc v => ∃ (bs : List Int) (t : Addr), bs.length = m.toNat ∧ (∀ b ∈ bs, b = 0 ∨ b = 1) ∧ v = .ref t ∧ H8 t = none ∧ t ≠ D8 ∧ Hc t = some (.tup (bs.map V.int))) (by omega) hp8 new8 (fun Ha Hb v kp q => ?_) (fun i hi Ha ea pa hDa Q1 q1 => ?_) (fun H9 vs e9 hp9 hl9 hR9 hD9 => ?_)
    · obtain ⟨bs, t, q1, q2, q3, q4, q5, q6⟩ := q
      exact ⟨bs, t, q1, q2, q3, q4, q5, kp _ _ q6 (np8 q4) q5⟩
    · have nold : ∀ {t : Addr}, Ha t = none → H8 t = none ∧ t ≠ D8 := fun {t} n => by
        refine ⟨?_, fun z => hDa (by rw [← z]; exact n)⟩
        cases q : H8 t with
        | none => rfl
        | some o =>
          have tp : t ≠ p := fun z => by
            obtain ⟨a1, a2, q, _⟩ := pa
            rw [z, q] at n
            cases n
          rw [ea t o q tp] at n
          cases n
      refine ⟨_, rfl, m, rfl, by omega, by omega, fun D9 new9 => ?_⟩
      refine lc_pot (p := p) (fun _ v => ∃ b : Int, v = .int b ∧ (b = 0 ∨ b = 1)) (by omega) pa new9 (fun _ _ _ _ q => q) (fun i hi Hc _ pc' _ Q2 q2 => ?_) (fun Hc ws ec pc' hlw hRw hDw => ?_)
      · exact ⟨_, rfl, p, 2, rfl, pc', by decide, by decide, fun b Hd b0 b1 ed pd => q2 _ Hd ⟨b, rfl, by omega⟩ ed pd⟩
      · obtain ⟨bs, rfl, hbl, hbs⟩ := ints_of hRw
        refine ⟨D9, bs.map V.int, rfl, .inl ⟨sq_of hDw, fun t ht => ?_⟩⟩
        have nt : Ha t = none := by
          cases q : Ha t with
          | none => rfl
          | some o =>
            have tp : t ≠ p := fun z => by
              obtain ⟨a1, a2, q, _⟩ := pc'
              rw [z, q] at ht
              cases ht
            rw [ec t o q tp] at ht
            cases ht
        refine q1 _ _ ⟨bs, t, by rw [hbl, hlw], hbs, rfl, (nold nt).1, (nold nt).2, upd_same⟩ (fun b o q n => ?_) (pc'.ex (Ex.new ht))
        rw [upd_ne (ne_of_none q nt)]
        exact ec b o q n
    -- the end
    have eb : ExBut p H4 H9 := (((e5.trans e6).trans e7).trans e8).trans e9
    have hl39 : H9 l3 = some (.lst xs3) := eb _ _ hl3 (np n3)
    have hd9 : DdAll K H9 xs3 (data0 ++ data1 ++ data2 ++ data3) := hd3.ex fun b o q => eb b o (nw_some.mp q).2 (np (nw_some.mp q).1)
    obtain ⟨rds, hrd, hrl, hrf⟩ := rows_of (K := K) (n := m.toNat) (H := H9) (by omega) (vs := vs) fun v mv => by
      obtain ⟨bs, t, q1, q2, q3, _, _, q6⟩ := hR9 v mv
      exact ⟨bs, t, q1, q2, q3, q6⟩
    have hvl : vs.length ≤ 4 := by omega
    have hz1 : z.length ≤ 13 := by omega
    have hzc : ∀ c ∈ z.cps.toList, c < 128 := by
      rw [hz0]
      intro c mc
      have q := hcs c mc
      have e : ("abz0918" : Str).cps.toList = [97, 98, 122, 48, 57, 49, 56] := by decide +kernel
      rw [e] at q
      simp only [List.mem_cons, List.not_mem_nil, or_false] at q
      omega
    refine ⟨_, rfl, _, rfl, _, rfl, ⟨_, rfl⟩, z, rfl, rfl, by omega, _, rfl, _, rfl, D8, vs, rfl, .inl ⟨sq_of hD9, fun t1 ht1 => ?_⟩⟩
    have e10 : Ex H9 (upd H9 t1 (.tup vs)) := Ex.new ht1
    refine ⟨_, rfl, (by show 1 ≤ sizeLine; decide), fun t2 ht2 => ⟨_, rfl, _, _, rfl, rfl, ?_⟩⟩
    have e11 : Ex H9 (upd (upd H9 t1 (.tup vs)) t2 (.tup [.int 0])) := e10.trans (Ex.new ht2)
    refine rd_repA (K := K) (n := m.toNat + 1) (k := m + 1) rfl (by omega) (st_of upd_same) (by simp) (by omega) (by decide) fun g1 H12 x12 hg1 => ⟨(by show 1 ≤ sizeLine; decide), fun l4 hl4 => ?_⟩
    have e12 : Ex H9 H12 := e11.trans x12
    have e13 : Ex H9 (upd H12 l4 (.lst [.ref g1])) := e12.trans (Ex.new hl4)
    refine ⟨D8, l4, vs, [.ref g1], rfl, rfl, e13 _ _ hD9, upd_same, ?_, fun c1 hc1 => ?_⟩
    · exact Nat.le_trans (show vs.length + 1 ≤ 5 by omega) (by decide)
    have e14 : Ex H9 (upd (upd H12 l4 (.lst [.ref g1])) c1 (.lst (vs ++ [.ref g1]))) := e13.trans (Ex.new hc1)
    have hc1' : (upd (upd H12 l4 (.lst [.ref g1])) c1 (.lst (vs ++ [.ref g1]))) c1 = some (.lst (vs ++ [.ref g1])) := upd_same
    have hg1' : SqT K (upd (upd H12 l4 (.lst [.ref g1])) c1 (.lst (vs ++ [.ref g1]))) g1 (List.replicate (m.toNat + 1) [V.int 0]).flatten := ex_t ((Ex.new hl4).trans (Ex.new hc1)) hg1
    generalize hH14 : upd (upd H12 l4 (.lst [.ref g1])) c1 (.lst (vs ++ [.ref g1])) = H14 at e14 hc1' hg1' ⊢
    refine ⟨_, rfl, (by show 1 ≤ sizeLine; decide), fun t3 ht3 => ⟨_, rfl, ?_⟩⟩
    have e15 : Ex H14 (upd H14 t3 (.tup [.bl true])) := Ex.new ht3
    refine rd_repA (K := K) (n := m.toNat) (k := m) rfl (by omega) (st_of upd_same) (by simp) (by omega) (by decide) fun g2 H16 x16 hg2 => ⟨(by show 1 ≤ sizeLine; decide), fun l5 hl5 => ?_⟩
    have e16 : Ex H14 (upd H16 l5 (.lst [.ref g2])) := (e15.trans x16).trans (Ex.new hl5)
    refine ⟨D8, l5, vs, [.ref g2], rfl, rfl, (e14.trans e16) _ _ hD9, upd_same, ?_, fun c2 hc2 => ?_⟩
    · exact Nat.le_trans (show vs.length + 1 ≤ 5 by omega) (by decide)
    have hc2' : (upd (upd H16 l5 (.lst [.ref g2])) c2 (.lst (vs ++ [.ref g2]))) c2 = some (.lst (vs ++ [.ref g2])) := upd_same
    have e17 : Ex H14 (upd (upd H16 l5 (.lst [.ref g2])) c2 (.lst (vs ++ [.ref g2]))) := e16.trans (Ex.new hc2)
    have hg2' : SqT K (upd (upd H16 l5 (.lst [.ref g2])) c2 (.lst (vs ++ [.ref g2]))) g2 (List.replicate m.toNat [V.bl true]).flatten := ex_t ((Ex.new hl5).trans (Ex.new hc2)) hg2
    generalize hH17 : upd (upd H16 l5 (.lst [.ref g2])) c2 (.lst (vs ++ [.ref g2])) = H17 at e17 hc2' hg2' ⊢
    refine ⟨(by show 6 ≤ sizeLine; decide), fun l6 hl6 => ?_⟩
    have e18 : Ex H17 (upd H17 l6 (.lst [.str z, .str (Txt.upper z), .ref D8, .ref t1, .ref c1, .ref c2])) := Ex.new hl6
    have e918 : Ex H9 (upd H17 l6 (.lst [.str z, .str (Txt.upper z), .ref D8, .ref t1, .ref c1, .ref c2])) := (e14.trans e17).trans e18
    refine ⟨l3, l6, xs3, _, rfl, rfl, e918 _ _ hl39, upd_same, ?_, fun lf hlf => ?_⟩
    · rw [hd9.len]
      exact Nat.le_trans (show (data0 ++ data1 ++ data2 ++ data3).length + 6 ≤ 100 by decide) (by decide)
    have x1 : Ex H17 (upd (upd H17 l6 (.lst [.str z, .str (Txt.upper z), .ref D8, .ref t1, .ref c1, .ref c2])) lf (.lst (xs3 ++ [.str z, .str (Txt.upper z), .ref D8, .ref t1, .ref c1, .ref c2]))) := e18.trans (Ex.new hlf)
    generalize hH19 : upd (upd H17 l6 (.lst [.str z, .str (Txt.upper z), .ref D8, .ref t1, .ref c1, .ref c2])) lf (.lst (xs3 ++ [.str z, .str (Txt.upper z), .ref D8, .ref t1, .ref c1, .ref c2])) = H19 at x1 ⊢
    have x14 : Ex H14 H19 := e17.trans x1
    have x9 : Ex H9 H19 := e14.trans x14
    have t1at : H19 t1 = some (.tup vs) := by
      have q : Ex (upd H9 t1 (.tup vs)) H14 := by
        rw [← hH14]
        exact (((Ex.new ht2).trans x12).trans (Ex.new hl4)).trans (Ex.new hc1)
      exact x14 _ _ (q _ _ upd_same)
    have flat0 : Flat (.tuple (List.replicate (m.toNat + 1) (.int 0))) := ⟨_, rfl, by simp; omega, fun t mt => .inl (List.eq_of_mem_replicate mt)⟩
    have flat1 : Flat (.tuple (List.replicate m.toNat (.bool true))) := ⟨_, rfl, by simp; omega, fun t mt => .inr (.inr (List.eq_of_mem_replicate mt))⟩
    have dg1 : Dp K H19 (.ref g1) (.tuple (List.replicate (m.toNat + 1) (.int 0))) := by
      refine .tup (ex_t x14 hg1') ?_
      rw [rep_one]
      exact dpAll_rep _ (.int 0)
    have dg2 : Dp K H19 (.ref g2) (.tuple (List.replicate m.toNat (.bool true))) := by
      refine .tup (ex_t x1 hg2') ?_
      rw [rep_one]
      exact dpAll_rep _ (.bl true)
    have rd19 : DpAll K H19 vs rds := dpAll_ex x9 hrd
    have app1 : ∀ {d : PyData}, Flat d → ∀ x ∈ rds ++ [d], Flat x := fun {d} fd x mx => by
      rcases List.mem_append.mp mx with mx | mx
      · exact hrf x mx
      · have : x = d := by simpa using mx
        rw [this]
        exact fd
    refine k lf _ (data0 ++ data1 ++ data2 ++ data3 ++ [.str z, .str (Txt.upper z), .list rds, .tuple rds, .list (rds ++ [.tuple (List.replicate (m.toNat + 1) (.int 0))]), .list (rds ++ [.tuple (List.replicate m.toNat (.bool true))])]) H19 (((ExBut.of e4).trans eb).trans (.of x9)) (by rw [← hH19]; exact upd_same) ?_ ?_ ?_
    · refine (hd9.ex x9).append (.cons (.dp (.str z)) (.cons (.dp (.str _)) (.cons (.dp (.lst (sq_of (x9 _ _ hD9)) rd19)) (.cons (.dp (.tup (st_of t1at) rd19)) (.cons (.dp (.lst (sq_of (x14 _ _ hc1')) ?_)) (.cons (.dp (.lst (sq_of (x1 _ _ hc2')) ?_)) .nil))))))
      · exact dpAll_app rd19 (.cons dg1 .nil)
      · exact dpAll_app rd19 (.cons dg2 .nil)
    · intro d md
      rcases List.mem_append.mp md with md | md
      · rcases List.mem_append.mp md with md | md
        · rcases List.mem_append.mp md with md | md
          · rcases List.mem_append.mp md with md | md
            · exact ok0 d md
            · exact ok1 d md
          · exact ok2 d md
        · exact ok3 d md
      · simp only [List.mem_cons, List.not_mem_nil, or_false] at md
        rcases md with rfl | rfl | rfl | rfl | rfl | rfl
        · exact okd_str (by omega) fun c mc => Nat.lt_of_lt_of_le (hzc c mc) (by decide)
        · rw [upper_ascii hzc]
          refine okd_str ?_ ?_
          · show (z.cps.map up1).size ≤ 100
            have : z.length = z.cps.size := rfl
            simp
            omega
          · intro c mc
            simp only [Array.toList_map, List.mem_map] at mc
            obtain ⟨c0, h0, rfl⟩ := mc
            have := hzc c0 h0
            have q : up1 c0 ≤ c0 := by
              unfold up1
              split <;> omega
            exact Nat.lt_of_le_of_lt q (Nat.lt_trans this (by decide))
        · exact okd_list (by omega) hrf
        · exact okd_tuple (by omega) hrf
        · exact okd_list (by simp; omega) (app1 flat0)
        · exact okd_list (by simp; omega) (app1 flat1)
    · have e : (data0 ++ data1 ++ data2 ++ data3).length ≤ 50 := by decide
      rw [List.length_append]
      show _ + 6 ≤ 100
      omega
end
end W

set_option Elab.async false
set_option linter.all false
set_option maxRecDepth 100000
set_option maxHeartbeats 8000000
namespace W
open PySem PySem.Spec PyProof.Rows L2 Evl G
def gu1 {α : Type} : List α → List α → List α
  | [], [a] => [a]
  | _, _ => []
def gu2 {α : Type} : List α → List α → List α
  | [], [a, b] => [b, a]
  | _, _ => []
theorem gu1_rel {vs zs : List V} {us ws : List Value} (h : Vals vs us) (q : Vals zs ws) : Vals (gu1 vs zs) (gu1 us ws) := by
  cases h with
  | cons a b => exact .nil
  | nil =>
    cases q with
    | nil => exact .nil
    | cons a b =>
      cases b with
      | nil => exact .cons a .nil
      | cons c d => exact .nil
theorem gu2_rel {vs zs : List V} {us ws : List Value} (h : Vals vs us) (q : Vals zs ws) : Vals (gu2 vs zs) (gu2 us ws) := by
  cases h with
  | cons a b => exact .nil
  | nil =>
    cases q with
    | nil => exact .nil
    | cons a b =>
      cases b with
      | nil => exact .nil
      | cons c d =>
        cases d with
        | nil => exact .cons c (.cons a .nil)
        | cons e f => exact .nil
theorem kb1 {K : PySem.W.Frag} {x qual p : Str} {de : Stmt} {f : Addr} {fd : FuncData} (F : Fun K x qual de f fd)
    (h : ∀ (kV doc pm : Value) (an : Option Addr) (cdv ct a : Value), bindArgs (PySem.W.fnOf x qual (defArgs de) (defBody de) (defScope de) .none kV doc pm an cdv ct) ⟨[], [(p, a)]⟩ = pure [(p, a)]) : KBinds K fd [p] [p] gu1 gu1 := by
  obtain ⟨oc, od, kV, doc, pm, an, cdv, ct, osl, rfl, lk, hcd⟩ := F.ex
  refine ⟨fun s us ws X hl => ?_, gu1_rel⟩
  match us, ws, hl with
  | [], [a], _ => exact .of_eq (h kV doc pm an cdv ct a)
theorem kb2 {K : PySem.W.Frag} {x qual p q : Str} {de : Stmt} {f : Addr} {fd : FuncData} (F : Fun K x qual de f fd)
    (h : ∀ (kV doc pm : Value) (an : Option Addr) (cdv ct a b : Value), bindArgs (PySem.W.fnOf x qual (defArgs de) (defBody de) (defScope de) .none kV doc pm an cdv ct) ⟨[], [(q, a), (p, b)]⟩ = pure [(p, b), (q, a)]) : KBinds K fd [p, q] [q, p] gu2 gu2 := by
  obtain ⟨oc, od, kV, doc, pm, an, cdv, ct, osl, rfl, lk, hcd⟩ := F.ex
  refine ⟨fun s us ws X hl => ?_, gu2_rel⟩
  match us, ws, hl with
  | [], [a, b], _ => exact .of_eq (h kV doc pm an cdv ct a b)
section
variable {K : PySem.W.Frag} {H : Hp} {x : V} {d : PyData} {n : Nat} {g : PyData → Bool} {gw : PyData → Nat → Bool}
theorem sv_t (hd : Dd K H x d) : SpV (spT K g) [x] H (.bl (g d)) := fun _ e _ q _ => ⟨x, d, rfl, dd_ex e hd, q⟩
theorem sv_ts (hd : Dd K H x d) (h : szS d ≤ 1000) : SpV (spTs K g) [x] H (.bl (g d)) := fun _ e _ q _ => ⟨x, d, rfl, dd_ex e hd, h, q⟩
theorem sv_tx (hd : Dd K H x d) (h : Showy d) : SpV (spTx K g) [x] H (.bl (g d)) := fun _ e _ q _ => ⟨x, d, rfl, dd_ex e hd, h, q⟩
theorem sv_w (hd : Dd K H x d) (hn : n ≤ 100) : SpV (spW K gw) [x, .int (n : Int)] H (.bl (gw d n)) := fun _ e _ q _ => ⟨x, d, n, rfl, dd_ex e hd, hn, q⟩
theorem sv_ws (hd : Dd K H x d) (hn : n ≤ 100) (h : szD d ≤ 1000) : SpV (spWs K gw) [x, .int (n : Int)] H (.bl (gw d n)) := fun _ e _ q _ => ⟨x, d, n, rfl, dd_ex e hd, hn, h, q⟩
theorem sv_wx (hd : Dd K H x d) (hn : n ≤ 100) (h : partsShowy d) : SpV (spWx K gw) [x, .int (n : Int)] H (.bl (gw d n)) := fun _ e _ q _ => ⟨x, d, n, rfl, dd_ex e hd, hn, h, q⟩
theorem sv_wy (hd : Dd K H x d) (hn : n ≤ 100) (h : szD d ≤ 1000) (h2 : partsParts d) : SpV (spWy K gw) [x, .int (n : Int)] H (.bl (gw d n)) := fun _ e _ q _ => ⟨x, d, n, rfl, dd_ex e hd, hn, h, h2, q⟩
end
/-- what is told of a datum ahead of the widths, and of n widths -/
def tl0 (d : PyData) : List Bool := [isInteger d, isCount d, isBit d, isName d, isInteger d, isBit d, isCount d, isName d]
def tl (d : PyData) (n : Nat) : List Bool := tl0 d ++ (List.range n).flatMap fun j => [isLetter d j, isLetter d j, isWord d j, isWord d j]
theorem tl_succ (d : PyData) (n : Nat) : tl d (n + 1) = tl d n ++ [isLetter d n, isLetter d n] ++ [isWord d n, isWord d n] := by
  unfold tl
  rw [List.range_succ, List.flatMap_append]
  simp
theorem tl_len (d : PyData) (n : Nat) : (tl d n).length = 8 + 4 * n := by
  induction n with
  | zero => rfl
  | succ n ih =>
    rw [tl_succ]
    simp only [List.length_append, List.length_cons, List.length_nil, ih]
    omega
theorem dpAll_bls {K : PySem.W.Frag} {H : Hp} : ∀ bs : List Bool, DpAll K H (bs.map V.bl) (bs.map PyData.bool)
  | [] => .nil
  | b :: bs => .cons (.bl b) (dpAll_bls bs)
theorem showy_bls {bs : List Bool} (h : bs.length ≤ 100) : Showy (.list (bs.map PyData.bool)) := by
  have h1 : ∀ d ∈ bs.map PyData.bool, d.shown.length ≤ 5 ∧ d.showable = true ∧ d.depth ≤ 0 := by
    intro d hd
    obtain ⟨b, _, rfl⟩ := List.mem_map.mp hd
    cases b <;> exact ⟨by decide +kernel, rfl, Nat.le_refl _⟩
  have a := listText_len_le (PyData.shownAll (bs.map PyData.bool))
  have b := shownAll_sum (c := 5) (bs.map PyData.bool) fun d hd => (h1 d hd).1
  rw [shownAll_len, List.length_map] at a
  rw [List.length_map] at b
  refine ⟨showableAll_of fun d hd => (h1 d hd).2.1, ?_, ?_⟩
  · exact Nat.le_trans (Nat.succ_le_succ (depthAll_of (c := 0) fun d hd => (h1 d hd).2.2)) (by decide)
  · show (listText _).length ≤ _
    omega
theorem integer_is (d : PyData) : isInteger d = (isI d && !isB d) := rfl
theorem ev_isi {K : PySem.W.Frag} {i : Nat} {T : String} {σ : L2.St} {H : Hp} {x : V} {d : PyData} {b : Bool} (hs : σ[i]? = some (some x)) (hd : Dd K H x d) (hk : kitB (tyD d) T = some b) : Ev (tIsi K i T) σ H (.bl b) := fun H1 e _ q => rd_isi hs (dd_ex e hd) hk (q H1 (Ex.refl H1))
theorem ev_rx {K : PySem.W.Frag} {i : Nat} {σ : L2.St} {H : Hp} {x : V} {d : PyData} (hs : σ[i]? = some (some x)) (hd : Dd K H x d) (hk : Showy d) : Ev (tCB (rRx K) (tCons (tVar i) tNil)) σ H (.str d.shown) := fun H1 e _ q => ⟨x, hs, x, d, rfl, dd_ex e hd, hk, q H1 (Ex.refl H1)⟩
section
variable {P : Program} {w : World} {K : PySem.W.Frag} {mg : Str → Option Value} {base : Heap}
def spTrue0 : Sp := fun vs H Q _ => vs = [] ∧ ∀ H', Q (.bl true) H'
def spValuesR : Sp := fun vs H Q _ => ∃ p : Addr, vs = [.ref p] ∧ Pot H p ∧ ∀ H', ExBut p H H' → Q (.bl true) H'
theorem scValuesR : FnScope ["_law_pot_here", "_law_thing", "_law_told", "_law_due", "_law_many", "_law_shown", "_law_is_int"] ["_law_pot_here"] (defScope dValuesR) := ⟨rfl, rfl, rfl, by decide +kernel, rfl, by decide +kernel, by decide +kernel⟩
theorem okValuesR {f : Addr} {fd : FuncData} (F : At K mg "_law_values_right" dValuesR ["_law_pot_here"] f fd) (T : Txt K mg) : Fn P w K mg base CX0 5 f fd ["_law_pot_here"] spValuesR := by
  obtain ⟨fI, gI, FI⟩ := T.integer
  obtain ⟨fC, gC, FC⟩ := T.count
  obtain ⟨fB, gB, FB⟩ := T.bit
  obtain ⟨fN, gN, FN⟩ := T.name
  obtain ⟨fL, gL, FL⟩ := T.letter
  obtain ⟨fW, gW, FW⟩ := T.word
  obtain ⟨fNl, gNl, FNl⟩ := T.lName
  obtain ⟨fBl, gBl, FBl⟩ := T.lBit
  obtain ⟨fLl, gLl, FLl⟩ := T.lLetter
  obtain ⟨fWl, gWl, FWl⟩ := T.lWord
  obtain ⟨fV, gV, FV⟩ := T.values
  have GI : Fn P w K mg base CX0 4 fI gI ["value"] (spT K isInteger) := (Fn.of (okInteger FI T)).mono (by decide)
  have GC : Fn P w K mg base CX0 4 fC gC ["value"] (spT K isCount) := (Fn.of (okCount FC T)).mono (by decide)
  have GB : Fn P w K mg base CX0 4 fB gB ["value"] (spT K isBit) := (Fn.of (okBit FB T)).mono (by decide)
  have GN : Fn P w K mg base CX0 4 fN gN ["value"] (spTs K isName) := (Fn.of (okName FN T)).mono (by decide)
  have GL : Fn P w K mg base CX0 4 fL gL ["value", "width"] (spW K isLetter) := (Fn.of (okLetter FL T)).mono (by decide)
  have GW : Fn P w K mg base CX0 4 fW gW ["value", "width"] (spWs K isWord) := Fn.of (okWord FW T)
  have GNl : Fn P w K mg base CX0 4 fNl gNl ["_law_thing"] (spTs K isName) := (okLName FNl T).mono (by decide)
  have GBl : Fn P w K mg base CX0 4 fBl gBl ["_law_thing"] (spTx K isBit) := (okLBit FBl T).mono (by decide)
  have GLl : Fn P w K mg base CX0 4 fLl gLl ["_law_thing", "_law_many"] (spWx K isLetter) := (okLLetter FLl T).mono (by decide)
  have GWl : Fn P w K mg base CX0 4 fWl gWl ["_law_thing", "_law_many"] (spWy K isWord) := (okLWord FWl T).mono (by decide)
  have GV : Fn P w K mg base CX0 4 fV gV ["_law_pot_here"] (spValues K) := (okValues FV T).mono (by decide)
  have kI : KBinds K gI ["value"] ["value"] gu1 gu1 := kb1 FI.fn fun _ _ _ _ _ _ _ => rfl
  have kC : KBinds K gC ["value"] ["value"] gu1 gu1 := kb1 FC.fn fun _ _ _ _ _ _ _ => rfl
  have kB : KBinds K gB ["value"] ["value"] gu1 gu1 := kb1 FB.fn fun _ _ _ _ _ _ _ => rfl
  have kN : KBinds K gN ["value"] ["value"] gu1 gu1 := kb1 FN.fn fun _ _ _ _ _ _ _ => rfl
  have kL : KBinds K gL ["value", "width"] ["width", "value"] gu2 gu2 := kb2 FL.fn fun _ _ _ _ _ _ _ _ => rfl
  have kW : KBinds K gW ["value", "width"] ["width", "value"] gu2 gu2 := kb2 FW.fn fun _ _ _ _ _ _ _ _ => rfl
  refine okN F.fn scValuesR (fun vs H Q E h => ?_) (fun cdv A outer s H vs Q E hr h => ?_)
  · obtain ⟨x, rfl, _⟩ := h
    rfl
  · obtain ⟨p, rfl, hp, k⟩ := h
    refine ⟨_, pss_cons (ps_for PassesOwn.never rfl (pi_list (pc GV hr (by rfl) FV.gl FV.fn.kp FV.bi .nil pass0 (pa_cons (pv 0) pa_nil))) (pg_name (i := 1) scValuesR.nd rfl (Or.inl rfl))
        (pss_cons (ps_par (i := 5) (j := 6) (by rfl) scValuesR.nd rfl rfl (by decide) rfl rfl (pa_cons (pe_callB (call_rx hr) (by rfl) T.repr (by decide +kernel) (pa_cons (pv 1) pa_nil))
            (pa_cons (pe_and (pe_callB call_isi (by rfl) T.isinstance (by decide +kernel) (pa_cons (pv 1) (pa_cons (pTy "int" (by rfl) T.int (by decide +kernel)) pa_nil))) (pe_one (pe_not (pe_callB call_isi (by rfl) T.isinstance (by decide +kernel) (pa_cons (pv 1) (pa_cons (pTy "bool" (by rfl) T.bool (by decide +kernel)) pa_nil)))))) pa_nil)) (by rfl))
        (pss_cons (ps_set (i := 2) scValuesR.nd rfl (Or.inl rfl) (pe_lst (pa_cons (pc GI hr (by rfl) FI.gl FI.fn.kp FI.bi .nil pass0 (pa_cons (pv 1) pa_nil)) (pa_cons (pcK0 GC hr (by rfl) FC.gl FC.fn.kp kC pass0 (pk_cons (pv 1) pk_nil)) (pa_cons (pc GB hr (by rfl) FB.gl FB.fn.kp FB.bi .nil pass0 (pa_cons (pv 1) pa_nil)) (pa_cons (pcK0 GN hr (by rfl) FN.gl FN.fn.kp kN pass0 (pk_cons (pv 1) pk_nil)) pa_nil))))))
        (pss_cons (ps_set (i := 2) scValuesR.nd rfl (Or.inl rfl) (pe_op op_cat (pv 2) (pe_lst (pa_cons (pcK0 GI hr (by rfl) FI.gl FI.fn.kp kI pass0 (pk_cons (pv 1) pk_nil)) (pa_cons (pcK0 GB hr (by rfl) FB.gl FB.fn.kp kB pass0 (pk_cons (pv 1) pk_nil)) (pa_cons (pc GC hr (by rfl) FC.gl FC.fn.kp FC.bi .nil pass0 (pa_cons (pv 1) pa_nil)) (pa_cons (pc GN hr (by rfl) FN.gl FN.fn.kp FN.bi .nil pass0 (pa_cons (pv 1) pa_nil)) pa_nil)))))))
        (pss_cons (ps_set (i := 3) scValuesR.nd rfl (Or.inl rfl) (pe_lst (pa_cons (pv 6) (pa_cons (pe_and (pv 6) (pe_one (pe_cmpR op_ge (pv 1) pe_int (nomark _)))) (pa_cons (pc GBl hr (by rfl) FBl.gl FBl.fn.kp FBl.bi .nil pass0 (pa_cons (pv 1) pa_nil)) (pa_cons (pc GNl hr (by rfl) FNl.gl FNl.fn.kp FNl.bi .nil pass0 (pa_cons (pv 1) pa_nil)) pa_nil))))))
        (pss_cons (ps_set (i := 3) scValuesR.nd rfl (Or.inl rfl) (pe_op op_cat (pv 3) (pe_lst (pa_cons (pv 6) (pa_cons (pc GBl hr (by rfl) FBl.gl FBl.fn.kp FBl.bi .nil pass0 (pa_cons (pv 1) pa_nil)) (pa_cons (pe_and (pv 6) (pe_one (pe_cmpR op_ge (pv 1) pe_int (nomark _)))) (pa_cons (pc GNl hr (by rfl) FNl.gl FNl.fn.kp FNl.bi .nil pass0 (pa_cons (pv 1) pa_nil)) pa_nil)))))))
        (pss_cons (ps_for PassesOwn.never rfl (pi_range1 (by rfl) T.range (pa_cons pe_int pa_nil)) (pg_name (i := 4) scValuesR.nd rfl (Or.inl rfl))
          (pss_cons (ps_set (i := 2) scValuesR.nd rfl (Or.inl rfl) (pe_op op_cat (pv 2) (pe_lst (pa_cons (pc GL hr (by rfl) FL.gl FL.fn.kp FL.bi .nil pass0 (pa_cons (pv 1) (pa_cons (pv 4) pa_nil))) (pa_cons (pcK0 GL hr (by rfl) FL.gl FL.fn.kp kL pass0 (pk_cons (pv 4) (pk_cons (pv 1) pk_nil))) pa_nil)))))
          (pss_cons (ps_set (i := 2) scValuesR.nd rfl (Or.inl rfl) (pe_op op_cat (pv 2) (pe_lst (pa_cons (pc GW hr (by rfl) FW.gl FW.fn.kp FW.bi .nil pass0 (pa_cons (pv 1) (pa_cons (pv 4) pa_nil))) (pa_cons (pcK0 GW hr (by rfl) FW.gl FW.fn.kp kW pass0 (pk_cons (pv 4) (pk_cons (pv 1) pk_nil))) pa_nil)))))
          (pss_one (ps_set (i := 3) scValuesR.nd rfl (Or.inl rfl) (pe_op op_cat (pe_op op_cat (pv 3) (pe_op op_rep (pe_lst (pa_cons (pc GLl hr (by rfl) FLl.gl FLl.fn.kp FLl.bi .nil pass0 (pa_cons (pv 1) (pa_cons (pv 4) pa_nil))) pa_nil)) pe_int)) (pe_op op_rep (pe_lst (pa_cons (pc GWl hr (by rfl) FWl.gl FWl.fn.kp FWl.bi .nil pass0 (pa_cons (pv 1) (pa_cons (pv 4) pa_nil))) pa_nil)) pe_int)))))))
        (pss_one (ps_if (PW.pt (pw_or (pt_cmpR op_ne (pe_callB (call_rx hr) (by rfl) T.repr (by decide +kernel) (pa_cons (pv 2) pa_nil)) (pe_callB (call_rx hr) (by rfl) T.repr (by decide +kernel) (pa_cons (pv 3) pa_nil)) (nomark _))
          (pw_or1 (pt_cmpR op_ne (pe_callB (call_rx hr) (by rfl) T.repr (by decide +kernel) (pa_cons (pv 1) pa_nil)) (pv 5) (nomark _))))) (pss_one (ps_ret pe_bl)) pss_nil)))))))))
      (pss_one (ps_ret pe_bl)), ?_⟩
    refine ⟨_, rfl, p, rfl, hp, fun l xs ds H1 xb hl hd hok hlen => ⟨l, rfl, ⟨xs, sq_of hl⟩, for_list (K := K) (a := l) (xs := xs) (fun i σ Hc => ∃ v1 v2 v3 v4 v5 v6 : Option V, σ = [some (.ref p), v1, v2, v3, v4, v5, v6] ∧ Ex H1 Hc)
      ⟨none, none, none, none, none, none, rfl, Ex.refl H1⟩ (fun i σ Hc _ ⟨_, _, _, _, _, _, _, e⟩ => sq_of (e _ _ hl)) (fun i y σ H2 hi inv => ?_) (fun σ H2 ⟨_, _, _, _, _, _, _, e⟩ => k H2 (xb.trans (.of e)))⟩⟩
    obtain ⟨v1, v2, v3, v4, v5, v6, rfl, e2⟩ := inv
    obtain ⟨d, hdi, hd0⟩ := hd.at hi
    obtain ⟨oS, oZ, oD, oP, oPP⟩ := hok d (List.mem_of_getElem? hdi)
    have dx : Dd K H2 y d := dd_ex e2 hd0
    have evC : ∀ (σ : L2.St) (H' : Hp), σ[6]? = some (some (.bl (isInteger d))) → σ[1]? = some (some y) → Ev (tAndV (tVar 6) (tOp (rI0 fun i j => .bl (decide (j ≤ i))) (tVar 1) (tC (.int 0)))) σ H' (.bl (isCount d)) := by
      intro σ H' h6 h1
      cases e : isInteger d with
      | false =>
        rw [e] at h6
        have e2 : isCount d = (false && false) := by cases d <;> first | rfl | (simp [isInteger, isI, isB] at e)
        rw [e2]
        exact ev_andV (ev_var h6) fun z => by cases z
      | true =>
        rw [e] at h6
        obtain ⟨j, rfl⟩ : ∃ j, d = .int j := by cases d <;> first | exact ⟨_, rfl⟩ | (simp [isInteger, isI, isB] at e)
        cases dx with
        | dp z =>
          cases z
          have e2 : isCount (.int j) = (true && decide (0 ≤ j)) := by rw [Bool.true_and]; rfl
          rw [e2]
          exact ev_andV (ev_var h6) fun _ => ev_op (ev_var h1) ev_c rv_I0
    have evA : EvA (tCons (tCB (rRx K) (tCons (tVar 1) tNil)) (tCons (tAndV (tIsi K 1 "int") (tNotV (tIsi K 1 "bool"))) tNil)) [some (.ref p), some y, v2, v3, v4, v5, v6] H2 [.str d.shown, .bl (isInteger d)] :=
      ea_2 (ev_rx rfl dx oS) (ev_andV (ev_isi rfl dx (kit_I d)) fun _ => ev_notV (ev_isi rfl dx (kit_B d)))
    show tSeq (tPar 5 6 _) _ _ [some (.ref p), some y, v2, v3, v4, v5, v6] H2
    refine q_par _ _ evA fun H3 e3 => ?_
    have dx3 := dd_ex e3 dx
    refine q_asgL [.bl (isInteger d), .bl (isCount d), .bl (isBit d), .bl (isName d)] ?_ fun a4 H4 n4 e4 h4 => ?_
    · exact el_lst (ea_cons (ev_call (ea_1 (ev_var rfl)) (sv_t (K := K) (x := y) dx3)) (ea_cons (ev_callK (ea_1 (ev_var rfl)) (sv_t (K := K) (x := y) dx3)) (ea_cons (ev_call (ea_1 (ev_var rfl)) (sv_t (K := K) (x := y) dx3)) (ea_cons (ev_callK (ea_1 (ev_var rfl)) (sv_ts (K := K) (x := y) dx3 oZ)) ea_nil)))) (by show 4 ≤ 100000; decide)
    have dx4 := dd_ex e4 dx3
    refine q_asgL [.bl (isInteger d), .bl (isCount d), .bl (isBit d), .bl (isName d), .bl (isInteger d), .bl (isBit d), .bl (isCount d), .bl (isName d)] ?_ fun a5 H5 n5 e5 h5 => ?_
    · exact el_cat (xs := [.bl (isInteger d), .bl (isCount d), .bl (isBit d), .bl (isName d)]) (ys := [.bl (isInteger d), .bl (isBit d), .bl (isCount d), .bl (isName d)]) (evs_var (i := 2) rfl h4) (EvLs.of (el_lst (ea_cons (ev_callK (ea_1 (ev_var rfl)) (sv_t (K := K) (x := y) dx4)) (ea_cons (ev_callK (ea_1 (ev_var rfl)) (sv_t (K := K) (x := y) dx4)) (ea_cons (ev_call (ea_1 (ev_var rfl)) (sv_t (K := K) (x := y) dx4)) (ea_cons (ev_call (ea_1 (ev_var rfl)) (sv_ts (K := K) (x := y) dx4 oZ)) ea_nil)))) (by show 4 ≤ 100000; decide))) (by show 8 ≤ 100000; decide)
    have dx5 := dd_ex e5 dx4
    refine q_asgL [.bl (isInteger d), .bl (isCount d), .bl (isBit d), .bl (isName d)] ?_ fun a6 H6 n6 e6 h6 => ?_
    · exact el_lst (ea_cons (ev_var rfl) (ea_cons (evC _ _ rfl rfl) (ea_cons (ev_call (ea_1 (ev_var rfl)) (sv_tx (K := K) (x := y) dx5 oS)) (ea_cons (ev_call (ea_1 (ev_var rfl)) (sv_ts (K := K) (x := y) dx5 oZ)) ea_nil)))) (by show 4 ≤ 100000; decide)
    have dx6 := dd_ex e6 dx5
    refine q_asgL [.bl (isInteger d), .bl (isCount d), .bl (isBit d), .bl (isName d), .bl (isInteger d), .bl (isBit d), .bl (isCount d), .bl (isName d)] ?_ fun a7 H7 n7 e7 h7 => ?_
    · exact el_cat (xs := [.bl (isInteger d), .bl (isCount d), .bl (isBit d), .bl (isName d)]) (ys := [.bl (isInteger d), .bl (isBit d), .bl (isCount d), .bl (isName d)]) (evs_var (i := 3) rfl h6) (EvLs.of (el_lst (ea_cons (ev_var rfl) (ea_cons (ev_call (ea_1 (ev_var rfl)) (sv_tx (K := K) (x := y) dx6 oS)) (ea_cons (evC _ _ rfl rfl) (ea_cons (ev_call (ea_1 (ev_var rfl)) (sv_ts (K := K) (x := y) dx6 oZ)) ea_nil)))) (by show 4 ≤ 100000; decide))) (by show 8 ≤ 100000; decide)
    have e27 : Ex H2 H7 := (((e3.trans e4).trans e5).trans e6).trans e7
    refine q_forR (n := 4) (by decide) (fun i σ Hc => ∃ (a b : Addr) (v4 : Option V), σ = [some (.ref p), some y, some (.ref a), some (.ref b), v4, some (.str d.shown), some (.bl (isInteger d))] ∧ Ex H2 Hc ∧ Hc a = some (.lst ((tl d i).map V.bl)) ∧ Hc b = some (.lst ((tl d i).map V.bl)))
      ⟨a5, a7, v4, rfl, e27, (e6.trans e7) _ _ h5, h7⟩ (fun i σ Hc hi inv => ?_) (fun σ Hc inv => ?_)
    · obtain ⟨a, b, v4, rfl, ec, ha, hb⟩ := inv
      have dxc := dd_ex ec dx
      have hi100 : i ≤ 100 := by omega
      refine q_asgL ((tl d i).map V.bl ++ [.bl (isLetter d i), .bl (isLetter d i)]) ?_ fun b1 K1 n1 x1 h1 => ?_
      · exact el_cat (evs_var (i := 2) rfl ha) (EvLs.of (el_lst (ea_2 (ev_call (ea_2 (ev_var rfl) (ev_var rfl)) (sv_w (K := K) (x := y) dxc hi100)) (ev_callK (gW := gu2) (ea_2 (ev_var rfl) (ev_var rfl)) (sv_w (K := K) (x := y) dxc hi100))) (by show 2 ≤ 100000; decide))) (by simp [tl_len]; omega)
      have dx1 := dd_ex x1 dxc
      refine q_asgL ((tl d i).map V.bl ++ [.bl (isLetter d i), .bl (isLetter d i)] ++ [.bl (isWord d i), .bl (isWord d i)]) ?_ fun b2 K2 n2 x2 h2 => ?_
      · exact el_cat (evs_var (i := 2) rfl h1) (EvLs.of (el_lst (ea_2 (ev_call (ea_2 (ev_var rfl) (ev_var rfl)) (sv_ws (K := K) (x := y) dx1 hi100 oD)) (ev_callK (gW := gu2) (ea_2 (ev_var rfl) (ev_var rfl)) (sv_ws (K := K) (x := y) dx1 hi100 oD))) (by show 2 ≤ 100000; decide))) (by simp [tl_len]; omega)
      have dx2 := dd_ex x2 dx1
      refine s_asgL (xs := (tl d i).map V.bl ++ [.bl (isLetter d i), .bl (isLetter d i)] ++ [.bl (isWord d i), .bl (isWord d i)]) ?_ fun b3 K3 n3 x3 h3 => ?_
      · exact el_cat (EvLs.of (el_cat (evs_var (i := 3) rfl ((x1.trans x2) _ _ hb)) (EvLs.of (el_rep (n := 2) (xs := [.bl (isLetter d i)]) (EvLs.of (el_lst (ea_1 (ev_call (ea_2 (ev_var rfl) (ev_var rfl)) (sv_wx (K := K) (x := y) dx2 hi100 oP))) (by show 1 ≤ 100000; decide))) (by show 1 * 2 ≤ 100000; decide) (by decide))) (by simp [tl_len]; omega)))
          (EvLs.of (el_rep (n := 2) (xs := [.bl (isWord d i)]) (EvLs.of (el_lst (ea_1 (ev_call (ea_2 (ev_var rfl) (ev_var rfl)) (sv_wy (K := K) (x := y) dx2 hi100 oD oPP))) (by show 1 ≤ 100000; decide))) (by show 1 * 2 ≤ 100000; decide) (by decide))) (by simp [tl_len]; omega)
      have e : (tl d (i + 1)).map V.bl = (tl d i).map V.bl ++ [.bl (isLetter d i), .bl (isLetter d i)] ++ [.bl (isWord d i), .bl (isWord d i)] := by
        rw [tl_succ, List.map_append, List.map_append]
        rfl
      exact ⟨b2, b3, _, rfl, ((ec.trans x1).trans x2).trans x3, by rw [e]; exact x3 _ _ h2, by rw [e]; exact h3⟩
    · obtain ⟨a, b, v4, rfl, ec, ha, hb⟩ := inv
      have dxc := dd_ex ec dx
      have sb := showy_bls (bs := tl d 4) (by rw [tl_len]; decide)
      have da : Dd K Hc (.ref a) (.list ((tl d 4).map PyData.bool)) := .dp (.lst (sq_of ha) (dpAll_bls _))
      have db : Dd K Hc (.ref b) (.list ((tl d 4).map PyData.bool)) := .dp (.lst (sq_of hb) (dpAll_bls _))
      have ne : ∀ v : V, (!decide (v = v)) = false := fun v => by simp
      have t1 : EvT (tTest (tOp rNe (tCB (rRx K) (tCons (tVar 2) tNil)) (tCB (rRx K) (tCons (tVar 3) tNil)))) [some (.ref p), some y, some (.ref a), some (.ref b), v4, some (.str d.shown), some (.bl (isInteger d))] Hc false :=
        et_is (et_test (ev_op (ev_rx rfl da sb) (ev_rx rfl db sb) (rv_ne rfl))) (ne _)
      have t2 : EvT (tTest (tOp rNe (tCB (rRx K) (tCons (tVar 1) tNil)) (tVar 5))) [some (.ref p), some y, some (.ref a), some (.ref b), v4, some (.str d.shown), some (.bl (isInteger d))] Hc false :=
        et_is (et_test (ev_op (ev_rx rfl dxc oS) (ev_var rfl) (rv_ne rfl))) (ne _)
      exact s_if (b := false) (et_or t1 fun _ => t2) (fun z => by cases z) (fun _ H1' e => ⟨_, _, _, _, _, _, rfl, (e2.trans ec).trans e⟩)
end
end W

set_option Elab.async false
set_option linter.all false
set_option maxRecDepth 100000
set_option maxHeartbeats 4000000
namespace W
open PySem PySem.Spec PyProof.Rows L2 Evl G
def stepR (rs : List (List Int)) : List (List Int) := rs.flatMap fun r => [r ++ [0], r ++ [1]]
def bitsL : Nat → List (List Int)
  | 0 => [[]]
  | n + 1 => stepR (bitsL n)
def rowD (r : List Int) : PyData := .tuple (r.map .int)
def rowsD (rs : List (List Int)) : List PyData := rs.map rowD
theorem stepR_len (rs : List (List Int)) : (stepR rs).length = 2 * rs.length := by
  induction rs with
  | nil => rfl
  | cons r rs ih =>
    have e : stepR (r :: rs) = (r ++ [0]) :: (r ++ [1]) :: stepR rs := rfl
    rw [e]
    simp only [List.length_cons, ih]
    omega
theorem bitsL_len (n : Nat) : (bitsL n).length = 2 ^ n := by
  induction n with
  | zero => rfl
  | succ n ih =>
    show (stepR (bitsL n)).length = _
    rw [stepR_len, ih, Nat.pow_succ]
    omega
theorem rowsD_step : ∀ (rs : List (List Int)), rowsD (stepR rs) = rs.flatMap fun r => [.tuple (r.map .int ++ [.int 0]), .tuple (r.map .int ++ [.int 1])]
  | [] => rfl
  | r :: rs => by
    have e : stepR (r :: rs) = (r ++ [0]) :: (r ++ [1]) :: stepR rs := rfl
    rw [e]
    show rowD (r ++ [0]) :: rowD (r ++ [1]) :: rowsD (stepR rs) = _
    rw [rowsD_step rs]
    simp [rowD]
theorem range_flatMap {α β : Type} (xs : List α) (f : Nat → List β) (g : α → List β) (h : ∀ i x, xs[i]? = some x → f i = g x) : (List.range xs.length).flatMap f = xs.flatMap g := by
  rw [List.flatMap_def, List.flatMap_def, range_map xs f g h]
theorem op_catK {Y : Cx} {K : PySem.W.Frag} (h : Y.K = K := by rfl) : OpR Y (binaryOp .Add) (rCatA K) := by
  subst h
  exact op_catA
/-- row + (bit,) -/
theorem rd_more {K : PySem.W.Frag} {σ : L2.St} {Ha : Hp} {Q : VK} {i : Nat} {x : V} {te : TE} {r : List Int} {c : Int} (hs : σ[i]? = some (some x)) (hx : Dp K Ha x (rowD r)) (hr : r.length ≤ 100) (ht : te σ Ha = fun R => R (.int c) Ha)
    (q : ∀ v H', Ex Ha H' → Dp K (nw Ha H') v (.tuple (r.map .int ++ [.int c])) → Q v H') : tOp (rCatA K) (tVar i) (tTup (tCons te tNil)) σ Ha Q := by
  cases hx with
  | @tup a xs _ hq ha =>
    refine ⟨_, hs, ?_⟩
    show tTup (tCons te tNil) σ Ha _
    unfold tTup tCons tNil
    rw [ht]
    refine ⟨(by show 1 ≤ sizeLine; decide), fun t2 h2 => ?_⟩
    have e1 : Ex Ha (upd Ha t2 (.tup [.int c])) := Ex.new h2
    have hl : xs.length = r.length := by
      have := dpAll_len ha
      simpa using this
    refine ⟨a, t2, xs, [.int c], rfl, rfl, ex_t e1 hq, st_of upd_same, ?_, fun z => ?_, fun _ z => (by cases z), fun z _ p hp => ?_⟩
    · exact Nat.le_trans (show xs.length + 1 ≤ 200 by omega) (by decide)
    · subst z
      have : r = [] := List.eq_nil_of_length_eq_zero (by simpa using hl.symm)
      subst this
      exact q _ _ e1 (.tup (st_of (nw_some.mpr ⟨h2, upd_same⟩)) (.cons (.int c) .nil))
    · have e2 : Ex (upd Ha t2 (.tup [.int c])) (upd (upd Ha t2 (.tup [.int c])) p (.tup (xs ++ [.int c]))) := Ex.new hp
      refine q _ _ (e1.trans e2) (.tup (st_of (nw_some.mpr ⟨fresh_back e1 hp, upd_same⟩)) (dpAll_app ?_ (.cons (.int c) .nil)))
      have e : xs = r.map V.int := by
        clear hq e1 e2 q hl
        have : ∀ (xs : List V) (r : List Int), DpAll K Ha xs (r.map PyData.int) → xs = r.map V.int := by
          intro xs
          induction xs with
          | nil =>
            intro r h
            cases r with
            | nil => rfl
            | cons _ _ => cases h
          | cons x xs ih =>
            intro r h
            cases r with
            | nil => cases h
            | cons y r =>
              cases h with
              | cons u v =>
                cases u
                rw [ih r v]
                rfl
        exact this xs r ha
      rw [e]
      exact dpAll_ints r
def spRows (K : PySem.W.Frag) : Sp := fun vs H Q _ => ∃ n : Nat, vs = [.int (n : Int)] ∧ n ≤ 8 ∧ ∀ l xs H', H l = none → Ex H H' → H' l = some (.lst xs) → DpAll K (hid l H') xs (rowsD (bitsL n)) → Q (.ref l) H'
section
variable {P : Program} {w : World} {K : PySem.W.Frag} {mg : Str → Option Value} {base : Heap}
theorem bits_short (n : Nat) : ∀ r ∈ bitsL n, r.length = n := by
  induction n with
  | zero => intro r h; simp [bitsL] at h; rw [h]; rfl
  | succ n ih =>
    intro r h
    have h : r ∈ stepR (bitsL n) := h
    unfold stepR at h
    obtain ⟨q, hq, h⟩ := List.mem_flatMap.mp h
    have := ih q hq
    simp at h
    rcases h with rfl | rfl <;> simp [this]
theorem scAllBits : FnScope ["width", "rows", "_", "row", "bit"] ["width"] (defScope dAllBits) := ⟨rfl, rfl, rfl, by decide +kernel, rfl, by decide +kernel, by decide +kernel⟩
theorem okAllBits {f : Addr} {fd : FuncData} (F : At K mg "all_bits" dAllBits ["width"] f fd) (T : Txt K mg) : FnOk P w K mg base CX0 1 f fd ["width"] (spRows K) := by
  refine F.fn.ok scAllBits (fun vs H Q E h => ?_) (fun cdv A outer s H vs Q E hr h => ?_)
  · obtain ⟨n, rfl, _⟩ := h
    rfl
  · obtain ⟨n, rfl, hn, k⟩ := h
    refine ⟨_, pss_cons (ps_set (i := 1) scAllBits.nd rfl (Or.inl rfl) (pe_lst (pa_cons (pe_tup pa_nil) pa_nil)))
      (pss_cons (ps_for PassesOwn.never rfl (pi_range1 (by rfl) T.range (pa_cons (pv 0) pa_nil)) (pg_name (i := 2) scAllBits.nd rfl (Or.inl rfl))
        (pss_one (ps_setLc2 (i := 1) (own := [("row", 3), ("bit", 4)]) (vs1 := [4]) (g := gName 3) (g1 := gName 4) (by rfl) scAllBits.nd rfl rfl (sw_true rfl rfl rfl (by decide +kernel)) (pi_list (pv 1)) (blkOk_by (own := [("row", 3), ("bit", 4)]) (N := ["width", "rows", "_", "row", "bit"]) (sc := defScope dAllBits) (by decide +kernel)) (by decide)
          (fun _ _ _ _ _ => pg_name (i := 3) scAllBits.nd rfl (Or.inl rfl)) (fun _ _ _ _ _ => pts_nil) (fun _ _ _ _ _ => pi_tupK (K := K) (pe_tup (pa_cons pe_int (pa_cons pe_int pa_nil)))) (fun _ _ _ _ _ => pg_name (i := 4) scAllBits.nd rfl (Or.inl rfl)) (fun _ _ _ _ _ => pts_nil)
          (fun _ _ _ _ _ => pe_op (op_catK (K := K)) (pv 3) (pe_tup (pa_cons (pv 4) pa_nil))))))
      (pss_one (ps_ret (pv 1)))), ?_⟩
    refine ⟨Nat.zero_le _, fun t ht => ⟨(by show 1 ≤ sizeLine; decide), fun l hl => ?_⟩⟩
    have e1 : Ex H (upd H t (.tup [])) := Ex.new ht
    have e2 : Ex (upd H t (.tup [])) (upd (upd H t (.tup [])) l (.lst [.ref t])) := Ex.new hl
    refine ⟨_, rfl, (n : Int), rfl, by omega, by omega, for_range (lo := 0) (n := (n : Int).toNat) (fun i σ Hc => ∃ (l : Addr) (xs : List V) (v2 v3 v4 : Option V), σ = [some (.int (n : Int)), some (.ref l), v2, v3, v4] ∧ H l = none ∧ Ex H Hc ∧ Hc l = some (.lst xs) ∧ DpAll K (hid l Hc) xs (rowsD (bitsL i)))
      ⟨l, [.ref t], none, none, none, rfl, fresh_back e1 hl, e1.trans e2, upd_same, .cons (.tup (st_of (hid_some.mpr ⟨fun z => ?_, ?_⟩)) .nil) .nil⟩ (fun i σ Hc hi inv => ?_) (fun σ Hc inv => ?_)⟩
    · rw [z, upd_same] at hl
      cases hl
    · rw [upd_ne (fun z => by rw [z, upd_same] at hl; cases hl), upd_same]
    · obtain ⟨l, xs, v2, v3, v4, rfl, hl0, ec, hlc, hx⟩ := inv
      have hxl : xs.length = (bitsL i).length := by
        have := dpAll_len hx
        simpa [rowsD] using this
      have hb : (bitsL i).length ≤ 256 := by
        rw [bitsL_len]
        exact Nat.pow_le_pow_right (by decide) (show i ≤ 8 by omega)
      show tAsg _ _ _ [some (.int (n : Int)), some (.ref l), some (.int (0 + (i : Int))), v3, v4] Hc
      unfold tAsg
      refine lc2_new (K := K) (j := 3) (j2 := 4) (a := l) (xs := xs) (fun i' c => .tuple (((bitsL i).getD i' []).map .int ++ [.int (c : Int)])) (sq_of hlc) (by omega) ?_ (by decide) (fun i' c x hxi hc Ha ea Q1 q1 => ?_) (fun D vs H' nD eD hD dD => ?_)
      · exact tVar_eq rfl
      · obtain ⟨d, hd1, hd2⟩ := dpAll_at hx hxi
        obtain ⟨r, hr1, hr2⟩ : ∃ r, (bitsL i)[i']? = some r ∧ d = rowD r := by
          unfold rowsD at hd1
          rw [List.getElem?_map] at hd1
          cases e : (bitsL i)[i']? with
          | none => rw [e] at hd1; cases hd1
          | some r => rw [e] at hd1; exact ⟨r, rfl, (Option.some.inj hd1).symm⟩
        subst hr2
        have e3 : (bitsL i).getD i' [] = r := by rw [List.getD_eq_getElem?_getD, hr1]; rfl
        rw [e3] at q1
        refine rd_more (K := K) (i := 3) (r := r) (c := (c : Int)) rfl (dp_ex (hid_out.trans ea) hd2) ?_ ?_ q1
        · have := bits_short i r (List.mem_of_getElem? hr1)
          omega
        · exact tVar_eq rfl
      · refine ⟨D, vs, _, _, _, rfl, fresh_back ec nD, ec.trans eD, hD, ?_⟩
        have e4 : (List.range xs.length).flatMap (fun i' => [PyData.tuple (((bitsL i).getD i' []).map .int ++ [.int ((0 : Nat) : Int)]), PyData.tuple (((bitsL i).getD i' []).map .int ++ [.int ((1 : Nat) : Int)])]) = rowsD (bitsL (i + 1)) := by
          rw [hxl]
          show _ = rowsD (stepR (bitsL i))
          rw [rowsD_step]
          exact range_flatMap (bitsL i) _ _ fun j r e => by
            rw [List.getD_eq_getElem?_getD, e]
            rfl
        rw [← e4]
        exact dD
    · obtain ⟨l, xs, v2, v3, v4, rfl, hl0, ec, hlc, hx⟩ := inv
      have : (n : Int).toNat = n := by omega
      rw [this] at hx
      exact ⟨_, rfl, k l xs Hc hl0 ec hlc hx⟩
end
end W

set_option Elab.async false
set_option linter.all false
set_option maxRecDepth 100000
set_option maxHeartbeats 4000000
namespace W
open PySem PySem.Spec PyProof.Rows L2 Evl G
/-- an error class of the text with its __init__(self, value): self.value = value -/
structure ExcT (K : PySem.W.Frag) (mg : Str → Option Value) (x qual : Str) (i : Nat) (C fI : Addr) (fd : FuncData) : Prop where
  oex : OexC K C
  xf : XfC K C
  gl : mg x = some (.ref C)
  ini : PySem.W.findIn K (.ref C) "__init__" = some (some (.ref fI))
  tyI : PySem.W.typeIn K (.ref fI) = some (.type "function")
  fn : Fun K "__init__" qual (inClass (top i) 0) fI fd
  bi : Binds K fd ["self", "value"] []
  noV : PySem.W.findIn K (.ref C) "value" = some none
def spIni (C : Addr) : Sp := fun vs H Q _ => ∃ (a : Addr) (v : V), vs = [.ref a, v] ∧ H a = some (exo a C none) ∧ ∀ dx, H dx = none → dx ≠ a → Q .non (upd (upd H dx (exd dx [("value", v)])) a (exo a C (some dx)))
/-- an error of the class at C that tells v, made behind H -/
def Err (E : XK) (H : Hp) (C : Addr) (v : V) : Prop := ∀ H1 dd, Ex H H1 → H1 dd = none → E (.ref C) (some dd) (upd H1 dd (.xd [("value", v)]))
section
variable {P : Program} {w : World} {K : PySem.W.Frag} {mg : Str → Option Value} {base : Heap}
theorem ok_ini {x qual : Str} {i : Nat} {C fI : Addr} {fd : FuncData} (T : ExcT K mg x qual i C fI fd) (S : FnScope ["self", "value"] ["self", "value"] (defScope (inClass (top i) 0)))
    (hb : ∃ p1 p2 p3 p4 : Pos, defBody (inClass (top i) 0) = [.Assign [.Attribute (.Name "self" p1) "value" p2] (.Name "value" p3) p4] ∧ p2.endLine = p2.endLine)
    (v0 : Vis (defScope (inClass (top i) 0)) "self") (v1 : Vis (defScope (inClass (top i) 0)) "value") : FnOk P w K mg base CX0 1 fI fd ["self", "value"] (spIni C) := by
  obtain ⟨p1, p2, p3, p4, hb, _⟩ := hb
  refine T.fn.ok S (fun vs H Q E h => ?_) (fun cdv A outer s H vs Q E hr h => ?_)
  · obtain ⟨a, v, rfl, _⟩ := h
    rfl
  · obtain ⟨a, v, rfl, ha, k⟩ := h
    rw [hb]
    refine ⟨_, pss_one (ps_ost (pv 0 rfl v0) (pv 1 rfl v1)), ?_⟩
    exact ⟨_, rfl, _, rfl, a, C, rfl, T.oex, T.noV, .inl ⟨ha, fun dx n ne => k dx n ne⟩⟩
theorem rd_err {K : PySem.W.Frag} {E : XK} {H : Hp} {C : Addr} {v : V} (h : Err E H C v) {H1 : Hp} (e : Ex H H1) : ∀ a, H1 a = none → spIni C (.ref a :: ([v] ++ [])) (upd H1 a (exo a C none))
    (fun u H2 => u = .non ∧ ∃ (d : Addr) (fs : List (Str × V)), H2 a = some (exo a C (some d)) ∧ H2 d = some (exd d fs) ∧ H1 d = none ∧ E (.ref C) (some d) (upd (del H2 a) d (.xd fs))) (fun _ _ _ => False) := fun a na => by
  refine ⟨a, v, rfl, upd_same, fun dx nd ne => ⟨rfl, dx, [("value", v)], upd_same, by rw [upd_ne ne, upd_same], by rw [upd_ne ne] at nd; exact nd, ?_⟩⟩
  have nd1 : H1 dx = none := by rw [upd_ne ne] at nd; exact nd
  have eq : upd (del (upd (upd (upd H1 a (exo a C none)) dx (exd dx [("value", v)])) a (exo a C (some dx))) a) dx (.xd [("value", v)]) = upd H1 dx (.xd [("value", v)]) := by
    funext b
    by_cases h1 : b = dx
    · subst h1
      rw [upd_same, upd_same]
    · rw [upd_ne h1, upd_ne h1]
      by_cases h2 : b = a
      · subst h2
        rw [del_same, na]
      · rw [del_ne h2, upd_ne h2, upd_ne h1, upd_ne h2]
  rw [eq]
  exact h H1 dx e nd1
def spLetters (K : PySem.W.Frag) (C : Addr) : Sp := fun vs H Q E => ∃ (x : V) (d : PyData), vs = [x] ∧ Dd K H x d ∧
  ((∃ n : Nat, d = .int (n : Int) ∧ n ≤ 8 ∧ ∀ l xs H', H l = none → Ex H H' → H' l = some (.lst xs) → DpAll K (hid l H') xs (rowsD (bitsL n)) → Q (.ref l) H') ∨ ((∀ n : Nat, d = .int (n : Int) → 8 < n) ∧ Err E H C x))
theorem scLetters : FnScope ["width"] ["width"] (defScope dLetters) := ⟨rfl, rfl, rfl, by decide +kernel, rfl, by decide +kernel, by decide +kernel⟩
theorem scIni2 : FnScope ["self", "value"] ["self", "value"] (defScope (inClass (top 2) 0)) := ⟨rfl, rfl, rfl, by decide +kernel, rfl, by decide +kernel, by decide +kernel⟩
theorem okLetters {f C fI : Addr} {fd fdI : FuncData} (F : At K mg "letters" dLetters ["width"] f fd) (T : Txt K mg) (TW : ExcT K mg "InvalidWidth" "InvalidWidth.__init__" 2 C fI fdI) : FnOk P w K mg base (L2.CX P w) 3 f fd ["width"] (spLetters K C) := by
  obtain ⟨fC, gC, FC⟩ := T.count
  obtain ⟨fA, gA, FA⟩ := T.allBits
  obtain ⟨t8, m8⟩ := T.greatest
  have GC : FnOk P w K mg base CX0 2 fC gC ["value"] (spT K isCount) := okCount FC T
  have GA : FnOk P w K mg base CX0 1 fA gA ["width"] (spRows K) := okAllBits FA T
  have GI : FnOk P w K mg base CX0 1 fI fdI ["self", "value"] (spIni C) := ok_ini TW scIni2 ⟨_, _, _, _, rfl, rfl⟩ (.inl rfl) (.inl rfl)
  refine F.fn.okX scLetters (fun vs H Q E h => ?_) (fun cdv A outer s H vs Q E hr h => ?_)
  · obtain ⟨x, d, rfl, _⟩ := h
    rfl
  · obtain ⟨x, d, rfl, hd, k⟩ := h
    refine ⟨_, pss_cons (ps_if (PW.pt (pw_or (pt_not (pt_val (pe_call GC hr (by rfl) FC.gl FC.fn.kp FC.bi .nil pass0 (pa_cons (pv 0) pa_nil)))) (pw_or1 (pt_cmpR op_gt (pv 0) (pGi rfl m8) (nomark _)))))
        (pss_one (ps_raise rfl (takes_of rfl rfl rfl rfl) (pmk_oex TW.oex TW.ini TW.tyI GI hr TW.bi .nil pass0 (by rfl) TW.gl (pa_cons (pv 0) pa_nil)))) pss_nil)
      (pss_one (ps_ret (pe_call GA (hr.mono (by decide)) (by rfl) FA.gl FA.fn.kp FA.bi .nil pass0 (pa_cons (pv 0) pa_nil)))), ?_⟩
    refine rd_t rfl hd fun H1 e1 => ⟨_, rfl, ?_⟩
    have bad : Err E H C x → tMkO C (spIni C) [] (tCons (tVar 0) tNil) (L2.start ["width"] [x]) H1 (fun cls d H' => E cls d H') := fun h => ⟨_, rfl, (by show 1 ≤ 1000; decide), rd_err (K := K) h e1⟩
    cases ec : isCount d with
    | false =>
      refine iteT (iteT ?_)
      rcases k with ⟨n, rfl, _⟩ | ⟨_, k⟩
      · have : isCount (.int (n : Int)) = true := by
          show decide ((0 : Int) ≤ (n : Int)) = true
          exact decide_eq_true (by omega)
        rw [this] at ec
        cases ec
      · exact bad k
    | true =>
      obtain ⟨j, rfl⟩ : ∃ j, d = .int j := by cases d <;> first | exact ⟨_, rfl⟩ | (simp [isCount] at ec)
      have hj : 0 ≤ j := of_decide_eq_true ec
      cases hd with
      | dp z =>
        cases z
        refine iteF ⟨_, rfl, _, _, rfl, rfl, _, rfl, ?_⟩
        rcases k with ⟨n, e, hn, k⟩ | ⟨hb, k⟩
        · obtain rfl : j = (n : Int) := by injection e
          have c1 : decide ((8 : Int) < (n : Int)) = false := decide_eq_false (by omega)
          show if decide ((8 : Int) < (n : Int)) = true then _ else _
          rw [c1]
          refine iteF ⟨_, rfl, n, rfl, hn, fun l xs H' nl e hl hx => ?_⟩
          exact k l xs H' (fresh_back e1 nl) (e1.trans e) hl hx
        · obtain ⟨n, rfl⟩ : ∃ n : Nat, j = (n : Int) := ⟨j.toNat, by omega⟩
          have := hb n rfl
          have c1 : decide ((8 : Int) < (n : Int)) = true := decide_eq_true (by omega)
          show if decide ((8 : Int) < (n : Int)) = true then _ else _
          rw [c1]
          exact iteT (bad k)
end
end W

set_option Elab.async false
set_option linter.all false
set_option maxRecDepth 100000
set_option maxHeartbeats 4000000
namespace W
open PySem PySem.Spec PyProof.Rows L2 Evl G
def spLonger (K : PySem.W.Frag) : Sp := fun vs H Q _ => ∃ (a : Addr) (xs : List V) (rs : List (List Int)), vs = [.ref a] ∧ SqL K H a xs ∧ DpAll K H xs (rowsD rs) ∧ rs.length ≤ 300 ∧ (∀ r ∈ rs, r.length ≤ 100) ∧
  ∀ l ys H', H l = none → Ex H H' → H' l = some (.lst ys) → DpAll K (hid l H') ys (rowsD (stepR rs)) → Q (.ref l) H'
theorem take_more {α : Type} : ∀ {l : List α} {i : Nat} {x : α}, l[i]? = some x → l.take (i + 1) = l.take i ++ [x]
  | [], i, x, h => by simp at h
  | a :: l, 0, x, h => by
    have e : a = x := Option.some.inj h
    subst e
    rfl
  | a :: l, i + 1, x, h => by
    have ih := take_more (l := l) (i := i) (x := x) h
    show a :: l.take (i + 1) = a :: l.take i ++ [x]
    rw [ih]
    rfl
theorem stepR_snoc (rs : List (List Int)) (r : List Int) : stepR (rs ++ [r]) = stepR rs ++ [r ++ [0], r ++ [1]] := by
  unfold stepR
  rw [List.flatMap_append]
  simp
section
variable {P : Program} {w : World} {K : PySem.W.Frag} {mg : Str → Option Value} {base : Heap}
theorem scLonger : FnScope ["_law_some", "_law_found", "_law_one"] ["_law_some"] (defScope dLonger) := ⟨rfl, rfl, rfl, by decide +kernel, rfl, by decide +kernel, by decide +kernel⟩
theorem okLonger {f : Addr} {fd : FuncData} (F : At K mg "_law_longer" dLonger ["_law_some"] f fd) (T : Txt K mg) : FnOk P w K mg base CX0 1 f fd ["_law_some"] (spLonger K) := by
  refine F.fn.ok scLonger (fun vs H Q E h => ?_) (fun cdv A outer s H vs Q E hr h => ?_)
  · obtain ⟨a, xs, rs, rfl, _⟩ := h
    rfl
  · obtain ⟨a, xs, rs, rfl, ha, hx, hz, hs, k⟩ := h
    have hl : xs.length = rs.length := by
      have := dpAll_len hx
      simpa [rowsD] using this
    refine ⟨_, pss_cons (ps_set (i := 1) scLonger.nd rfl (Or.inl rfl) (pe_lst pa_nil))
      (pss_cons (ps_for PassesOwn.never rfl (pi_list (pv 0)) (pg_name (i := 2) scLonger.nd rfl (Or.inl rfl))
        (pss_one (ps_expr (pe_bm PySem.F.plainAttrs_list PySem.F.slot_list_extend PySem.F.type_list_extend mt_extend (pv 1) (pa_cons (pe_lst (pa_cons (pe_op (op_catK (K := K)) (pv 2) (pe_tup (pa_cons pe_int pa_nil))) (pa_cons (pe_op (op_catK (K := K)) (pv 2) (pe_tup (pa_cons pe_int pa_nil))) pa_nil))) pa_nil)))))
      (pss_one (ps_ret (pv 1)))), ?_⟩
    refine ⟨Nat.zero_le _, fun l hlN => ?_⟩
    have e1 : Ex H (upd H l (.lst [])) := Ex.new hlN
    refine ⟨_, rfl, a, rfl, ⟨xs, ex_l e1 ha⟩, for_list (K := K) (a := a) (xs := xs) (fun i σ Hc => ∃ (ys : List V) (v2 : Option V), σ = [some (.ref a), some (.ref l), v2] ∧ Ex H Hc ∧ Hc l = some (.lst ys) ∧ DpAll K (hid l Hc) ys (rowsD (stepR (rs.take i))))
      ⟨[], none, rfl, e1, upd_same, .nil⟩ (fun i σ Hc _ inv => ?_) (fun i x σ Hc hi inv => ?_) (fun σ Hc inv => ?_)⟩
    · obtain ⟨ys, v2, _, e, _⟩ := inv
      exact ex_l e ha
    · obtain ⟨ys, v2, rfl, e, hlc, hy⟩ := inv
      obtain ⟨d, hd1, hd2⟩ := dpAll_at hx hi
      obtain ⟨r, hr1, rfl⟩ : ∃ r, rs[i]? = some r ∧ d = rowD r := by
        unfold rowsD at hd1
        rw [List.getElem?_map] at hd1
        cases q : rs[i]? with
        | none => rw [q] at hd1; cases hd1
        | some r => rw [q] at hd1; exact ⟨r, rfl, (Option.some.inj hd1).symm⟩
      have hrl := hs r (List.mem_of_getElem? hr1)
      have hil : i < xs.length := (List.getElem?_eq_some_iff.mp hi).1
      refine ⟨_, rfl, .inl ⟨rfl, ys, sq_of hlc⟩, ?_⟩
      refine rd_more (K := K) (i := 2) (r := r) (c := 0) rfl (dp_ex e hd2) hrl rfl fun v1 H1 x1 d1 => ?_
      refine rd_more (K := K) (i := 2) (r := r) (c := 1) rfl (dp_ex (e.trans x1) hd2) hrl rfl fun v2 H2 x2 d2 => ?_
      refine ⟨(by show 2 ≤ sizeLine; decide), fun b hb => ?_⟩
      have x3 : Ex H2 (upd H2 b (.lst [v1, v2])) := Ex.new hb
      have lD : Hc l ≠ none := by rw [hlc]; simp
      have lD1 : H1 l ≠ none := by rw [x1 _ _ hlc]; simp
      have hyl : ys.length = 2 * i := by
        have := dpAll_len hy
        simp only [rowsD, List.length_map, stepR_len, List.length_take] at this
        omega
      refine ⟨l, b, ys, [v1, v2], rfl, rfl, ((x1.trans x2).trans x3) _ _ hlc, upd_same, ?_, ?_⟩
      · exact Nat.le_trans (show ys.length + 2 ≤ 1000 by omega) (by decide)
      refine ⟨ys ++ [v1, v2], _, rfl, (((e.trans x1).trans x2).trans x3).mut hlN, upd_same, ?_⟩
      rw [take_more hr1, stepR_snoc]
      have q1 : rowsD (stepR (rs.take i) ++ [r ++ [0], r ++ [1]]) = rowsD (stepR (rs.take i)) ++ [.tuple (r.map .int ++ [.int 0]), .tuple (r.map .int ++ [.int 1])] := by
        simp [rowsD, rowD]
      rw [q1]
      refine dpAll_app (dpAll_ex hid_upd (dpAll_ex (hid_ex ((x1.trans x2).trans x3)) hy)) (.cons ?_ (.cons ?_ .nil))
      · exact dp_ex hid_upd (dp_ex (hid_ex (x2.trans x3)) (dp_ex (hid_nw lD) d1))
      · exact dp_ex hid_upd (dp_ex (hid_ex x3) (dp_ex (hid_nw lD1) d2))
    · obtain ⟨ys, v2, rfl, e, hlc, hy⟩ := inv
      rw [hl, List.take_length] at hy
      exact ⟨_, rfl, k l ys Hc hlN e hlc hy⟩
end
end W

set_option Elab.async false
set_option linter.all false
set_option maxRecDepth 100000
set_option maxHeartbeats 4000000
/-! repr in an except suite; isinstance of a caught error that has fields. -/
namespace G
open PySem PySem.Spec PyProof.Rows L2 Evl
theorem call_rpU {X : Cx} (hU : X.A.units + 200 < cLine) (hG : X.A.guards = some []) : CallR X (.builtin "repr") (rRp X.K) := by
  intro pins s σ H xs us Q I r h
  obtain ⟨x, d, rfl, hd, h1, h2, h3, h4, k⟩ := h
  obtain ⟨u, rfl, rx⟩ : ∃ u, us = [u] ∧ RelV x u := by
    cases r with
    | cons a b => cases b; exact ⟨_, rfl, a⟩
  have hz := showsz h4
  have hu := hU
  cases hd with
  | non =>
    cases (show u = Value.none from rx)
    exact P.repr_of_none ⟨.str _, H, I.tok _, ⟨_, rfl⟩, k⟩
  | bl b =>
    cases (show u = Value.bool b from rx)
    refine P.repr_of_bool ⟨.str _, H, I.tok _, ⟨_, rfl⟩, ?_⟩
    cases b <;> exact k
  | int i =>
    obtain ⟨t, rfl⟩ := (show ∃ t, u = Value.int i t from rx)
    exact P.repr_of_int (by simpa [PyData.showable] using h1) ⟨.str _, H, I.tok _, ⟨_, rfl⟩, k⟩
  | str z =>
    obtain ⟨t, rfl⟩ := (show ∃ t, u = Value.str z t from rx)
    exact P.repr_of_str ⟨.str _, H, I.tok _, ⟨_, rfl⟩, k⟩ hz
  | @lst a ys ds hs ha =>
    cases (show u = Value.ref a from rx)
    obtain ⟨as, rd⟩ := Dp.reads I (.list ds) (.ref a) (.ref a) (.lst hs ha) rfl
    exact repr_of_reads' rd h1 (PyData.noDict_hsm h2) hG (by omega) (fun _ _ e => e) (fun h' w tk kp => ⟨.str _, H, I.kept kp, ⟨_, rfl⟩, k⟩) hz
  | @tup a ys ds hs ha =>
    cases (show u = Value.ref a from rx)
    obtain ⟨as, rd⟩ := Dp.reads I (.tuple ds) (.ref a) (.ref a) (.tup hs ha) rfl
    exact repr_of_reads' rd h1 (PyData.noDict_hsm h2) hG (by omega) (fun _ _ e => e) (fun h' w tk kp => ⟨.str _, H, I.kept kp, ⟨_, rfl⟩, k⟩) hz

theorem call_rpDU {X : Cx} (hU : X.A.units + 200 < cLine) (hG : X.A.guards = some []) : CallR X (.builtin "repr") rRpD := by
  intro pins s σ H xs us Q I r h
  obtain ⟨a, kvs, ds, rfl, hd, hk, h1, h3, h4, k⟩ := h
  obtain ⟨u, rfl, rx⟩ : ∃ u, us = [u] ∧ RelV (.ref a) u := by
    cases r with
    | cons a b => cases b; exact ⟨_, rfl, a⟩
  have hz := showsz h4
  have hu := hU
  cases (show u = Value.ref a from rx)
  obtain ⟨_, hs, vs, rv, o, es, ep, e1, e2, e3, _, e5, _⟩ := (show ObjOk X.prog X.w H s.heap a (.dK kvs) from hd.ok I.hok)
  obtain ⟨r1, r2⟩ := Kd.reads (h := s.heap) hk rv e5
  have rd : Reads s.heap (.ref a) (.dict ds) (a :: [] ++ []) := .dict e1 e2.1 e3 r1 r2
  have nsm : (PyData.dict ds).hasDict = true → sysModules ∉ a :: [] ++ [] := fun _ z => by
    have e : sysModules = a := by simpa using z
    rw [← e] at hs
    simp at hs
  exact repr_of_reads' rd h1 nsm hG (by omega) (fun _ _ e => e) (fun h' w tk kp => ⟨.str _, H, I.kept kp, ⟨_, rfl⟩, k⟩) hz

theorem call_rxU {X : Cx} (hU : X.A.units + 200 < cLine) (hG : X.A.guards = some []) : CallR X (.builtin "repr") (rRx X.K) := by
  intro pins s σ H xs us Q I r h
  obtain ⟨x, d, rfl, hd, ⟨h1, h2, h3⟩, k⟩ := h
  cases hd with
  | dp e => exact call_rpU hU hG pins s σ H _ us Q I r ⟨x, d, rfl, e, h1, Dp.noD e, h2, h3, k⟩
  | dk e kd => exact call_rpDU hU hG pins s σ H _ us Q I r ⟨_, _, _, rfl, .inl e, kd, h1, h2, h3, k⟩


/-- isinstance(e, c), e the exception that the suite holds, of the class D, with a dict of its own -/
def rIsX (K : PySem.W.Frag) (D a : Addr) (cls : Value) (d : Option Addr) : List V → Hp → VK → Prop := fun xs H Q => cls = .ref D ∧ ∃ (c : V) (cv : Value) (b : Bool) (dd : Addr) (fs : List (Str × V)), xs = [.ref a, c] ∧ d = some dd ∧ H dd = some (.xd fs) ∧ (∀ u, RelV c u → u = cv) ∧ PySem.W.kitOne K (.ref D) cv = some b ∧ Q (.bl b) H
theorem call_isX {X : Cx} {a D : Addr} {oe : Obj} {cls : Value} {d : Option Addr} {pn : List (Addr × Obj)} (C : ExcC X.K D) (hz : Zc cls d oe) (hf : ∃ vs, oe.data = .fields vs) : CallR (X.suite a ((a, oe) :: pn)) (.builtin "isinstance") (rIsX X.K D a cls d) := by
  intro pins s σ H xs us Q I r h
  obtain ⟨ecls, c, cv, b, dd, fs, rfl, rfl, hdd, hcv, e, q⟩ := h
  subst ecls
  cases r with
  | cons rx rr =>
    cases rr with
    | cons rt rr =>
      cases rr
      cases rx
      have ec := hcv _ rt
      subst ec
      obtain ⟨hget, _⟩ := I.pin (a, oe) (List.mem_append.mpr (.inl List.mem_cons_self))
      obtain ⟨vs, hv⟩ := hf
      have hx : ObjOk X.prog X.w H s.heap dd (.xd fs) := I.hok dd _ hdd
      obtain ⟨mA, hns, hr⟩ := hx
      obtain ⟨od, ho, hl⟩ := lookIn_ns hns
      have J : PySem.W.InstAt s.heap a oe D (some od) := ⟨hget, hz.1, by unfold PySem.W.notCls; rw [hv] <;> rfl, by rw [hz.2]; exact ho⟩
      have hcl : (PySem.W.clsIn X.K D).isSome = true := by obtain ⟨cd, hc, _⟩ := PySem.W.any_some C.hd; rw [hc]; rfl
      exact PySem.W.kia_one (PySem.W.kitx_exc hcl C.hg C.hk C.hs C.ha C.hn C.ht C.hm) I.kIn J e (fun z => nomatch z) fun tk => ⟨.bl b, H, I.kept (t' := tk) fun _ _ z => z, rfl, q⟩
end G

set_option Elab.async false
set_option linter.all false
set_option maxRecDepth 100000
set_option maxHeartbeats 4000000
namespace G
open PySem PySem.Spec PyProof.Rows L2 Evl
theorem takes_len {X : Cx} {W : WX} (t : Takes X W) : Takes X (fun c d σ H => σ.length = X.N.length → W c d σ H) := fun u s' ⟨a, B, sI, pins, σ, H, cls, d, e, I, nb, up, sky, na, os, ag, w⟩ =>
  t u s' ⟨a, B, sI, pins, σ, H, cls, d, e, I, nb, up, sky, na, os, ag, w I.len⟩
end G
namespace W
open PySem PySem.Spec PyProof.Rows L2 Evl G
/-- what must be known of an error class that is heard -/
structure HearC (K : PySem.W.Frag) (mg : Str → Option Value) (x : Str) (C CE : Addr) : Prop where
  gl : mg x = some (.ref C)
  xf : XfC K C
  exc : ExcC K C
  noV : PySem.W.findIn K (.ref C) "value" = some none
  own : PySem.W.exmOne K (.ref C) (.ref C) = some true
  isE : PySem.W.kitOne K (.ref C) (.ref CE) = some true
  isV : PySem.W.kitOne K (.ref C) (.type "ValueError") = some true
structure HearT (K : PySem.W.Frag) (mg : Str → Option Value) (CW CK CB CE : Addr) : Prop where
  w : HearC K mg "InvalidWidth" CW CE
  k : HearC K mg "InvalidKind" CK CE
  b : HearC K mg "InvalidBits" CB CE
  ce : mg "WireError" = some (.ref CE)
  kw : PySem.W.exmOne K (.ref CK) (.ref CW) = some false
  bw : PySem.W.exmOne K (.ref CB) (.ref CW) = some false
  bk : PySem.W.exmOne K (.ref CB) (.ref CK) = some false
/-- an error of the class at C is heard: its row -/
def wH (K : PySem.W.Frag) (C : Addr) (tag : Str) (Q : VK) : XK := fun cls d H => cls = .ref C ∧ ∃ (dd : Addr) (v : V) (dv : PyData), d = some dd ∧ H dd = some (.xd [("value", v)]) ∧ Dd K H v dv ∧ Showy dv ∧
  ∀ l H2, H l = none → Ex H H2 → H2 l = some (.lst [.str tag, .str dv.shown, .bl true]) → Q (.ref l) H2
def wHs (K : PySem.W.Frag) (CW CK CB : Addr) (Q : VK) : XK := fun cls d H => wH K CW "width" Q cls d H ∨ wH K CK "kind" Q cls d H ∨ wH K CB "bits" Q cls d H
/-- heard(a): what is asked of a's call -/
def TTh (K : PySem.W.Frag) (CW CK CB : Addr) : (XK → Hp → VK → Prop) → Hp → VK → Prop := fun tl H Q => ∀ l0, H l0 = none → tl (wHs K CW CK CB Q) (upd H l0 (.lst [.str "let"])) fun _ H' => Q (.ref l0) H'
abbrev nHeard : List Str := ["_law_call", "_law_heard_here", "e"]
theorem scHeard : FnScope nHeard ["_law_call"] (defScope dHeard) := ⟨rfl, rfl, rfl, by decide +kernel, rfl, by decide +kernel, by decide +kernel⟩
/-- the suite's reading -/
abbrev tHear (K : PySem.W.Frag) (C CE : Addr) (tag : Str) (a : Addr) (cls : Value) (d : Option Addr) : TS :=
  tAsg (tLst (tCons (tC (.str tag)) (tCons (tCB (rRx K) (tCons (tXf a cls d C "value" (tVar 2)) tNil)) (tCons (tAndV (tCB (rIsX K C a cls d) (tCons (tVar 2) (tCons (tC (.ref CE)) tNil))) (tCB (rIsX K C a cls d) (tCons (tVar 2) (tCons (tC (.ty "ValueError")) tNil)))) tNil)))) (gName 1)
section
variable {K : PySem.W.Frag} {mg : Str → Option Value}
/-- one clause -/
theorem rd_hear {x : Str} {C CE : Addr} {tag : Str} {a : Addr} {cls : Value} {d : Option Addr} {σ : L2.St} {H : Hp} {D : Ends} {Q : VK} (T : HearC K mg x C CE) (hs : σ[2]? = some (some (.ref a))) (h : wH K C tag Q cls d H)
    (hD : ∀ l H2, Q (.ref l) H2 → D.nx (σ.set 1 (some (.ref l))) H2) : tHear K C CE tag a cls d D σ H := by
  obtain ⟨rfl, dd, v, dv, rfl, hdd, hv, hsh, k⟩ := h
  refine ⟨_, hs, rfl, rfl, dd, _, v, rfl, hdd, rfl, v, dv, rfl, hv, hsh, _, hs, rfl, _, _, _, dd, _, rfl, rfl, hdd, fun u r => r, T.isE, true, rfl, iteT ?_⟩
  refine ⟨_, hs, rfl, _, _, _, dd, _, rfl, rfl, hdd, fun u r => r, T.isV, ?_⟩
  refine ⟨(by show 3 ≤ sizeLine; decide), fun l hl => hD l _ ?_⟩
  exact k l _ hl (Ex.new hl) upd_same
end
/-- _law_heard is given a lambda -/
theorem heard_gives {X : Cx} {q : Str} {g : Addr} {cdg : Value} {CW CK CB CE : Addr} (N : Names X.mg) (T : HearT X.K X.mg CW CK CB CE) (hr : Rm 1 X.A) :
    LamX.GivesTo X nHeard "_law_heard" (defScope dHeard) g cdg (defBody dHeard) "_law_call" q (TTh X.K CW CK CB) := by
  intro f c' s H Q tl act hc h
  have hU0 : (X.A.deeper (envOfC "_law_heard" (defScope dHeard) s.heap.objs.size g cdg)).units + 200 < cLine := by
    have := (hr.deeper (n := 0) (envOfC "_law_heard" (defScope dHeard) s.heap.objs.size g cdg)).rm.un
    omega
  have hG0 : (X.A.deeper (envOfC "_law_heard" (defScope dHeard) s.heap.objs.size g cdg)).guards = some [] := hr.gd
  have cl : ∀ (a : Addr), True := fun _ => trivial
  refine ⟨_, pss_cons (ps_set (i := 1) scHeard.nd rfl (Or.inl rfl) (pe_lst (pa_cons pe_str pa_nil)))
    (pss_cons (ps_tries (X := (cxOf C8.CX0 X.prog X.w X.K X.mg X.base nHeard "_law_heard" (defScope dHeard) g cdg X.A X.stack s H C8.E0).nox) (i := 2)
      (tb := fun W D σ H => ∃ Ech : XK, (∀ cls d σ' H', Ech cls d H' → σ'.length = 3 → W cls d σ' H') ∧ σ[0]? = some (some (.ref f)) ∧ H c' = some (LamX.CodeO c' q) ∧ tl Ech H fun _ H' => D.nx σ H')
      (l := [(.ref CW, tHear X.K CW CE "width"), (.ref CK, tHear X.K CK CE "kind"), (.ref CB, tHear X.K CB CE "bits")])
      rfl rfl scHeard.nd rfl rfl LamX.takes0 (fun W pn xe tk _ => ?_) (.cons ⟨by rfl, by decide, .inl T.w.gl⟩ ?_ (.cons ⟨by rfl, by decide, .inl T.k.gl⟩ ?_ (.cons ⟨by rfl, by decide, .inl T.b.gl⟩ ?_ .nil))))
    (pss_one (ps_ret (pe_var (i := 1) rfl (.inl rfl))))), ?_⟩
  · refine ⟨fun pins s' σ H' D I h' => ?_⟩
    obtain ⟨Ech, hW, h1, h2, h3⟩ := h'
    exact (pss_one (ps_expr (act (fun c d σ H => σ.length = 3 → W c d σ H) pn xe Ech _ _ (takes_len tk) hW))).run pins s' σ H' D I ⟨h1, h2, h3⟩
  · exact fun a oe cls d pn hz hf => pss_one (ps_set (i := 1) scHeard.nd rfl (Or.inl rfl) (pe_lst (pa_cons pe_str (pa_cons (pe_callB (call_rxU hU0 hG0) (by rfl) N.repr (by decide +kernel) (pa_cons (pe_xf T.w.xf T.w.noV hz hf (pe_var (i := 2) rfl (.inl rfl))) pa_nil))
      (pa_cons (pe_and (pe_callB (call_isX T.w.exc hz hf) (by rfl) N.isinstance (by decide +kernel) (pa_cons (pe_var (i := 2) rfl (.inl rfl)) (pa_cons (pe_glob (by rfl) T.ce rfl) pa_nil)))
        (pe_one (pe_callB (call_isX T.w.exc hz hf) (by rfl) N.isinstance (by decide +kernel) (pa_cons (pe_var (i := 2) rfl (.inl rfl)) (pa_cons (pTy "ValueError" (by rfl) N.valueError (by decide +kernel)) pa_nil))))) pa_nil)))))
  · exact fun a oe cls d pn hz hf => pss_one (ps_set (i := 1) scHeard.nd rfl (Or.inl rfl) (pe_lst (pa_cons pe_str (pa_cons (pe_callB (call_rxU hU0 hG0) (by rfl) N.repr (by decide +kernel) (pa_cons (pe_xf T.k.xf T.k.noV hz hf (pe_var (i := 2) rfl (.inl rfl))) pa_nil))
      (pa_cons (pe_and (pe_callB (call_isX T.k.exc hz hf) (by rfl) N.isinstance (by decide +kernel) (pa_cons (pe_var (i := 2) rfl (.inl rfl)) (pa_cons (pe_glob (by rfl) T.ce rfl) pa_nil)))
        (pe_one (pe_callB (call_isX T.k.exc hz hf) (by rfl) N.isinstance (by decide +kernel) (pa_cons (pe_var (i := 2) rfl (.inl rfl)) (pa_cons (pTy "ValueError" (by rfl) N.valueError (by decide +kernel)) pa_nil))))) pa_nil)))))
  · exact fun a oe cls d pn hz hf => pss_one (ps_set (i := 1) scHeard.nd rfl (Or.inl rfl) (pe_lst (pa_cons pe_str (pa_cons (pe_callB (call_rxU hU0 hG0) (by rfl) N.repr (by decide +kernel) (pa_cons (pe_xf T.b.xf T.b.noV hz hf (pe_var (i := 2) rfl (.inl rfl))) pa_nil))
      (pa_cons (pe_and (pe_callB (call_isX T.b.exc hz hf) (by rfl) N.isinstance (by decide +kernel) (pa_cons (pe_var (i := 2) rfl (.inl rfl)) (pa_cons (pe_glob (by rfl) T.ce rfl) pa_nil)))
        (pe_one (pe_callB (call_isX T.b.exc hz hf) (by rfl) N.isinstance (by decide +kernel) (pa_cons (pe_var (i := 2) rfl (.inl rfl)) (pa_cons (pTy "ValueError" (by rfl) N.valueError (by decide +kernel)) pa_nil))))) pa_nil)))))
  · refine ⟨(by show 1 ≤ sizeLine; decide), fun l0 hl0 => ?_⟩
    refine ⟨wHs X.K CW CK CB Q, fun cls d σ' H' w e3 => ?_, rfl, ?_, ?_⟩
    · obtain ⟨a0, a1, a2, rfl⟩ : ∃ a b c, σ' = [a, b, c] := by
        match σ', e3 with
        | [a, b, c], _ => exact ⟨a, b, c, rfl⟩
      rcases w with w | w | w
      · obtain rfl : cls = .ref CW := w.1
        refine ⟨true, T.w.own, fun _ a _ => ?_, fun z => (by cases z)⟩
        exact rd_hear T.w rfl w fun l H2 hq => ⟨_, rfl, hq⟩
      · obtain rfl : cls = .ref CK := w.1
        refine ⟨false, T.kw, fun z => (by cases z), fun _ => ⟨true, T.k.own, fun _ a _ => ?_, fun z => (by cases z)⟩⟩
        exact rd_hear T.k rfl w fun l H2 hq => ⟨_, rfl, hq⟩
      · obtain rfl : cls = .ref CB := w.1
        refine ⟨false, T.bw, fun z => (by cases z), fun _ => ⟨false, T.bk, fun z => (by cases z), fun _ => ⟨true, T.b.own, fun _ a _ => ?_, fun z => (by cases z)⟩⟩⟩
        exact rd_hear T.b rfl w fun l H2 hq => ⟨_, rfl, hq⟩
    · exact Ex.new hl0 _ _ hc
    · have e : (fun (_ : V) (H' : Hp) => tVar 1 [some (.ref f), some (.ref l0), none] H' Q) = fun _ H' => Q (.ref l0) H' := by
        funext _ H'
        rw [tVar_eq (v := .ref l0) rfl]
      show tl _ _ (fun (_ : V) (H' : Hp) => tVar 1 [some (.ref f), some (.ref l0), none] H' Q)
      rw [e]
      exact h l0 hl0
end W

set_option Elab.async false
set_option linter.all false
set_option maxRecDepth 100000
set_option maxHeartbeats 4000000
/-! What a heard lambda leaves: all but the tables of code objects stays. -/
namespace G
open PySem PySem.Spec PyProof.Rows L2 Evl
section
variable {K : PySem.W.Frag} {H H' : Hp}
theorem sl_exN (e : LamX.ExtN H H') {a : Addr} {xs : List V} (h : SqL K H a xs) : SqL K H' a xs := by
  rcases h with (z | ⟨o, z⟩) | z
  · exact .inl (.inl (e _ _ z (fun ps q => by cases q)))
  · exact .inl (.inr ⟨o, e _ _ z (fun ps q => by cases q)⟩)
  · exact .inr z
theorem st_exN (e : LamX.ExtN H H') {a : Addr} {xs : List V} (h : SqT K H a xs) : SqT K H' a xs := by
  rcases h with (z | ⟨o, z⟩) | z
  · exact .inl (.inl (e _ _ z (fun ps q => by cases q)))
  · exact .inl (.inr ⟨o, e _ _ z (fun ps q => by cases q)⟩)
  · exact .inr z
mutual
theorem dp_exN (e : LamX.ExtN H H') : ∀ {d : PyData} {x : V}, Dp K H x d → Dp K H' x d
  | .none, _, h => by cases h; exact .non
  | .bool b, _, h => by cases h; exact .bl b
  | .int i, _, h => by cases h; exact .int i
  | .str z, _, h => by cases h; exact .str z
  | .list ds, _, h => by
    cases h with
    | lst hs a => exact .lst (sl_exN e hs) (dpAll_exN e a)
  | .tuple ds, _, h => by
    cases h with
    | tup hs a => exact .tup (st_exN e hs) (dpAll_exN e a)
  | .dict _, _, h => by cases h
theorem dpAll_exN (e : LamX.ExtN H H') : ∀ {ds : List PyData} {xs : List V}, DpAll K H xs ds → DpAll K H' xs ds
  | [], _, h => by cases h; exact .nil
  | d :: ds, _, h => by
    cases h with
    | cons a b => exact .cons (dp_exN e a) (dpAll_exN e b)
end
theorem dd_exN (e : LamX.ExtN H H') {x : V} {d : PyData} (h : Dd K H x d) : Dd K H' x d := by
  cases h with
  | dp q => exact .dp (dp_exN e q)
  | dk q k => exact .dk (e _ _ q (fun ps z => by cases z)) k
theorem ddAll_exN (e : LamX.ExtN H H') {xs : List V} {ds : List PyData} (h : DdAll K H xs ds) : DdAll K H' xs ds := by
  induction h with
  | nil => exact .nil
  | cons a _ ih => exact .cons (dd_exN e a) ih
theorem exN_fresh (e : LamX.ExtN H H') {b : Addr} (n : H' b = none) : H b = none ∨ ∃ ps, H b = some (.tbl ps) := by
  cases q : H b with
  | none => exact .inl rfl
  | some o =>
    refine .inr ?_
    by_cases z : ∃ ps, o = .tbl ps
    · obtain ⟨ps, rfl⟩ := z
      exact ⟨ps, rfl⟩
    · rw [e b o q fun ps y => z ⟨ps, y⟩] at n
      cases n
end
end G
namespace W
open PySem PySem.Spec PyProof.Rows L2 Evl G
/-! ### sizes of what is shown -/
theorem tuple_boundN {m : Nat} {ts : List PyData} {c e : Nat} (hl : ts.length ≤ m) (h : ∀ t ∈ ts, t.shown.length ≤ c ∧ t.showable = true ∧ t.depth ≤ e) : (PyData.tuple ts).shown.length ≤ m * c + 2 * m + 3 ∧ (PyData.tuple ts).showable = true ∧ (PyData.tuple ts).depth ≤ e + 1 := by
  refine ⟨?_, showableAll_of fun d hd => (h d hd).2.1, Nat.succ_le_succ (depthAll_of fun d hd => (h d hd).2.2)⟩
  have a := tupleText_len_le (PyData.shownAll ts)
  have b := shownAll_sum ts fun d hd => (h d hd).1
  rw [shownAll_len] at a
  have e1 : ts.length * c ≤ m * c := Nat.mul_le_mul_right c hl
  show (tupleText (PyData.shownAll ts)).length ≤ _
  omega
theorem list_boundN {m : Nat} {ts : List PyData} {c e : Nat} (hl : ts.length ≤ m) (h : ∀ t ∈ ts, t.shown.length ≤ c ∧ t.showable = true ∧ t.depth ≤ e) : (PyData.list ts).shown.length ≤ m * c + 2 * m + 3 ∧ (PyData.list ts).showable = true ∧ (PyData.list ts).depth ≤ e + 1 := by
  refine ⟨?_, showableAll_of fun d hd => (h d hd).2.1, Nat.succ_le_succ (depthAll_of fun d hd => (h d hd).2.2)⟩
  have a := listText_len_le (PyData.shownAll ts)
  have b := shownAll_sum ts fun d hd => (h d hd).1
  rw [shownAll_len] at a
  have e1 : ts.length * c ≤ m * c := Nat.mul_le_mul_right c hl
  show (listText (PyData.shownAll ts)).length ≤ _
  omega
theorem bits_01 (n : Nat) : ∀ r ∈ bitsL n, ∀ b ∈ r, b = 0 ∨ b = 1 := by
  induction n with
  | zero => intro r h; simp [bitsL] at h; rw [h]; intro b hb; cases hb
  | succ n ih =>
    intro r h b hb
    have h : r ∈ stepR (bitsL n) := h
    unfold stepR at h
    obtain ⟨q, hq, h⟩ := List.mem_flatMap.mp h
    have := ih q hq
    simp at h
    rcases h with rfl | rfl
    · rcases List.mem_append.mp hb with z | z
      · exact this b z
      · exact .inl (by simpa using z)
    · rcases List.mem_append.mp hb with z | z
      · exact this b z
      · exact .inr (by simpa using z)
theorem row_bound {n : Nat} {r : List Int} (h : r ∈ bitsL n) (hn : n ≤ 9) : (rowD r).shown.length ≤ 66 ∧ (rowD r).showable = true ∧ (rowD r).depth ≤ 1 := by
  have hl := bits_short n r h
  refine tuple_boundN (m := 9) (c := 5) (e := 0) (by simp; omega) fun t ht => ?_
  obtain ⟨b, hb, rfl⟩ := List.mem_map.mp ht
  have q := tiny_shown (d := .int b) ((bits_01 n r h b hb).elim (fun z => .inl (by rw [z])) (fun z => .inr (.inl (by rw [z]))))
  exact ⟨q.1, q.2.1, Nat.le_of_eq q.2.2⟩
theorem rows_bound {n : Nat} (hn : n ≤ 8) : (PyData.list (rowsD (bitsL n))).shown.length ≤ 17500 ∧ (PyData.list (rowsD (bitsL n))).showable = true ∧ (PyData.list (rowsD (bitsL n))).depth ≤ 2 := by
  have h2 : 2 ^ n ≤ 2 ^ 8 := Nat.pow_le_pow_right (by decide) hn
  have q := list_boundN (m := 256) (ts := rowsD (bitsL n)) (c := 66) (e := 1) (by simp only [rowsD, List.length_map, bitsL_len]; omega) fun t ht => by
    obtain ⟨r, hr, rfl⟩ := List.mem_map.mp ht
    exact row_bound hr (by omega)
  exact ⟨Nat.le_trans q.1 (by decide), q.2⟩
theorem rows2_showy {n : Nat} (hn : n ≤ 8) : Showy (.list [.list (rowsD (bitsL n)), .list (rowsD (bitsL n))]) := by
  have q := list_boundN (m := 2) (ts := [.list (rowsD (bitsL n)), .list (rowsD (bitsL n))]) (c := 17500) (e := 2) (Nat.le_refl 2) fun t ht => by
    have e : t = .list (rowsD (bitsL n)) := by simpa using ht
    rw [e]
    exact rows_bound hn
  exact ⟨q.2.1, Nat.le_trans q.2.2 (by decide), Nat.le_trans q.1 (by decide)⟩
/-! ### a row that is heard -/
section
variable {K : PySem.W.Frag} {CW CK CB : Addr}
theorem row3_shaped {tag s : Str} (h1 : PyData.strOk tag = true) (h2 : PyData.strOk s = true) : SeqAt.shaped (.list [.str tag, .str s, .bool true]) = true := by
  simp [SeqAt.shaped, PyData.canLay0, PyData.canLayAll0, PyData.depth, PyData.depthAll, h1, h2]
/-- heard(lambda: ..) != [tag, repr(x), True], the call raises the error of the class at C that tells x -/
theorem rd_heard {T : List (Addr × Str)} {t : XK → TE} {σ : L2.St} {H : Hp} {Q : VK} {x : V} {d : PyData} {C : Addr} {tag : Str} {i : Nat} (sel : ∀ Q cls d H, wH K C tag Q cls d H → wHs K CW CK CB Q cls d H) (hT : LamX.Tabs T H) (hs : σ[i]? = some (some x)) (hd : Dd K H x d) (sh : Showy d) (st : PyData.strOk tag = true) (so : PyData.strOk d.shown = true)
    (call : ∀ (E : XK) (Q' : VK) (Ha : Hp), LamX.ExtN H Ha → Err E Ha C x → t E σ Ha Q') (k : ∀ H', LamX.ExtN H H' → LamX.Tabs T H' → Q (.bl false) H') :
    tOp (rNeD K) (LamX.tLam T (TTh K CW CK CB) t) (tLst (tCons (tC (.str tag)) (tCons (tCB (rRx K) (tCons (tVar i) tNil)) (tCons (tC (.bl true)) tNil)))) σ H Q := by
  refine ⟨hT, fun H1 eN hT1 l0 hl0 => ?_⟩
  have x1 : Ex H1 (upd H1 l0 (.lst [.str "let"])) := Ex.new hl0
  refine call _ _ _ (eN.trans (.of x1)) fun H2 dd e2 hdd => sel _ _ _ _ ?_
  have x2 : Ex H1 (upd H2 dd (.xd [("value", x)])) := (x1.trans e2).trans (Ex.new hdd)
  refine ⟨rfl, dd, x, d, rfl, upd_same, dd_exN (eN.trans (.of x2)) hd, sh, fun l H3 hl e3 hl3 => ?_⟩
  have x3 : Ex H1 H3 := x2.trans e3
  refine ⟨x, hs, x, d, rfl, dd_exN (eN.trans (.of x3)) hd, sh, ?_⟩
  refine ⟨(by show 3 ≤ sizeLine; decide), fun m hm => ?_⟩
  have x4 : Ex H3 (upd H3 m (.lst [.str tag, .str d.shown, .bl true])) := Ex.new hm
  refine ⟨.list [.str tag, .str d.shown, .bool true], .list [.str tag, .str d.shown, .bool true], .lst (sq_of (x4 _ _ hl3)) (.cons (.str _) (.cons (.str _) (.cons (.bl true) .nil))), .lst (sq_of upd_same) (.cons (.str _) (.cons (.str _) (.cons (.bl true) .nil))), row3_shaped st so, row3_shaped st so, ?_⟩
  have e : PyData.eqv (.list [.str tag, .str d.shown, .bool true]) (.list [.str tag, .str d.shown, .bool true]) = true := SeqAt.eqv_refl _ (SeqAt.canLay_of_shaped (row3_shaped st so))
  rw [e]
  exact k _ (eN.trans (.of (x3.trans x4))) (hT1.ext (x3.trans x4))
end
end W
namespace G
open PySem PySem.Spec PyProof.Rows L2
section
variable {pr : Program} {wo : World} {KK : PySem.W.Frag} {mm : Str → Option Value} {ba : Heap} {CC : CXT} {i n : Nat} {fa : Addr} {fd : FuncData} {pars : List Str} {pro : Sp}
/-- .. its body told the code object that stands in the def -/
theorem okNC {x qual : Str} {de : Stmt} {NN : List Str} (F : Fun KK x qual de fa fd) (S : FnScope NN pars (defScope de)) (ar : ∀ xs HH QQ EE, pro xs HH QQ EE → xs.length = pars.length)
    (body : ∀ (cdv : Value) (B : Around) (out : List Env) (st : Shared) (HH : Hp) (xs : List V) (QQ : VK) (EE : XK), fd.code = cdv → Rm n (B.deeper (envOfC qual (defScope de) st.heap.objs.size fa cdv)) → pro xs HH QQ EE →
      ∃ t, PSs (cxOf CX0 pr wo KK mm ba NN qual (defScope de) fa cdv B out st HH EE).nox (defBody de) t ∧ t { nx := fun _ H' => QQ .non H', rt := QQ } (L2.start NN xs) HH) : Fn pr wo KK mm ba CX0 (n + 1) fa fd pars pro := by
  obtain ⟨oc, od, kV, doc, pm, an, cdv, ct, osl, rfl, look, cdok⟩ := F.ex
  refine ⟨ar, fun B out st HH gs ys xs QQ EE q e0 hb r hp => ?_⟩
  refine LamX.run_ofS look cdok S q.rm e0 hb r (ar _ _ _ _ hp) fun _ => ?_
  obtain ⟨t, a, b⟩ := body cdv B out st HH xs QQ EE rfl (q.deeper _) hp
  exact ⟨t, a.nox, b⟩
end
end G

set_option Elab.async false
set_option linter.all false
set_option maxRecDepth 100000
set_option maxHeartbeats 8000000
namespace W
open PySem PySem.Spec PyProof.Rows L2 Evl G
/-- the tables of the two defs that make lambdas -/
def tabs (P1 P2 : Addr) : List (Addr × Str) := [(P1, "_law_letters_right.<locals>.<lambda>"), (P2, "_law_kinds_right.<locals>.<lambda>")]
def spTabs (T : List (Addr × Str)) : Sp := fun vs H Q _ => vs = [] ∧ LamX.Tabs T H ∧ ∀ H', LamX.Tabs T H' → Q (.bl true) H'
def oddW : List PyData := [.int (-1), .int 9, .bool true, .bool false, .none, .str "1", .tuple [.int 1], .list [.int 2], .int (10 ^ 29), .dict []]
def oddB (d : PyData) : Bool := decide (Showy d) && PyData.strOk d.shown && (match d with | .int i => decide (i < 0) || decide (8 < i) | _ => true)
theorem oddW_ok : ∀ d ∈ oddW, Showy d ∧ PyData.strOk d.shown = true ∧ ∀ n : Nat, d = .int (n : Int) → 8 < n := fun d h => by
  have q := List.all_eq_true.mp (show oddW.all oddB = true by decide +kernel) d h
  unfold oddB at q
  obtain ⟨q1, q3⟩ := Bool.and_eq_true_iff.mp q
  obtain ⟨q1, q2⟩ := Bool.and_eq_true_iff.mp q1
  refine ⟨of_decide_eq_true q1, q2, fun n e => ?_⟩
  subst e
  simp at q3
  omega
theorem q_dat {K : PySem.W.Frag} {ta : TA} {ds : List PyData} {σ : L2.St} {H : Hp} {D : Ends} {i : Nat} {u : TS} (a : Ndds K ta ds) (hl : ds.length ≤ 1000) (k : ∀ l xs H', H l = none → Ex H H' → H' l = some (.lst xs) → DdAll K (nw H H') xs ds → u D (σ.set i (some (.ref l))) H') :
    tSeq (tAsg (tLst ta) (gName i)) u D σ H := rd_data (Q := fun x H1 => gName i x σ H1 (u D)) a hl k
/-- for x in [..], what is written out being data -/
theorem q_forD {K : PySem.W.Frag} {ta : TA} {ds : List PyData} {σ : L2.St} {H : Hp} {D : Ends} {j : Nat} {tb u : TS} (a : Ndds K ta ds) (hl : ds.length ≤ 1000) (k : ∀ l xs H1, H l = none → Ex H H1 → H1 l = some (.lst xs) → DdAll K (nw H H1) xs ds → ∃ Pv : Nat → L2.St → Hp → Prop, Pv 0 σ H1 ∧ (∀ i σ' H', i ≤ xs.length → Pv i σ' H' → SqL K H' l xs) ∧
      (∀ i x σ' H', xs[i]? = some x → Pv i σ' H' → tb { D with nx := Pv (i + 1), ct := Pv (i + 1), bk := u D } (σ'.set j (some x)) H') ∧ ∀ σ' H', Pv xs.length σ' H' → u D σ' H') :
    tSeq (tFor (iList K (tLst ta)) (gName j) tb) u D σ H := by
  unfold tSeq tFor iList
  refine rd_data (K := K) a hl fun l xs H1 n e h d => ?_
  obtain ⟨Pv, p0, p1, p2, p3⟩ := k l xs H1 n e h d
  exact ⟨l, rfl, ⟨xs, sq_of h⟩, for_list (K := K) (a := l) (xs := xs) Pv p0 p1 p2 p3⟩
abbrev nLettersR : List Str := ["_law_due", "_law_many", "_law_told", "_law_odd"]
theorem scLettersR : FnScope nLettersR [] (defScope dLettersR) := ⟨rfl, rfl, rfl, by decide +kernel, rfl, by decide +kernel, by decide +kernel⟩
section
variable {P : Program} {w : World} {K : PySem.W.Frag} {mg : Str → Option Value} {base : Heap}
theorem okLettersR {f c P1 P2 CW CK CB CE fI : Addr} {fd fdI : FuncData} (F : At K mg "_law_letters_right" dLettersR [] f fd) (T : Txt K mg) (TW : ExcT K mg "InvalidWidth" "InvalidWidth.__init__" 2 CW fI fdI) (TH : HearT K mg CW CK CB CE)
    (TB : LamX.TabB base mg c P1) (hcode : fd.code = .ref c) (hP : P1 ≠ P2) : Fn P w K mg base CX0 6 f fd [] (spTabs (tabs P1 P2)) := by
  obtain ⟨fL, gL, FL⟩ := T.letters
  obtain ⟨fO, gO, FO⟩ := T.longer
  obtain ⟨fH, gH, FH⟩ := T.heard
  have GL : FnOk P w K mg base (L2.CX P w) 3 fL gL ["width"] (spLetters K CW) := okLetters FL T TW
  have GO : FnOk P w K mg base CX0 1 fO gO ["_law_some"] (spLonger K) := okLonger FO T
  have kL : KBinds K gL ["width"] ["width"] gu1 gu1 := kb1 FL.fn fun _ _ _ _ _ _ _ => rfl
  have gHb := FH.bi
  have gHg := FH.gl
  have gHk := FH.fn.kp
  obtain ⟨oc, od, kV, doc, pm, an, cdH, ct, osl, rfl, lkH, hcH⟩ := FH.fn.ex
  refine okNC F.fn scLettersR (fun vs H Q E h => ?_) (fun cdv A outer s H vs Q E hcd hr h => ?_)
  · obtain ⟨rfl, _⟩ := h
    rfl
  · obtain ⟨rfl, hT, k⟩ := h
    obtain rfl : cdv = .ref c := hcd.symm.trans hcode
    have hr3 : Room 3 (A.deeper (envOfC "_law_letters_right" (defScope dLettersR) s.heap.objs.size f (.ref c))) := hr.rm.mono (by decide)
    have hr1 : Room 1 (A.deeper (envOfC "_law_letters_right" (defScope dLettersR) s.heap.objs.size f (.ref c))) := hr.rm.mono (by decide)
    have hu : (A.deeper (envOfC "_law_letters_right" (defScope dLettersR) s.heap.objs.size f (.ref c))).units + 64 < cLine := by
      have := hr.rm.un
      omega
    have iteF' : ∀ {b : Bool} {p q : Prop}, b = false → q → (if b = true then p else q) := fun e h => by rw [e]; exact h
    have iteT' : ∀ {b : Bool} {p q : Prop}, b = true → p → (if b = true then p else q) := fun e h => by rw [e]; exact h
    refine ⟨_, pss_cons (ps_set (i := 0) scLettersR.nd rfl (Or.inl rfl) (pe_lst (pa_cons (pe_tup pa_nil) pa_nil)))
      (pss_cons (ps_for PassesOwn.never rfl (pi_range1 (by rfl) T.range (pa_cons pe_int pa_nil)) (pg_name (i := 1) scLettersR.nd rfl (Or.inl rfl))
        (pss_cons (ps_set (i := 2) scLettersR.nd rfl (Or.inl rfl) (pe_call GL hr3 (by rfl) FL.gl FL.fn.kp FL.bi .nil passL (pa_cons (pv 1) pa_nil)))
        (pss_cons (ps_if (pt_cmpR op_ne (pe_callB (call_rx hr) (by rfl) T.repr (by decide +kernel) (pa_cons (pe_lst (pa_cons (pv 2) (pa_cons (pcK0 (Fn.of GL) (hr.mono (by decide)) (by rfl) FL.gl FL.fn.kp kL passL (pk_cons (pv 1) pk_nil)) pa_nil))) pa_nil))
            (pe_callB (call_rx hr) (by rfl) T.repr (by decide +kernel) (pa_cons (pe_lst (pa_cons (pv 0) (pa_cons (pv 0) pa_nil))) pa_nil)) (nomark _)) (pss_one (ps_ret pe_bl)) pss_nil)
        (pss_cons (ps_expr (pe_bm PySem.F.plainAttrs_list PySem.F.slot_list_append PySem.F.type_list_append mt_append (pv 2) (pa_cons pe_non pa_nil)))
        (pss_one (ps_set (i := 0) scLettersR.nd rfl (Or.inl rfl) (pe_call GO hr1 (by rfl) FO.gl FO.fn.kp FO.bi .nil pass0 (pa_cons (pv 0) pa_nil))))))))
      (pss_cons (ps_for PassesOwn.never rfl (pi_list (pe_lst (pa_cons (pe_un un_neg pe_int) (pa_cons pe_int (pa_cons pe_bl (pa_cons pe_bl (pa_cons pe_non (pa_cons pe_str (pa_cons (pe_tup (pa_cons pe_int pa_nil)) (pa_cons (pe_lst (pa_cons pe_int pa_nil)) (pa_cons (pe_op op_pow pe_int pe_int) (pa_cons pe_dnewK pa_nil))))))))))))
          (pg_name (i := 3) scLettersR.nd rfl (Or.inr rfl))
        (pss_one (ps_if (pt_cmpR (op_neD hu) (LamX.pe_lamcall (k := 3) (T := tabs P1 P2) (t := fun E => tCall (spLetters K CW) [] E (tCons (tVar 3) tNil)) (by rfl) gHg gHk lkH hcH gHb scHeard rfl (.inl rfl) (heard_gives T.toNames TH (hr.mono (by decide))) TB rfl (by exact List.mem_cons_self) ?hu hr.rm (LamX.lamS_by (by show LamX.lamSB (defScope dLettersR) _ = true; decide +kernel)) rfl (fun _ _ _ _ _ => rfl)
              (fun A' outer' s' H' E' f' c' hr' => pe_call GL hr' (by rfl) FL.gl FL.fn.kp FL.bi .nil (passes_call (takes_of rfl rfl rfl rfl) fun _ _ _ _ h => h) (pa_cons (pv 3) pa_nil)))
            (pe_lst (pa_cons pe_str (pa_cons (pe_callB (call_rx hr) (by rfl) T.repr (by decide +kernel) (pa_cons (pv 3) pa_nil)) (pa_cons pe_bl pa_nil)))) (nomark _)) (pss_one (ps_ret pe_bl)) pss_nil)))
      (pss_one (ps_ret (pe_and (pe_cmpR (op_eqD hu) (pe_ix ix_list (pe_call GL hr3 (by rfl) FL.gl FL.fn.kp FL.bi .nil passL (pa_cons pe_int pa_nil)) (pe_un un_neg pe_int) (fun _ _ => rfl)) (pe_op op_repA (pe_tup (pa_cons pe_int pa_nil)) pe_int) (nomark _))
        (pe_one (pe_cmpR op_eq (pe_callB call_len_seq (by rfl) T.len PySem.boot_len (pa_cons (pe_call GL hr3 (by rfl) FL.gl FL.fn.kp FL.bi .nil passL (pa_cons pe_int pa_nil)) pa_nil)) pe_int (nomark _)))))))), ?_⟩
    case hu =>
      intro p hp e
      simp only [tabs, List.mem_cons, List.not_mem_nil, or_false] at hp
      rcases hp with rfl | rfl
      · rfl
      · exact absurd e.symm hP
    · -- the words
      refine q_dat (K := K) (ds := [.tuple []]) (ndds_cons (ndd_of (nd_tup nds_nil (by decide))) ndds_nil) (by decide) fun l0 xs0 H1 n0 e1 hl0 hd0 => ?_
      have hx0 : DpAll K H1 xs0 (rowsD (bitsL 0)) := by
        cases hd0 with
        | cons a b =>
          cases b
          cases a with
          | dp z => exact .cons (dp_ex nw_out z) .nil
      show tSeq (tFor (iRng1 (tCons (tC (.int ((9 : Nat) : Int))) tNil)) (gName 1) _) _ _ [some (.ref l0), none, none, none] H1
      refine q_forR (by decide) (fun i σ Hc => ∃ (a : Addr) (xs : List V) (v1 v2 : Option V), σ = [some (.ref a), v1, v2, none] ∧ Ex H1 Hc ∧ Hc a = some (.lst xs) ∧ DpAll K Hc xs (rowsD (bitsL i))) ⟨l0, xs0, none, none, rfl, Ex.refl _, hl0, hx0⟩ (fun i σ Hc hi inv => ?_) (fun σ Hc inv => ?_)
      · obtain ⟨a, xs, v1, v2, rfl, e, ha, hx⟩ := inv
        have hi8 : i ≤ 8 := by omega
        refine ⟨.int i, rfl, .int i, .int i, rfl, .dp (.int _), .inl ⟨i, rfl, hi8, fun l ys H2 nl e2 hl hy => ?_⟩⟩
        refine ⟨.ref l, rfl, .int i, rfl, .int i, .int i, rfl, .dp (.int _), .inl ⟨i, rfl, hi8, fun l2 zs H3 nl2 e3 hl2 hz => ?_⟩⟩
        refine ⟨(by show 2 ≤ sizeLine; decide), fun p hp => ?_⟩
        have e4 : Ex H3 (upd H3 p (.lst [.ref l, .ref l2])) := Ex.new hp
        have dl : Dp K (upd H3 p (.lst [.ref l, .ref l2])) (.ref l) (.list (rowsD (bitsL i))) := .lst (sq_of ((e3.trans e4) _ _ hl)) (dpAll_ex ((hid_out.trans e3).trans e4) hy)
        have dl2 : Dp K (upd H3 p (.lst [.ref l, .ref l2])) (.ref l2) (.list (rowsD (bitsL i))) := .lst (sq_of (e4 _ _ hl2)) (dpAll_ex (hid_out.trans e4) hz)
        refine ⟨.ref p, .list [.list (rowsD (bitsL i)), .list (rowsD (bitsL i))], rfl, .dp (.lst (sq_of upd_same) (.cons dl (.cons dl2 .nil))), rows2_showy hi8, ?_⟩
        refine ⟨.ref a, rfl, .ref a, rfl, (by show 2 ≤ sizeLine; decide), fun p2 hp2 => ?_⟩
        have e5 : Ex (upd H3 p (.lst [.ref l, .ref l2])) (upd (upd H3 p (.lst [.ref l, .ref l2])) p2 (.lst [.ref a, .ref a])) := Ex.new hp2
        have ea := ((e2.trans e3).trans e4).trans e5
        have da : Dp K (upd (upd H3 p (.lst [.ref l, .ref l2])) p2 (.lst [.ref a, .ref a])) (.ref a) (.list (rowsD (bitsL i))) := .lst (sq_of (ea _ _ ha)) (dpAll_ex ea hx)
        refine ⟨.ref p2, .list [.list (rowsD (bitsL i)), .list (rowsD (bitsL i))], rfl, .dp (.lst (sq_of upd_same) (.cons da (.cons da .nil))), rows2_showy hi8, rfl, _, rfl, ?_⟩
        refine iteF' (by simp) ?_
        generalize hH5 : upd (upd H3 p (.lst [.ref l, .ref l2])) p2 (.lst [.ref a, .ref a]) = H5 at ea da e5 ⊢
        have e25 : Ex H2 H5 := (e3.trans e4).trans e5
        have la : a ≠ l := fun z => by
          rw [z, nl] at ha
          cases ha
        refine ⟨_, rfl, .inl ⟨rfl, ys, .inl (.inl (e25 _ _ hl))⟩, l, ys, .non, rfl, rfl, e25 _ _ hl, ?_, ?_⟩
        · have := dpAll_len hy
          have h2 : 2 ^ i ≤ 2 ^ 8 := Nat.pow_le_pow_right (by decide) hi8
          simp only [rowsD, List.length_map, bitsL_len] at this
          exact Nat.lt_of_lt_of_le (show ys.length < 1000 by omega) (by decide)
        have x6 : Ex Hc (upd H5 l (.lst (ys ++ [.non]))) := ea.mut nl
        have h2 : 2 ^ i ≤ 2 ^ 8 := Nat.pow_le_pow_right (by decide) hi8
        refine ⟨_, rfl, a, xs, bitsL i, rfl, sq_of (x6 _ _ ha), dpAll_ex x6 hx, ?_, ?_, fun l4 ws H7 nl4 e7 hl4 hw => ?_⟩
        · rw [bitsL_len]
          omega
        · intro r hr
          have := bits_short i r hr
          omega
        · exact ⟨l4, ws, _, _, rfl, (e.trans x6).trans e7, hl4, dpAll_ex hid_out hw⟩
      · -- the odd ones
        obtain ⟨a, xs, v1, v2, rfl, e, ha, hx⟩ := inv
        have hT1 : LamX.Tabs (tabs P1 P2) Hc := hT.ext (e1.trans e)
        refine q_forD (K := K) (ds := oddW) (ndds_cons (ndd_of nd_neg) (ndds_cons (ndd_of nd_int) (ndds_cons (ndd_of nd_bl) (ndds_cons (ndd_of nd_bl) (ndds_cons (ndd_of nd_non) (ndds_cons (ndd_of nd_str) (ndds_cons (ndd_of (nd_tup (nds_cons nd_int nds_nil) (by decide))) (ndds_cons (ndd_of (nd_lst (nds_cons nd_int nds_nil) (by decide))) (ndds_cons (ndd_of nd_pow29) (ndds_cons ndd_empty ndds_nil)))))))))) (by decide) fun l zs H2 nl e2 hl hz => ?_
        have hz2 : DdAll K H2 zs oddW := hz.ex nw_out
        refine ⟨fun i σ H' => ∃ v3, σ = [some (.ref a), v1, v2, v3] ∧ LamX.ExtN H2 H' ∧ LamX.Tabs (tabs P1 P2) H', ⟨none, rfl, .refl _, hT1.ext e2⟩, fun i σ H' _ ⟨_, _, eN, _⟩ => sl_exN eN (sq_of hl), fun i x σ H' hi inv => ?_, fun σ H' inv => ?_⟩
        · obtain ⟨v3, rfl, eN, hT2⟩ := inv
          obtain ⟨d, hdi, hd0⟩ := hz2.at hi
          obtain ⟨oS, oK, oN⟩ := oddW_ok d (List.mem_of_getElem? hdi)
          refine rd_heard (K := K) (CW := CW) (CK := CK) (CB := CB) (C := CW) (tag := "width") (i := 3) (x := x) (d := d) (fun _ _ _ _ h => .inl h) hT2 rfl (dd_exN eN hd0) oS (by decide +kernel) oK (fun E' Q' Ha ea er => ?_) fun H3 e3 hT3 => ⟨false, rfl, ?_⟩
          · exact ⟨x, rfl, x, d, rfl, dd_exN (eN.trans ea) hd0, .inr ⟨oN, er⟩⟩
          · exact iteF' rfl ⟨_, rfl, eN.trans e3, hT3⟩
        · obtain ⟨v3, rfl, eN, hT2⟩ := inv
          refine ⟨_, _, rfl, .dp (.int 8), .inl ⟨8, rfl, by decide, fun b8 ys H3 nb e3 hb8 hy => ?_⟩⟩
          have yl : ys.length = 256 := by
            have := dpAll_len hy
            simpa only [rowsD, List.length_map, bitsL_len] using this
          obtain ⟨v, y255⟩ : ∃ v, ys[255]? = some v := ⟨ys[255], List.getElem?_eq_getElem (by omega)⟩
          obtain ⟨d, hd1, hd2⟩ := dpAll_at hy y255
          have e7 : (bitsL 8)[255]? = some (List.replicate 8 1) := by decide +kernel
          have e8 : (rowsD (bitsL 8))[255]? = some (.tuple (List.replicate 8 (.int 1))) := by
            unfold rowsD
            rw [List.getElem?_map, e7]
            rfl
          rw [e8] at hd1
          cases hd1
          refine ⟨1, rfl, b8, ys, -1, v, rfl, rfl, sq_of hb8, ?_, ?_⟩
          · unfold atI ixN
            rw [yl]
            exact y255
          refine ⟨(by show 1 ≤ sizeLine; decide), fun p hp => ⟨p, 8, [.int 1], rfl, rfl, st_of upd_same, by simp, by decide, by decide, by decide, fun z => (by cases z), fun _ q hq => ?_⟩⟩
          have e4 : Ex H3 (upd (upd H3 p (.tup [.int 1])) q (.tup (List.replicate ((8 : Int).toNat) [V.int 1]).flatten)) := (Ex.new hp).trans (Ex.new hq)
          refine ⟨.tuple (List.replicate 8 (.int 1)), .tuple (List.replicate 8 (.int 1)), dp_ex (hid_out.trans e4) hd2, .tup (st_of upd_same) (by rw [rep_one]; exact dpAll_rep 8 (.int 1)), by decide +kernel, by decide +kernel, true, ?_, ?_⟩
          · have q : PyData.eqv (.tuple (List.replicate 8 (.int 1))) (.tuple (List.replicate 8 (.int 1))) = true := by decide +kernel
            rw [q]
          generalize hH4 : upd (upd H3 p (.tup [.int 1])) q (.tup (List.replicate ((8 : Int).toNat) [V.int 1]).flatten) = H4 at e4 ⊢
          refine iteT' rfl ⟨_, _, rfl, .dp (.int 8), .inl ⟨8, rfl, by decide, fun b9 ws H5 nb5 e5 hb9 hw => ?_⟩⟩
          have wl : ws.length = 256 := by
            have := dpAll_len hw
            simpa only [rowsD, List.length_map, bitsL_len] using this
          refine ⟨b9, _, rfl, .inl (sq_of hb9), rfl, ?_⟩
          have q : (decide (V.int (ws.length : Int) = .int 256)) = true := by rw [wl]; rfl
          rw [q]
          exact k _ (hT2.ext ((e3.trans e4).trans e5))
end
end W

set_option Elab.async false
set_option linter.all false
set_option maxRecDepth 100000
set_option maxHeartbeats 4000000
namespace W
open PySem PySem.Spec PyProof.Rows L2 Evl G
/-- what KINDS holds, what MADE holds -/
def kindsL : List (Str × Nat) := [("and", 2), ("high", 0), ("low", 0), ("not", 1), ("or", 2), ("pick", 3), ("xor", 2)]
def madeL : List (Str × List Int) := [("and", [0, 0, 0, 1]), ("high", [1]), ("low", [0]), ("not", [1, 0]), ("or", [0, 1, 1, 1]), ("pick", [0, 1, 0, 1, 0, 0, 1, 1]), ("xor", [0, 1, 1, 0])]
/-- the rows of a written dict with text keys, by what V tells of each value -/
inductive KEs {α : Type} (R : α → Value → Prop) : List DictEntry → List (Str × α) → Prop
  | nil : KEs R [] []
  | cons {e : DictEntry} {x : Str} {a : α} {r : List DictEntry} {l : List (Str × α)} (k : ∃ t, e.key = .str x t) (h : R a e.val) (q : KEs R r l) : KEs R (e :: r) ((x, a) :: l)
theorem KEs.some {α : Type} {R : α → Value → Prop} {es : List DictEntry} {l : List (Str × α)} (h : KEs R es l) : ∀ {z : Str} {a : α}, l.lookup z = some a → ∃ e, es.find? (·.key.isStr z) = some e ∧ R a e.val := by
  induction h with
  | nil => intro z a e; cases e
  | @cons e x b r l k h q ih =>
    intro z a f
    obtain ⟨t, hk⟩ := k
    by_cases hz : z = x
    · subst hz
      rw [List.lookup_cons_self] at f
      cases f
      refine ⟨e, ?_, h⟩
      rw [List.find?_cons_of_pos]
      rw [hk]
      simp [Value.isStr]
    · have hb : (z == x) = false := by simpa using hz
      simp only [List.lookup_cons, hb] at f
      obtain ⟨e', h1, h2⟩ := ih f
      refine ⟨e', ?_, h2⟩
      rw [List.find?_cons_of_neg]
      · exact h1
      · rw [hk]
        simpa [Value.isStr] using fun q => hz q.symm
theorem KEs.none {α : Type} {R : α → Value → Prop} {es : List DictEntry} {l : List (Str × α)} (h : KEs R es l) : ∀ {z : Str}, l.lookup z = none → es.find? (·.key.isStr z) = none ∧ es.any (·.refKey) = false := by
  induction h with
  | nil => intro z _; exact ⟨rfl, rfl⟩
  | @cons e x b r l k h q ih =>
    intro z f
    obtain ⟨t, hk⟩ := k
    by_cases hz : z = x
    · subst hz
      rw [List.lookup_cons_self] at f
      cases f
    · have hb : (z == x) = false := by simpa using hz
      simp only [List.lookup_cons, hb] at f
      obtain ⟨h1, h2⟩ := ih f
      constructor
      · rw [List.find?_cons_of_neg]
        · exact h1
        · rw [hk]
          simpa [Value.isStr] using fun q => hz q.symm
      · rw [List.any_cons, h2]
        unfold DictEntry.refKey
        rw [hk]
        rfl
/-- a written dict of the top with text keys -/
structure KD {α : Type} (K : PySem.W.Frag) (w : World) (mg : Str → Option Value) (R : α → Value → Prop) (x : Str) (l : List (Str × α)) (d : Addr) (es : Array DictEntry) (n : Nat) : Prop where
  gl : mg x = some (.ref d)
  dict : KDict K w d es n
  rows : KEs R es.toList l
def isInt (i : Nat) (u : Value) : Prop := ∃ t, u = .int (i : Int) t
def isBits (K : PySem.W.Frag) (bs : List Int) (u : Value) : Prop := ∃ a, u = .ref a ∧ ∀ H, SqT K H a (bs.map V.int)
structure DicT (K : PySem.W.Frag) (w : World) (mg : Str → Option Value) : Prop where
  kinds : ∃ d es n, KD K w mg isInt "KINDS" kindsL d es n
  made : ∃ d es n, KD K w mg (isBits K) "MADE" madeL d es n
section
variable {P : Program} {w : World} {K : PySem.W.Frag} {mg : Str → Option Value} {base : Heap}
theorem KD.hit {α : Type} {R : α → Value → Prop} {x : Str} {l : List (Str × α)} {d : Addr} {es : Array DictEntry} {n : Nat} (D : KD K w mg R x l d es n) {z : Str} {a : α} (h : l.lookup z = some a) : ∃ u, PySem.W.nsIn K d z = some (some u) ∧ R a u := by
  obtain ⟨e, h1, h2⟩ := D.rows.some h
  refine ⟨e.val, ?_, h2⟩
  unfold PySem.W.nsIn
  rw [D.dict.at_]
  dsimp only
  rw [h1]
theorem KD.miss {α : Type} {R : α → Value → Prop} {x : Str} {l : List (Str × α)} {d : Addr} {es : Array DictEntry} {n : Nat} (D : KD K w mg R x l d es n) {z : Str} (h : l.lookup z = none) : PySem.W.nsIn K d z = some none := by
  obtain ⟨h1, h2⟩ := D.rows.none h
  unfold PySem.W.nsIn
  rw [D.dict.at_]
  dsimp only
  rw [h1]
  dsimp only
  rw [h2]
  rfl
def isKind : PyData → Bool | .str z => (kindsL.lookup z).isSome | _ => false
theorem scKind : FnScope ["value"] ["value"] (defScope dKind) := ⟨rfl, rfl, rfl, by decide +kernel, rfl, by decide +kernel, by decide +kernel⟩
theorem okKind {f : Addr} {fd : FuncData} (F : At K mg "is_kind" dKind ["value"] f fd) (T : Txt K mg) (DT : DicT K w mg) : FnOk P w K mg base CX0 1 f fd ["value"] (spT K isKind) := by
  obtain ⟨dk, es, n, D⟩ := DT.kinds
  refine F.fn.ok scKind (fun vs H Q E h => ?_) (fun cdv A outer s H vs Q E hr h => ?_)
  · obtain ⟨x, d, rfl, _⟩ := h
    rfl
  · obtain ⟨x, d, rfl, hd, k⟩ := h
    refine ⟨_, pss_one (ps_ret (pe_and (pe_callB call_isi (by rfl) T.isinstance (by decide +kernel) (pa_cons (pv 0) (pa_cons (pTy "str" (by rfl) T.str (by decide +kernel)) pa_nil)))
      (pe_one (pe_cmpR (op_in_kd D.dict) (pv 0) (pe_glob (v := .ref dk) (by rfl) D.gl rfl) (by rfl))))), ?_⟩
    refine rd_isi rfl hd (kit_S d) ⟨_, rfl, ?_⟩
    have kk := k H (Ex.refl H)
    cases e : isS d with
    | false =>
      have e2 : isKind d = false := by cases d <;> first | rfl | (simp [isS] at e)
      rw [e2] at kk
      exact iteF kk
    | true =>
      obtain ⟨z, rfl⟩ : ∃ z, d = .str z := by cases d <;> first | exact ⟨_, rfl⟩ | (simp [isS] at e)
      have hx : x = .str z := by
        cases hd with
        | dp q => cases q; rfl
      subst hx
      refine iteT ⟨_, rfl, ?_⟩
      cases q : kindsL.lookup z with
      | none =>
        have e2 : isKind (.str z) = false := by show (kindsL.lookup z).isSome = false; rw [q]; rfl
        rw [e2] at kk
        exact ⟨z, none, rfl, rfl, D.miss q, kk⟩
      | some i =>
        have e2 : isKind (.str z) = true := by show (kindsL.lookup z).isSome = true; rw [q]; rfl
        rw [e2] at kk
        obtain ⟨u, h1, _⟩ := D.hit q
        exact ⟨z, some u, rfl, rfl, h1, kk⟩
end
end W

set_option Elab.async false
set_option linter.all false
set_option maxRecDepth 100000
set_option maxHeartbeats 4000000
namespace W
open PySem PySem.Spec PyProof.Rows L2 Evl G
def num : List Int → Int := List.foldl (fun a b => 2 * a + b) 0
theorem num_snoc (r : List Int) (b : Int) : num (r ++ [b]) = 2 * num r + b := by
  unfold num
  rw [List.foldl_append]
  rfl
theorem ints_back {K : PySem.W.Frag} {H : Hp} : ∀ {ys : List Int} {xs : List V}, DpAll K H xs (ys.map .int) → xs = ys.map V.int
  | [], _, h => by cases h; rfl
  | _ :: _, _, h => by
    cases h with
    | cons a b =>
      cases a
      rw [ints_back b]
      rfl
def spNumberOf (K : PySem.W.Frag) : Sp := fun vs H Q _ => ∃ (y : V) (ys : List Int), vs = [y] ∧ (Dp K H y (.list (ys.map .int)) ∨ Dp K H y (.tuple (ys.map .int))) ∧ Q (.int (num ys)) H
def spBitOf (K : PySem.W.Frag) : Sp := fun vs H Q _ => ∃ (z : Str) (y : V) (ys bs : List Int) (v : V), vs = [.str z, y] ∧ madeL.lookup z = some bs ∧ (Dp K H y (.list (ys.map .int)) ∨ Dp K H y (.tuple (ys.map .int))) ∧ atI (bs.map V.int) (num ys) = some v ∧ Q v H
section
variable {P : Program} {w : World} {K : PySem.W.Frag} {mg : Str → Option Value} {base : Heap}
theorem scNumberOf : FnScope ["bits", "at", "bit"] ["bits"] (defScope dNumberOf) := ⟨rfl, rfl, rfl, by decide +kernel, rfl, by decide +kernel, by decide +kernel⟩
theorem okNumberOf {f : Addr} {fd : FuncData} (F : At K mg "number_of" dNumberOf ["bits"] f fd) : FnOk P w K mg base CX0 1 f fd ["bits"] (spNumberOf K) := by
  refine F.fn.ok scNumberOf (fun vs H Q E h => ?_) (fun cdv A outer s H vs Q E hr h => ?_)
  · obtain ⟨y, ys, rfl, _⟩ := h
    rfl
  · obtain ⟨y, ys, rfl, hy, k⟩ := h
    have turn : ∀ (i : Nat) (x : V), (ys.map V.int)[i]? = some x → ∃ c, x = .int c ∧ ys.take (i + 1) = ys.take i ++ [c] ∧ (ys.take (i + 1)).getLast? = some c := fun i x e => by
      rw [List.getElem?_map] at e
      cases q : ys[i]? with
      | none => rw [q] at e; cases e
      | some c =>
        rw [q] at e
        exact ⟨c, (Option.some.inj e).symm, take_more q, by rw [take_more q]; simp⟩
    rcases hy with hy | hy
    · cases hy with
      | @lst a xs _ hs ha =>
        have e := ints_back ha
        subst e
        refine ⟨_, pss_cons (ps_set (i := 1) scNumberOf.nd rfl (Or.inl rfl) pe_int)
          (pss_cons (ps_for PassesOwn.never rfl (pi_list (pv 0)) (pg_name (i := 2) scNumberOf.nd rfl (Or.inl rfl))
            (pss_one (ps_set (i := 1) scNumberOf.nd rfl (Or.inl rfl) (pe_op op_add (pe_op op_mul pe_int (pv 1)) (pv 2)))))
          (pss_one (ps_ret (pv 1)))), ?_⟩
        refine ⟨_, rfl, a, rfl, ⟨_, hs⟩, for_list (K := K) (a := a) (xs := ys.map V.int) (fun i σ Hc => Hc = H ∧ σ = [some (.ref a), some (.int (num (ys.take i))), (ys.take i).getLast?.map V.int])
          ⟨rfl, rfl⟩ (fun i σ Hc _ inv => by rw [inv.1]; exact hs) (fun i x σ Hc hi inv => ?_) (fun σ Hc inv => ?_)⟩
        · obtain ⟨rfl, rfl⟩ := inv
          obtain ⟨c, rfl, h1, h2⟩ := turn i x hi
          refine ⟨_, rfl, 2, num (ys.take i), rfl, rfl, .inl ⟨by decide, by decide⟩, _, rfl, _, c, rfl, rfl, rfl, ?_⟩
          rw [h2, h1, num_snoc]
          rfl
        · obtain ⟨rfl, rfl⟩ := inv
          rw [List.length_map, List.take_length]
          exact ⟨_, rfl, k⟩
    · cases hy with
      | @tup a xs _ hs ha =>
        have e := ints_back ha
        subst e
        refine ⟨_, pss_cons (ps_set (i := 1) scNumberOf.nd rfl (Or.inl rfl) pe_int)
          (pss_cons (ps_for PassesOwn.never rfl (pi_tup (pv 0)) (pg_name (i := 2) scNumberOf.nd rfl (Or.inl rfl))
            (pss_one (ps_set (i := 1) scNumberOf.nd rfl (Or.inl rfl) (pe_op op_add (pe_op op_mul pe_int (pv 1)) (pv 2)))))
          (pss_one (ps_ret (pv 1)))), ?_⟩
        refine ⟨_, rfl, a, rfl, ⟨_, hs⟩, for_tup (K := K) (a := a) (xs := ys.map V.int) (fun i σ Hc => Hc = H ∧ σ = [some (.ref a), some (.int (num (ys.take i))), (ys.take i).getLast?.map V.int])
          ⟨rfl, rfl⟩ (fun i σ Hc _ inv => by rw [inv.1]; exact hs) (fun i x σ Hc hi inv => ?_) (fun σ Hc inv => ?_)⟩
        · obtain ⟨rfl, rfl⟩ := inv
          obtain ⟨c, rfl, h1, h2⟩ := turn i x hi
          refine ⟨_, rfl, 2, num (ys.take i), rfl, rfl, .inl ⟨by decide, by decide⟩, _, rfl, _, c, rfl, rfl, rfl, ?_⟩
          rw [h2, h1, num_snoc]
          rfl
        · obtain ⟨rfl, rfl⟩ := inv
          rw [List.length_map, List.take_length]
          exact ⟨_, rfl, k⟩
theorem scBitOf : FnScope ["kind", "bits"] ["kind", "bits"] (defScope dBitOf) := ⟨rfl, rfl, rfl, by decide +kernel, rfl, by decide +kernel, by decide +kernel⟩
theorem okBitOf {f : Addr} {fd : FuncData} (F : At K mg "bit_of" dBitOf ["kind", "bits"] f fd) (T : Txt K mg) (DT : DicT K w mg) : FnOk P w K mg base CX0 2 f fd ["kind", "bits"] (spBitOf K) := by
  obtain ⟨dm, es, n, D⟩ := DT.made
  obtain ⟨fN, gN, FN⟩ := T.numberOf
  have GN : FnOk P w K mg base CX0 1 fN gN ["bits"] (spNumberOf K) := okNumberOf FN
  refine F.fn.ok scBitOf (fun vs H Q E h => ?_) (fun cdv A outer s H vs Q E hr h => ?_)
  · obtain ⟨z, y, ys, bs, v, rfl, _⟩ := h
    rfl
  · obtain ⟨z, y, ys, bs, v, rfl, hz, hy, hv, k⟩ := h
    obtain ⟨u, hu, b, rfl, hb⟩ := D.hit hz
    refine ⟨_, pss_one (ps_ret (pe_ix ix_tup (pe_ix ix_kdict (pe_glob (v := .ref dm) (by rfl) D.gl rfl) (pv 0) (fun _ _ => rfl)) (pe_call GN hr (by rfl) FN.gl FN.fn.kp FN.bi .nil pass0 (pa_cons (pv 1) pa_nil)) (fun _ _ => rfl))), ?_⟩
    exact ⟨_, rfl, dm, z, .ref b, rfl, rfl, ⟨es, n, .ref b, D.dict.at_, D.dict.lit, hu, rfl⟩, y, rfl, y, ys, rfl, hy, b, _, num ys, v, rfl, rfl, hb H, hv, k⟩
end
end W

set_option Elab.async false
set_option linter.all false
set_option maxRecDepth 100000
set_option maxHeartbeats 4000000
namespace W
open PySem PySem.Spec PyProof.Rows L2 Evl G
/-- the bits that e holds are as many as the kind z wants -/
def isBitsOf (z : Str) (e : PyData) : Bool := match kindsL.lookup z, e with
  | some n, .list ds => isLetter (.tuple ds) n
  | some n, .tuple ds => isLetter (.tuple ds) n
  | _, _ => false
def spSays (K : PySem.W.Frag) (CK CB : Addr) : Sp := fun vs H Q E => ∃ (x y : V) (d e : PyData), vs = [x, y] ∧ Dd K H x d ∧ Dd K H y e ∧
  ((∃ (z : Str) (n : Nat) (ys bs : List Int) (v : V), d = .str z ∧ kindsL.lookup z = some n ∧ n ≤ 100 ∧ madeL.lookup z = some bs ∧ (e = .list (ys.map .int) ∨ e = .tuple (ys.map .int)) ∧ isLetter (.tuple (ys.map .int)) n = true ∧ atI (bs.map V.int) (num ys) = some v ∧ ∀ H', Ex H H' → Q v H') ∨
   (isKind d = false ∧ Err E H CK x) ∨ (∃ (z : Str) (n : Nat), d = .str z ∧ kindsL.lookup z = some n ∧ n ≤ 100 ∧ isBitsOf z e = false ∧ Err E H CB y))
section
variable {P : Program} {w : World} {K : PySem.W.Frag} {mg : Str → Option Value} {base : Heap}
theorem scSays : FnScope ["kind", "bits"] ["kind", "bits"] (defScope dSays) := ⟨rfl, rfl, rfl, by decide +kernel, rfl, by decide +kernel, by decide +kernel⟩
theorem scIni3 : FnScope ["self", "value"] ["self", "value"] (defScope (inClass (top 3) 0)) := ⟨rfl, rfl, rfl, by decide +kernel, rfl, by decide +kernel, by decide +kernel⟩
theorem scIni4 : FnScope ["self", "value"] ["self", "value"] (defScope (inClass (top 4) 0)) := ⟨rfl, rfl, rfl, by decide +kernel, rfl, by decide +kernel, by decide +kernel⟩
theorem Err.ex {E : XK} {H H1 : Hp} {C : Addr} {v : V} (h : Err E H C v) (e : Ex H H1) : Err E H1 C v := fun H2 dd e2 n => h H2 dd (e.trans e2) n
theorem okSays {f CK CB fIk fIb : Addr} {fd fdk fdb : FuncData} (F : At K mg "says" dSays ["kind", "bits"] f fd) (T : Txt K mg) (DT : DicT K w mg) (TK : ExcT K mg "InvalidKind" "InvalidKind.__init__" 3 CK fIk fdk) (TB : ExcT K mg "InvalidBits" "InvalidBits.__init__" 4 CB fIb fdb) :
    FnOk P w K mg base (L2.CX P w) 4 f fd ["kind", "bits"] (spSays K CK CB) := by
  obtain ⟨fK, gK, FK⟩ := T.kind
  obtain ⟨fS, gS, FS⟩ := T.lst
  obtain ⟨fL, gL, FL⟩ := T.letter
  obtain ⟨fB, gB, FB⟩ := T.bitOf
  obtain ⟨dk, es, n0, D⟩ := DT.kinds
  have GK : FnOk P w K mg base CX0 1 fK gK ["value"] (spT K isKind) := okKind FK T DT
  have GS : FnOk P w K mg base CX0 1 fS gS ["value"] (spT K isList) := okList FS T
  have GL : FnOk P w K mg base CX0 3 fL gL ["value", "width"] (spW K isLetter) := okLetter FL T
  have GB : FnOk P w K mg base CX0 2 fB gB ["kind", "bits"] (spBitOf K) := okBitOf FB T DT
  have GIk : FnOk P w K mg base CX0 1 fIk fdk ["self", "value"] (spIni CK) := ok_ini TK scIni3 ⟨_, _, _, _, rfl, rfl⟩ (.inl rfl) (.inl rfl)
  have GIb : FnOk P w K mg base CX0 1 fIb fdb ["self", "value"] (spIni CB) := ok_ini TB scIni4 ⟨_, _, _, _, rfl, rfl⟩ (.inl rfl) (.inl rfl)
  refine F.fn.okX scSays (fun vs H Q E h => ?_) (fun cdv A outer s H vs Q E hr h => ?_)
  · obtain ⟨x, y, d, e, rfl, _⟩ := h
    rfl
  · obtain ⟨x, y, d, e, rfl, hd, he, k⟩ := h
    have hr1 : Room 1 _ := hr.mono (by decide)
    have hr2 : Room 2 _ := hr.mono (by decide)
    refine ⟨_, pss_cons (ps_if (pt_not (pt_val (pe_call GK hr1 (by rfl) FK.gl FK.fn.kp FK.bi .nil pass0 (pa_cons (pv 0) pa_nil))))
        (pss_one (ps_raise rfl (takes_of rfl rfl rfl rfl) (pmk_oex TK.oex TK.ini TK.tyI GIk hr2 TK.bi .nil pass0 (by rfl) TK.gl (pa_cons (pv 0) pa_nil)))) pss_nil)
      (pss_cons (ps_if (PW.pt (pw_or (pt_not (pt_val (pe_call GS hr1 (by rfl) FS.gl FS.fn.kp FS.bi .nil pass0 (pa_cons (pv 1) pa_nil))))
          (pw_or1 (pt_not (pt_val (pe_call GL hr (by rfl) FL.gl FL.fn.kp FL.bi .nil pass0 (pa_cons (pe_callTy (call_tup (K := K)) (by rfl) T.tuple (by decide +kernel) (pa_cons (pv 1) pa_nil)) (pa_cons (pe_ix ix_kdict (pe_glob (v := .ref dk) (by rfl) D.gl rfl) (pv 0) (fun _ _ => rfl)) pa_nil))))))))
        (pss_one (ps_raise rfl (takes_of rfl rfl rfl rfl) (pmk_oex TB.oex TB.ini TB.tyI GIb hr2 TB.bi .nil pass0 (by rfl) TB.gl (pa_cons (pv 1) pa_nil)))) pss_nil)
      (pss_one (ps_ret (pe_call GB hr2 (by rfl) FB.gl FB.fn.kp FB.bi .nil pass0 (pa_cons (pv 0) (pa_cons (pv 1) pa_nil)))))), ?_⟩
    refine rd_t rfl hd fun H1 e1 => ⟨_, rfl, ?_⟩
    have badK : ∀ {H2 : Hp}, Ex H H2 → Err E H CK x → tMkO CK (spIni CK) [] (tCons (tVar 0) tNil) (L2.start ["kind", "bits"] [x, y]) H2 (fun cls d H' => E cls d H') := fun e2 h => ⟨_, rfl, (by show 1 ≤ 1000; decide), rd_err (K := K) h e2⟩
    have badB : ∀ {H2 : Hp}, Ex H H2 → Err E H CB y → tMkO CB (spIni CB) [] (tCons (tVar 1) tNil) (L2.start ["kind", "bits"] [x, y]) H2 (fun cls d H' => E cls d H') := fun e2 h => ⟨_, rfl, (by show 1 ≤ 1000; decide), rd_err (K := K) h e2⟩
    cases ek : isKind d with
    | false =>
      refine iteT ?_
      rcases k with ⟨z, n, ys, bs, v, rfl, hz, _⟩ | ⟨_, k⟩ | ⟨z, n, rfl, hz, _⟩
      · exact absurd ek (by show ¬ (kindsL.lookup z).isSome = false; rw [hz]; simp)
      · exact badK e1 k
      · exact absurd ek (by show ¬ (kindsL.lookup z).isSome = false; rw [hz]; simp)
    | true =>
      refine iteF ?_
      have hz2 : ∃ (z : Str) (n : Nat), d = .str z ∧ kindsL.lookup z = some n ∧ n ≤ 100 := by
        rcases k with ⟨z, n, ys, bs, v, rfl, hz, hn, _⟩ | ⟨k, _⟩ | ⟨z, n, rfl, hz, hn, _⟩
        · exact ⟨z, n, rfl, hz, hn⟩
        · rw [k] at ek
          cases ek
        · exact ⟨z, n, rfl, hz, hn⟩
      obtain ⟨z, n, rfl, hz, hn⟩ := hz2
      obtain rfl : x = .str z := by
        cases hd with
        | dp q => cases q; rfl
      obtain ⟨u, hu, t, rfl⟩ := D.hit hz
      refine rd_t (i := 1) rfl (dd_ex e1 he) fun H2 e2 => ⟨_, rfl, ?_⟩
      have e12 := e1.trans e2
      cases el : isList e with
      | false =>
        refine iteT (iteT ?_)
        rcases k with ⟨z', n', ys, bs, v, _, _, _, _, he2, _⟩ | ⟨k, _⟩ | ⟨z', n', _, _, _, _, k⟩
        · rcases he2 with rfl | rfl <;> cases el
        · rw [k] at ek
          cases ek
        · exact badB e12 k
      | true =>
        refine iteF ?_
        have fin : ∀ (ds : List PyData) (H4 : Hp), Ex H H4 → (e = .list ds ∨ e = .tuple ds) → (if (!isLetter (.tuple ds) n) = true then tMkO CB (spIni CB) [] (tCons (tVar 1) tNil) (L2.start ["kind", "bits"] [.str z, y]) H4 (fun cls d H' => E cls d H')
            else tRet (tCall (spBitOf K) [] E0 (tCons (tVar 0) (tCons (tVar 1) tNil))) { nx := fun _ H' => Q .non H', rt := Q } (L2.start ["kind", "bits"] [.str z, y]) H4) := by
          intro ds H4 e4 hds
          cases q : isLetter (.tuple ds) n with
          | false =>
            refine iteT ?_
            rcases k with ⟨z', n', ys, bs, v, hd', hz', _, _, he2, hle, _⟩ | ⟨k, _⟩ | ⟨z', n', _, _, _, _, k⟩
            · cases hd'
              rw [hz] at hz'
              cases hz'
              have : ds = ys.map .int := by rcases hds with rfl | rfl <;> rcases he2 with h | h <;> cases h <;> rfl
              rw [this, hle] at q
              cases q
            · rw [k] at ek
              cases ek
            · exact badB e4 k
          | true =>
            refine iteF ?_
            rcases k with ⟨z', n', ys, bs, v, hd', hz', _, hm, he2, hle, hv, k⟩ | ⟨k, _⟩ | ⟨z', n', hd', hz', _, hb, _⟩
            · cases hd'
              refine ⟨_, rfl, _, rfl, z, y, ys, bs, v, rfl, hm, ?_, hv, k H4 e4⟩
              have hy := dd_ex e4 he
              rcases he2 with rfl | rfl
              · cases hy with
                | dp h => exact .inl h
              · cases hy with
                | dp h => exact .inr h
            · rw [k] at ek
              cases ek
            · cases hd'
              have : isBitsOf z e = isLetter (.tuple ds) n := by
                unfold isBitsOf
                rw [hz]
                rcases hds with rfl | rfl <;> rfl
              rw [this, q] at hb
              cases hb
        have he2 := dd_ex e12 he
        obtain ⟨ds, hds⟩ : ∃ ds, e = .list ds ∨ e = .tuple ds := by
          cases e with
          | list ds => exact ⟨ds, .inl rfl⟩
          | tuple ds => exact ⟨ds, .inr rfl⟩
          | _ => cases el
        rcases hds with rfl | rfl
        · cases he2 with
          | dp h =>
            cases h with
            | @lst a xs _ hs ha =>
              refine ⟨_, rfl, a, xs, rfl, .inl ⟨hs, fun l hl => ?_⟩⟩
              have e3 : Ex H2 (upd H2 l (.tup xs)) := Ex.new hl
              refine ⟨_, rfl, dk, z, .int n, rfl, rfl, ⟨es, n0, _, D.dict.at_, D.dict.lit, hu, ⟨t, rfl⟩⟩, .ref l, .tuple ds, n, rfl, .dp (.tup (st_of upd_same) (dpAll_ex e3 ha)), hn, fun H4 e4 => ⟨_, rfl, ?_⟩⟩
              exact fin ds H4 ((e12.trans e3).trans e4) (.inl rfl)
        · cases he2 with
          | dp h =>
            cases h with
            | @tup a xs _ hs ha =>
              refine ⟨_, rfl, a, xs, rfl, .inr ⟨hs, ?_⟩⟩
              refine ⟨_, rfl, dk, z, .int n, rfl, rfl, ⟨es, n0, _, D.dict.at_, D.dict.lit, hu, ⟨t, rfl⟩⟩, .ref a, .tuple ds, n, rfl, .dp (.tup hs ha), hn, fun H4 e4 => ⟨_, rfl, ?_⟩⟩
              exact fin ds H4 (e12.trans e4) (.inr rfl)
end
end W

set_option Elab.async false
set_option linter.all false
set_option maxRecDepth 100000
set_option maxHeartbeats 4000000
namespace G
open PySem PySem.Spec PyProof.Rows L2 Evl
/-- sum(t), a tuple of ints -/
def rSumT (K : PySem.W.Frag) : List V → Hp → VK → Prop := fun vs H Q => ∃ (a : Addr) (ns : List Int), vs = [V.ref a] ∧ SqT K H a (ns.map V.int) ∧ Q (.int ns.sum) H
theorem call_sumT {X : Cx} (hc : X.calm = true) : CallR X (.builtin "sum") (rSumT X.K) := by
  intro pins s σ H vs us Q I r h
  obtain ⟨a, ns, rfl, hs, q⟩ := h
  obtain ⟨its, rv, ⟨o, ho, h1, n, h2⟩, _⟩ := I.tuple hs
  rw [Vals.ref1 r]
  obtain ⟨xs, hx⟩ := rv.ints.allInts.items
  have hn : numsOf (intItems xs).toList = ns := by
    rw [← hx]
    exact rv.ints.numsOf
  rw [nums_intItems] at hn
  rw [hx] at h2
  refine PySem.W.ktm_sumG (I.ok.hd hc) ⟨o, ho, h1, n, h2⟩ fun h' tk t' hk => ?_
  rw [preSum_eq, List.take_of_length_le (by simp), hn]
  exact ⟨.int _, H, I.kept hk, ⟨_, rfl⟩, q⟩
end G
namespace W
open PySem PySem.Spec PyProof.Rows L2 Evl G
def b2i (b : Bool) : Int := if b then 1 else 0
/-- what a kind says, told otherwise -/
def saidV (z : Str) (ys : List Int) : Option V :=
  if z = "low" then some (.int 0) else if z = "high" then some (.int 1) else if z = "pick" then (match ys with | b :: _ => atI (ys.map V.int) (2 - b) | [] => none)
  else if z = "not" then some (.int (b2i (decide (V.int ys.sum = .int 0)))) else if z = "and" then some (.int (b2i (decide (V.int ys.sum = .int 2)))) else if z = "or" then some (.int (b2i (decide (0 < ys.sum)))) else if z = "xor" then some (.int (b2i (decide (V.int ys.sum = .int 1)))) else none
theorem kind_cases {z : Str} {n : Nat} (h : kindsL.lookup z = some n) : z = "and" ∨ z = "high" ∨ z = "low" ∨ z = "not" ∨ z = "or" ∨ z = "pick" ∨ z = "xor" := by
  obtain ⟨p, hp, e⟩ : ∃ p ∈ kindsL, p.1 = z := by
    have : (z, n) ∈ kindsL := PySem.mem_of_lookup h
    exact ⟨_, this, rfl⟩
  simp only [kindsL, List.mem_cons, List.not_mem_nil, or_false] at hp
  rcases hp with rfl | rfl | rfl | rfl | rfl | rfl | rfl <;> simp [← e]
def spSaid (K : PySem.W.Frag) : Sp := fun vs H Q _ => ∃ (z : Str) (y : V) (ys : List Int) (n : Nat) (v : V), vs = [.str z, y] ∧ kindsL.lookup z = some n ∧ Dp K H y (.tuple (ys.map .int)) ∧ saidV z ys = some v ∧ ∀ H', Ex H H' → Q v H'
section
variable {P : Program} {w : World} {K : PySem.W.Frag} {mg : Str → Option Value} {base : Heap}
theorem scSaidBy : FnScope ["_law_sort", "_law_row", "_law_ones"] ["_law_sort", "_law_row"] (defScope dSaidBy) := ⟨rfl, rfl, rfl, by decide +kernel, rfl, by decide +kernel, by decide +kernel⟩
theorem okSaidBy {f : Addr} {fd : FuncData} (F : At K mg "_law_said_by" dSaidBy ["_law_sort", "_law_row"] f fd) (T : Txt K mg) : FnOk P w K mg base CX0 1 f fd ["_law_sort", "_law_row"] (spSaid K) := by
  refine F.fn.ok scSaidBy (fun vs H Q E h => ?_) (fun cdv A outer s H vs Q E hr h => ?_)
  · obtain ⟨z, y, ys, n, v, rfl, _⟩ := h
    rfl
  · obtain ⟨z, y, ys, n, v, rfl, hz, hy, hv, k⟩ := h
    refine ⟨_, pss_cons (ps_set (i := 2) scSaidBy.nd rfl (Or.inl rfl) (pe_callB (call_sumT rfl) (by rfl) T.sum (by decide +kernel) (pa_cons (pv 1) pa_nil)))
      (pss_cons (ps_if (pt_cmpR op_in_seq (pv 0) (pe_tup (pa_cons pe_str (pa_cons pe_str pa_nil))) (by with_unfolding_all rfl))
        (pss_one (ps_ret (pe_callTy call_int1 (by rfl) T.int (by decide +kernel) (pa_cons (pe_cmpR op_eq (pv 0) pe_str (nomark _)) pa_nil)))) pss_nil)
      (pss_cons (ps_if (pt_cmpR op_eq (pv 0) pe_str (nomark _))
        (pss_one (ps_ret (pe_ix ix_tup (pv 1) (pe_op op_sub pe_int (pe_ix ix_tup (pv 1) pe_int (fun _ _ => rfl))) (fun _ _ => rfl)))) pss_nil)
      (pss_one (ps_ret (pe_callTy call_int1 (by rfl) T.int (by decide +kernel) (pa_cons (pe_dget (hu_of hr)
        (pe_disp (pps_cons pe_str (pe_cmpR op_eq (pv 2) pe_int (nomark _)) (pps_cons pe_str (pe_cmpR op_eq (pv 2) pe_int (nomark _)) (pps_cons pe_str (pe_cmpR op_gt (pv 2) pe_int (nomark _)) (pps_cons pe_str (pe_cmpR op_eq (pv 2) pe_int (nomark _)) pps_nil)))) (by rfl) (by rfl) (fun z => by cases z) (by decide))
        (pv 0) (fun _ _ => rfl)) pa_nil)))))), ?_⟩
    cases hy with
    | @tup a xs _ hs ha =>
      have e := ints_back ha
      subst e
      refine ⟨_, rfl, a, ys, rfl, hs, ?_⟩
      refine ⟨_, rfl, (by show 2 ≤ sizeLine; decide), fun p hp => ⟨p, [.str "low", .str "high"], rfl, .inr (.inl (.inl upd_same)), rfl, rfl, _, rfl, ?_⟩⟩
      have e1 : Ex H (upd H p (.tup [.str "low", .str "high"])) := Ex.new hp
      have hs1 := ex_t e1 hs
      generalize upd H p (.tup [.str "low", .str "high"]) = H1 at e1 hs1 ⊢
      have iteN : ∀ {b : Bool} {A B : Prop}, b = false → B → (if b = true then A else B) := fun e h => by rw [e]; exact h
      have iteY : ∀ {b : Bool} {A B : Prop}, b = true → A → (if b = true then A else B) := fun e h => by rw [e]; exact h
      have rest : ∀ {z : Str}, decide (V.str z = .str "pick") = false → ∀ (b1 : Bool), saidV z ys = some (.int (b2i b1)) → (∀ v, saidV z ys = some v → ∀ H', Ex H H' → Q v H') →
          (valV (mergeK [] [(Sum.inr "not", .bl (decide (V.int ys.sum = .int 0))), (Sum.inr "and", .bl (decide (V.int ys.sum = .int 2))), (Sum.inr "or", .bl (decide ((0 : Int) < ys.sum))), (Sum.inr "xor", .bl (decide (V.int ys.sum = .int 1)))]) (Sum.inr z) = some (.bl b1)) →
          tSeq (tIfS (tTest (tOp rEq (tVar 0) (tC (.str "pick")))) (tRet (tOp (rIxT K) (tVar 1) (tOp (rI0 fun i j => .int (i - j)) (tC (.int 2)) (tOp (rIxT K) (tVar 1) (tC (.int 0)))))) tNext)
            (tRet (tCB (fun xs H Q => (∃ i, xs = [.int i] ∧ Q (.int i) H) ∨ ∃ k, xs = [.bl k] ∧ Q (.int (if k then 1 else 0)) H) (tCons (tDGet (tDisp [(tC (.str "not"), tOp rEq (tVar 2) (tC (.int 0))), (tC (.str "and"), tOp rEq (tVar 2) (tC (.int 2))), (tC (.str "or"), tOp (rI0 fun i j => .bl (decide (j < i))) (tVar 2) (tC (.int 0))), (tC (.str "xor"), tOp rEq (tVar 2) (tC (.int 1)))]) (tVar 0)) tNil)))
            { nx := fun _ H' => Q .non H', rt := Q } [some (.str z), some (.ref a), some (.int ys.sum)] H1 := by
        intro z np b1 hv1 kk hg
        refine ⟨_, rfl, rfl, _, rfl, ?_⟩
        rw [np]
        refine iteF ?_
        intro p2 hp2
        refine ⟨_, rfl, rfl, _, rfl, rfl, _, rfl, _, _, rfl, rfl, _, rfl, rfl, upd_same, [(Sum.inr "not", .bl (decide (V.int ys.sum = .int 0))), (Sum.inr "and", .bl (decide (V.int ys.sum = .int 2))), (Sum.inr "or", .bl (decide ((0 : Int) < ys.sum))), (Sum.inr "xor", .bl (decide (V.int ys.sum = .int 1)))], rfl, (by show 4 ≤ 15; decide), ?_⟩
        refine ⟨_, rfl, p2, .bl b1, rfl, .inl ⟨_, Sum.inr z, .inl upd_same, rfl, hg.symm⟩, .inr ⟨b1, rfl, ?_⟩⟩
        exact kk _ hv1 _ (e1.trans (by rw [upd_upd]; exact Ex.new hp2))
      have vv : ∀ {v' : V}, saidV z ys = some v' → v = v' := fun e => Option.some.inj (hv.symm.trans e)
      rcases kind_cases hz with rfl | rfl | rfl | rfl | rfl | rfl | rfl
      · refine iteN (by decide +kernel) (rest (by decide +kernel) (decide (V.int ys.sum = .int 2)) (by rfl) (fun v' e H' e' => ?_) (by rfl))
        rw [← vv e]
        exact k H' e'
      · refine iteY (by decide +kernel) ⟨_, rfl, rfl, .inr ⟨true, rfl, ?_⟩⟩
        have := vv (v' := .int 1) (by rfl)
        subst this
        exact k _ e1
      · refine iteY (by decide +kernel) ⟨_, rfl, rfl, .inr ⟨false, rfl, ?_⟩⟩
        have := vv (v' := .int 0) (by rfl)
        subst this
        exact k _ e1
      · refine iteN (by decide +kernel) (rest (by decide +kernel) (decide (V.int ys.sum = .int 0)) (by rfl) (fun v' e H' e' => ?_) (by rfl))
        rw [← vv e]
        exact k H' e'
      · refine iteN (by decide +kernel) (rest (by decide +kernel) (decide ((0 : Int) < ys.sum)) (by rfl) (fun v' e H' e' => ?_) (by rfl))
        rw [← vv e]
        exact k H' e'
      · refine iteN (by decide +kernel) ⟨_, rfl, rfl, _, rfl, iteY (by decide +kernel) ?_⟩
        cases ys with
        | nil => cases hv
        | cons b r =>
          have hv2 : atI ((b :: r).map V.int) (2 - b) = some v := hv
          exact ⟨_, rfl, _, rfl, a, _, 0, .int b, rfl, rfl, hs1, atI_nat (j := 0) rfl, 2, b, rfl, rfl, a, _, 2 - b, v, rfl, rfl, hs1, hv2, k _ e1⟩
      · refine iteN (by decide +kernel) (rest (by decide +kernel) (decide (V.int ys.sum = .int 1)) (by rfl) (fun v' e H' e' => ?_) (by rfl))
        rw [← vv e]
        exact k H' e'
end
end W

set_option Elab.async false
set_option linter.all false
set_option maxRecDepth 100000
set_option maxHeartbeats 4000000
/-! dict(d) of a written dict with text keys and ints; the lock of a dict and the tables. -/
namespace W
open PySem PySem.Spec PyProof.Rows L2 Evl G
def kvI (l : List (Str × Nat)) : List (Key × V) := l.map fun p => (Sum.inr p.1, .int (p.2 : Int))
theorem KEs.mix {P : Program} {w : World} {es : List DictEntry} {l : List (Str × Nat)} (h : KEs isInt es l) (hk : PySem.W.KeysLit w.params es) : ∃ vs, KV (kvI l) vs ∧ Pairs (mixKind P w) es vs ∧ vs.map (·.1) = l.map (fun p => (Sum.inr p.1 : Key)) := by
  induction h with
  | nil => exact ⟨[], .nil, .nil, rfl⟩
  | @cons e x a r l k h q ih =>
    obtain ⟨vs, a1, a2, a3⟩ := ih hk.2
    obtain ⟨t, hx⟩ := k
    refine ⟨(Sum.inr x, e.val) :: vs, .cons ⟨rfl, h⟩ a1, .cons ?_ rfl a2, by simp [a3]⟩
    show keyIs (Sum.inr x) e.key = true
    rw [hx]
    simp [keyIs, Value.isStrOf]
theorem call_dictK {X : Cx} {x : Str} {l : List (Str × Nat)} {d : Addr} {es : Array DictEntry} {n : Nat} (D : KD X.K X.w X.mg isInt x l d es n) (hn : (l.map fun p => (Sum.inr p.1 : Key)).Nodup) (hz : l.length ≤ 1000) :
    CallR X (.type "dict") (fun xs H Q => xs = [.ref d] ∧ ∀ p, H p = none → Q (.ref p) (upd H p (.dK (kvI l)))) := by
  intro pins s σ H xs us Q I r h
  obtain ⟨rfl, h⟩ := h
  rw [Vals.ref1 r]
  obtain ⟨vs, rel, pr, ks⟩ := D.rows.mix (P := X.prog) (w := X.w) D.dict.lit
  have nd : (vs.map (·.1)).Nodup := by rw [ks]; exact hn
  have dd : s.heap.DictOf (mixKind X.prog X.w) d vs := ⟨_, es, n, I.kIn _ _ D.dict.at_, ⟨rfl, rfl, rfl⟩, rfl, fun e he => by
    obtain ⟨z, t, e1, e2⟩ := D.dict.lit.all e (Array.mem_toList_iff.mpr he)
    refine ⟨Sum.inr z, ?_, e2⟩
    show keyIs (Sum.inr z) e.key = true
    rw [e1]
    simp [keyIs, Value.isStrOf], pr, nd⟩
  have z : (kvI l).length ≤ sizeLine := Nat.le_trans (by simpa [kvI] using hz) (show 1000 ≤ sizeLine by decide)
  refine kt_call_dict D.dict.low dd (by rw [← rel.length]; exact z) fun h' dd' hs => ?_
  refine ⟨.ref _, _, I.laid (a := s.heap.objs.size) (o := .dK (kvI l)) (t' := s.toks) (fun b q hq => ?_) (Nat.le_refl _) (dk_new z (beq_eq_false_iff_ne.mpr (Ne.symm (Nat.ne_of_lt I.big))) rel dd'), rfl, h _ (I.hok.fresh (Nat.le_refl _))⟩
  exact (hs.2 b (Nat.ne_of_lt (Heap.lt_size hq))).trans (Heap.get?_push_of_some _ hq)
/-! ### the lock -/
theorem tabs_upd {T : List (Addr × Str)} {H : Hp} {d : Addr} {o o' : HO} (h : LamX.Tabs T H) (hd : H d = some o) (n1 : ∀ ps, o ≠ .tbl ps) (n2 : ∀ φ, o ≠ .ext φ) : LamX.Tabs T (upd H d o') := fun p hp => by
  obtain ⟨ps, h1, h2, h3⟩ := h p hp
  refine ⟨ps, ?_, h2, fun pos cv hc => ?_⟩
  · rw [upd_ne (fun z => by rw [z, hd] at h1; exact n1 _ (Option.some.inj h1))]
    exact h1
  · obtain ⟨c, e1, e2⟩ := h3 pos cv hc
    refine ⟨c, e1, ?_⟩
    rw [upd_ne (fun z => by rw [z, hd] at e2; exact n2 _ (Option.some.inj e2))]
    exact e2
end W

set_option Elab.async false
set_option linter.all false
set_option maxRecDepth 100000
set_option maxHeartbeats 8000000
namespace W
open PySem PySem.Spec PyProof.Rows L2 Evl G
/-! ### what can be reckoned -/
def rowOk (z : Str) (n : Nat) (r : List Int) : Bool := match madeL.lookup z with
  | some bs => (match atI (bs.map V.int) (num r) with
    | some (.int i) => decide (saidV z r = some (.int i)) && isLetter (.tuple (r.map .int)) n && (decide (i = 0) || decide (i = 1))
    | _ => false)
  | none => false
theorem rows_ok : ∀ p ∈ kindsL, ∀ r ∈ bitsL p.2, rowOk p.1 p.2 r = true := fun p hp r hr =>
  List.all_eq_true.mp (List.all_eq_true.mp (show (kindsL.all fun p => (bitsL p.2).all fun r => rowOk p.1 p.2 r) = true by decide +kernel) p hp) r hr
theorem row_is {z : Str} {n : Nat} {r : List Int} (h : rowOk z n r = true) : ∃ (bs : List Int) (i : Int), madeL.lookup z = some bs ∧ atI (bs.map V.int) (num r) = some (.int i) ∧ saidV z r = some (.int i) ∧ isLetter (.tuple (r.map .int)) n = true ∧ (i = 0 ∨ i = 1) := by
  unfold rowOk at h
  split at h
  · rename_i bs e1
    split at h
    · rename_i i e2
      simp only [Bool.and_eq_true, Bool.or_eq_true, decide_eq_true_eq] at h
      exact ⟨bs, i, e1, e2, h.1.1, h.1.2, h.2⟩
    · cases h
  · cases h
theorem kinds_at : ∀ p ∈ kindsL, kindsL.lookup p.1 = some p.2 ∧ p.2 ≤ 3 ∧ valV (kvI kindsL) (Sum.inr p.1) = some (.int (p.2 : Int)) ∧ (bitsL p.2)[0]? = some (List.replicate p.2 0) := fun p hp => by
  have q := List.all_eq_true.mp (show (kindsL.all fun p => decide (kindsL.lookup p.1 = some p.2) && decide (p.2 ≤ 3) && decide (valV (kvI kindsL) (Sum.inr p.1) = some (.int (p.2 : Int))) && decide ((bitsL p.2)[0]? = some (List.replicate p.2 0))) = true by decide +kernel) p hp
  simp only [Bool.and_eq_true, decide_eq_true_eq] at q
  exact ⟨q.1.1.1, q.1.1.2, q.1.2, q.2⟩
def badD : Nat → List PyData
  | 0 => [.list [.int 1], .list [.int 2]]
  | n + 1 => [.list (List.replicate n (.int 0)), .list (List.replicate (n + 1) (.bool true))]
def oddS (n : Nat) : List PyData := [.none, .int 0, .str "", .dict [], .list (List.replicate n (.int 0) ++ [.int 0])] ++ badD n
def oddK : List PyData := [.none, .int 0, .bool true, .str "", .str "And", .str "nand", .list [.str "and"], .tuple [.str "and"], .dict [], .str "input", .str "register"]
theorem oddS_ok : ∀ p ∈ kindsL, ∀ d ∈ oddS p.2, Showy d ∧ PyData.strOk d.shown = true ∧ isBitsOf p.1 d = false := fun p hp d hd => by
  have q := List.all_eq_true.mp (List.all_eq_true.mp (show (kindsL.all fun p => (oddS p.2).all fun d => decide (Showy d) && PyData.strOk d.shown && !isBitsOf p.1 d) = true by decide +kernel) p hp) d hd
  simp only [Bool.and_eq_true, decide_eq_true_eq, Bool.not_eq_true'] at q
  exact ⟨q.1.1, q.1.2, q.2⟩
theorem oddK_ok : ∀ d ∈ oddK, Showy d ∧ PyData.strOk d.shown = true ∧ isKind d = false := fun d hd => by
  have q := List.all_eq_true.mp (show (oddK.all fun d => decide (Showy d) && PyData.strOk d.shown && !isKind d) = true by decide +kernel) d hd
  simp only [Bool.and_eq_true, decide_eq_true_eq, Bool.not_eq_true'] at q
  exact ⟨q.1.1, q.1.2, q.2⟩
def kindsD : List (PyData × PyData) := kindsL.map fun p => (.str p.1, .int (p.2 : Int))
theorem kindsD_kd : Kd (kvI kindsL) kindsD := .cons rfl (.cons rfl (.cons rfl (.cons rfl (.cons rfl (.cons rfl (.cons rfl .nil))))))
theorem kindsD_showy : Showy (.dict kindsD) := by decide +kernel
theorem ii_showy {i : Int} (h : i = 0 ∨ i = 1) : Showy (.list [.int i, .int i]) := by
  rcases h with rfl | rfl <;> decide +kernel
section
variable {K : PySem.W.Frag} {CK CB : Addr}
/-- a row of a kind, asked twice -/
theorem rd_row {z : Str} {n : Nat} {r : List Int} {x : V} {σ : L2.St} {H : Hp} {Q : VK} (hz : kindsL.lookup z = some n) (hn : n ≤ 3) (hr : rowOk z n r = true) (h7 : σ[7]? = some (some (.str z))) (h3 : σ[3]? = some (some x)) (hx : Dp K H x (rowD r)) (k : ∀ H', Ex H H' → Q (.bl false) H') :
    tOp rNe (tCB (rRx K) (tCons (tLst (tCons (tCall (spSays K CK CB) [] E0 (tCons (tVar 7) (tCons (tVar 3) tNil))) (tCons (tCallK (spSays K CK CB) gu2 E0 tNil (tCons (tCB (fun xs H Q => ∃ p ys, xs = [.ref p] ∧ (SqL K H p ys ∨ SqT K H p ys) ∧ ∀ l, H l = none → Q (.ref l) (upd H l (.lst ys))) (tCons (tVar 3) tNil)) (tCons (tVar 7) tNil))) tNil))) tNil))
      (tCB (rRx K) (tCons (tOp rRep (tLst (tCons (tCall (spSaid K) [] E0 (tCons (tVar 7) (tCons (tVar 3) tNil))) tNil)) (tC (.int 2))) tNil)) σ H Q := by
  obtain ⟨bs, i, hm, hat, hsv, hle, hi⟩ := row_is hr
  have sh := ii_showy hi
  cases hx with
  | @tup a xs _ hs ha =>
    refine ⟨_, h7, _, h3, .str z, .ref a, .str z, rowD r, rfl, .dp (.str z), .dp (.tup hs ha), .inl ⟨z, n, r, bs, .int i, rfl, hz, by omega, hm, .inr rfl, hle, hat, fun H1 e1 => ?_⟩⟩
    refine ⟨_, h3, a, xs, rfl, .inr (ex_t e1 hs), fun l hl => ?_⟩
    have e2 : Ex H1 (upd H1 l (.lst xs)) := Ex.new hl
    refine ⟨_, h7, .str z, .ref l, .str z, .list (r.map .int), rfl, .dp (.str z), .dp (.lst (sq_of upd_same) (dpAll_ex (e1.trans e2) ha)), .inl ⟨z, n, r, bs, .int i, rfl, hz, by omega, hm, .inl rfl, hle, hat, fun H3 e3 => ?_⟩⟩
    refine ⟨(by show 2 ≤ sizeLine; decide), fun q hq => ?_⟩
    have e4 : Ex H3 (upd H3 q (.lst [.int i, .int i])) := Ex.new hq
    refine ⟨.ref q, .list [.int i, .int i], rfl, .dp (.lst (sq_of upd_same) (.cons (.int i) (.cons (.int i) .nil))), sh, ?_⟩
    have e14 := ((e1.trans e2).trans e3).trans e4
    refine ⟨_, h7, _, h3, z, .ref a, r, n, .int i, rfl, hz, .tup (ex_t e14 hs) (dpAll_ex e14 ha), hsv, fun H5 e5 => ?_⟩
    refine ⟨(by show 1 ≤ sizeLine; decide), fun q2 hq2 => ⟨q2, 2, [.int i], rfl, rfl, upd_same, by decide, by decide, (by show 2 ≤ sizeLine; decide), fun q3 hq3 => ?_⟩⟩
    have e6 : Ex H5 (upd (upd H5 q2 (.lst [.int i])) q3 (.lst (List.replicate (2 : Int).toNat [V.int i]).flatten)) := (Ex.new hq2).trans (Ex.new hq3)
    refine ⟨.ref q3, .list [.int i, .int i], rfl, .dp (.lst (sq_of upd_same) (.cons (.int i) (.cons (.int i) .nil))), sh, rfl, ?_⟩
    have e : (!decide (V.str (PyData.list [.int i, .int i]).shown = V.str (PyData.list [.int i, .int i]).shown)) = false := by simp
    rw [e]
    exact k _ ((e14.trans e5).trans e6)
end
end W
namespace W
open PySem PySem.Spec PyProof.Rows L2 Evl G
section
variable {K : PySem.W.Frag} {tl : List V → Hp → VK → Prop}
theorem rep_bl (n : Nat) (x : V) : (List.replicate n [x]).flatten = List.replicate n x := rep_one n x
theorem eqv_nil {n : Nat} : PyData.eqv (.list (List.replicate n (.int 0))) (.list []) = decide (n = 0) := by
  cases n with
  | zero => decide +kernel
  | succ n => rfl
theorem cut1 {m : Nat} (h : m ≤ 2) : cutV ((List.replicate (m + 1) (0 : Int)).map V.int) (some 1) none = (List.replicate m (0 : Int)).map V.int := by
  obtain rfl | rfl | rfl : m = 0 ∨ m = 1 ∨ m = 2 := by omega
  · decide
  · decide
  · decide
theorem shaped0 {n : Nat} (h : n ≤ 3) : SeqAt.shaped (.list (List.replicate n (.int 0))) = true := by
  obtain rfl | rfl | rfl | rfl : n = 0 ∨ n = 1 ∨ n = 2 ∨ n = 3 := by omega
  · decide +kernel
  · decide +kernel
  · decide +kernel
  · decide +kernel
theorem dp_zeros {H : Hp} (n : Nat) : DpAll K H ((List.replicate n (0 : Int)).map V.int) (List.replicate n (.int 0)) := by
  have q := dpAll_ints (K := K) (H := H) (List.replicate n (0 : Int))
  rw [List.map_replicate (f := PyData.int)] at q
  exact q
/-- what is wrong beside the good one -/
theorem rd_bad {n : Nat} {g : Addr} {σ : L2.St} {H : Hp} {Q : VK} (hn : n ≤ 3) (h4 : σ[4]? = some (some (.ref g))) (hg : H g = some (.lst ((List.replicate n (0 : Int)).map V.int))) (k : ∀ b xs H', Ex H H' → H' b = some (.lst xs) → DpAll K H' xs (badD n) → Q (.ref b) H') :
    tIf (tTest (tOp (rNeD K) (tVar 4) (tLst tNil))) (tLst (tCons (tSl (rSlL K) (tVar 4) (tPart (tC (.int 1))) tNoPart) (tCons (tOp rRep (tLst (tCons (tC (.bl true)) tNil)) (tCB (rLenS K) (tCons (tVar 4) tNil))) tNil)))
      (tLst (tCons (tLst (tCons (tC (.int 1)) tNil)) (tCons (tLst (tCons (tC (.int 2)) tNil)) tNil))) σ H Q := by
  refine ⟨_, h4, Nat.zero_le _, fun q hq => ?_⟩
  have e1 : Ex H (upd H q (.lst [])) := Ex.new hq
  refine ⟨.list (List.replicate n (.int 0)), .list [], .lst (sq_of (e1 _ _ hg)) (dp_zeros n), .lst (sq_of upd_same) .nil, shaped0 hn, by decide +kernel, _, rfl, ?_⟩
  rw [eqv_nil]
  generalize upd H q (.lst []) = H1 at e1 ⊢
  have hg1 := e1 _ _ hg
  cases n with
  | zero =>
    refine ⟨(by show 1 ≤ sizeLine; decide), fun a ha => ⟨(by show 1 ≤ sizeLine; decide), fun b hb => ⟨(by show 2 ≤ sizeLine; decide), fun c hc => ?_⟩⟩⟩
    have x1 : Ex (upd H1 a (.lst [.int 1])) (upd (upd H1 a (.lst [.int 1])) b (.lst [.int 2])) := Ex.new hb
    have x2 : Ex (upd (upd H1 a (.lst [.int 1])) b (.lst [.int 2])) (upd (upd (upd H1 a (.lst [.int 1])) b (.lst [.int 2])) c (.lst [.ref a, .ref b])) := Ex.new hc
    refine k c _ _ (((e1.trans (Ex.new ha)).trans x1).trans x2) upd_same (.cons (.lst (sq_of ((x1.trans x2) _ _ upd_same)) (.cons (.int 1) .nil)) (.cons (.lst (sq_of (x2 _ _ upd_same)) (.cons (.int 2) .nil)) .nil))
  | succ m =>
    have e : (!decide (m + 1 = 0)) = true := by simp
    show if (!decide (m + 1 = 0)) = true then _ else _
    rw [e]
    refine iteT ⟨_, h4, 1, rfl, g, _, rfl, sq_of hg1, fun a ha => ?_⟩
    rw [cut1 (by omega)]
    have x1 : Ex H1 (upd H1 a (.lst ((List.replicate m (0 : Int)).map V.int))) := Ex.new ha
    generalize hH2 : upd H1 a (.lst ((List.replicate m (0 : Int)).map V.int)) = H2 at x1 ⊢
    have ha2 : H2 a = some (.lst ((List.replicate m (0 : Int)).map V.int)) := by rw [← hH2]; exact upd_same
    refine ⟨(by show 1 ≤ sizeLine; decide), fun b hb => ?_⟩
    have x2 : Ex H2 (upd H2 b (.lst [.bl true])) := Ex.new hb
    refine ⟨_, h4, g, _, rfl, .inl (sq_of ((x1.trans x2) _ _ hg1)), b, _, [.bl true], rfl, rfl, upd_same, by simp; omega, by simp; omega, ?_, fun c hc => ?_⟩
    · simp
      exact Nat.le_trans (show m + 1 ≤ 3 by omega) (by decide)
    have len : ((List.replicate (m + 1) (0 : Int)).map V.int).length = m + 1 := by simp
    rw [len]
    have e9 : ((m + 1 : Nat) : Int).toNat = m + 1 := by omega
    rw [e9, rep_bl]
    have x3 : Ex (upd H2 b (.lst [.bl true])) (upd (upd H2 b (.lst [.bl true])) c (.lst (List.replicate (m + 1) (.bl true)))) := Ex.new hc
    refine ⟨(by show 2 ≤ sizeLine; decide), fun d hd => ?_⟩
    have x4 : Ex (upd (upd H2 b (.lst [.bl true])) c (.lst (List.replicate (m + 1) (.bl true)))) (upd (upd (upd H2 b (.lst [.bl true])) c (.lst (List.replicate (m + 1) (.bl true)))) d (.lst [.ref a, .ref c])) := Ex.new hd
    refine k d _ _ ((((e1.trans x1).trans x2).trans x3).trans x4) upd_same (.cons (.lst (sq_of (((x2.trans x3).trans x4) _ _ ha2)) (dp_zeros m)) (.cons (.lst (sq_of (x4 _ _ upd_same)) (dpAll_rep (m + 1) (.bl true))) .nil))
theorem ddAll_of {H : Hp} : ∀ {ds : List PyData} {xs : List V}, DpAll K H xs ds → DdAll K H xs ds
  | [], _, h => by cases h; exact .nil
  | _ :: _, _, h => by
    cases h with
    | cons a b => exact .cons (.dp a) (ddAll_of b)
theorem rd_odds {n : Nat} {g b : Addr} {bs : List V} {σ : L2.St} {H : Hp} {Q : VK} (hn : n ≤ 3) (h4 : σ[4]? = some (some (.ref g))) (h5 : σ[5]? = some (some (.ref b))) (hg : H g = some (.lst ((List.replicate n (0 : Int)).map V.int))) (hb : H b = some (.lst bs)) (hbd : DpAll K H bs (badD n))
    (k : ∀ l xs H', Ex H H' → H' l = some (.lst xs) → DdAll K H' xs (oddS n) → Q (.ref l) H') :
    tOp rCat (tLst (tCons (tC .non) (tCons (tC (.int 0)) (tCons (tC (.str "")) (tCons tDNewK (tCons (tOp rCat (tVar 4) (tLst (tCons (tC (.int 0)) tNil))) tNil)))))) (tVar 5) σ H Q := by
  intro p1 hp1
  have x1 : Ex H (upd H p1 (.dK [])) := Ex.new hp1
  refine ⟨_, h4, (by show 1 ≤ sizeLine; decide), fun p2 hp2 => ?_⟩
  have x2 : Ex (upd H p1 (.dK [])) (upd (upd H p1 (.dK [])) p2 (.lst [.int 0])) := Ex.new hp2
  refine ⟨g, p2, _, _, rfl, rfl, (x1.trans x2) _ _ hg, upd_same, ?_, fun p3 hp3 => ?_⟩
  · simp
    exact Nat.le_trans (show n + 1 ≤ 4 by omega) (by decide)
  have x3 : Ex (upd (upd H p1 (.dK [])) p2 (.lst [.int 0])) (upd (upd (upd H p1 (.dK [])) p2 (.lst [.int 0])) p3 (.lst ((List.replicate n (0 : Int)).map V.int ++ [.int 0]))) := Ex.new hp3
  have hp1' := (x2.trans x3) _ _ (upd_same (H := H) (a := p1) (o := .dK []))
  have hp3' : (upd (upd (upd H p1 (.dK [])) p2 (.lst [.int 0])) p3 (.lst ((List.replicate n (0 : Int)).map V.int ++ [.int 0]))) p3 = some (.lst ((List.replicate n (0 : Int)).map V.int ++ [.int 0])) := upd_same
  have x03 := (x1.trans x2).trans x3
  generalize upd (upd (upd H p1 (.dK [])) p2 (.lst [.int 0])) p3 (.lst ((List.replicate n (0 : Int)).map V.int ++ [.int 0])) = H3 at x03 hp1' hp3' ⊢
  refine ⟨(by show 5 ≤ sizeLine; decide), fun p4 hp4 => ?_⟩
  have x4 : Ex H3 (upd H3 p4 (.lst [.non, .int 0, .str "", .ref p1, .ref p3])) := Ex.new hp4
  refine ⟨_, h5, p4, b, _, bs, rfl, rfl, upd_same, (x03.trans x4) _ _ hb, ?_, fun p5 hp5 => ?_⟩
  · have := dpAll_len hbd
    have : bs.length = 2 := by
      rw [this]
      cases n <;> rfl
    rw [this]
    show 7 ≤ sizeLine
    decide
  have x5 : Ex (upd H3 p4 (.lst [.non, .int 0, .str "", .ref p1, .ref p3])) (upd (upd H3 p4 (.lst [.non, .int 0, .str "", .ref p1, .ref p3])) p5 (.lst ([.non, .int 0, .str "", .ref p1, .ref p3] ++ bs))) := Ex.new hp5
  refine k p5 _ _ ((x03.trans x4).trans x5) upd_same ?_
  show DdAll K _ ([.non, .int 0, .str "", .ref p1, .ref p3] ++ bs) ([.none, .int 0, .str "", .dict [], .list (List.replicate n (.int 0) ++ [.int 0])] ++ badD n)
  refine .append ?_ (ddAll_of (dpAll_ex ((x03.trans x4).trans x5) hbd))
  refine .cons (.dp .non) (.cons (.dp (.int 0)) (.cons (.dp (.str "")) (.cons (.dk ((x4.trans x5) _ _ hp1') .nil) (.cons (.dp (.lst (sq_of ((x4.trans x5) _ _ hp3')) (dpAll_app (dp_zeros n) (.cons (.int 0) .nil)))) .nil))))
end
end W
namespace G
open PySem PySem.Spec PyProof.Rows L2 Evl
theorem q_forN {tb u : TS} {ta : TA} {σ : L2.St} {H : Hp} {D : Ends} {j n : Nat} (hn : n ≤ 100000) (ht : ∀ R : List V → Hp → Prop, R [.int (n : Int)] H → ta σ H R) (Pv : Nat → L2.St → Hp → Prop) (h0 : Pv 0 σ H)
    (hs : ∀ (i : Nat) (σ' : L2.St) (H' : Hp), i < n → Pv i σ' H' → tb { D with nx := Pv (i + 1), ct := Pv (i + 1), bk := u D } (σ'.set j (some (.int (i : Int)))) H') (hd : ∀ σ' H', Pv n σ' H' → u D σ' H') : tSeq (tFor (iRng1 ta) (gName j) tb) u D σ H :=
  ht _ ⟨(n : Int), rfl, by omega, by omega, for_range (lo := 0) (n := (n : Int).toNat) Pv h0 (fun i σ' H' hi p => by
    have e0 : (0 : Int) + (i : Int) = (i : Int) := Int.zero_add _
    show tb { D with nx := Pv (i + 1), ct := Pv (i + 1), bk := u D } (σ'.set j (some (.int ((0 : Int) + (i : Int))))) H'
    rw [e0]
    exact hs i σ' H' (by omega) p) (fun σ' H' p => hd σ' H' (by simpa using p))⟩
end G

set_option Elab.async false
set_option linter.all false
set_option maxRecDepth 100000
set_option maxHeartbeats 8000000
namespace W
open PySem PySem.Spec PyProof.Rows L2 Evl G
abbrev nKindsR : List Str := ["_law_due", "_law_rows", "_law_turn", "_law_row", "_law_good", "_law_bad", "_law_odd", "_law_sort"]
theorem scKindsR : FnScope nKindsR [] (defScope dKindsR) := ⟨rfl, rfl, rfl, by decide +kernel, rfl, by decide +kernel, by decide +kernel⟩
section
variable {P : Program} {w : World} {K : PySem.W.Frag} {mg : Str → Option Value} {base : Heap}
theorem okKindsR {f c P1 P2 CW CK CB CE fIk fIb : Addr} {fd fdk fdb : FuncData} (F : At K mg "_law_kinds_right" dKindsR [] f fd) (T : Txt K mg) (DT : DicT K w mg) (TK : ExcT K mg "InvalidKind" "InvalidKind.__init__" 3 CK fIk fdk) (TBi : ExcT K mg "InvalidBits" "InvalidBits.__init__" 4 CB fIb fdb) (TH : HearT K mg CW CK CB CE)
    (TB : LamX.TabB base mg c P2) (hcode : fd.code = .ref c) (hP : P1 ≠ P2) : Fn P w K mg base CX0 7 f fd [] (spTabs (tabs P1 P2)) := by
  obtain ⟨fS, gS, FS⟩ := T.says
  obtain ⟨fO, gO, FO⟩ := T.longer
  obtain ⟨fB, gB, FB⟩ := T.saidBy
  obtain ⟨fH, gH, FH⟩ := T.heard
  obtain ⟨dk, es, n0, D⟩ := DT.kinds
  have GS : FnOk P w K mg base (L2.CX P w) 4 fS gS ["kind", "bits"] (spSays K CK CB) := okSays FS T DT TK TBi
  have GO : FnOk P w K mg base CX0 1 fO gO ["_law_some"] (spLonger K) := okLonger FO T
  have GB : FnOk P w K mg base CX0 1 fB gB ["_law_sort", "_law_row"] (spSaid K) := okSaidBy FB T
  have kS : KBinds K gS ["kind", "bits"] ["bits", "kind"] gu2 gu2 := kb2 FS.fn fun _ _ _ _ _ _ _ _ => rfl
  have gHb := FH.bi
  have gHg := FH.gl
  have gHk := FH.fn.kp
  obtain ⟨oc, od, kV, doc, pm, an, cdH, ct, osl, rfl, lkH, hcH⟩ := FH.fn.ex
  refine okNC F.fn scKindsR (fun vs H Q E h => ?_) (fun cdv A outer s H vs Q E hcd hr h => ?_)
  · obtain ⟨rfl, _⟩ := h
    rfl
  · obtain ⟨rfl, hT, k⟩ := h
    obtain rfl : cdv = .ref c := hcd.symm.trans hcode
    have hr4 : Room 4 (A.deeper (envOfC "_law_kinds_right" (defScope dKindsR) s.heap.objs.size f (.ref c))) := hr.rm.mono (by decide)
    have hr1 : Room 1 (A.deeper (envOfC "_law_kinds_right" (defScope dKindsR) s.heap.objs.size f (.ref c))) := hr.rm.mono (by decide)
    have hu : (A.deeper (envOfC "_law_kinds_right" (defScope dKindsR) s.heap.objs.size f (.ref c))).units + 64 < cLine := by
      have := hr.rm.un
      omega
    have iteF' : ∀ {b : Bool} {p q : Prop}, b = false → q → (if b = true then p else q) := fun e h => by rw [e]; exact h
    have iteT' : ∀ {b : Bool} {p q : Prop}, b = true → p → (if b = true then p else q) := fun e h => by rw [e]; exact h
    refine ⟨_, pss_cons (ps_set (i := 0) scKindsR.nd rfl (Or.inl rfl) (pe_disp (pps_cons pe_str pe_int (pps_cons pe_str pe_int (pps_cons pe_str pe_int (pps_cons pe_str pe_int (pps_cons pe_str pe_int (pps_cons pe_str pe_int (pps_cons pe_str pe_int pps_nil))))))) (by rfl) (by rfl) (fun z => by cases z) (by decide)))
      (pss_cons (ps_if (pt_cmpR op_ne (pe_callB (call_rx hr) (by rfl) T.repr (by decide +kernel) (pa_cons (pe_callTy (call_dictK D (by decide +kernel) (by decide)) (by rfl) T.dict (by decide +kernel) (pa_cons (pe_glob (v := .ref dk) (by rfl) D.gl rfl) pa_nil)) pa_nil))
          (pe_callB (call_rx hr) (by rfl) T.repr (by decide +kernel) (pa_cons (pv 0) pa_nil)) (nomark _)) (pss_one (ps_ret pe_bl)) pss_nil)
      (pss_cons (ps_lock (ps_for PassesOwn.never rfl (pi_keys (pv 0)) (pg_name (i := 7) scKindsR.nd rfl (Or.inr rfl))
        (pss_cons (ps_set (i := 1) scKindsR.nd rfl (Or.inl rfl) (pe_lst (pa_cons (pe_tup pa_nil) pa_nil)))
        (pss_cons (ps_for PassesOwn.never rfl (pi_range1 (by rfl) T.range (pa_cons (pe_dget (hu_of hr.rm) (pv 0) (pv 7) (fun _ _ => rfl)) pa_nil)) (pg_name (i := 2) scKindsR.nd rfl (Or.inl rfl))
          (pss_one (ps_set (i := 1) scKindsR.nd rfl (Or.inl rfl) (pe_call GO hr1 (by rfl) FO.gl FO.fn.kp FO.bi .nil pass0 (pa_cons (pv 1) pa_nil)))))
        (pss_cons (ps_for PassesOwn.never rfl (pi_list (pv 1)) (pg_name (i := 3) scKindsR.nd rfl (Or.inl rfl))
          (pss_one (ps_if (pt_cmpR op_ne (pe_callB (call_rx hr) (by rfl) T.repr (by decide +kernel) (pa_cons (pe_lst (pa_cons (pe_call GS hr4 (by rfl) FS.gl FS.fn.kp FS.bi .nil passL (pa_cons (pv 7) (pa_cons (pv 3) pa_nil)))
                (pa_cons (pcK0 (Fn.of GS) (hr.mono (by decide)) (by rfl) FS.gl FS.fn.kp kS passL (pk_cons (pe_callTy call_list_of (by rfl) T.list (by decide +kernel) (pa_cons (pv 3) pa_nil)) (pk_cons (pv 7) pk_nil))) pa_nil))) pa_nil))
              (pe_callB (call_rx hr) (by rfl) T.repr (by decide +kernel) (pa_cons (pe_op op_rep (pe_lst (pa_cons (pe_call GB hr1 (by rfl) FB.gl FB.fn.kp FB.bi .nil pass0 (pa_cons (pv 7) (pa_cons (pv 3) pa_nil))) pa_nil)) pe_int) pa_nil)) (nomark _)) (pss_one (ps_ret pe_bl)) pss_nil)))
        (pss_cons (ps_set (i := 4) scKindsR.nd rfl (Or.inl rfl) (pe_callTy call_list_of (by rfl) T.list (by decide +kernel) (pa_cons (pe_ix ix_list (pv 1) pe_int (fun _ _ => rfl)) pa_nil)))
        (pss_cons (ps_set (i := 5) scKindsR.nd rfl (Or.inl rfl) (pe_ifExp (pt_cmpR (op_neD hu) (pv 4) (pe_lst pa_nil) (nomark _))
            (pe_lst (pa_cons (pe_slice sl_list (pv 4) (po_some pe_int) po_none) (pa_cons (pe_op op_rep (pe_lst (pa_cons pe_bl pa_nil)) (pe_callB call_len_seq (by rfl) T.len PySem.boot_len (pa_cons (pv 4) pa_nil))) pa_nil)))
            (pe_lst (pa_cons (pe_lst (pa_cons pe_int pa_nil)) (pa_cons (pe_lst (pa_cons pe_int pa_nil)) pa_nil)))))
        (pss_one (ps_for PassesOwn.never rfl (pi_list (pe_op op_cat (pe_lst (pa_cons pe_non (pa_cons pe_int (pa_cons pe_str (pa_cons pe_dnewK (pa_cons (pe_op op_cat (pv 4) (pe_lst (pa_cons pe_int pa_nil))) pa_nil)))))) (pv 5))) (pg_name (i := 6) scKindsR.nd rfl (Or.inr rfl))
          (pss_one (ps_if (pt_cmpR (op_neD hu) (LamX.pe_lamcall (k := 4) (T := tabs P1 P2) (t := fun E => tCall (spSays K CK CB) [] E (tCons (tVar 7) (tCons (tVar 6) tNil))) (by rfl) gHg gHk lkH hcH gHb scHeard rfl (.inl rfl) (heard_gives T.toNames TH (hr.mono (by decide))) TB rfl (List.mem_cons_of_mem _ List.mem_cons_self) ?hu1 hr.rm (LamX.lamS_by (by show LamX.lamSB (defScope dKindsR) _ = true; decide +kernel)) rfl (fun _ _ _ _ _ => rfl)
                (fun A' outer' s' H' E' f' c' hr' => pe_call GS hr' (by rfl) FS.gl FS.fn.kp FS.bi .nil (passes_call (takes_of rfl rfl rfl rfl) fun _ _ _ _ h => h) (pa_cons (pv 7) (pa_cons (pv 6) pa_nil))))
              (pe_lst (pa_cons pe_str (pa_cons (pe_callB (call_rx hr) (by rfl) T.repr (by decide +kernel) (pa_cons (pv 6) pa_nil)) (pa_cons pe_bl pa_nil)))) (nomark _)) (pss_one (ps_ret pe_bl)) pss_nil)))))))))))
      (pss_cons (ps_for PassesOwn.never rfl (pi_list (pe_lst (pa_cons pe_non (pa_cons pe_int (pa_cons pe_bl (pa_cons pe_str (pa_cons pe_str (pa_cons pe_str (pa_cons (pe_lst (pa_cons pe_str pa_nil)) (pa_cons (pe_tup (pa_cons pe_str pa_nil)) (pa_cons pe_dnewK (pa_cons pe_str (pa_cons pe_str pa_nil)))))))))))))
          (pg_name (i := 6) scKindsR.nd rfl (Or.inr rfl))
          (pss_one (ps_if (pt_cmpR (op_neD hu) (LamX.pe_lamcall (k := 4) (T := tabs P1 P2) (t := fun E => tCall (spSays K CK CB) [] E (tCons (tVar 6) (tCons (tC .non) tNil))) (by rfl) gHg gHk lkH hcH gHb scHeard rfl (.inl rfl) (heard_gives T.toNames TH (hr.mono (by decide))) TB rfl (List.mem_cons_of_mem _ List.mem_cons_self) ?hu2 hr.rm (LamX.lamS_by (by show LamX.lamSB (defScope dKindsR) _ = true; decide +kernel)) rfl (fun _ _ _ _ _ => rfl)
                (fun A' outer' s' H' E' f' c' hr' => pe_call GS hr' (by rfl) FS.gl FS.fn.kp FS.bi .nil (passes_call (takes_of rfl rfl rfl rfl) fun _ _ _ _ h => h) (pa_cons (pv 6) (pa_cons pe_non pa_nil))))
              (pe_lst (pa_cons pe_str (pa_cons (pe_callB (call_rx hr) (by rfl) T.repr (by decide +kernel) (pa_cons (pv 6) pa_nil)) (pa_cons pe_bl pa_nil)))) (nomark _)) (pss_one (ps_ret pe_bl)) pss_nil)))
      (pss_one (ps_ret pe_bl))))), ?_⟩
    case hu1 =>
      intro p hp e
      simp only [tabs, List.mem_cons, List.not_mem_nil, or_false] at hp
      rcases hp with rfl | rfl
      · exact absurd e hP
      · rfl
    case hu2 =>
      intro p hp e
      simp only [tabs, List.mem_cons, List.not_mem_nil, or_false] at hp
      rcases hp with rfl | rfl
      · exact absurd e hP
      · rfl
    intro p hp
    refine ⟨upd_same, kvI kindsL, rfl, by decide, ?_⟩
    rw [upd_upd]
    have e1 : Ex H (upd H p (.dK (mergeK [] (kvI kindsL)))) := Ex.new hp
    have em : mergeK [] (kvI kindsL) = kvI kindsL := by decide +kernel
    rw [em] at e1 ⊢
    have hp1 : (upd H p (.dK (kvI kindsL))) p = some (.dK (kvI kindsL)) := upd_same
    generalize upd H p (.dK (kvI kindsL)) = H1 at e1 hp1 ⊢
    refine ⟨rfl, fun p2 hp2 => ⟨.ref p2, .dict kindsD, rfl, .dk upd_same kindsD_kd, kindsD_showy, ?_⟩⟩
    have e2 : Ex H1 (upd H1 p2 (.dK (kvI kindsL))) := Ex.new hp2
    generalize upd H1 p2 (.dK (kvI kindsL)) = H2 at e2 ⊢
    refine ⟨_, rfl, .ref p, .dict kindsD, rfl, .dk (e2 _ _ hp1) kindsD_kd, kindsD_showy, rfl, _, rfl, iteF' (by simp) ?_⟩
    have hT2 : LamX.Tabs (tabs P1 P2) H2 := hT.ext (e1.trans e2)
    have hp2' := e2 _ _ hp1
    refine ⟨p, .dK (kvI kindsL), hp2', trivial, fun od => ⟨_, rfl, p, od, rfl, .inl ⟨kvI kindsL, upd_same, ?_⟩⟩⟩
    have hTL : LamX.Tabs (tabs P1 P2) (upd H2 p (.frz od (.dK (kvI kindsL)))) := tabs_upd hT2 hp2' (fun _ z => by cases z) (fun _ z => by cases z)
    have hpL : (upd H2 p (.frz od (.dK (kvI kindsL)))) p = some (.frz od (.dK (kvI kindsL))) := upd_same
    generalize upd H2 p (.frz od (.dK (kvI kindsL))) = HL at hTL hpL ⊢
    have frzN : ∀ {H' : Hp}, LamX.ExtN HL H' → H' p = some (.frz od (.dK (kvI kindsL))) := fun e => e _ _ hpL fun _ z => by cases z
    refine for_it walk_keys (fun i σ H' => ∃ v1 v2 v3 v4 v5 v6 v7, σ = [some (.ref p), v1, v2, v3, v4, v5, v6, v7] ∧ LamX.ExtN HL H' ∧ LamX.Tabs (tabs P1 P2) H') ⟨none, none, none, none, none, none, none, rfl, .refl _, hTL⟩
      (fun i σ H' _ ⟨_, _, _, _, _, _, _, _, eN, _⟩ => frzN eN) (fun i x σ Ha Hb hi inv y => ?_) (fun σ H' inv => ?_)
    · obtain ⟨v1, v2, v3, v4, v5, v6, v7, rfl, eN, hTa⟩ := inv
      obtain ⟨rfl, key, val, hkv, rfl⟩ := y
      obtain ⟨q, hq, hz⟩ : ∃ q ∈ kindsL, key = Sum.inr q.1 := by
        unfold kvI at hkv
        rw [List.getElem?_map] at hkv
        cases e : kindsL[i]? with
        | none => rw [e] at hkv; cases hkv
        | some q =>
          rw [e] at hkv
          have := Option.some.inj hkv
          exact ⟨q, List.mem_of_getElem? e, (congrArg Prod.fst this).symm⟩
      subst hz
      obtain ⟨z, n⟩ := q
      obtain ⟨hz, hn, hv, h0⟩ := kinds_at _ hq
      dsimp only at hz hn hv h0
      show tSeq (tAsg (tLst (tCons (tTup tNil) tNil)) (gName 1)) _ _ [some (.ref p), v1, v2, v3, v4, v5, v6, some (.str z)] Hb
      refine q_dat (K := K) (ds := [.tuple []]) (ndds_cons (ndd_of (nd_tup nds_nil (by decide))) ndds_nil) (by decide) fun l0 xs0 H3 n3 e3 hl0 hd0 => ?_
      have hx0 : DpAll K H3 xs0 (rowsD (bitsL 0)) := by
        cases hd0 with
        | cons a b =>
          cases b
          cases a with
          | dp z => exact .cons (dp_ex nw_out z) .nil
      refine q_forN (n := n) (by omega) (fun R hR => ⟨_, rfl, _, rfl, p, .int (n : Int), rfl, .inl ⟨kvI kindsL, Sum.inr z, .inr ⟨od, e3 _ _ (frzN eN)⟩, rfl, hv.symm⟩, hR⟩)
        (fun j σ Hc => ∃ (l : Addr) (xs : List V) (v2 : Option V), σ = [some (.ref p), some (.ref l), v2, v3, v4, v5, v6, some (.str z)] ∧ Ex H3 Hc ∧ Hc l = some (.lst xs) ∧ DpAll K Hc xs (rowsD (bitsL j))) ⟨l0, xs0, v2, rfl, Ex.refl _, hl0, hx0⟩ (fun j σ Hc hj inv => ?_) (fun σ Hc inv => ?_)
      · obtain ⟨l, xs, v2, rfl, e, hl, hx⟩ := inv
        have h2 : 2 ^ j ≤ 2 ^ 8 := Nat.pow_le_pow_right (by decide) (by omega)
        refine ⟨_, rfl, l, xs, bitsL j, rfl, sq_of hl, hx, ?_, ?_, fun l4 ws H7 nl4 e7 hl4 hw => ?_⟩
        · rw [bitsL_len]
          omega
        · intro r hr
          have := bits_short j r hr
          omega
        · exact ⟨l4, ws, _, rfl, e.trans e7, hl4, dpAll_ex hid_out hw⟩
      · obtain ⟨l, xs, v2, rfl, e4, hl, hx⟩ := inv
        refine ⟨_, rfl, l, rfl, ⟨xs, sq_of hl⟩, for_list (K := K) (a := l) (xs := xs) (fun j σ Hd => ∃ v3 : Option V, σ = [some (.ref p), some (.ref l), v2, v3, v4, v5, v6, some (.str z)] ∧ Ex Hc Hd) ⟨v3, rfl, Ex.refl _⟩
          (fun j σ Hd _ ⟨_, _, e⟩ => sq_of (e _ _ hl)) (fun j x σ Hd hj inv => ?_) (fun σ Hd inv => ?_)⟩
        · obtain ⟨v3, rfl, e5⟩ := inv
          obtain ⟨d, hd1, hd2⟩ := dpAll_at hx hj
          obtain ⟨r, hr1, rfl⟩ : ∃ r, (bitsL n)[j]? = some r ∧ d = rowD r := by
            unfold rowsD at hd1
            rw [List.getElem?_map] at hd1
            cases q : (bitsL n)[j]? with
            | none => rw [q] at hd1; cases hd1
            | some r => rw [q] at hd1; exact ⟨r, rfl, (Option.some.inj hd1).symm⟩
          refine rd_row (K := K) (CK := CK) (CB := CB) (n := n) (r := r) hz hn (rows_ok _ hq r (List.mem_of_getElem? hr1)) rfl rfl (dp_ex e5 hd2) fun H' e6 => ⟨_, rfl, iteF' rfl ⟨_, rfl, e5.trans e6⟩⟩
        · obtain ⟨v3, rfl, e5⟩ := inv
          have xl : xs.length = 2 ^ n := by
            have := dpAll_len hx
            simpa only [rowsD, List.length_map, bitsL_len] using this
          have xpos : 0 < xs.length := by
            rw [xl]
            exact Nat.two_pow_pos n
          obtain ⟨x0, hx0⟩ : ∃ x0, xs[0]? = some x0 := ⟨xs[0], List.getElem?_eq_getElem xpos⟩
          obtain ⟨d, hd1, hd2⟩ := dpAll_at hx hx0
          have e0 : (rowsD (bitsL n))[0]? = some (rowD (List.replicate n 0)) := by
            unfold rowsD
            rw [List.getElem?_map, h0]
            rfl
          rw [e0] at hd1
          cases hd1
          cases dp_ex e5 hd2 with
          | @tup ta ys _ hs ha =>
            have ey := ints_back ha
            subst ey
            refine ⟨_, rfl, l, xs, 0, .ref ta, rfl, rfl, sq_of (e5 _ _ hl), atI_nat (j := 0) hx0, ta, _, rfl, .inr hs, fun g hg => ?_⟩
            have e6 : Ex Hd (upd Hd g (.lst ((List.replicate n (0 : Int)).map V.int))) := Ex.new hg
            have hg6 : (upd Hd g (.lst ((List.replicate n (0 : Int)).map V.int))) g = some (.lst ((List.replicate n (0 : Int)).map V.int)) := upd_same
            generalize upd Hd g (.lst ((List.replicate n (0 : Int)).map V.int)) = H6 at e6 hg6 ⊢
            refine rd_bad (K := K) (n := n) (g := g) hn rfl hg6 fun b bs H7 e7 hb hbd => ?_
            refine rd_odds (K := K) (n := n) (g := g) (b := b) hn rfl rfl (e7 _ _ hg6) hb hbd fun o os H8 e8 ho hos => ?_
            have e38 := (((e4.trans e5).trans e6).trans e7).trans e8
            have eN8 : LamX.ExtN HL H8 := eN.trans (.of (e3.trans e38))
            have hT8 : LamX.Tabs (tabs P1 P2) H8 := hTa.ext (e3.trans e38)
            refine ⟨o, rfl, ⟨os, sq_of ho⟩, for_list (K := K) (a := o) (xs := os) (fun j σ Hf => ∃ v6 : Option V, σ = [some (.ref p), some (.ref l), v2, v3, some (.ref g), some (.ref b), v6, some (.str z)] ∧ LamX.ExtN H8 Hf ∧ LamX.Tabs (tabs P1 P2) Hf) ⟨v6, rfl, .refl _, hT8⟩
              (fun j σ Hf _ ⟨_, _, e, _⟩ => sl_exN e (sq_of ho)) (fun j x σ Hf hj inv => ?_) (fun σ Hf inv => ?_)⟩
            · obtain ⟨v6, rfl, eF, hTf⟩ := inv
              obtain ⟨d, hdi, hd0⟩ := hos.at hj
              obtain ⟨oS, oK, oB⟩ := oddS_ok _ hq d (List.mem_of_getElem? hdi)
              refine rd_heard (K := K) (CW := CW) (CK := CK) (CB := CB) (C := CB) (tag := "bits") (i := 6) (x := x) (d := d) (fun _ _ _ _ h => .inr (.inr h)) hTf rfl (dd_exN eF hd0) oS (by decide +kernel) oK (fun E' Q' Ha ea er => ?_) fun H9 e9 hT9 => ⟨false, rfl, ?_⟩
              · exact ⟨_, rfl, _, rfl, .str z, x, .str z, d, rfl, .dp (.str z), dd_exN (eF.trans ea) hd0, .inr (.inr ⟨z, n, rfl, hz, by omega, oB, er⟩)⟩
              · exact iteF' rfl ⟨_, rfl, eF.trans e9, hT9⟩
            · obtain ⟨v6, rfl, eF, hTf⟩ := inv
              exact ⟨_, _, _, _, _, _, _, rfl, eN8.trans eF, hTf⟩
    · obtain ⟨v1, v2, v3, v4, v5, v6, v7, rfl, eN, hTa⟩ := inv
      refine ⟨frzN eN, ?_⟩
      have hT3 : LamX.Tabs (tabs P1 P2) (upd H' p (.dK (kvI kindsL))) := tabs_upd hTa (frzN eN) (fun _ z => by cases z) (fun _ z => by cases z)
      generalize upd H' p (.dK (kvI kindsL)) = H3 at hT3 ⊢
      refine q_forD (K := K) (ds := oddK) (ndds_cons (ndd_of nd_non) (ndds_cons (ndd_of nd_int) (ndds_cons (ndd_of nd_bl) (ndds_cons (ndd_of nd_str) (ndds_cons (ndd_of nd_str) (ndds_cons (ndd_of nd_str) (ndds_cons (ndd_of (nd_lst (nds_cons nd_str nds_nil) (by decide))) (ndds_cons (ndd_of (nd_tup (nds_cons nd_str nds_nil) (by decide))) (ndds_cons ndd_empty (ndds_cons (ndd_of nd_str) (ndds_cons (ndd_of nd_str) ndds_nil))))))))))) (by decide) fun l zs H4 nl e4 hl hz => ?_
      have hz2 : DdAll K H4 zs oddK := hz.ex nw_out
      refine ⟨fun i σ H' => ∃ v6, σ = [some (.ref p), v1, v2, v3, v4, v5, v6, v7] ∧ LamX.ExtN H4 H' ∧ LamX.Tabs (tabs P1 P2) H', ⟨v6, rfl, .refl _, hT3.ext e4⟩, fun i σ H' _ ⟨_, _, eN, _⟩ => sl_exN eN (sq_of hl), fun i x σ H' hi inv => ?_, fun σ H' ⟨_, _, _, hT5⟩ => k H' hT5⟩
      obtain ⟨v6, rfl, eF, hTf⟩ := inv
      obtain ⟨d, hdi, hd0⟩ := hz2.at hi
      obtain ⟨oS, oK, oN⟩ := oddK_ok d (List.mem_of_getElem? hdi)
      refine rd_heard (K := K) (CW := CW) (CK := CK) (CB := CB) (C := CK) (tag := "kind") (i := 6) (x := x) (d := d) (fun _ _ _ _ h => .inr (.inl h)) hTf rfl (dd_exN eF hd0) oS (by decide +kernel) oK (fun E' Q' Ha ea er => ?_) fun H9 e9 hT9 => ⟨false, rfl, ?_⟩
      · exact ⟨_, rfl, x, .non, d, .none, rfl, dd_exN (eF.trans ea) hd0, .dp .non, .inr (.inl ⟨oN, er⟩)⟩
      · exact iteF' rfl ⟨_, rfl, eF.trans e9, hT9⟩
end
end W

set_option Elab.async false
set_option linter.all false
set_option maxRecDepth 100000
set_option maxHeartbeats 4000000
/-! Errors with fields as values. -/
namespace G
open PySem PySem.Spec PyProof.Rows L2 Evl
/-- an exception object at a, of the class cls, its own dict at d -/
def ExD (cls : Value) (d : Option Addr) (a : Addr) : HO := .ext fun h => ∃ (oe : Obj) (vs : Array Value), h.get? a = some oe ∧ Zc cls d oe ∧ oe.data = .fields vs
/-- what makes an exception gives one as a value -/
theorem pe_mk {X : Cx} {e : Expr} {t : L2.St → Hp → XK → Prop} (h : PMk X e t) : PE X e (fun σ H Q => t σ H fun cls d H' => ∀ a, H' a = none → Q (.ref a) (upd H' a (ExD cls d a))) := by
  refine ⟨fun pins s σ H Q I hy => ?_⟩
  refine wpAny_mono (h pins s σ H _ I hy) (fun u s1 made => ?_) fun _ _ z => z
  obtain ⟨a, oe, vs, sI, H', cls, d, rfl, J, kp, fr, ha, hz, hd, _, na, hos, hag, _, q⟩ := made
  have new : ObjOk X.prog X.w (upd H' a (ExD cls d a)) s1.heap a (ExD cls d a) := ⟨⟨oe, vs, ha, hz, hd⟩, ⟨oe, ha⟩, fun _ _ ⟨o, v, q1, q2⟩ st => ⟨o, v, st o q1, q2⟩⟩
  have I2 := J.laidN (t' := s1.toks) kp fr na new
  exact ⟨.ref a, _, ⟨I2.ok, hos.trans I2.os, hag, I2.base, I2.loc, I2.cell, I2.free, I2.freeC, I2.pin, I2.hok, I2.len⟩, rfl, q a na⟩
/-- a tracked error of the class at D -/
def IsEx (H : Hp) (D : Addr) (x : V) : Prop := ∃ (a dd : Addr) (fs : List (Str × V)), x = .ref a ∧ H a = some (ExD (.ref D) (some dd) a) ∧ H dd = some (.xd fs)
theorem IsEx.ex {H H' : Hp} {D : Addr} {x : V} (e : Ex H H') (h : IsEx H D x) : IsEx H' D x := by
  obtain ⟨a, dd, fs, rfl, h1, h2⟩ := h
  exact ⟨a, dd, fs, rfl, e _ _ h1, e _ _ h2⟩
/-- isinstance(x, c), x such an error -/
def rIsQ (K : PySem.W.Frag) : List V → Hp → VK → Prop := fun xs H Q => ∃ (D : Addr) (x c : V) (cv : Value) (b : Bool), xs = [x, c] ∧ ExcC K D ∧ IsEx H D x ∧ (∀ u, RelV c u → u = cv) ∧ PySem.W.kitOne K (.ref D) cv = some b ∧ Q (.bl b) H
theorem call_isQ {Y : Cx} {K : PySem.W.Frag} (hK : Y.K = K := by rfl) : CallR Y (.builtin "isinstance") (rIsQ K) := by
  subst hK
  intro pins s σ H xs us Q I r h
  obtain ⟨D, x, c, cv, b, rfl, C, ⟨a, dd, fs, rfl, ha, hdd⟩, hcv, e, q⟩ := h
  obtain ⟨u1, u2, rfl, r1, r2⟩ := vals2 r
  cases r1
  have ec := hcv _ r2
  subst ec
  obtain ⟨⟨oe, vs, hget, hz, hv⟩, _, _⟩ := I.hok a _ ha
  have hx : ObjOk Y.prog Y.w H s.heap dd (.xd fs) := I.hok dd _ hdd
  obtain ⟨mA, hns, _⟩ := hx
  obtain ⟨od, ho, _⟩ := lookIn_ns hns
  have J : PySem.W.InstAt s.heap a oe D (some od) := ⟨hget, hz.1, by unfold PySem.W.notCls; rw [hv] <;> rfl, by rw [hz.2]; exact ho⟩
  have isC : (PySem.W.clsIn Y.K D).isSome = true := by obtain ⟨cd, hc, _⟩ := PySem.W.any_some C.hd; rw [hc]; rfl
  exact PySem.W.kia_one (PySem.W.kitx_exc isC C.hg C.hk C.hs C.ha C.hn C.ht C.hm) I.kIn J e (fun z => nomatch z) fun tk => ⟨.bl b, H, I.kept (t' := tk) fun _ _ z => z, rfl, q⟩
end G

set_option Elab.async false
set_option linter.all false
set_option maxRecDepth 100000
set_option maxHeartbeats 8000000
namespace W
open PySem PySem.Spec PyProof.Rows L2 Evl G
/-- what must be known of the ten classes -/
structure ErrT (K : PySem.W.Frag) (mg : Str → Option Value) (Cs : List Addr) (CE : Addr) : Prop where
  glE : mg "WireError" = some (.ref CE)
  exc : ∀ C ∈ Cs, ExcC K C
  mat : ∀ (i j : Nat) (a b : Addr), Cs[i]? = some a → Cs[j]? = some b → PySem.W.kitOne K (.ref a) (.ref b) = some (decide (i = j))
  isE : ∀ C ∈ Cs, PySem.W.kitOne K (.ref C) (.ref CE) = some true
  isV : ∀ C ∈ Cs, PySem.W.kitOne K (.ref C) (.type "ValueError") = some true
def tMkV (C : Addr) (te : TE) : TE := fun σ H Q => tMkO C (spIni C) [] (tCons te tNil) σ H fun cls d H' => ∀ a, H' a = none → Q (.ref a) (upd H' a (ExD cls d a))
inductive IsExs (H : Hp) : List V → List Addr → Prop
  | nil : IsExs H [] []
  | cons {x : V} {C : Addr} {xs : List V} {Cs : List Addr} : IsEx H C x → IsExs H xs Cs → IsExs H (x :: xs) (C :: Cs)
theorem IsExs.ex {H H' : Hp} {xs : List V} {Cs : List Addr} (e : Ex H H') (h : IsExs H xs Cs) : IsExs H' xs Cs := by
  induction h with
  | nil => exact .nil
  | cons a _ ih => exact .cons (a.ex e) ih
theorem IsExs.len {H : Hp} {xs : List V} {Cs : List Addr} (h : IsExs H xs Cs) : xs.length = Cs.length := by
  induction h with
  | nil => rfl
  | cons _ _ ih => simp [ih]
theorem IsExs.append {H : Hp} {xs ys : List V} {Cs Ds : List Addr} (h : IsExs H xs Cs) (q : IsExs H ys Ds) : IsExs H (xs ++ ys) (Cs ++ Ds) := by
  induction h with
  | nil => exact q
  | cons a _ ih => exact .cons a ih
theorem IsExs.at {H : Hp} {xs : List V} {Cs : List Addr} (h : IsExs H xs Cs) : ∀ {i : Nat} {x : V}, xs[i]? = some x → ∃ C, Cs[i]? = some C ∧ IsEx H C x := by
  induction h with
  | nil => intro i x e; simp at e
  | cons a _ ih =>
    intro i x e
    cases i with
    | zero =>
      simp at e
      subst e
      exact ⟨_, rfl, a⟩
    | succ i =>
      obtain ⟨C, e1, e2⟩ := ih (by simpa using e)
      exact ⟨C, by simpa using e1, e2⟩
/-- ta makes new errors of the classes Cs -/
def NExs (ta : TA) (Cs : List Addr) : Prop := ∀ σ H (Q : List V → Hp → Prop), (∀ xs H', Ex H H' → IsExs H' xs Cs → Q xs H') → ta σ H Q
section
variable {K : PySem.W.Frag}
theorem nexs_nil : NExs tNil [] := fun _ H _ q => q _ H (Ex.refl H) .nil
theorem rd_mkV {C : Addr} {te : TE} {d : PyData} {σ : L2.St} {H : Hp} {Q : VK} (a : Ndd K te d) (k : ∀ x H', Ex H H' → IsEx H' C x → Q x H') : tMkV C te σ H Q := by
  refine a σ H _ fun v H1 e1 _ => ⟨(by show 1 ≤ 1000; decide), ?_⟩
  refine rd_err (K := K) (E := fun cls d H' => ∀ a, H' a = none → Q (.ref a) (upd H' a (ExD cls d a))) (H := H1) (v := v) (fun H2 dd e2 nd b nb => ?_) (Ex.refl H1)
  have x1 : Ex H2 (upd H2 dd (.xd [("value", v)])) := Ex.new nd
  have x2 : Ex (upd H2 dd (.xd [("value", v)])) (upd (upd H2 dd (.xd [("value", v)])) b (ExD (.ref C) (some dd) b)) := Ex.new nb
  exact k _ _ (((e1.trans e2).trans x1).trans x2) ⟨b, dd, _, rfl, upd_same, x2 _ _ upd_same⟩
theorem nexs_cons {C : Addr} {te : TE} {d : PyData} {ta : TA} {Cs : List Addr} (a : Ndd K te d) (b : NExs ta Cs) : NExs (tCons (tMkV C te) ta) (C :: Cs) := fun σ H Q q =>
  rd_mkV a fun x H1 e1 h1 => b σ H1 _ fun xs H2 e2 h2 => q _ H2 (e1.trans e2) (.cons (h1.ex e2) h2)
/-! ### lists of data, from some heap on -/
def NlAt (K : PySem.W.Frag) (te : TE) (σ : L2.St) (H : Hp) (ds : List PyData) : Prop := ∀ H1, Ex H H1 → ∀ Q : VK, (∀ l xs H2, Ex H1 H2 → H2 l = some (.lst xs) → DpAll K H2 xs ds → Q (.ref l) H2) → te σ H1 Q
def NdsAt (K : PySem.W.Frag) (ta : TA) (σ : L2.St) (H : Hp) (ds : List PyData) : Prop := ∀ H1, Ex H H1 → ∀ Q : List V → Hp → Prop, (∀ xs H2, Ex H1 H2 → DpAll K H2 xs ds → Q xs H2) → ta σ H1 Q
variable {σ : L2.St} {H : Hp} {te tb : TE} {ta : TA} {ds es : List PyData}
theorem ndsAt_nil : NdsAt K tNil σ H [] := fun H1 _ _ q => q _ H1 (Ex.refl H1) .nil
theorem ndsAt_cons (a : NlAt K te σ H ds) (b : NdsAt K ta σ H es) : NdsAt K (tCons te ta) σ H (.list ds :: es) := fun H1 e1 Q q =>
  a H1 e1 _ fun l xs H2 e2 hl hx => b H2 (e1.trans e2) _ fun ys H3 e3 hy => q _ H3 (e2.trans e3) (.cons (.lst (sq_of (e3 _ _ hl)) (dpAll_ex e3 hx)) hy)
theorem nlAt_lst (a : NdsAt K ta σ H ds) (hz : ds.length ≤ 1000) : NlAt K (tLst ta) σ H ds := fun H1 e1 Q q =>
  a H1 e1 _ fun xs H2 e2 hx => ⟨Nat.le_trans (by rw [dpAll_len hx]; exact hz) (show 1000 ≤ sizeLine by decide), fun p hp => q p xs _ (e2.trans (Ex.new hp)) upd_same (dpAll_ex (Ex.new hp) hx)⟩
theorem nlAt_var {i : Nat} {l : Addr} {xs : List V} (hs : σ[i]? = some (some (.ref l))) (hl : H l = some (.lst xs)) (hx : DpAll K H xs ds) : NlAt K (tVar i) σ H ds := fun H1 e1 Q q => ⟨_, hs, q l xs H1 (Ex.refl H1) (e1 _ _ hl) (dpAll_ex e1 hx)⟩
theorem nlAt_cat (a : NlAt K te σ H ds) (b : NlAt K tb σ H es) (hz : ds.length + es.length ≤ 1000) : NlAt K (tOp rCat te tb) σ H (ds ++ es) := fun H1 e1 Q q =>
  a H1 e1 _ fun l xs H2 e2 hl hx => b H2 (e1.trans e2) _ fun m ys H3 e3 hm hy => ⟨l, m, xs, ys, rfl, rfl, e3 _ _ hl, hm, Nat.le_trans (by rw [dpAll_len hx, dpAll_len hy]; exact hz) (show 1000 ≤ sizeLine by decide), fun p hp =>
    q p _ _ ((e2.trans e3).trans (Ex.new hp)) upd_same (dpAll_app (dpAll_ex (e3.trans (Ex.new hp)) hx) (dpAll_ex (Ex.new hp) hy))⟩
theorem q_asgN {D : Ends} {u : TS} {i : Nat} (a : NlAt K te σ H ds) (k : ∀ l xs H1, Ex H H1 → H1 l = some (.lst xs) → DpAll K H1 xs ds → u D (σ.set i (some (.ref l))) H1) : tSeq (tAsg te (gName i)) u D σ H :=
  a H (Ex.refl H) _ fun l xs H1 e hl hx => k l xs H1 e hl hx
/-! ### the rows -/
def rowJ (j : Nat) : List PyData := (List.range 10).map fun i => .bool (decide (i = j))
theorem dpAll_rowJ {H : Hp} (j : Nat) : DpAll K H ((List.range 10).map fun i => V.bl (decide (i = j))) (rowJ j) := by
  have q := dpAll_bls (K := K) (H := H) ((List.range 10).map fun i => decide (i = j))
  rw [List.map_map, List.map_map] at q
  exact q
/-- [isinstance(one, C) for one in made] -/
theorem nl_row {Cs : List Addr} {CE m C : Addr} {xs : List V} {mg : Str → Option Value} {j : Nat} {σ : L2.St} (T : ErrT K mg Cs CE) (h0 : σ[0]? = some (some (.ref m))) (h3 : 3 < σ.length) (hm : H m = some (.lst xs)) (hx : IsExs H xs Cs) (h10 : Cs.length = 10) (hj : Cs[j]? = some C) :
    NlAt K (tLc (iList K (tVar 0)) (gName 3) tYes (tCB (rIsQ K) (tCons (tVar 3) (tCons (tC (.ref C)) tNil))) [3]) σ H (rowJ j) := fun H1 e1 Q q => by
  have at3 : ∀ x, ((wipe σ [3]).set 3 (some x))[3]? = some (some x) := fun x => by
    show ((σ.set 3 none).set 3 (some x))[3]? = some (some x)
    simp [h3]
  have xl : xs.length = 10 := hx.len.trans h10
  refine ⟨_, h0, m, rfl, ⟨xs, sq_of (e1 _ _ hm)⟩, fun D new => ?_⟩
  refine lc_pure (walk_list (K := K) (a := m) (xs := xs)) (fun i => .bl (decide (i = j))) (by omega) (fun H' e => sq_of ((e1.trans e) _ _ hm)) (fun i x => xs[i]? = some x) (fun i Ha x Hb _ _ y => y) (fun i x hi e => ?_) new fun H' e h => ?_
  · obtain ⟨A, hA, hI⟩ := hx.at e
    exact fun H2 e2 Q2 q2 => ⟨x, at3 x, A, x, .ref C, .ref C, _, rfl, T.exc A (List.mem_of_getElem? hA), (hI.ex e1).ex e2, fun u r => r, T.mat i j A C hA hj, q2 H2 (Ex.refl H2)⟩
  · rw [xl] at h
    exact q D _ H' e h (dpAll_rowJ j)
theorem q_asgE {ta : TA} {Cs : List Addr} {σ : L2.St} {H : Hp} {D : Ends} {u : TS} {i : Nat} (a : NExs ta Cs) (hz : Cs.length ≤ 1000) (k : ∀ l xs H1, Ex H H1 → H1 l = some (.lst xs) → IsExs H1 xs Cs → u D (σ.set i (some (.ref l))) H1) : tSeq (tAsg (tLst ta) (gName i)) u D σ H :=
  a σ H _ fun xs H1 e hx => ⟨Nat.le_trans (by rw [hx.len]; exact hz) (show 1000 ≤ sizeLine by decide), fun p hp => k p xs _ (e.trans (Ex.new hp)) upd_same (hx.ex (Ex.new hp))⟩
theorem q_catE {ta : TA} {Cs Ds : List Addr} {σ : L2.St} {H : Hp} {D : Ends} {u : TS} {i j : Nat} {m : Addr} {ys : List V} (hm : σ[j]? = some (some (.ref m))) (hl : H m = some (.lst ys)) (hy : IsExs H ys Ds) (a : NExs ta Cs) (hz : Ds.length + Cs.length ≤ 1000) (hz1 : Cs.length ≤ 500)
    (k : ∀ l xs H1, Ex H H1 → H1 l = some (.lst xs) → IsExs H1 xs (Ds ++ Cs) → u D (σ.set i (some (.ref l))) H1) : tSeq (tAsg (tOp rCat (tVar j) (tLst ta)) (gName i)) u D σ H := by
  refine ⟨_, hm, a σ H _ fun xs H1 e hx => ⟨Nat.le_trans (by rw [hx.len]; exact hz1) (show 500 ≤ sizeLine by decide), fun p hp => ?_⟩⟩
  have x1 : Ex H1 (upd H1 p (.lst xs)) := Ex.new hp
  refine ⟨m, p, ys, xs, rfl, rfl, (e.trans x1) _ _ hl, upd_same, Nat.le_trans (by rw [hx.len, hy.len]; exact hz) (show 1000 ≤ sizeLine by decide), fun l hl2 => ?_⟩
  have x2 : Ex (upd H1 p (.lst xs)) (upd (upd H1 p (.lst xs)) l (.lst (ys ++ xs))) := Ex.new hl2
  exact k l _ _ ((e.trans x1).trans x2) upd_same ((hy.ex ((e.trans x1).trans x2)).append (hx.ex (x1.trans x2)))
theorem lc_new {J : It} {n : Nat} {Gd : Hp → Prop} {Y : Nat → Hp → V → Hp → Prop} (W : Walk J n Gd Y) {te : TE} {σ : L2.St} {j : Nat} {H : Hp} {D : Addr} {Qd : Hp → Prop} (f : Nat → PyData) (hn : n ≤ 1000)
    (hG : ∀ H', Ex H H' → Gd H') (It : Nat → V → Prop) (hY : ∀ i Ha x Hb, i < n → Ex H Ha → Y i Ha x Hb → Hb = Ha ∧ It i x)
    (he : ∀ i x, i < n → It i x → ∀ Ha, Ex H Ha → ∀ Q1 : VK, (∀ v H', Ex Ha H' → Dp K (nw Ha H') v (f i) → Q1 v H') → te ((wipe σ [j]).set j (some x)) Ha Q1)
    (new : H D = none) (hd : ∀ vs H', Ex H H' → H' D = some (.lst vs) → DpAll K (hid D H') vs ((List.range n).map f) → Qd H') : LcG J j te σ H D Qd := by
  refine lc_it (g := gName j) (tt := tYes) (te := te) (vs := [j]) (σ := σ) W (fun i Hc => Ex H Hc ∧ ∃ vs, Hc D = some (.lst vs) ∧ DpAll K (hid D Hc) vs ((List.range i).map f) ∧ vs.length = i) ⟨Ex.new new, [], upd_same, .nil, rfl⟩ (fun i Hc _ p => hG Hc p.1) (fun i x Ha Hb hi p y => ?_) (fun Hc p => ?_)
  · obtain ⟨e1, vs, hD, hv, hl⟩ := p
    obtain ⟨e, ix⟩ := hY i Ha x Hb hi e1 y
    rw [e]
    refine ⟨wipe_set σ j x, ?_⟩
    show te ((wipe σ [j]).set j (some x)) Ha _
    refine he i x hi ix Ha e1 _ fun v Hd e3 dv => ⟨vs, e3 _ _ hD, ?_, (e1.trans e3).mut new, vs ++ [v], upd_same, ?_, by simp [hl]⟩
    · rw [hl]
      exact Nat.lt_of_lt_of_le (Nat.lt_of_lt_of_le hi hn) (by decide)
    · rw [List.range_succ, List.map_append]
      refine dpAll_appG (dpAll_exG hid_upd (dpAll_exG (hid_ex e3) hv)) (.cons (dp_exG hid_upd (dp_exG (hid_nw (by rw [hD]; simp)) dv)) .nil)
  · obtain ⟨e1, vs, hD, hv, hl⟩ := p
    exact hd vs Hc e1 hD hv
end
end W

set_option Elab.async false
set_option linter.all false
set_option maxRecDepth 100000
set_option maxHeartbeats 8000000
namespace W
open PySem PySem.Spec PyProof.Rows L2 Evl G
abbrev nErr : List Str := ["_law_made", "_law_told", "_law_due", "_law_one", "_law_at", "_law_spot"]
theorem scErrorsR : FnScope nErr [] (defScope dErrorsR) := ⟨rfl, rfl, rfl, by decide +kernel, rfl, by decide +kernel, by decide +kernel⟩
theorem nd_pow20 {K : PySem.W.Frag} : Nd K (tOp (rI CPow fun i j => .int (i ^ j.toNat)) (tC (.int 10)) (tC (.int 20))) (.int (10 ^ 20)) := fun _ H _ q => ⟨10, 20, rfl, rfl, ⟨by decide, by decide, by decide⟩, q _ H (Ex.refl H) (.int (10 ^ 20))⟩
theorem scIniE0 : FnScope ["self", "value"] ["self", "value"] (defScope (inClass (top 2) 0)) := ⟨rfl, rfl, rfl, by decide +kernel, rfl, by decide +kernel, by decide +kernel⟩
theorem scIniE1 : FnScope ["self", "value"] ["self", "value"] (defScope (inClass (top 3) 0)) := ⟨rfl, rfl, rfl, by decide +kernel, rfl, by decide +kernel, by decide +kernel⟩
theorem scIniE2 : FnScope ["self", "value"] ["self", "value"] (defScope (inClass (top 4) 0)) := ⟨rfl, rfl, rfl, by decide +kernel, rfl, by decide +kernel, by decide +kernel⟩
theorem scIniE3 : FnScope ["self", "value"] ["self", "value"] (defScope (inClass (top 5) 0)) := ⟨rfl, rfl, rfl, by decide +kernel, rfl, by decide +kernel, by decide +kernel⟩
theorem scIniE4 : FnScope ["self", "value"] ["self", "value"] (defScope (inClass (top 6) 0)) := ⟨rfl, rfl, rfl, by decide +kernel, rfl, by decide +kernel, by decide +kernel⟩
theorem scIniE5 : FnScope ["self", "value"] ["self", "value"] (defScope (inClass (top 7) 0)) := ⟨rfl, rfl, rfl, by decide +kernel, rfl, by decide +kernel, by decide +kernel⟩
theorem scIniE6 : FnScope ["self", "value"] ["self", "value"] (defScope (inClass (top 8) 0)) := ⟨rfl, rfl, rfl, by decide +kernel, rfl, by decide +kernel, by decide +kernel⟩
theorem scIniE7 : FnScope ["self", "value"] ["self", "value"] (defScope (inClass (top 9) 0)) := ⟨rfl, rfl, rfl, by decide +kernel, rfl, by decide +kernel, by decide +kernel⟩
theorem scIniE8 : FnScope ["self", "value"] ["self", "value"] (defScope (inClass (top 10) 0)) := ⟨rfl, rfl, rfl, by decide +kernel, rfl, by decide +kernel, by decide +kernel⟩
theorem scIniE9 : FnScope ["self", "value"] ["self", "value"] (defScope (inClass (top 11) 0)) := ⟨rfl, rfl, rfl, by decide +kernel, rfl, by decide +kernel, by decide +kernel⟩
def spErrs : Sp := fun vs H Q _ => vs = [] ∧ ∀ H', Ex H H' → Q (.bl true) H'
section
variable {P : Program} {w : World} {K : PySem.W.Frag} {mg : Str → Option Value} {base : Heap}
theorem okErrorsR {f CE C0 C1 C2 C3 C4 C5 C6 C7 C8 C9 f0 f1 f2 f3 f4 f5 f6 f7 f8 f9 : Addr} {fd d0 d1 d2 d3 d4 d5 d6 d7 d8 d9 : FuncData} (F : At K mg "_law_errors_right" dErrorsR [] f fd) (T : Txt K mg) (T0 : ExcT K mg "InvalidWidth" "InvalidWidth.__init__" 2 C0 f0 d0) (T1 : ExcT K mg "InvalidKind" "InvalidKind.__init__" 3 C1 f1 d1) (T2 : ExcT K mg "InvalidBits" "InvalidBits.__init__" 4 C2 f2 d2) (T3 : ExcT K mg "InvalidBit" "InvalidBit.__init__" 5 C3 f3 d3) (T4 : ExcT K mg "InvalidName" "InvalidName.__init__" 6 C4 f4 d4) (T5 : ExcT K mg "InvalidNames" "InvalidNames.__init__" 7 C5 f5 d5) (T6 : ExcT K mg "InvalidLetter" "InvalidLetter.__init__" 8 C6 f6 d6) (T7 : ExcT K mg "InvalidWord" "InvalidWord.__init__" 9 C7 f7 d7) (T8 : ExcT K mg "InvalidState" "InvalidState.__init__" 10 C8 f8 d8) (T9 : ExcT K mg "InvalidFault" "InvalidFault.__init__" 11 C9 f9 d9)
    (TE : ErrT K mg [C0, C1, C2, C3, C4, C5, C6, C7, C8, C9] CE) : FnOk P w K mg base CX0 3 f fd [] spErrs := by
  have G0 : FnOk P w K mg base CX0 1 f0 d0 ["self", "value"] (spIni C0) := ok_ini T0 scIniE0 ⟨_, _, _, _, rfl, rfl⟩ (.inl rfl) (.inl rfl)
  have G1 : FnOk P w K mg base CX0 1 f1 d1 ["self", "value"] (spIni C1) := ok_ini T1 scIniE1 ⟨_, _, _, _, rfl, rfl⟩ (.inl rfl) (.inl rfl)
  have G2 : FnOk P w K mg base CX0 1 f2 d2 ["self", "value"] (spIni C2) := ok_ini T2 scIniE2 ⟨_, _, _, _, rfl, rfl⟩ (.inl rfl) (.inl rfl)
  have G3 : FnOk P w K mg base CX0 1 f3 d3 ["self", "value"] (spIni C3) := ok_ini T3 scIniE3 ⟨_, _, _, _, rfl, rfl⟩ (.inl rfl) (.inl rfl)
  have G4 : FnOk P w K mg base CX0 1 f4 d4 ["self", "value"] (spIni C4) := ok_ini T4 scIniE4 ⟨_, _, _, _, rfl, rfl⟩ (.inl rfl) (.inl rfl)
  have G5 : FnOk P w K mg base CX0 1 f5 d5 ["self", "value"] (spIni C5) := ok_ini T5 scIniE5 ⟨_, _, _, _, rfl, rfl⟩ (.inl rfl) (.inl rfl)
  have G6 : FnOk P w K mg base CX0 1 f6 d6 ["self", "value"] (spIni C6) := ok_ini T6 scIniE6 ⟨_, _, _, _, rfl, rfl⟩ (.inl rfl) (.inl rfl)
  have G7 : FnOk P w K mg base CX0 1 f7 d7 ["self", "value"] (spIni C7) := ok_ini T7 scIniE7 ⟨_, _, _, _, rfl, rfl⟩ (.inl rfl) (.inl rfl)
  have G8 : FnOk P w K mg base CX0 1 f8 d8 ["self", "value"] (spIni C8) := ok_ini T8 scIniE8 ⟨_, _, _, _, rfl, rfl⟩ (.inl rfl) (.inl rfl)
  have G9 : FnOk P w K mg base CX0 1 f9 d9 ["self", "value"] (spIni C9) := ok_ini T9 scIniE9 ⟨_, _, _, _, rfl, rfl⟩ (.inl rfl) (.inl rfl)
  refine F.fn.ok scErrorsR (fun vs H Q E h => ?_) (fun cdv A outer s H vs Q E hr h => ?_)
  · obtain ⟨rfl, _⟩ := h
    rfl
  · obtain ⟨rfl, k⟩ := h
    have hr2 : Room 2 _ := hr
    have hu : (A.deeper (envOfC "_law_errors_right" (defScope dErrorsR) s.heap.objs.size f cdv)).units + 64 < cLine := by
      have := hr.un
      omega
    refine ⟨_, pss_cons (ps_set (i := 0) scErrorsR.nd rfl (Or.inl rfl) (pe_lst (pa_cons (pe_mk (pmk_oex T0.oex T0.ini T0.tyI G0 hr2 T0.bi .nil pass0 (by rfl) T0.gl (pa_cons pe_non pa_nil))) (pa_cons (pe_mk (pmk_oex T1.oex T1.ini T1.tyI G1 hr2 T1.bi .nil pass0 (by rfl) T1.gl (pa_cons (pe_lst (pa_cons pe_int pa_nil)) pa_nil))) (pa_cons (pe_mk (pmk_oex T2.oex T2.ini T2.tyI G2 hr2 T2.bi .nil pass0 (by rfl) T2.gl (pa_cons (pe_un un_neg pe_int) pa_nil))) (pa_cons (pe_mk (pmk_oex T3.oex T3.ini T3.tyI G3 hr2 T3.bi .nil pass0 (by rfl) T3.gl (pa_cons pe_str pa_nil))) (pa_cons (pe_mk (pmk_oex T4.oex T4.ini T4.tyI G4 hr2 T4.bi .nil pass0 (by rfl) T4.gl (pa_cons pe_dnewK pa_nil))) (pa_cons (pe_mk (pmk_oex T5.oex T5.ini T5.tyI G5 hr2 T5.bi .nil pass0 (by rfl) T5.gl (pa_cons (pe_tup pa_nil) pa_nil))) pa_nil))))))))
      (pss_cons (ps_set (i := 0) scErrorsR.nd rfl (Or.inl rfl) (pe_op op_cat (pv 0) (pe_lst (pa_cons (pe_mk (pmk_oex T6.oex T6.ini T6.tyI G6 hr2 T6.bi .nil pass0 (by rfl) T6.gl (pa_cons (pe_tup (pa_cons pe_int (pa_cons pe_int pa_nil))) pa_nil))) (pa_cons (pe_mk (pmk_oex T7.oex T7.ini T7.tyI G7 hr2 T7.bi .nil pass0 (by rfl) T7.gl (pa_cons pe_bl pa_nil))) (pa_cons (pe_mk (pmk_oex T8.oex T8.ini T8.tyI G8 hr2 T8.bi .nil pass0 (by rfl) T8.gl (pa_cons (pe_op op_pow pe_int pe_int) pa_nil))) (pa_cons (pe_mk (pmk_oex T9.oex T9.ini T9.tyI G9 hr2 T9.bi .nil pass0 (by rfl) T9.gl (pa_cons pe_str pa_nil))) pa_nil)))))))
      (pss_cons (ps_set (i := 1) scErrorsR.nd rfl (Or.inl rfl) (pe_lst (pa_cons (pe_lc (own := [("_law_one", 3)]) (g := gName 3) (by rfl) scErrorsR.nd (pi_list (pv 0)) (blkOk_by (own := [("_law_one", 3)]) (N := nErr) (sc := defScope dErrorsR) (by decide +kernel)) (fun _ _ _ _ _ => pg_name (i := 3) scErrorsR.nd rfl (Or.inl rfl)) (fun _ _ _ _ _ => pts_nil) (fun _ _ _ _ _ => pe_callB (call_isQ (K := K)) (by rfl) T.isinstance (by decide +kernel) (pa_cons (pv 3) (pa_cons (pe_glob (v := .ref C0) (by rfl) T0.gl rfl) pa_nil)))) (pa_cons (pe_lc (own := [("_law_one", 3)]) (g := gName 3) (by rfl) scErrorsR.nd (pi_list (pv 0)) (blkOk_by (own := [("_law_one", 3)]) (N := nErr) (sc := defScope dErrorsR) (by decide +kernel)) (fun _ _ _ _ _ => pg_name (i := 3) scErrorsR.nd rfl (Or.inl rfl)) (fun _ _ _ _ _ => pts_nil) (fun _ _ _ _ _ => pe_callB (call_isQ (K := K)) (by rfl) T.isinstance (by decide +kernel) (pa_cons (pv 3) (pa_cons (pe_glob (v := .ref C1) (by rfl) T1.gl rfl) pa_nil)))) pa_nil))))
      (pss_cons (ps_set (i := 1) scErrorsR.nd rfl (Or.inl rfl) (pe_op op_cat (pv 1) (pe_lst (pa_cons (pe_lc (own := [("_law_one", 3)]) (g := gName 3) (by rfl) scErrorsR.nd (pi_list (pv 0)) (blkOk_by (own := [("_law_one", 3)]) (N := nErr) (sc := defScope dErrorsR) (by decide +kernel)) (fun _ _ _ _ _ => pg_name (i := 3) scErrorsR.nd rfl (Or.inl rfl)) (fun _ _ _ _ _ => pts_nil) (fun _ _ _ _ _ => pe_callB (call_isQ (K := K)) (by rfl) T.isinstance (by decide +kernel) (pa_cons (pv 3) (pa_cons (pe_glob (v := .ref C2) (by rfl) T2.gl rfl) pa_nil)))) (pa_cons (pe_lc (own := [("_law_one", 3)]) (g := gName 3) (by rfl) scErrorsR.nd (pi_list (pv 0)) (blkOk_by (own := [("_law_one", 3)]) (N := nErr) (sc := defScope dErrorsR) (by decide +kernel)) (fun _ _ _ _ _ => pg_name (i := 3) scErrorsR.nd rfl (Or.inl rfl)) (fun _ _ _ _ _ => pts_nil) (fun _ _ _ _ _ => pe_callB (call_isQ (K := K)) (by rfl) T.isinstance (by decide +kernel) (pa_cons (pv 3) (pa_cons (pe_glob (v := .ref C3) (by rfl) T3.gl rfl) pa_nil)))) pa_nil)))))
      (pss_cons (ps_set (i := 1) scErrorsR.nd rfl (Or.inl rfl) (pe_op op_cat (pv 1) (pe_lst (pa_cons (pe_lc (own := [("_law_one", 3)]) (g := gName 3) (by rfl) scErrorsR.nd (pi_list (pv 0)) (blkOk_by (own := [("_law_one", 3)]) (N := nErr) (sc := defScope dErrorsR) (by decide +kernel)) (fun _ _ _ _ _ => pg_name (i := 3) scErrorsR.nd rfl (Or.inl rfl)) (fun _ _ _ _ _ => pts_nil) (fun _ _ _ _ _ => pe_callB (call_isQ (K := K)) (by rfl) T.isinstance (by decide +kernel) (pa_cons (pv 3) (pa_cons (pe_glob (v := .ref C4) (by rfl) T4.gl rfl) pa_nil)))) (pa_cons (pe_lc (own := [("_law_one", 3)]) (g := gName 3) (by rfl) scErrorsR.nd (pi_list (pv 0)) (blkOk_by (own := [("_law_one", 3)]) (N := nErr) (sc := defScope dErrorsR) (by decide +kernel)) (fun _ _ _ _ _ => pg_name (i := 3) scErrorsR.nd rfl (Or.inl rfl)) (fun _ _ _ _ _ => pts_nil) (fun _ _ _ _ _ => pe_callB (call_isQ (K := K)) (by rfl) T.isinstance (by decide +kernel) (pa_cons (pv 3) (pa_cons (pe_glob (v := .ref C5) (by rfl) T5.gl rfl) pa_nil)))) pa_nil)))))
      (pss_cons (ps_set (i := 1) scErrorsR.nd rfl (Or.inl rfl) (pe_op op_cat (pv 1) (pe_lst (pa_cons (pe_lc (own := [("_law_one", 3)]) (g := gName 3) (by rfl) scErrorsR.nd (pi_list (pv 0)) (blkOk_by (own := [("_law_one", 3)]) (N := nErr) (sc := defScope dErrorsR) (by decide +kernel)) (fun _ _ _ _ _ => pg_name (i := 3) scErrorsR.nd rfl (Or.inl rfl)) (fun _ _ _ _ _ => pts_nil) (fun _ _ _ _ _ => pe_callB (call_isQ (K := K)) (by rfl) T.isinstance (by decide +kernel) (pa_cons (pv 3) (pa_cons (pe_glob (v := .ref C6) (by rfl) T6.gl rfl) pa_nil)))) (pa_cons (pe_lc (own := [("_law_one", 3)]) (g := gName 3) (by rfl) scErrorsR.nd (pi_list (pv 0)) (blkOk_by (own := [("_law_one", 3)]) (N := nErr) (sc := defScope dErrorsR) (by decide +kernel)) (fun _ _ _ _ _ => pg_name (i := 3) scErrorsR.nd rfl (Or.inl rfl)) (fun _ _ _ _ _ => pts_nil) (fun _ _ _ _ _ => pe_callB (call_isQ (K := K)) (by rfl) T.isinstance (by decide +kernel) (pa_cons (pv 3) (pa_cons (pe_glob (v := .ref C7) (by rfl) T7.gl rfl) pa_nil)))) pa_nil)))))
      (pss_cons (ps_set (i := 1) scErrorsR.nd rfl (Or.inl rfl) (pe_op op_cat (pv 1) (pe_lst (pa_cons (pe_lc (own := [("_law_one", 3)]) (g := gName 3) (by rfl) scErrorsR.nd (pi_list (pv 0)) (blkOk_by (own := [("_law_one", 3)]) (N := nErr) (sc := defScope dErrorsR) (by decide +kernel)) (fun _ _ _ _ _ => pg_name (i := 3) scErrorsR.nd rfl (Or.inl rfl)) (fun _ _ _ _ _ => pts_nil) (fun _ _ _ _ _ => pe_callB (call_isQ (K := K)) (by rfl) T.isinstance (by decide +kernel) (pa_cons (pv 3) (pa_cons (pe_glob (v := .ref C8) (by rfl) T8.gl rfl) pa_nil)))) (pa_cons (pe_lc (own := [("_law_one", 3)]) (g := gName 3) (by rfl) scErrorsR.nd (pi_list (pv 0)) (blkOk_by (own := [("_law_one", 3)]) (N := nErr) (sc := defScope dErrorsR) (by decide +kernel)) (fun _ _ _ _ _ => pg_name (i := 3) scErrorsR.nd rfl (Or.inl rfl)) (fun _ _ _ _ _ => pts_nil) (fun _ _ _ _ _ => pe_callB (call_isQ (K := K)) (by rfl) T.isinstance (by decide +kernel) (pa_cons (pv 3) (pa_cons (pe_glob (v := .ref C9) (by rfl) T9.gl rfl) pa_nil)))) pa_nil)))))
      (pss_cons (ps_setLc (i := 2) (own := [("_law_spot", 5)]) (g := gName 5) (by rfl) scErrorsR.nd rfl rfl (sw_true rfl rfl rfl (by decide +kernel)) (pi_range1 (by rfl) T.range (pa_cons pe_int pa_nil))
          (blkOk_by (own := [("_law_spot", 5)]) (N := nErr) (sc := defScope dErrorsR) (by decide +kernel)) (fun _ _ _ _ _ => pg_name (i := 5) scErrorsR.nd rfl (Or.inr rfl)) (fun _ _ _ _ _ => pts_nil)
          (fun _ _ _ _ _ => pe_lc (own := [("_law_at", 4)]) (g := gName 4) (by rfl) scErrorsR.nd (pi_range1 (by rfl) T.range (pa_cons pe_int pa_nil)) (blkOk_by (own := [("_law_at", 4)]) (by rfl)) (fun _ _ _ _ _ => pg_name (i := 4) scErrorsR.nd rfl (Or.inl rfl)) (fun _ _ _ _ _ => pts_nil)
            (fun _ _ _ _ _ => pe_cmpR op_eq (pv 4) (pv 5) (nomark _))))
      (pss_one (ps_ret (pe_and (pe_cmpR (op_eqD hu) (pv 1) (pv 2) (nomark _)) (pe_one (pe_callB (cr_all rfl) (by rfl) T.all (by decide +kernel) (pa_cons
        (pe_lc (own := [("_law_one", 3)]) (g := gName 3) (by rfl) scErrorsR.nd (pi_list (pv 0)) (blkOk_by (own := [("_law_one", 3)]) (N := nErr) (sc := defScope dErrorsR) (by decide +kernel)) (fun _ _ _ _ _ => pg_name (i := 3) scErrorsR.nd rfl (Or.inl rfl)) (fun _ _ _ _ _ => pts_nil)
          (fun _ _ _ _ _ => pe_and (pe_callB (call_isQ (K := K)) (by rfl) T.isinstance (by decide +kernel) (pa_cons (pv 3) (pa_cons (pe_glob (v := .ref CE) (by rfl) TE.glE rfl) pa_nil)))
            (pe_one (pe_callB (call_isQ (K := K)) (by rfl) T.isinstance (by decide +kernel) (pa_cons (pv 3) (pa_cons (pTy "ValueError" (by rfl) T.valueError (by decide +kernel)) pa_nil)))))) pa_nil))))))))))))), ?_⟩
    refine q_asgE (Cs := [C0, C1, C2, C3, C4, C5]) (nexs_cons (K := K) (ndd_of nd_non) (nexs_cons (K := K) (ndd_of (nd_lst (nds_cons nd_int nds_nil) (by decide))) (nexs_cons (K := K) (ndd_of nd_neg) (nexs_cons (K := K) (ndd_of nd_str) (nexs_cons (K := K) ndd_empty (nexs_cons (K := K) (ndd_of (nd_tup nds_nil (by decide))) nexs_nil)))))) (by show 6 ≤ 1000; decide) fun m0 ys H1 e1 hm0 hy => ?_
    refine q_catE (Ds := [C0, C1, C2, C3, C4, C5]) (Cs := [C6, C7, C8, C9]) (m := m0) rfl hm0 hy (nexs_cons (K := K) (ndd_of (nd_tup (nds_cons nd_int (nds_cons nd_int nds_nil)) (by decide))) (nexs_cons (K := K) (ndd_of nd_bl) (nexs_cons (K := K) (ndd_of nd_pow20) (nexs_cons (K := K) (ndd_of nd_str) nexs_nil)))) (by show 10 ≤ 1000; decide) (by show 4 ≤ 500; decide) fun m xs H2 e2 hm hx => ?_
    have hx : IsExs H2 xs [C0, C1, C2, C3, C4, C5, C6, C7, C8, C9] := hx
    refine q_asgN (K := K) (ds := [.list (rowJ 0), .list (rowJ 1)]) (nlAt_lst (ndsAt_cons (nl_row (j := 0) TE rfl (by show 3 < 6; decide) hm hx rfl rfl) (ndsAt_cons (nl_row (j := 1) TE rfl (by show 3 < 6; decide) hm hx rfl rfl) ndsAt_nil)) (by decide)) fun l3 x3 H3 e3 hl3 hd3 => ?_
    have hm4 := e3 _ _ hm
    have hx4 := hx.ex e3
    refine q_asgN (K := K) (ds := ([PyData.list (rowJ 0), PyData.list (rowJ 1)] : List PyData) ++ ([PyData.list (rowJ 2), PyData.list (rowJ 3)] : List PyData)) (nlAt_cat (nlAt_var (i := 1) rfl hl3 hd3) (nlAt_lst (ndsAt_cons (nl_row (j := 2) TE rfl (by show 3 < 6; decide) hm4 hx4 rfl rfl) (ndsAt_cons (nl_row (j := 3) TE rfl (by show 3 < 6; decide) hm4 hx4 rfl rfl) ndsAt_nil)) (by decide)) (by decide)) fun l4 x4 H4 e4 hl4 hd4 => ?_
    have hm5 := (e3.trans e4) _ _ hm
    have hx5 := hx.ex (e3.trans e4)
    refine q_asgN (K := K) (ds := (([PyData.list (rowJ 0), PyData.list (rowJ 1)] : List PyData) ++ ([PyData.list (rowJ 2), PyData.list (rowJ 3)] : List PyData)) ++ ([PyData.list (rowJ 4), PyData.list (rowJ 5)] : List PyData)) (nlAt_cat (nlAt_var (i := 1) rfl hl4 hd4) (nlAt_lst (ndsAt_cons (nl_row (j := 4) TE rfl (by show 3 < 6; decide) hm5 hx5 rfl rfl) (ndsAt_cons (nl_row (j := 5) TE rfl (by show 3 < 6; decide) hm5 hx5 rfl rfl) ndsAt_nil)) (by decide)) (by decide)) fun l5 x5 H5 e5 hl5 hd5 => ?_
    have hm6 := ((e3.trans e4).trans e5) _ _ hm
    have hx6 := hx.ex ((e3.trans e4).trans e5)
    refine q_asgN (K := K) (ds := ((([PyData.list (rowJ 0), PyData.list (rowJ 1)] : List PyData) ++ ([PyData.list (rowJ 2), PyData.list (rowJ 3)] : List PyData)) ++ ([PyData.list (rowJ 4), PyData.list (rowJ 5)] : List PyData)) ++ ([PyData.list (rowJ 6), PyData.list (rowJ 7)] : List PyData)) (nlAt_cat (nlAt_var (i := 1) rfl hl5 hd5) (nlAt_lst (ndsAt_cons (nl_row (j := 6) TE rfl (by show 3 < 6; decide) hm6 hx6 rfl rfl) (ndsAt_cons (nl_row (j := 7) TE rfl (by show 3 < 6; decide) hm6 hx6 rfl rfl) ndsAt_nil)) (by decide)) (by decide)) fun l6 x6 H6 e6 hl6 hd6 => ?_
    have hm7 := (((e3.trans e4).trans e5).trans e6) _ _ hm
    have hx7 := hx.ex (((e3.trans e4).trans e5).trans e6)
    refine q_asgN (K := K) (ds := (((([PyData.list (rowJ 0), PyData.list (rowJ 1)] : List PyData) ++ ([PyData.list (rowJ 2), PyData.list (rowJ 3)] : List PyData)) ++ ([PyData.list (rowJ 4), PyData.list (rowJ 5)] : List PyData)) ++ ([PyData.list (rowJ 6), PyData.list (rowJ 7)] : List PyData)) ++ ([PyData.list (rowJ 8), PyData.list (rowJ 9)] : List PyData)) (nlAt_cat (nlAt_var (i := 1) rfl hl6 hd6) (nlAt_lst (ndsAt_cons (nl_row (j := 8) TE rfl (by show 3 < 6; decide) hm7 hx7 rfl rfl) (ndsAt_cons (nl_row (j := 9) TE rfl (by show 3 < 6; decide) hm7 hx7 rfl rfl) ndsAt_nil)) (by decide)) (by decide)) fun l7 x7 H7 e7 hl7 hd7 => ?_
    have hm8 := ((((e3.trans e4).trans e5).trans e6).trans e7) _ _ hm
    have hx8 := hx.ex ((((e3.trans e4).trans e5).trans e6).trans e7)
    refine ⟨10, rfl, by decide, by decide, fun D new => ?_⟩
    have dv : ∀ a b : Nat, decide (V.int ((0 : Int) + (a : Int)) = V.int ((0 : Int) + (b : Int))) = decide (a = b) := fun a b => by
      rw [Int.zero_add, Int.zero_add, dec_int, Bool.eq_iff_iff]
      simp
      omega
    refine lc_new (K := K) walk_range (fun j => .list (rowJ j)) (by decide) (fun _ _ => trivial) (fun i x => x = .int (0 + (i : Int))) (fun i Ha x Hb _ _ y => y) (fun i x hi ex Ha ea Q1 q1 => ?_) new fun vs H9 e9 hD hv => ?_
    · subst ex
      refine ⟨10, rfl, by decide, by decide, fun D2 new2 => ?_⟩
      refine lc_pure walk_range (fun a => .bl (decide (a = i))) (by decide) (fun _ _ => trivial) (fun a x => x = .int (0 + (a : Int))) (fun a Hc x Hd _ _ y => y) (fun a x ha exx => ?_) new2 fun H' e h => ?_
      · subst exx
        intro Hc ec Q2 q2
        refine ⟨_, rfl, _, rfl, rfl, ?_⟩
        rw [dv a i]
        exact q2 Hc (Ex.refl Hc)
      · refine q1 _ H' e (.lst (sq_of (nw_some.mpr ⟨new2, h⟩)) ?_)
        exact dpAll_rowJ i
    · have hm9 := e9 _ _ hm8
      have hx9 := hx8.ex e9
      refine ⟨_, rfl, _, rfl, .list ((((([PyData.list (rowJ 0), PyData.list (rowJ 1)] : List PyData) ++ ([PyData.list (rowJ 2), PyData.list (rowJ 3)] : List PyData)) ++ ([PyData.list (rowJ 4), PyData.list (rowJ 5)] : List PyData)) ++ ([PyData.list (rowJ 6), PyData.list (rowJ 7)] : List PyData)) ++ ([PyData.list (rowJ 8), PyData.list (rowJ 9)] : List PyData)), .list ((List.range 10).map fun j => .list (rowJ j)), .lst (sq_of (e9 _ _ hl7)) (dpAll_ex e9 hd7), .lst (sq_of hD) (dpAll_ex hid_out hv), by decide +kernel, by decide +kernel, _, rfl, ?_⟩
      have q : PyData.eqv (.list ((((([PyData.list (rowJ 0), PyData.list (rowJ 1)] : List PyData) ++ ([PyData.list (rowJ 2), PyData.list (rowJ 3)] : List PyData)) ++ ([PyData.list (rowJ 4), PyData.list (rowJ 5)] : List PyData)) ++ ([PyData.list (rowJ 6), PyData.list (rowJ 7)] : List PyData)) ++ ([PyData.list (rowJ 8), PyData.list (rowJ 9)] : List PyData))) (.list ((List.range 10).map fun j => .list (rowJ j))) = true := by decide +kernel
      rw [q]
      refine iteT ?_
      have xl : xs.length = 10 := hx9.len
      refine ⟨_, rfl, m, rfl, ⟨xs, sq_of hm9⟩, fun D2 new2 => ?_⟩
      refine lc_pure (walk_list (K := K) (a := m) (xs := xs)) (fun i => .bl (true && true)) (by omega) (fun H' e => sq_of (e _ _ hm9)) (fun i x => xs[i]? = some x) (fun i Ha x Hb _ _ y => y) (fun i x hi e => ?_) new2 fun H' e h => ?_
      · obtain ⟨B, hB, hI⟩ := hx9.at e
        have mB := List.mem_of_getElem? hB
        exact ev_andV (fun H2 e2 Q2 q2 => ⟨x, rfl, B, x, .ref CE, .ref CE, true, rfl, TE.exc B mB, hI.ex e2, fun u r => r, TE.isE B mB, q2 H2 (Ex.refl H2)⟩) fun _ => fun H2 e2 Q2 q2 => ⟨x, rfl, B, x, .ty "ValueError", .type "ValueError", true, rfl, TE.exc B mB, hI.ex e2, fun u r => r, TE.isV B mB, q2 H2 (Ex.refl H2)⟩
      · rw [xl] at h
        refine ⟨D2, List.replicate 10 true, rfl, .inl (.inl h), ?_⟩
        exact k H' ((((e1.trans e2).trans ((((e3.trans e4).trans e5).trans e6).trans e7)).trans e9).trans e)

end
end W

set_option Elab.async false
set_option linter.all false
set_option maxRecDepth 100000
set_option maxHeartbeats 4000000
/-! The end of a law whose promise wants that no repr is under way, with tables of code objects. -/
namespace G
open PySem PySem.Spec PyProof.Rows L2
/-- tracked at first: the tables, and the script where it is not written out -/
def hp0 (ts : List Addr) (a : Addr) (u : Option HO) : Hp := fun b => if b ∈ ts then some (.tbl #[]) else if b = a then u else none
section
variable {ts : List Addr} {a : Addr} {u : Option HO}
theorem hp0_t {b : Addr} (h : b ∈ ts) : hp0 ts a u b = some (.tbl #[]) := if_pos h
theorem hp0_a (h : a ∉ ts) : hp0 ts a u a = u := (if_neg h).trans (if_pos rfl)
theorem hp0_is {b : Addr} {o : HO} (e : hp0 ts a u b = some o) : (b ∈ ts ∧ o = .tbl #[]) ∨ (b = a ∧ b ∉ ts ∧ u = some o) := by
  unfold hp0 at e
  by_cases h : b ∈ ts
  · rw [if_pos h] at e
    exact .inl ⟨h, (Option.some.inj e).symm⟩
  · rw [if_neg h] at e
    by_cases h2 : b = a
    · rw [if_pos h2] at e
      exact .inr ⟨h2, h, e⟩
    · rw [if_neg h2] at e
      cases e
end
theorem end_call {P : Program} {w : World} {K : PySem.W.Frag} {mg mb : Str → Option Value} {n : Nat} {fa a : Addr} {cs : List (Addr × Addr)} {fd : FuncData} {x : Str} {pro : Sp} {s1 : Shared} {vs : List Value} {ns : List Int}
    (KX : K.In s1.heap) (hns : s1.heap.Ns mainGlobals mg) (hb : s1.heap.Ns builtinsNs mb) (hbb : ∀ x : Str, x ≠ "__name__" → mb x = bootBuiltins x) (hlim : s1.heap.NoLimit) (hg : s1.gens = #[])
    (hT : ∀ p ∈ cs, s1.heap.get? p.2 = some { cls := .none, data := .fields #[] }) (nT : ∀ p ∈ cs, K.lookup p.2 = none) (hC : ∀ p ∈ cs, PySem.W.CodeHd s1.heap p.1 p.2)
    (hbm : ∃ (bm : Addr) (ob : Obj), mg "__builtins__" = some (.ref bm) ∧ bm ≠ builtinsNs ∧ s1.heap.get? bm = some ob ∧ ob.cls = .type "module" ∧ ob.dict = some builtinsNs ∧ ob.data = .plain)
    (ha : s1.heap.get? a = some { cls := .type "list", data := .seq vs.toArray }) (hi : IntsAre vs ns) (hl : ns.length ≤ sizeLine) (hr : Room n callerA)
    (F : ∀ ba : Heap, K.In ba → ba.Ns mainGlobals mg → (∀ p ∈ cs, LamX.TabB ba mg p.1 p.2) → Fn P w K mg ba CX0 n fa fd [x] pro) (hbind : ∀ (s : Shared) (u : Value), BindsTo s fd ⟨[u], []⟩ [(x, u)])
    (hpro : ∀ H : Hp, (∀ p ∈ cs, H p.2 = some (.tbl #[])) → SqL K H a (ns.map V.int) → pro [.ref a] H (fun v _ => v = .bl true) fun _ _ _ => False) :
    codeAny (model P w) callerA (.call (.ref fa) ⟨[.ref a], []⟩) (fun r s' => r = .ok (.ret (.bool true)) ∧ OldK s1.heap s'.heap ∧ s'.os = s1.os ∧ AllBare s'.gens) s1 := by
  have rel := vals_ints hi
  have vl := hi.length
  have atT : ∀ {b : Addr}, b ∈ cs.map (·.2) → s1.heap.get? b = some { cls := .none, data := .fields #[] } := fun {b} m => by
    obtain ⟨p, hp, e⟩ := List.mem_map.mp m
    rw [← e]
    exact hT p hp
  have aT : a ∉ cs.map (·.2) := fun m => by
    have q := (atT m).symm.trans ha
    exact nomatch (congrArg Obj.data (Option.some.inj q))
  obtain ⟨u, hu, hKa, hseq⟩ : ∃ u : Option HO, (∀ o, u = some o → ∃ xs, o = .frz { cls := .type "list", data := .seq vs.toArray } (.lst xs) ∧ xs = ns.map V.int) ∧ (u ≠ none → K.lookup a = none) ∧ SqL K (hp0 (cs.map (·.2)) a u) a (ns.map V.int) := by
    cases hk : K.lookup a with
    | some o =>
      have e := (KX a o hk).symm.trans ha
      cases e
      exact ⟨none, (fun o z => nomatch z), (fun z => absurd rfl z), .inr ⟨_, vs.toArray, _, hk, rfl, rfl, rfl, by rw [List.size_toArray, vl]; exact hl, by simpa using rel⟩⟩
    | none => exact ⟨some _, (fun o z => ⟨_, (Option.some.inj z).symm, rfl⟩), (fun _ => rfl), .inl (.inr ⟨_, hp0_a aT⟩)⟩
  generalize hH : hp0 (cs.map (·.2)) a u = H at hseq
  have hHt : ∀ {b : Addr}, b ∈ cs.map (·.2) → H b = some (.tbl #[]) := fun m => by rw [← hH]; exact hp0_t m
  have hHis : ∀ {b : Addr} {o : HO}, H b = some o → (b ∈ cs.map (·.2) ∧ o = .tbl #[]) ∨ (b = a ∧ b ∉ cs.map (·.2) ∧ u = some o) := fun e => hp0_is (by rw [hH]; exact e)
  have hok : HOk P w H s1.heap := fun b o e => by
    rcases hHis e with ⟨m, rfl⟩ | ⟨rfl, _, eu⟩
    · exact atT m
    · obtain ⟨xs, rfl, rfl⟩ := hu o eu
      exact ⟨ha, by rw [List.length_map]; exact hl, vs, _, rel, ha⟩
  have un0 : ∀ {b : Addr} {o : Obj}, s1.heap.get? b = some o → (∀ vs n, o.data ≠ .seq vs n) → o.data ≠ .fields #[] → H b = none := fun {b o} e h1 h2 => by
    cases q : H b with
    | none => rfl
    | some z =>
      rcases hHis q with ⟨m, _⟩ | ⟨eb, _, _⟩
      · have e2 := e.symm.trans (atT m)
        cases e2
        exact absurd rfl h2
      · subst eb
        have e2 := e.symm.trans ha
        cases e2
        exact absurd rfl (h1 _ _)
  have keepB : ∀ {b : Addr} {o : Obj}, s1.heap.get? b = some o → (∀ vs n, o.data ≠ .seq vs n) → o.data ≠ .fields #[] → (hidT s1.heap H).get? b = some o := fun e h1 h2 => hidT_get e (un0 e h1 h2)
  have nsB : ∀ {b : Addr} {m : Str → Option Value}, s1.heap.Ns b m → (hidT s1.heap H).Ns b m := fun {b m} ⟨o, es, ep, e, d, r⟩ => ⟨o, es, ep, keepB e (fun vs n z => by rw [d] at z; cases z) (fun z => by rw [d] at z; cases z), d, r⟩
  have KB : K.In (hidT s1.heap H) := fun b o e => hidT_get (KX b o e) (by
    cases q : H b with
    | none => rfl
    | some z =>
      rcases hHis q with ⟨m, _⟩ | ⟨eb, _, eu⟩
      · obtain ⟨p, hp, ep⟩ := List.mem_map.mp m
        rw [← ep, nT p hp] at e
        cases e
      · subst eb
        rw [hKa (by rw [eu]; simp)] at e
        cases e)
  have md : L2.Mod K mg (hidT s1.heap H) := ⟨KB, nsB hns, ⟨mb, nsB hb, hbb⟩, by
    obtain ⟨mc, h1, h2⟩ := hlim
    exact ⟨mc, nsB h1, h2⟩⟩
  have TB : ∀ p ∈ cs, LamX.TabB (hidT s1.heap H) mg p.1 p.2 := fun p hp => by
    have tp := hT p hp
    refine ⟨?_, ?_, fun z => ?_⟩
    · obtain ⟨o, us, file, tf, flags, tg, inF, text, tt, g1, r1, r2, r3, r⟩ := hC p hp
      refine ⟨o, us, file, tf, flags, tg, inF, text, tt, keepB g1 (fun vs n z => by rw [r2] at z; cases z) (fun z => ?_), r1, r2, r3, r⟩
      rw [r2] at z
      cases z
      simp at r3
    · obtain ⟨bm, ob, b1, b2, b3, b4, b5, b6⟩ := hbm
      refine ⟨bm, ob, b1, b2, fun z => ?_, fun z => ?_, keepB b3 (fun vs n z => by rw [b6] at z; cases z) (fun z => by rw [b6] at z; cases z), b4, b5, b6⟩
      · obtain ⟨o, es, ep, e, d, _⟩ := hns
        rw [z, e] at b3
        cases b3
        rw [d] at b6
        cases b6
      · rw [z, tp] at b3
        cases b3
        cases b6
    · obtain ⟨o, es, ep, e, d, _⟩ := hns
      rw [z, tp] at e
      cases e
      cases d
  have e0 : Env0 P w K mg (hidT s1.heap H) callerA [] s1 H := ⟨rfl, md, fun b o e => of_hidT e, Nat.le_of_eq (hidT_size _ _), trivial, fun b hb => (by cases hb), hok, .of_eq hg⟩
  refine codeAny_mono ((F _ KB (nsB hns) TB).go callerA [] s1 H ⟨[.ref a], []⟩ [.ref a] [.ref a] _ _ ⟨hr, rfl⟩ e0 (hbind s1 (.ref a)) (.cons rfl .nil) (hpro H (fun p hp => hHt (List.mem_map.mpr ⟨p, hp, rfl⟩)) hseq)) fun r s' h => ?_
  cases r with
  | error e => exact (show False from h).elim
  | ok fl =>
    cases fl with
    | next => exact False.elim h
    | brk => exact False.elim h
    | cont => exact False.elim h
    | ret z =>
      obtain ⟨v, H', os, bare, un, hok', rz, q⟩ := h
      have q : v = .bl true := q
      subst q
      obtain rfl : z = Value.bool true := rz
      have more : ∀ {b : Addr}, b ∈ cs.map (·.2) → ∃ ms : Array Value, s'.heap.get? b = some { cls := .none, data := .fields ms } := fun {b} m => by
        obtain ⟨ms, e⟩ := un.tbls b #[] (hHt m)
        exact ⟨_, hok' b _ e⟩
      have old : ∀ {b : Addr} {o : Obj}, b ∉ cs.map (·.2) → s1.heap.get? b = some o → s'.heap.get? b = some o := fun {b o} nm e => by
        cases y : H b with
        | none => exact un.keep b o e y (fun z => by cases z) (fun z => by cases z)
        | some t =>
          rcases hHis y with ⟨m, _⟩ | ⟨_, _, eu⟩
          · exact absurd m nm
          · obtain ⟨xs, rfl, _⟩ := hu t eu
            obtain ⟨g1, _⟩ := hok b _ y
            obtain ⟨g2, _⟩ := hok' b _ (un.frzs b _ _ y)
            have := e.symm.trans g1
            cases this
            exact g2
      refine ⟨rfl, ⟨fun b o e => ?_, fun b o e => ?_⟩, os, bare⟩
      · by_cases m : b ∈ cs.map (·.2)
        · obtain ⟨ms, g2⟩ := more m
          obtain ⟨p, hp, ep⟩ := List.mem_map.mp m
          have e2 := e.symm.trans (atT m)
          cases e2
          refine .inr (.inl ⟨?_, rfl, #[], ms, rfl, by rw [Array.empty_append]; exact g2⟩)
          rw [← ep]
          exact ((hC p hp).tab (hT p hp)).isCodeTable
        · exact .inl (old m e)
      · by_cases m : b ∈ cs.map (·.2)
        · obtain ⟨ms, g2⟩ := more m
          exact ⟨_, g2⟩
        · exact ⟨o, old m e⟩
/-- what the head has told of the law's promise -/
def LawAt (l : PySem.W.OpenLaw) (w : World) (K : PySem.W.Frag) (n most : Nat) (x : Str) (mg : Str → Option Value) (fa : Addr) (h : Heap) : Prop :=
  ∃ (fd : FuncData) (cs : List (Addr × Addr)) (pro : Sp), (∀ p ∈ cs, h.get? p.2 = some { cls := .none, data := .fields #[] }) ∧ (∀ p ∈ cs, K.lookup p.2 = none) ∧ (∀ p ∈ cs, PySem.W.CodeHd h p.1 p.2) ∧ (∀ (s : Shared) (u : Value), BindsTo s fd ⟨[u], []⟩ [(x, u)]) ∧
    (∀ (H : Hp) (a : Addr) (ns : List Int), ns.length ≤ most → (∀ z ∈ ns, Builtin.Int.intBits z ≤ 1048576) → (∀ p ∈ cs, H p.2 = some (.tbl #[])) → SqL K H a (ns.map V.int) → pro [.ref a] H (fun v _ => v = .bl true) fun _ _ _ => False) ∧
    ∀ ba : Heap, K.In ba → ba.Ns mainGlobals mg → (∀ p ∈ cs, LamX.TabB ba mg p.1 p.2) → Fn l.prog w K mg ba CX0 n fa fd [x] pro
theorem walk {l : PySem.W.OpenLaw} {most n : Nat} {q : Program} {loose : List Str} {XP : (Str → Option Value) → Heap → Prop} {YP : World → Heap → Prop} {d : DefRec} {K : Params → PySem.W.Frag} {x : Str}
    (hm : l.most = some most) (hm2 : most ≤ sizeLine) (hdf : d.params.defaults = []) (hr : Room n callerA) (hY : ∀ (w : World) (h : Heap), YP w h → (K w.params).In h)
    (F : ∀ (w : World) (mg : Str → Option Value) (fa : Addr) (h : Heap), YP w h → (K w.params).In h → h.Ns mainGlobals mg → mg d.name = some (.ref fa) → LawAt l w (K w.params) n most x mg fa h) :
    PySem.W.WalkO q loose XP YP l.row.toRowW d [] (fun f vs => PySem.call f vs) := by
  refine Att.attach_callB hm hdf fun w s0 s1 mg mb fa o pm cd doc a vs ns G Y ho hd hcd hmg hobj hints hlen hbits hg => ?_
  have KX := hY w _ Y
  obtain ⟨fd, cs, pro, hT, nT, hC, hb, hpro, hF⟩ := F w mg fa _ Y KX G.T.g hmg
  exact end_call KX G.T.g G.T.b G.T.builtins G.T.nolimit hg hT nT hC G.T.bmain hobj hints (Nat.le_trans hlen hm2) hr hF hb fun H h1 h2 => hpro H a ns hlen hbits h1 h2
end G

set_option Elab.async false
set_option linter.all false
set_option maxRecDepth 100000
set_option maxHeartbeats 4000000
/-! What the head tells, put together. -/
namespace W
open PySem PySem.Spec PyProof.Rows L2 Evl G
section
variable {K : PySem.W.Frag} {h : Heap} {mg : Str → Option Value}
/-- a def of the top, by its four facts -/
theorem at_mk {x : Str} {de : Stmt} {ps : List Str} {f : Addr} {oc kV doc pm cdv ct : Value} {od an : Option Addr} {osl : Array (Option Value)} (X : K.In h) (G : h.Ns mainGlobals mg) (b : ∀ (kV doc pm : Value) (an : Option Addr) (cdv ct : Value) (us : List Value), us.length = ps.length → bindArgs (PySem.W.fnOf x x (defArgs de) (defBody de) (defScope de) .none kV doc pm an cdv ct) ⟨us, []⟩ = pure (ps.zip us))
    (a : PySem.W.nsIn K mainGlobals x = some (some (.ref f)))
    (l : K.lookup f = some ⟨oc, od, .func (PySem.W.fnOf x x (defArgs de) (defBody de) (defScope de) .none kV doc pm an cdv ct), osl⟩) (c : PySem.W.codeIn K cdv x = true) (k : PySem.W.keepIn K (.ref f) = true) : ∃ f fd, At K mg x de ps f fd := by
  have F := fun_mk (st := de) l c k
  exact ⟨f, _, F, PySem.W.mg_of X G a, F.binds b⟩
theorem none_mk {x : Str} (X : K.In h) (G : h.Ns mainGlobals mg) (z : PySem.W.nsIn K mainGlobals x = some none) : mg x = none := PySem.W.mg_none_of X G z
theorem str_mk {x z : Str} {t : Tok} (X : K.In h) (G : h.Ns mainGlobals mg) (a : PySem.W.nsIn K mainGlobals x = some (some (.str z t))) : ∃ t, mg x = some (.str z t) := ⟨t, PySem.W.mg_of X G a⟩
theorem int_mk {x : Str} {i : Int} {t : Tok} (X : K.In h) (G : h.Ns mainGlobals mg) (a : PySem.W.nsIn K mainGlobals x = some (some (.int i t))) : ∃ t, mg x = some (.int i t) := ⟨t, PySem.W.mg_of X G a⟩
/-- an error class: what its maker, its heard instances want -/
theorem exc_mk {x qual : Str} {i : Nat} {C fI CE : Addr} {nm q : Str} {N : Addr} {bs bm : List Value} {sn : List Str} {sub : List Value} {ab : Bool} {col : Option Bool} {dd : Option Addr} {m0 m1 m2 m3 m5 : Option Value}
    {oc kV doc pm cdv ct : Value} {od an : Option Addr} {osl : Array (Option Value)} (X : K.In h) (G : h.Ns mainGlobals mg)
    (a : PySem.W.nsIn K mainGlobals x = some (some (.ref C))) (e : PySem.W.nsIn K mainGlobals "WireError" = some (some (.ref CE)))
    (xL : K.lookup C = some (excClassObj nm q C N bs bm true sn sub ab col dd m0 m1 m2 m3 m5 "ValueError.__new__")) (hbm : PySem.HandSPX.refsVE bm = true)
    (sa : PySem.W.findIn K (.ref C) "__setattr__" = some (some (.builtin "object.__setattr__"))) (ga : PySem.W.findIn K (.ref C) "__getattribute__" = some (some (.builtin "BaseException.__getattribute__"))) (gg : PySem.W.findIn K (.ref C) "__getattr__" = some none) (nV : PySem.W.findIn K (.ref C) "value" = some none)
    (kC : PySem.W.keepIn K (.ref C) = true) (eC : PySem.W.subIn K (.ref C) (.type "BaseException") = some true) (tC : PySem.W.typeIn K (.ref C) = some (.type "type")) (hC : PySem.W.hasDictIn K C = true)
    (ca : PySem.W.findIn K (.ref C) "__class__" = some (some (.builtin "object.__class__"))) (cn : PySem.W.specialIn K (.builtin "object.__class__") "__get__" = some (some (.builtin "getset_descriptor.__get__"))) (ct' : PySem.W.takesIn K (.builtin "object.__class__") = some true) (cm : PySem.W.mroIn K C (.type "object") = some true)
    (a1 : PySem.W.findIn K (.ref C) "__init__" = some (some (.ref fI))) (t1 : PySem.W.typeIn K (.ref fI) = some (.type "function"))
    (l : K.lookup fI = some ⟨oc, od, .func (PySem.W.fnOf "__init__" qual (defArgs (inClass (top i) 0)) (defBody (inClass (top i) 0)) (defScope (inClass (top i) 0)) .none kV doc pm an cdv ct), osl⟩) (c : PySem.W.codeIn K cdv qual = true) (k : PySem.W.keepIn K (.ref fI) = true)
    (b : ∀ (kV doc pm : Value) (an : Option Addr) (cdv ct : Value) (us : List Value), us.length = ["self", "value"].length → bindArgs (PySem.W.fnOf "__init__" qual (defArgs (inClass (top i) 0)) (defBody (inClass (top i) 0)) (defScope (inClass (top i) 0)) .none kV doc pm an cdv ct) ⟨us, []⟩ = pure ((["self", "value"] : List Str).zip us))
    (ow : PySem.W.subIn K (.ref C) (.ref C) = some true) (ie : PySem.W.kitOne K (.ref C) (.ref CE) = some true) (iv : PySem.W.kitOne K (.ref C) (.type "ValueError") = some true) :
    ∃ C CE fI fd, ExcT K mg x qual i C fI fd ∧ HearC K mg x C CE ∧ mg "WireError" = some (.ref CE) := by
  have F := fun_mk (st := inClass (top i) 0) l c k
  have xf : XfC K C := ⟨ga, gg, eC, hC⟩
  have gl := PySem.W.mg_of X G a
  exact ⟨C, CE, fI, _, ⟨⟨⟨nm, q, N, bs, bm, sn, sub, ab, col, dd, m0, m1, m2, m3, m5, xL, hbm⟩, sa, eC, tC, kC⟩, xf, gl, a1, t1, F, F.binds b, nV⟩,
    ⟨gl, xf, ⟨ga, gg, eC, hC, ca, cn, ct', cm⟩, nV, PySem.W.exm_ref eC hC tC ow, ie, iv⟩, PySem.W.mg_of X G e⟩
end
end W

set_option Elab.async false
set_option linter.all false
set_option maxRecDepth 100000
set_option maxHeartbeats 8000000
namespace W
open PySem PySem.Spec PyProof.Rows L2 Evl G
def spLaw (K : PySem.W.Frag) (Ts : List (Addr × Str)) : Sp := fun vs H Q _ => ∃ (a : Addr) (ns : List Int), vs = [.ref a] ∧ SqL K H a (ns.map V.int) ∧ ns.length ≤ 1000 ∧ LamX.Tabs Ts H ∧ ∀ H', Q (.bl true) H'
theorem tabs_but {Ts : List (Addr × Str)} {p : Addr} {H H' : Hp} (h : LamX.Tabs Ts H) (hp : Pot H p) (e : ExBut p H H') : LamX.Tabs Ts H' := fun q hq => by
  obtain ⟨a, b, hp, _⟩ := hp
  obtain ⟨ps, h1, h2, h3⟩ := h q hq
  refine ⟨ps, e _ _ h1 (fun z => by rw [z, hp] at h1; cases h1), h2, fun pos cv hc => ?_⟩
  obtain ⟨c, e1, e2⟩ := h3 pos cv hc
  exact ⟨c, e1, e _ _ e2 (fun z => by rw [z, hp] at e2; unfold LamX.CodeO at e2; cases e2)⟩
section
variable {P : Program} {w : World} {K : PySem.W.Frag} {mg : Str → Option Value} {base : Heap}
theorem scLaw : FnScope ["_law_script"] ["_law_script"] (defScope dLaw) := ⟨rfl, rfl, rfl, by decide +kernel, rfl, by decide +kernel, by decide +kernel⟩
theorem okLaw {f fL fK CE c1 c2 P1 P2 C0 C1 C2 C3 C4 C5 C6 C7 C8 C9 f0 f1 f2 f3 f4 f5 f6 f7 f8 f9 : Addr} {fd gL gK d0 d1 d2 d3 d4 d5 d6 d7 d8 d9 : FuncData} (F : At K mg "law" dLaw ["_law_script"] f fd) (T : Txt K mg) (DT : DicT K w mg) (T0 : ExcT K mg "InvalidWidth" "InvalidWidth.__init__" 2 C0 f0 d0) (T1 : ExcT K mg "InvalidKind" "InvalidKind.__init__" 3 C1 f1 d1) (T2 : ExcT K mg "InvalidBits" "InvalidBits.__init__" 4 C2 f2 d2) (T3 : ExcT K mg "InvalidBit" "InvalidBit.__init__" 5 C3 f3 d3) (T4 : ExcT K mg "InvalidName" "InvalidName.__init__" 6 C4 f4 d4) (T5 : ExcT K mg "InvalidNames" "InvalidNames.__init__" 7 C5 f5 d5) (T6 : ExcT K mg "InvalidLetter" "InvalidLetter.__init__" 8 C6 f6 d6) (T7 : ExcT K mg "InvalidWord" "InvalidWord.__init__" 9 C7 f7 d7) (T8 : ExcT K mg "InvalidState" "InvalidState.__init__" 10 C8 f8 d8) (T9 : ExcT K mg "InvalidFault" "InvalidFault.__init__" 11 C9 f9 d9)
    (TE : ErrT K mg [C0, C1, C2, C3, C4, C5, C6, C7, C8, C9] CE) (TH : HearT K mg C0 C1 C2 CE) (FL : At K mg "_law_letters_right" dLettersR [] fL gL) (hcL : gL.code = .ref c1) (FK : At K mg "_law_kinds_right" dKindsR [] fK gK) (hcK : gK.code = .ref c2) (hP : P1 ≠ P2) (B1 : LamX.TabB base mg c1 P1) (B2 : LamX.TabB base mg c2 P2) :
    Fn P w K mg base CX0 8 f fd ["_law_script"] (spLaw K (tabs P1 P2)) := by
  obtain ⟨fE, gE, FE⟩ := T.errorsR
  obtain ⟨fV, gV, FV⟩ := T.valuesR
  obtain ⟨fP, gP, FP⟩ := T.pot
  have GE : Fn P w K mg base CX0 7 fE gE [] spErrs := (Fn.of (okErrorsR FE T T0 T1 T2 T3 T4 T5 T6 T7 T8 T9 TE)).mono (by decide)
  have GV : Fn P w K mg base CX0 7 fV gV ["_law_pot_here"] spValuesR := (okValuesR FV T).mono (by decide)
  have GP : Fn P w K mg base CX0 7 fP gP ["_law_script", "_law_k"] (spPot K) := (okPot FP T).mono (by decide)
  have GL : Fn P w K mg base CX0 7 fL gL [] (spTabs (tabs P1 P2)) := (okLettersR FL T T0 TH B1 hcL hP).mono (by decide)
  have GK : Fn P w K mg base CX0 7 fK gK [] (spTabs (tabs P1 P2)) := okKindsR FK T DT T1 T2 TH B2 hcK hP
  refine okN F.fn scLaw (fun vs H Q E h => ?_) (fun cdv A outer s H vs Q E hr h => ?_)
  · obtain ⟨a, ns, rfl, _⟩ := h
    rfl
  · obtain ⟨a, ns, rfl, hs, hl, hT, k⟩ := h
    refine ⟨_, pss_cons (ps_if (pt_not (pt_val (pc0 GE hr (by rfl) FE.gl FE.fn.kp FE.bi .nil pass0))) (pss_one (ps_ret pe_bl)) pss_nil)
      (pss_one (ps_ret (pe_and (pc GV hr (by rfl) FV.gl FV.fn.kp FV.bi .nil pass0 (pa_cons (pc GP hr (by rfl) FP.gl FP.fn.kp FP.bi .nil pass0 (pa_cons (pv 0) (pa_cons pe_int pa_nil))) pa_nil))
        (pe_and (pc0 GL hr (by rfl) FL.gl FL.fn.kp FL.bi .nil pass0) (pe_one (pc0 GK hr (by rfl) FK.gl FK.fn.kp FK.bi .nil pass0)))))), ?_⟩
    refine ⟨rfl, fun H1 e1 => ⟨_, rfl, iteF ?_⟩⟩
    refine ⟨_, rfl, a, ns, rfl, ex_l e1 hs, hl, fun p H2 np e2 hp => ?_⟩
    refine ⟨p, rfl, hp, fun H3 e3 => ⟨_, rfl, iteT ?_⟩⟩
    have hT3 : LamX.Tabs (tabs P1 P2) H3 := tabs_but (hT.ext (e1.trans e2)) hp e3
    exact ⟨rfl, hT3, fun H4 hT4 => ⟨_, rfl, iteT ⟨rfl, hT4, fun H5 _ => k H5⟩⟩⟩
end
/-- a def whose code object is asked for -/
theorem at_mkC {K : PySem.W.Frag} {h : Heap} {mg : Str → Option Value} {x : Str} {de : Stmt} {ps : List Str} {f c : Addr} {oc kV doc pm ct : Value} {od an : Option Addr} {osl : Array (Option Value)} (X : K.In h) (G : h.Ns mainGlobals mg) (b : ∀ (kV doc pm : Value) (an : Option Addr) (cdv ct : Value) (us : List Value), us.length = ps.length → bindArgs (PySem.W.fnOf x x (defArgs de) (defBody de) (defScope de) .none kV doc pm an cdv ct) ⟨us, []⟩ = pure (ps.zip us))
    (a : PySem.W.nsIn K mainGlobals x = some (some (.ref f)))
    (l : K.lookup f = some ⟨oc, od, .func (PySem.W.fnOf x x (defArgs de) (defBody de) (defScope de) .none kV doc pm an (.ref c) ct), osl⟩) (cd : PySem.W.codeIn K (.ref c) x = true) (k : PySem.W.keepIn K (.ref f) = true) : ∃ f fd, At K mg x de ps f fd ∧ fd.code = .ref c := by
  have F := fun_mk (st := de) l cd k
  exact ⟨f, _, ⟨F, PySem.W.mg_of X G a, F.binds b⟩, rfl⟩
/-- a written tuple of ints -/
theorem isBits_mk {K : PySem.W.Frag} {a : Addr} {bs : List Int} {vs : List Value} {dd : Option Addr} {n : Nat} {sl : Array (Option Value)} (l : K.lookup a = some ⟨.type "tuple", dd, .seq vs.toArray n, sl⟩) (r : Vals (bs.map V.int) vs) (hz : bs.length ≤ 1000) : isBits K bs (.ref a) := by
  refine ⟨a, rfl, fun H => .inr ⟨_, vs.toArray, n, l, rfl, rfl, ?_, by simpa using r⟩⟩
  have e := r.length
  rw [List.length_map] at e
  rw [List.size_toArray, ← e]
  exact Nat.le_trans hz (by decide)
theorem exc_mkE {K : PySem.W.Frag} {h : Heap} {mg : Str → Option Value} {x qual : Str} {i : Nat} {C fI : Addr} {nm q : Str} {N : Addr} {bs bm : List Value} {sn : List Str} {sub : List Value} {ab : Bool} {col : Option Bool} {dd : Option Addr} {m0 m1 m2 m3 m5 : Option Value}
    {oc kV doc pm cdv ct : Value} {od an : Option Addr} {osl : Array (Option Value)} (X : K.In h) (G : h.Ns mainGlobals mg)
    (a : PySem.W.nsIn K mainGlobals x = some (some (.ref C)))
    (xL : K.lookup C = some (excClassObj nm q C N bs bm true sn sub ab col dd m0 m1 m2 m3 m5 "ValueError.__new__")) (hbm : PySem.HandSPX.refsVE bm = true)
    (sa : PySem.W.findIn K (.ref C) "__setattr__" = some (some (.builtin "object.__setattr__"))) (ga : PySem.W.findIn K (.ref C) "__getattribute__" = some (some (.builtin "BaseException.__getattribute__"))) (gg : PySem.W.findIn K (.ref C) "__getattr__" = some none) (nV : PySem.W.findIn K (.ref C) "value" = some none)
    (kC : PySem.W.keepIn K (.ref C) = true) (eC : PySem.W.subIn K (.ref C) (.type "BaseException") = some true) (tC : PySem.W.typeIn K (.ref C) = some (.type "type")) (hC : PySem.W.hasDictIn K C = true)
    (ca : PySem.W.findIn K (.ref C) "__class__" = some (some (.builtin "object.__class__"))) (cn : PySem.W.specialIn K (.builtin "object.__class__") "__get__" = some (some (.builtin "getset_descriptor.__get__"))) (ct' : PySem.W.takesIn K (.builtin "object.__class__") = some true) (cm : PySem.W.mroIn K C (.type "object") = some true)
    (a1 : PySem.W.findIn K (.ref C) "__init__" = some (some (.ref fI))) (t1 : PySem.W.typeIn K (.ref fI) = some (.type "function"))
    (l : K.lookup fI = some ⟨oc, od, .func (PySem.W.fnOf "__init__" qual (defArgs (inClass (top i) 0)) (defBody (inClass (top i) 0)) (defScope (inClass (top i) 0)) .none kV doc pm an cdv ct), osl⟩) (c : PySem.W.codeIn K cdv qual = true) (k : PySem.W.keepIn K (.ref fI) = true)
    (b : ∀ (kV doc pm : Value) (an : Option Addr) (cdv ct : Value) (us : List Value), us.length = ["self", "value"].length → bindArgs (PySem.W.fnOf "__init__" qual (defArgs (inClass (top i) 0)) (defBody (inClass (top i) 0)) (defScope (inClass (top i) 0)) .none kV doc pm an cdv ct) ⟨us, []⟩ = pure ((["self", "value"] : List Str).zip us)) :
    (∃ fI fd, ExcT K mg x qual i C fI fd) ∧ ExcC K C := by
  have F := fun_mk (st := inClass (top i) 0) l c k
  exact ⟨⟨fI, _, ⟨⟨nm, q, N, bs, bm, sn, sub, ab, col, dd, m0, m1, m2, m3, m5, xL, hbm⟩, sa, eC, tC, kC⟩, ⟨ga, gg, eC, hC⟩, PySem.W.mg_of X G a, a1, t1, F, F.binds b, nV⟩, ⟨ga, gg, eC, hC, ca, cn, ct', cm⟩⟩
/-- each class is one of itself alone, of WireError's and of ValueError's -/
def kitM (K : PySem.W.Frag) (Cs : List Addr) (CE : Addr) : Bool :=
  ((List.range 10).all fun i => (List.range 10).all fun j => match Cs[i]?, Cs[j]? with
    | some a, some b => decide (PySem.W.kitOne K (.ref a) (.ref b) = some (decide (i = j)))
    | _, _ => false) && Cs.all fun a => decide (PySem.W.kitOne K (.ref a) (.ref CE) = some true) && decide (PySem.W.kitOne K (.ref a) (.type "ValueError") = some true)
theorem err_mk {K : PySem.W.Frag} {mg : Str → Option Value} {Cs : List Addr} {CE : Addr} (g : mg "WireError" = some (.ref CE)) (l : Cs.length = 10) (x : ∀ C ∈ Cs, ExcC K C) (m : kitM K Cs CE = true) : ErrT K mg Cs CE := by
  obtain ⟨m1, m2⟩ := Bool.and_eq_true_iff.mp m
  have m2 := fun C (h : C ∈ Cs) => Bool.and_eq_true_iff.mp (List.all_eq_true.mp m2 C h)
  refine ⟨g, x, fun i j a b ha hb => ?_, fun C h => of_decide_eq_true (m2 C h).1, fun C h => of_decide_eq_true (m2 C h).2⟩
  have i10 : i < 10 := by rw [← l]; exact (List.getElem?_eq_some_iff.mp ha).1
  have j10 : j < 10 := by rw [← l]; exact (List.getElem?_eq_some_iff.mp hb).1
  have q := List.all_eq_true.mp (List.all_eq_true.mp m1 i (List.mem_range.mpr i10)) j (List.mem_range.mpr j10)
  rw [ha, hb] at q
  exact of_decide_eq_true q
theorem ExcT.exm {K : PySem.W.Frag} {mg : Str → Option Value} {x qual : Str} {i : Nat} {C fI : Addr} {fd : FuncData} (T : ExcT K mg x qual i C fI fd) {cls : Value} {b : Bool} (s : PySem.W.subIn K cls (.ref C) = some b) : PySem.W.exmOne K cls (.ref C) = some b := PySem.W.exm_ref T.oex.exC T.xf.hdC T.oex.tyC s
theorem facts {K : PySem.W.Frag} {h : Heap} {mg : Str → Option Value} {l : PySem.W.OpenLaw} {w : World} {fa : Addr} {CE dK dM c44 c47 P44 P47 C0 C1 C2 C3 C4 C5 C6 C7 C8 C9 : Addr} {cd44 cd47 : Option Addr} {cv44 cv47 : Array Value} {cl44 cl47 : Array (Option Value)} {eK eM : Array DictEntry} {nK nM : Nat} (X : K.In h) (G : h.Ns mainGlobals mg) (hfa : mg "law" = some (.ref fa))
    (A19 : ∃ f fd, At K mg "is_integer" (top 19) ["value"] f fd)
    (A20 : ∃ f fd, At K mg "is_count" (top 20) ["value"] f fd)
    (A21 : ∃ f fd, At K mg "is_bit" (top 21) ["value"] f fd)
    (A22 : ∃ f fd, At K mg "is_name" (top 22) ["value"] f fd)
    (A23 : ∃ f fd, At K mg "is_list" (top 23) ["value"] f fd)
    (A24 : ∃ f fd, At K mg "is_letter" (top 24) ["value", "width"] f fd)
    (A25 : ∃ f fd, At K mg "is_word" (top 25) ["value", "width"] f fd)
    (A26 : ∃ f fd, At K mg "is_kind" (top 26) ["value"] f fd)
    (A27 : ∃ f fd, At K mg "all_bits" (top 27) ["width"] f fd)
    (A28 : ∃ f fd, At K mg "letters" (top 28) ["width"] f fd)
    (A29 : ∃ f fd, At K mg "number_of" (top 29) ["bits"] f fd)
    (A30 : ∃ f fd, At K mg "bit_of" (top 30) ["kind", "bits"] f fd)
    (A31 : ∃ f fd, At K mg "says" (top 31) ["kind", "bits"] f fd)
    (A33 : ∃ f fd, At K mg "_law_pot" (top 33) ["_law_script", "_law_k"] f fd)
    (A34 : ∃ f fd, At K mg "_law_draw" (top 34) ["_law_pot_here", "_law_many"] f fd)
    (A35 : ∃ f fd, At K mg "_law_pick" (top 35) ["_law_pot_here", "_law_some"] f fd)
    (A37 : ∃ f fd, At K mg "_law_heard" (top 37) ["_law_call"] f fd)
    (A38 : ∃ f fd, At K mg "_law_is_name" (top 38) ["_law_thing"] f fd)
    (A39 : ∃ f fd, At K mg "_law_is_bit" (top 39) ["_law_thing"] f fd)
    (A40 : ∃ f fd, At K mg "_law_is_letter" (top 40) ["_law_thing", "_law_many"] f fd)
    (A41 : ∃ f fd, At K mg "_law_is_word" (top 41) ["_law_thing", "_law_many"] f fd)
    (A42 : ∃ f fd, At K mg "_law_values" (top 42) ["_law_pot_here"] f fd)
    (A43 : ∃ f fd, At K mg "_law_values_right" (top 43) ["_law_pot_here"] f fd)
    (A45 : ∃ f fd, At K mg "_law_longer" (top 45) ["_law_some"] f fd)
    (A46 : ∃ f fd, At K mg "_law_said_by" (top 46) ["_law_sort", "_law_row"] f fd)
    (A48 : ∃ f fd, At K mg "_law_errors_right" (top 48) [] f fd)
    (A49 : ∃ f fd, At K mg "law" (top 49) ["_law_script"] f fd)
    (A44 : ∃ f fd, At K mg "_law_letters_right" (top 44) [] f fd ∧ fd.code = .ref c44)
    (K44 : K.lookup c44 = some ⟨.type "code", cd44, .fields cv44, cl44⟩)
    (V44 : cv44[11]? = some (.ref P44))
    (D44 : PySem.W.codeHdIn K c44 P44 = true)
    (L44 : K.lookup P44 = none)
    (H44 : h.get? P44 = some { cls := .none, data := .fields #[] })
    (A47 : ∃ f fd, At K mg "_law_kinds_right" (top 47) [] f fd ∧ fd.code = .ref c47)
    (K47 : K.lookup c47 = some ⟨.type "code", cd47, .fields cv47, cl47⟩)
    (V47 : cv47[11]? = some (.ref P47))
    (D47 : PySem.W.codeHdIn K c47 P47 = true)
    (L47 : K.lookup P47 = none)
    (H47 : h.get? P47 = some { cls := .none, data := .fields #[] })
    (hP : P44 ≠ P47)
    (N_isinstance : mg "isinstance" = none)
    (N_int : mg "int" = none)
    (N_bool : mg "bool" = none)
    (N_str : mg "str" = none)
    (N_list : mg "list" = none)
    (N_tuple : mg "tuple" = none)
    (N_len : mg "len" = none)
    (N_all : mg "all" = none)
    (N_abs : mg "abs" = none)
    (N_max : mg "max" = none)
    (N_divmod : mg "divmod" = none)
    (N_range : mg "range" = none)
    (N_repr : mg "repr" = none)
    (N_sum : mg "sum" = none)
    (N_dict : mg "dict" = none)
    (N_ValueError : mg "ValueError" = none)
    (N_SMALL : ∃ t, mg "SMALL" = some (.str "abcdefghijklmnopqrstuvwxyz" t))
    (N_DIGITS : ∃ t, mg "DIGITS" = some (.str "0123456789" t))
    (N_LONGEST_NAME : ∃ t, mg "LONGEST_NAME" = some (.int 12 t))
    (N_GREATEST_WIDTH : ∃ t, mg "GREATEST_WIDTH" = some (.int 8 t))
    (aE : PySem.W.nsIn K mainGlobals "WireError" = some (some (.ref CE)))
    (a0 : PySem.W.nsIn K mainGlobals "InvalidWidth" = some (some (.ref C0)))
    (X0 : (∃ fI fd, ExcT K mg "InvalidWidth" "InvalidWidth.__init__" 2 C0 fI fd) ∧ ExcC K C0)
    (a1 : PySem.W.nsIn K mainGlobals "InvalidKind" = some (some (.ref C1)))
    (X1 : (∃ fI fd, ExcT K mg "InvalidKind" "InvalidKind.__init__" 3 C1 fI fd) ∧ ExcC K C1)
    (a2 : PySem.W.nsIn K mainGlobals "InvalidBits" = some (some (.ref C2)))
    (X2 : (∃ fI fd, ExcT K mg "InvalidBits" "InvalidBits.__init__" 4 C2 fI fd) ∧ ExcC K C2)
    (a3 : PySem.W.nsIn K mainGlobals "InvalidBit" = some (some (.ref C3)))
    (X3 : (∃ fI fd, ExcT K mg "InvalidBit" "InvalidBit.__init__" 5 C3 fI fd) ∧ ExcC K C3)
    (a4 : PySem.W.nsIn K mainGlobals "InvalidName" = some (some (.ref C4)))
    (X4 : (∃ fI fd, ExcT K mg "InvalidName" "InvalidName.__init__" 6 C4 fI fd) ∧ ExcC K C4)
    (a5 : PySem.W.nsIn K mainGlobals "InvalidNames" = some (some (.ref C5)))
    (X5 : (∃ fI fd, ExcT K mg "InvalidNames" "InvalidNames.__init__" 7 C5 fI fd) ∧ ExcC K C5)
    (a6 : PySem.W.nsIn K mainGlobals "InvalidLetter" = some (some (.ref C6)))
    (X6 : (∃ fI fd, ExcT K mg "InvalidLetter" "InvalidLetter.__init__" 8 C6 fI fd) ∧ ExcC K C6)
    (a7 : PySem.W.nsIn K mainGlobals "InvalidWord" = some (some (.ref C7)))
    (X7 : (∃ fI fd, ExcT K mg "InvalidWord" "InvalidWord.__init__" 9 C7 fI fd) ∧ ExcC K C7)
    (a8 : PySem.W.nsIn K mainGlobals "InvalidState" = some (some (.ref C8)))
    (X8 : (∃ fI fd, ExcT K mg "InvalidState" "InvalidState.__init__" 10 C8 fI fd) ∧ ExcC K C8)
    (a9 : PySem.W.nsIn K mainGlobals "InvalidFault" = some (some (.ref C9)))
    (X9 : (∃ fI fd, ExcT K mg "InvalidFault" "InvalidFault.__init__" 11 C9 fI fd) ∧ ExcC K C9)
    (M : kitM K [C0, C1, C2, C3, C4, C5, C6, C7, C8, C9] CE = true)
    (S00 : PySem.W.subIn K (.ref C0) (.ref C0) = some true)
    (S11 : PySem.W.subIn K (.ref C1) (.ref C1) = some true)
    (S22 : PySem.W.subIn K (.ref C2) (.ref C2) = some true)
    (S10 : PySem.W.subIn K (.ref C1) (.ref C0) = some false)
    (S20 : PySem.W.subIn K (.ref C2) (.ref C0) = some false)
    (S21 : PySem.W.subIn K (.ref C2) (.ref C1) = some false)
    (aK : PySem.W.nsIn K mainGlobals "KINDS" = some (some (.ref dK)))
    (lK : K.lookup dK = some ⟨.type "dict", none, .dict eK nK, #[]⟩)
    (yK : PySem.W.KeysLit w.params eK.toList)
    (rK : KEs isInt eK.toList kindsL)
    (sK : (dK == sysModules) = false)
    (aM : PySem.W.nsIn K mainGlobals "MADE" = some (some (.ref dM)))
    (lM : K.lookup dM = some ⟨.type "dict", none, .dict eM nM, #[]⟩)
    (yM : PySem.W.KeysLit w.params eM.toList)
    (rM : KEs (isBits K) eM.toList madeL)
    (sM : (dM == sysModules) = false) : LawAt l w K 8 63 "_law_script" mg fa h := by
  obtain ⟨⟨fI0, d0, T0⟩, Y0⟩ := X0
  obtain ⟨⟨fI1, d1, T1⟩, Y1⟩ := X1
  obtain ⟨⟨fI2, d2, T2⟩, Y2⟩ := X2
  obtain ⟨⟨fI3, d3, T3⟩, Y3⟩ := X3
  obtain ⟨⟨fI4, d4, T4⟩, Y4⟩ := X4
  obtain ⟨⟨fI5, d5, T5⟩, Y5⟩ := X5
  obtain ⟨⟨fI6, d6, T6⟩, Y6⟩ := X6
  obtain ⟨⟨fI7, d7, T7⟩, Y7⟩ := X7
  obtain ⟨⟨fI8, d8, T8⟩, Y8⟩ := X8
  obtain ⟨⟨fI9, d9, T9⟩, Y9⟩ := X9
  obtain ⟨fL, gL, FL, hcL⟩ := A44
  obtain ⟨fK, gK, FK, hcK⟩ := A47
  obtain ⟨f, fd, F⟩ := A49
  have e := hfa.symm.trans F.gl
  cases e
  have bl : ∀ (s : Shared) (u : Value), BindsTo s fd ⟨[u], []⟩ [("_law_script", u)] := by
    obtain ⟨oc, od, kV, doc, pm, an, cdv, ct, osl, rfl, _, _⟩ := F.fn.ex
    exact fun s u => .of_eq rfl
  have gE := PySem.W.mg_of X G aE
  have T : Txt K mg := { integer := A19, count := A20, bit := A21, name := A22, lst := A23, letter := A24, word := A25, kind := A26, allBits := A27, letters := A28, numberOf := A29, bitOf := A30, says := A31, pot := A33, draw := A34, pick := A35, heard := A37, lName := A38, lBit := A39, lLetter := A40, lWord := A41, values := A42, valuesR := A43, longer := A45, saidBy := A46, errorsR := A48, isinstance := N_isinstance, int := N_int, bool := N_bool, str := N_str, list := N_list, tuple := N_tuple, len := N_len, all := N_all, abs := N_abs, max := N_max, divmod := N_divmod, range := N_range, repr := N_repr, sum := N_sum, dict := N_dict, valueError := N_ValueError, small := N_SMALL, digits := N_DIGITS, longest := N_LONGEST_NAME, greatest := N_GREATEST_WIDTH, lettersR := ⟨fL, gL, FL⟩, kindsR := ⟨fK, gK, FK⟩ }
  have DT : DicT K w mg := ⟨⟨dK, eK, nK, PySem.W.mg_of X G aK, ⟨lK, yK, sK⟩, rK⟩, ⟨dM, eM, nM, PySem.W.mg_of X G aM, ⟨lM, yM, sM⟩, rM⟩⟩
  have TE : ErrT K mg [C0, C1, C2, C3, C4, C5, C6, C7, C8, C9] CE := err_mk gE rfl (fun C hC => by
    simp only [List.mem_cons, List.not_mem_nil, or_false] at hC
    rcases hC with rfl | rfl | rfl | rfl | rfl | rfl | rfl | rfl | rfl | rfl
    · exact Y0
    · exact Y1
    · exact Y2
    · exact Y3
    · exact Y4
    · exact Y5
    · exact Y6
    · exact Y7
    · exact Y8
    · exact Y9) M
  have TH : HearT K mg C0 C1 C2 CE := ⟨⟨T0.gl, T0.xf, Y0, T0.noV, T0.exm S00, TE.isE _ (by simp), TE.isV _ (by simp)⟩, ⟨T1.gl, T1.xf, Y1, T1.noV, T1.exm S11, TE.isE _ (by simp), TE.isV _ (by simp)⟩, ⟨T2.gl, T2.xf, Y2, T2.noV, T2.exm S22, TE.isE _ (by simp), TE.isV _ (by simp)⟩, gE, T0.exm S10, T0.exm S20, T1.exm S21⟩
  refine ⟨fd, [(c44, P44), (c47, P47)], spLaw K (tabs P44 P47), fun p hp => ?_, fun p hp => ?_, fun p hp => ?_, fun s u => ?_, fun H a ns hl _ ht hs => ?_, fun ba kb gb tb => ?_⟩
  · simp only [List.mem_cons, List.not_mem_nil, or_false] at hp
    rcases hp with rfl | rfl
    · exact H44
    · exact H47
  · simp only [List.mem_cons, List.not_mem_nil, or_false] at hp
    rcases hp with rfl | rfl
    · exact L44
    · exact L47
  · simp only [List.mem_cons, List.not_mem_nil, or_false] at hp
    rcases hp with rfl | rfl
    · exact PySem.W.codeHd_of_K X D44
    · exact PySem.W.codeHd_of_K X D47
  · exact bl s u
  · refine ⟨a, ns, rfl, hs, by omega, fun p hp => ?_, fun _ => rfl⟩
    simp only [tabs, List.mem_cons, List.not_mem_nil, or_false] at hp
    rcases hp with rfl | rfl
    · exact .nil (ht (c44, P44) (by simp))
    · exact .nil (ht (c47, P47) (by simp))
  · exact okLaw F T DT T0 T1 T2 T3 T4 T5 T6 T7 T8 T9 TE TH FL hcL FK hcK hP (tb (c44, P44) (by simp)) (tb (c47, P47) (by simp))
end W

set_option Elab.async false
set_option linter.all false
open PySem PySem.W PyProof.Rows
set_option maxRecDepth 100000 in
set_option maxHeartbeats 0 in
theorem PySem.Challenge.cw_wirewords_k10_bits_names_letters_and_kin_holds : PySem.Challenge.rw_wirewords_k10_bits_names_letters_and_kin.Holds := by
  w_on; o_law; k_head; (case hw => w_witness2)
  k_fill
  refine G.walk (l := PySem.Challenge.rw_wirewords_k10_bits_names_letters_and_kin) (most := 63) (n := 8) (x := "_law_script") rfl (by decide) rfl ⟨rfl, by decide, by decide⟩ (fun w h Y => km_in_of Y) ?F
  case F =>
    intro w mg fa h Y KX G hmg
    refine' W.facts KX G hmg ?z_A19 ?z_A20 ?z_A21 ?z_A22 ?z_A23 ?z_A24 ?z_A25 ?z_A26 ?z_A27 ?z_A28 ?z_A29 ?z_A30 ?z_A31 ?z_A33 ?z_A34 ?z_A35 ?z_A37 ?z_A38 ?z_A39 ?z_A40 ?z_A41 ?z_A42 ?z_A43 ?z_A45 ?z_A46 ?z_A48 ?z_A49 ?z_A44 ?z_K44 ?z_V44 ?z_D44 ?z_L44 ?z_H44 ?z_A47 ?z_K47 ?z_V47 ?z_D47 ?z_L47 ?z_H47 ?z_hP ?z_N_isinstance ?z_N_int ?z_N_bool ?z_N_str ?z_N_list ?z_N_tuple ?z_N_len ?z_N_all ?z_N_abs ?z_N_max ?z_N_divmod ?z_N_range ?z_N_repr ?z_N_sum ?z_N_dict ?z_N_ValueError ?z_N_SMALL ?z_N_DIGITS ?z_N_LONGEST_NAME ?z_N_GREATEST_WIDTH ?z_aE ?z_a0 ?z_X0 ?z_a1 ?z_X1 ?z_a2 ?z_X2 ?z_a3 ?z_X3 ?z_a4 ?z_X4 ?z_a5 ?z_X5 ?z_a6 ?z_X6 ?z_a7 ?z_X7 ?z_a8 ?z_X8 ?z_a9 ?z_X9 ?z_M ?z_S00 ?z_S11 ?z_S22 ?z_S10 ?z_S20 ?z_S21 ?z_aK ?z_lK ?z_yK ?z_rK ?z_sK ?z_aM ?z_lM ?z_yM ?z_rM ?z_sM
    case z_A19 =>
      refine' W.at_mk KX G (fun _ _ _ _ _ _ us hl => match us, hl with | [_], _ => rfl) ?a ?l ?c ?k
      (case a => k_is); (case l => k_is); (case c => k_is); (case k => k_is)
    case z_A20 =>
      refine' W.at_mk KX G (fun _ _ _ _ _ _ us hl => match us, hl with | [_], _ => rfl) ?a ?l ?c ?k
      (case a => k_is); (case l => k_is); (case c => k_is); (case k => k_is)
    case z_A21 =>
      refine' W.at_mk KX G (fun _ _ _ _ _ _ us hl => match us, hl with | [_], _ => rfl) ?a ?l ?c ?k
      (case a => k_is); (case l => k_is); (case c => k_is); (case k => k_is)
    case z_A22 =>
      refine' W.at_mk KX G (fun _ _ _ _ _ _ us hl => match us, hl with | [_], _ => rfl) ?a ?l ?c ?k
      (case a => k_is); (case l => k_is); (case c => k_is); (case k => k_is)
    case z_A23 =>
      refine' W.at_mk KX G (fun _ _ _ _ _ _ us hl => match us, hl with | [_], _ => rfl) ?a ?l ?c ?k
      (case a => k_is); (case l => k_is); (case c => k_is); (case k => k_is)
    case z_A24 =>
      refine' W.at_mk KX G (fun _ _ _ _ _ _ us hl => match us, hl with | [_, _], _ => rfl) ?a ?l ?c ?k
      (case a => k_is); (case l => k_is); (case c => k_is); (case k => k_is)
    case z_A25 =>
      refine' W.at_mk KX G (fun _ _ _ _ _ _ us hl => match us, hl with | [_, _], _ => rfl) ?a ?l ?c ?k
      (case a => k_is); (case l => k_is); (case c => k_is); (case k => k_is)
    case z_A26 =>
      refine' W.at_mk KX G (fun _ _ _ _ _ _ us hl => match us, hl with | [_], _ => rfl) ?a ?l ?c ?k
      (case a => k_is); (case l => k_is); (case c => k_is); (case k => k_is)
    case z_A27 =>
      refine' W.at_mk KX G (fun _ _ _ _ _ _ us hl => match us, hl with | [_], _ => rfl) ?a ?l ?c ?k
      (case a => k_is); (case l => k_is); (case c => k_is); (case k => k_is)
    case z_A28 =>
      refine' W.at_mk KX G (fun _ _ _ _ _ _ us hl => match us, hl with | [_], _ => rfl) ?a ?l ?c ?k
      (case a => k_is); (case l => k_is); (case c => k_is); (case k => k_is)
    case z_A29 =>
      refine' W.at_mk KX G (fun _ _ _ _ _ _ us hl => match us, hl with | [_], _ => rfl) ?a ?l ?c ?k
      (case a => k_is); (case l => k_is); (case c => k_is); (case k => k_is)
    case z_A30 =>
      refine' W.at_mk KX G (fun _ _ _ _ _ _ us hl => match us, hl with | [_, _], _ => rfl) ?a ?l ?c ?k
      (case a => k_is); (case l => k_is); (case c => k_is); (case k => k_is)
    case z_A31 =>
      refine' W.at_mk KX G (fun _ _ _ _ _ _ us hl => match us, hl with | [_, _], _ => rfl) ?a ?l ?c ?k
      (case a => k_is); (case l => k_is); (case c => k_is); (case k => k_is)
    case z_A33 =>
      refine' W.at_mk KX G (fun _ _ _ _ _ _ us hl => match us, hl with | [_, _], _ => rfl) ?a ?l ?c ?k
      (case a => k_is); (case l => k_is); (case c => k_is); (case k => k_is)
    case z_A34 =>
      refine' W.at_mk KX G (fun _ _ _ _ _ _ us hl => match us, hl with | [_, _], _ => rfl) ?a ?l ?c ?k
      (case a => k_is); (case l => k_is); (case c => k_is); (case k => k_is)
    case z_A35 =>
      refine' W.at_mk KX G (fun _ _ _ _ _ _ us hl => match us, hl with | [_, _], _ => rfl) ?a ?l ?c ?k
      (case a => k_is); (case l => k_is); (case c => k_is); (case k => k_is)
    case z_A37 =>
      refine' W.at_mk KX G (fun _ _ _ _ _ _ us hl => match us, hl with | [_], _ => rfl) ?a ?l ?c ?k
      (case a => k_is); (case l => k_is); (case c => k_is); (case k => k_is)
    case z_A38 =>
      refine' W.at_mk KX G (fun _ _ _ _ _ _ us hl => match us, hl with | [_], _ => rfl) ?a ?l ?c ?k
      (case a => k_is); (case l => k_is); (case c => k_is); (case k => k_is)
    case z_A39 =>
      refine' W.at_mk KX G (fun _ _ _ _ _ _ us hl => match us, hl with | [_], _ => rfl) ?a ?l ?c ?k
      (case a => k_is); (case l => k_is); (case c => k_is); (case k => k_is)
    case z_A40 =>
      refine' W.at_mk KX G (fun _ _ _ _ _ _ us hl => match us, hl with | [_, _], _ => rfl) ?a ?l ?c ?k
      (case a => k_is); (case l => k_is); (case c => k_is); (case k => k_is)
    case z_A41 =>
      refine' W.at_mk KX G (fun _ _ _ _ _ _ us hl => match us, hl with | [_, _], _ => rfl) ?a ?l ?c ?k
      (case a => k_is); (case l => k_is); (case c => k_is); (case k => k_is)
    case z_A42 =>
      refine' W.at_mk KX G (fun _ _ _ _ _ _ us hl => match us, hl with | [_], _ => rfl) ?a ?l ?c ?k
      (case a => k_is); (case l => k_is); (case c => k_is); (case k => k_is)
    case z_A43 =>
      refine' W.at_mk KX G (fun _ _ _ _ _ _ us hl => match us, hl with | [_], _ => rfl) ?a ?l ?c ?k
      (case a => k_is); (case l => k_is); (case c => k_is); (case k => k_is)
    case z_A45 =>
      refine' W.at_mk KX G (fun _ _ _ _ _ _ us hl => match us, hl with | [_], _ => rfl) ?a ?l ?c ?k
      (case a => k_is); (case l => k_is); (case c => k_is); (case k => k_is)
    case z_A46 =>
      refine' W.at_mk KX G (fun _ _ _ _ _ _ us hl => match us, hl with | [_, _], _ => rfl) ?a ?l ?c ?k
      (case a => k_is); (case l => k_is); (case c => k_is); (case k => k_is)
    case z_A48 =>
      refine' W.at_mk KX G (fun _ _ _ _ _ _ us hl => match us, hl with | [], _ => rfl) ?a ?l ?c ?k
      (case a => k_is); (case l => k_is); (case c => k_is); (case k => k_is)
    case z_A49 =>
      refine' W.at_mk KX G (fun _ _ _ _ _ _ us hl => match us, hl with | [_], _ => rfl) ?a ?l ?c ?k
      (case a => k_is); (case l => k_is); (case c => k_is); (case k => k_is)
    case z_A44 =>
      refine' W.at_mkC KX G (fun _ _ _ _ _ _ us hl => match us, hl with | [], _ => rfl) ?a ?l ?c ?k
      (case a => k_is); (case l => k_is); (case c => k_is); (case k => k_is)
    case z_K44 => k_is
    case z_V44 => rfl
    case z_D44 => kernel_rfl
    case z_L44 => first | k_is | rfl | kernel_rfl
    case z_H44 => exact km_tabs_of Y _ (by decide)
    case z_A47 =>
      refine' W.at_mkC KX G (fun _ _ _ _ _ _ us hl => match us, hl with | [], _ => rfl) ?a ?l ?c ?k
      (case a => k_is); (case l => k_is); (case c => k_is); (case k => k_is)
    case z_K47 => k_is
    case z_V47 => rfl
    case z_D47 => kernel_rfl
    case z_L47 => first | k_is | rfl | kernel_rfl
    case z_H47 => exact km_tabs_of Y _ (by decide)
    case z_hP => decide
    case z_N_isinstance =>
      refine' W.none_mk KX G ?a
      (case a => k_is)
    case z_N_int =>
      refine' W.none_mk KX G ?a
      (case a => k_is)
    case z_N_bool =>
      refine' W.none_mk KX G ?a
      (case a => k_is)
    case z_N_str =>
      refine' W.none_mk KX G ?a
      (case a => k_is)
    case z_N_list =>
      refine' W.none_mk KX G ?a
      (case a => k_is)
    case z_N_tuple =>
      refine' W.none_mk KX G ?a
      (case a => k_is)
    case z_N_len =>
      refine' W.none_mk KX G ?a
      (case a => k_is)
    case z_N_all =>
      refine' W.none_mk KX G ?a
      (case a => k_is)
    case z_N_abs =>
      refine' W.none_mk KX G ?a
      (case a => k_is)
    case z_N_max =>
      refine' W.none_mk KX G ?a
      (case a => k_is)
    case z_N_divmod =>
      refine' W.none_mk KX G ?a
      (case a => k_is)
    case z_N_range =>
      refine' W.none_mk KX G ?a
      (case a => k_is)
    case z_N_repr =>
      refine' W.none_mk KX G ?a
      (case a => k_is)
    case z_N_sum =>
      refine' W.none_mk KX G ?a
      (case a => k_is)
    case z_N_dict =>
      refine' W.none_mk KX G ?a
      (case a => k_is)
    case z_N_ValueError =>
      refine' W.none_mk KX G ?a
      (case a => k_is)
    case z_N_SMALL =>
      refine' W.str_mk KX G ?a
      (case a => k_is)
    case z_N_DIGITS =>
      refine' W.str_mk KX G ?a
      (case a => k_is)
    case z_N_LONGEST_NAME =>
      refine' W.int_mk KX G ?a
      (case a => k_is)
    case z_N_GREATEST_WIDTH =>
      refine' W.int_mk KX G ?a
      (case a => k_is)
    case z_aE => k_is
    case z_a0 => k_is
    case z_X0 =>
      refine' W.exc_mkE KX G ?a ?xL ?hbm ?sa ?ga ?gg ?nV ?kC ?eC ?tC ?hC ?ca ?cn ?ct ?cm ?a1 ?t1 ?l ?c ?k (fun _ _ _ _ _ _ us hl => match us, hl with | [_, _], _ => rfl)
      (case a => k_is); (case xL => k_is); (case hbm => decide +kernel); (case sa => k_is); (case ga => k_is); (case gg => k_is); (case nV => k_is); (case kC => k_is); (case eC => k_is); (case tC => k_is); (case hC => k_is); (case ca => k_is); (case cn => k_is); (case ct => k_is); (case cm => k_is)
      (case a1 => k_is); (case t1 => k_is); (case l => k_is); (case c => k_is); (case k => k_is)
    case z_a1 => k_is
    case z_X1 =>
      refine' W.exc_mkE KX G ?a ?xL ?hbm ?sa ?ga ?gg ?nV ?kC ?eC ?tC ?hC ?ca ?cn ?ct ?cm ?a1 ?t1 ?l ?c ?k (fun _ _ _ _ _ _ us hl => match us, hl with | [_, _], _ => rfl)
      (case a => k_is); (case xL => k_is); (case hbm => decide +kernel); (case sa => k_is); (case ga => k_is); (case gg => k_is); (case nV => k_is); (case kC => k_is); (case eC => k_is); (case tC => k_is); (case hC => k_is); (case ca => k_is); (case cn => k_is); (case ct => k_is); (case cm => k_is)
      (case a1 => k_is); (case t1 => k_is); (case l => k_is); (case c => k_is); (case k => k_is)
    case z_a2 => k_is
    case z_X2 =>
      refine' W.exc_mkE KX G ?a ?xL ?hbm ?sa ?ga ?gg ?nV ?kC ?eC ?tC ?hC ?ca ?cn ?ct ?cm ?a1 ?t1 ?l ?c ?k (fun _ _ _ _ _ _ us hl => match us, hl with | [_, _], _ => rfl)
      (case a => k_is); (case xL => k_is); (case hbm => decide +kernel); (case sa => k_is); (case ga => k_is); (case gg => k_is); (case nV => k_is); (case kC => k_is); (case eC => k_is); (case tC => k_is); (case hC => k_is); (case ca => k_is); (case cn => k_is); (case ct => k_is); (case cm => k_is)
      (case a1 => k_is); (case t1 => k_is); (case l => k_is); (case c => k_is); (case k => k_is)
    case z_a3 => k_is
    case z_X3 =>
      refine' W.exc_mkE KX G ?a ?xL ?hbm ?sa ?ga ?gg ?nV ?kC ?eC ?tC ?hC ?ca ?cn ?ct ?cm ?a1 ?t1 ?l ?c ?k (fun _ _ _ _ _ _ us hl => match us, hl with | [_, _], _ => rfl)
      (case a => k_is); (case xL => k_is); (case hbm => decide +kernel); (case sa => k_is); (case ga => k_is); (case gg => k_is); (case nV => k_is); (case kC => k_is); (case eC => k_is); (case tC => k_is); (case hC => k_is); (case ca => k_is); (case cn => k_is); (case ct => k_is); (case cm => k_is)
      (case a1 => k_is); (case t1 => k_is); (case l => k_is); (case c => k_is); (case k => k_is)
    case z_a4 => k_is
    case z_X4 =>
      refine' W.exc_mkE KX G ?a ?xL ?hbm ?sa ?ga ?gg ?nV ?kC ?eC ?tC ?hC ?ca ?cn ?ct ?cm ?a1 ?t1 ?l ?c ?k (fun _ _ _ _ _ _ us hl => match us, hl with | [_, _], _ => rfl)
      (case a => k_is); (case xL => k_is); (case hbm => decide +kernel); (case sa => k_is); (case ga => k_is); (case gg => k_is); (case nV => k_is); (case kC => k_is); (case eC => k_is); (case tC => k_is); (case hC => k_is); (case ca => k_is); (case cn => k_is); (case ct => k_is); (case cm => k_is)
      (case a1 => k_is); (case t1 => k_is); (case l => k_is); (case c => k_is); (case k => k_is)
    case z_a5 => k_is
    case z_X5 =>
      refine' W.exc_mkE KX G ?a ?xL ?hbm ?sa ?ga ?gg ?nV ?kC ?eC ?tC ?hC ?ca ?cn ?ct ?cm ?a1 ?t1 ?l ?c ?k (fun _ _ _ _ _ _ us hl => match us, hl with | [_, _], _ => rfl)
      (case a => k_is); (case xL => k_is); (case hbm => decide +kernel); (case sa => k_is); (case ga => k_is); (case gg => k_is); (case nV => k_is); (case kC => k_is); (case eC => k_is); (case tC => k_is); (case hC => k_is); (case ca => k_is); (case cn => k_is); (case ct => k_is); (case cm => k_is)
      (case a1 => k_is); (case t1 => k_is); (case l => k_is); (case c => k_is); (case k => k_is)
    case z_a6 => k_is
    case z_X6 =>
      refine' W.exc_mkE KX G ?a ?xL ?hbm ?sa ?ga ?gg ?nV ?kC ?eC ?tC ?hC ?ca ?cn ?ct ?cm ?a1 ?t1 ?l ?c ?k (fun _ _ _ _ _ _ us hl => match us, hl with | [_, _], _ => rfl)
      (case a => k_is); (case xL => k_is); (case hbm => decide +kernel); (case sa => k_is); (case ga => k_is); (case gg => k_is); (case nV => k_is); (case kC => k_is); (case eC => k_is); (case tC => k_is); (case hC => k_is); (case ca => k_is); (case cn => k_is); (case ct => k_is); (case cm => k_is)
      (case a1 => k_is); (case t1 => k_is); (case l => k_is); (case c => k_is); (case k => k_is)
    case z_a7 => k_is
    case z_X7 =>
      refine' W.exc_mkE KX G ?a ?xL ?hbm ?sa ?ga ?gg ?nV ?kC ?eC ?tC ?hC ?ca ?cn ?ct ?cm ?a1 ?t1 ?l ?c ?k (fun _ _ _ _ _ _ us hl => match us, hl with | [_, _], _ => rfl)
      (case a => k_is); (case xL => k_is); (case hbm => decide +kernel); (case sa => k_is); (case ga => k_is); (case gg => k_is); (case nV => k_is); (case kC => k_is); (case eC => k_is); (case tC => k_is); (case hC => k_is); (case ca => k_is); (case cn => k_is); (case ct => k_is); (case cm => k_is)
      (case a1 => k_is); (case t1 => k_is); (case l => k_is); (case c => k_is); (case k => k_is)
    case z_a8 => k_is
    case z_X8 =>
      refine' W.exc_mkE KX G ?a ?xL ?hbm ?sa ?ga ?gg ?nV ?kC ?eC ?tC ?hC ?ca ?cn ?ct ?cm ?a1 ?t1 ?l ?c ?k (fun _ _ _ _ _ _ us hl => match us, hl with | [_, _], _ => rfl)
      (case a => k_is); (case xL => k_is); (case hbm => decide +kernel); (case sa => k_is); (case ga => k_is); (case gg => k_is); (case nV => k_is); (case kC => k_is); (case eC => k_is); (case tC => k_is); (case hC => k_is); (case ca => k_is); (case cn => k_is); (case ct => k_is); (case cm => k_is)
      (case a1 => k_is); (case t1 => k_is); (case l => k_is); (case c => k_is); (case k => k_is)
    case z_a9 => k_is
    case z_X9 =>
      refine' W.exc_mkE KX G ?a ?xL ?hbm ?sa ?ga ?gg ?nV ?kC ?eC ?tC ?hC ?ca ?cn ?ct ?cm ?a1 ?t1 ?l ?c ?k (fun _ _ _ _ _ _ us hl => match us, hl with | [_, _], _ => rfl)
      (case a => k_is); (case xL => k_is); (case hbm => decide +kernel); (case sa => k_is); (case ga => k_is); (case gg => k_is); (case nV => k_is); (case kC => k_is); (case eC => k_is); (case tC => k_is); (case hC => k_is); (case ca => k_is); (case cn => k_is); (case ct => k_is); (case cm => k_is)
      (case a1 => k_is); (case t1 => k_is); (case l => k_is); (case c => k_is); (case k => k_is)
    case z_M => kernel_rfl
    case z_S00 => k_is
    case z_S11 => k_is
    case z_S22 => k_is
    case z_S10 => k_is
    case z_S20 => k_is
    case z_S21 => k_is
    case z_aK => k_is
    case z_lK => k_is
    case z_yK => k_keys
    case z_rK => exact .cons ⟨_, rfl⟩ ⟨_, rfl⟩ (.cons ⟨_, rfl⟩ ⟨_, rfl⟩ (.cons ⟨_, rfl⟩ ⟨_, rfl⟩ (.cons ⟨_, rfl⟩ ⟨_, rfl⟩ (.cons ⟨_, rfl⟩ ⟨_, rfl⟩ (.cons ⟨_, rfl⟩ ⟨_, rfl⟩ (.cons ⟨_, rfl⟩ ⟨_, rfl⟩ .nil))))))
    case z_sK => decide
    case z_aM => k_is
    case z_lM => k_is
    case z_yM => k_keys
    case z_rM => exact (.cons ⟨_, rfl⟩ (W.isBits_mk (by k_is) (by first | exact .nil | exact .cons ⟨_, rfl⟩ .nil | exact .cons ⟨_, rfl⟩ (.cons ⟨_, rfl⟩ .nil) | exact .cons ⟨_, rfl⟩ (.cons ⟨_, rfl⟩ (.cons ⟨_, rfl⟩ (.cons ⟨_, rfl⟩ .nil))) | exact .cons ⟨_, rfl⟩ (.cons ⟨_, rfl⟩ (.cons ⟨_, rfl⟩ (.cons ⟨_, rfl⟩ (.cons ⟨_, rfl⟩ (.cons ⟨_, rfl⟩ (.cons ⟨_, rfl⟩ (.cons ⟨_, rfl⟩ .nil))))))) ) (by decide)) (.cons ⟨_, rfl⟩ (W.isBits_mk (by k_is) (by first | exact .nil | exact .cons ⟨_, rfl⟩ .nil | exact .cons ⟨_, rfl⟩ (.cons ⟨_, rfl⟩ .nil) | exact .cons ⟨_, rfl⟩ (.cons ⟨_, rfl⟩ (.cons ⟨_, rfl⟩ (.cons ⟨_, rfl⟩ .nil))) | exact .cons ⟨_, rfl⟩ (.cons ⟨_, rfl⟩ (.cons ⟨_, rfl⟩ (.cons ⟨_, rfl⟩ (.cons ⟨_, rfl⟩ (.cons ⟨_, rfl⟩ (.cons ⟨_, rfl⟩ (.cons ⟨_, rfl⟩ .nil))))))) ) (by decide)) (.cons ⟨_, rfl⟩ (W.isBits_mk (by k_is) (by first | exact .nil | exact .cons ⟨_, rfl⟩ .nil | exact .cons ⟨_, rfl⟩ (.cons ⟨_, rfl⟩ .nil) | exact .cons ⟨_, rfl⟩ (.cons ⟨_, rfl⟩ (.cons ⟨_, rfl⟩ (.cons ⟨_, rfl⟩ .nil))) | exact .cons ⟨_, rfl⟩ (.cons ⟨_, rfl⟩ (.cons ⟨_, rfl⟩ (.cons ⟨_, rfl⟩ (.cons ⟨_, rfl⟩ (.cons ⟨_, rfl⟩ (.cons ⟨_, rfl⟩ (.cons ⟨_, rfl⟩ .nil))))))) ) (by decide)) (.cons ⟨_, rfl⟩ (W.isBits_mk (by k_is) (by first | exact .nil | exact .cons ⟨_, rfl⟩ .nil | exact .cons ⟨_, rfl⟩ (.cons ⟨_, rfl⟩ .nil) | exact .cons ⟨_, rfl⟩ (.cons ⟨_, rfl⟩ (.cons ⟨_, rfl⟩ (.cons ⟨_, rfl⟩ .nil))) | exact .cons ⟨_, rfl⟩ (.cons ⟨_, rfl⟩ (.cons ⟨_, rfl⟩ (.cons ⟨_, rfl⟩ (.cons ⟨_, rfl⟩ (.cons ⟨_, rfl⟩ (.cons ⟨_, rfl⟩ (.cons ⟨_, rfl⟩ .nil))))))) ) (by decide)) (.cons ⟨_, rfl⟩ (W.isBits_mk (by k_is) (by first | exact .nil | exact .cons ⟨_, rfl⟩ .nil | exact .cons ⟨_, rfl⟩ (.cons ⟨_, rfl⟩ .nil) | exact .cons ⟨_, rfl⟩ (.cons ⟨_, rfl⟩ (.cons ⟨_, rfl⟩ (.cons ⟨_, rfl⟩ .nil))) | exact .cons ⟨_, rfl⟩ (.cons ⟨_, rfl⟩ (.cons ⟨_, rfl⟩ (.cons ⟨_, rfl⟩ (.cons ⟨_, rfl⟩ (.cons ⟨_, rfl⟩ (.cons ⟨_, rfl⟩ (.cons ⟨_, rfl⟩ .nil))))))) ) (by decide)) (.cons ⟨_, rfl⟩ (W.isBits_mk (by k_is) (by first | exact .nil | exact .cons ⟨_, rfl⟩ .nil | exact .cons ⟨_, rfl⟩ (.cons ⟨_, rfl⟩ .nil) | exact .cons ⟨_, rfl⟩ (.cons ⟨_, rfl⟩ (.cons ⟨_, rfl⟩ (.cons ⟨_, rfl⟩ .nil))) | exact .cons ⟨_, rfl⟩ (.cons ⟨_, rfl⟩ (.cons ⟨_, rfl⟩ (.cons ⟨_, rfl⟩ (.cons ⟨_, rfl⟩ (.cons ⟨_, rfl⟩ (.cons ⟨_, rfl⟩ (.cons ⟨_, rfl⟩ .nil))))))) ) (by decide)) (.cons ⟨_, rfl⟩ (W.isBits_mk (by k_is) (by first | exact .nil | exact .cons ⟨_, rfl⟩ .nil | exact .cons ⟨_, rfl⟩ (.cons ⟨_, rfl⟩ .nil) | exact .cons ⟨_, rfl⟩ (.cons ⟨_, rfl⟩ (.cons ⟨_, rfl⟩ (.cons ⟨_, rfl⟩ .nil))) | exact .cons ⟨_, rfl⟩ (.cons ⟨_, rfl⟩ (.cons ⟨_, rfl⟩ (.cons ⟨_, rfl⟩ (.cons ⟨_, rfl⟩ (.cons ⟨_, rfl⟩ (.cons ⟨_, rfl⟩ (.cons ⟨_, rfl⟩ .nil))))))) ) (by decide)) .nil)))))))
    case z_sM => decide

