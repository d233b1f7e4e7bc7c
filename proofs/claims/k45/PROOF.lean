import PyProof.Rows.All
import Wide.All
import OpenK.AllK
import Wide.FinOn
import HandS.Ends
import HandS.Lambda
import KE.KNestM
import KE.OsRunLaw
import HandS.Head2
import PySem.Challenge.RW_wirewords_k45_relations_and_partings_jud
import HandS.ForMost
import HandS.Exc
import HandS.ExcOwn
import HandS.TryOnly
import HandS.TryMany
import HandS.ExcInit
import HandS.WordsExc
import HandS.IsInst
import HandS.Walk
import HandS.Evl
import HandS.OwnEq
import PyProof.Rows.PlainNe
import OpenK.KWalk
import HandS.ClsMeth
import HandS.Property
import HandS.TupMul
import HandS.TupAny
import HandS.ExcField
import HandS.ExcIs
import KE.SortData
import PyProof.WalkLemmas
import HandS.Set
import HandS.SetBool
import HandS.More
import OpenK.KMeth
import HandS.DictComp
import HandS.Zip
import HandS.ListItems
import KE.KDictZip
import KE.KDictItemsList
import KE.KItemsList
import OpenK.KOps
import HandS.SetKeys
import HandS.Conv
import HandS.Deep
import HandS.Nested
import KE.GoesMore
import KE.KDictPairs
import PyProof.Rows.TupDisplay
import HandS.Style
import HandS.EndTab
import HandS.Words
set_option Elab.async false
set_option linter.all false
set_option maxRecDepth 100000
section
set_option maxHeartbeats 0
namespace W
def loose0 : List PySem.Str := ["_wall", "__name__", "WireError", "StateError", "LimitError", "InvalidWidth", "InvalidWord", "InvalidRows", "OtherWidths", "TooMany", "is_integer", "is_count", "is_bit", "is_list", "is_letter", "is_word", "all_bits", "number_of"]
def loose1 : List PySem.Str := ["GREATEST_SMALL_WIDTH", "check_small_width", "check_number", "unlike_rows", "is_closed", "is_goal", "check_machine_rows", "Machine", "check_widths", "pair_moves", "is_state", "is_relation", "is_parting", "_law_pot", "_law_draw", "_law_pick", "_law_machine", "_law_letters"]
def loose2 : List PySem.Str := ["_law_played", "_law_word", "_law_met", "_law_begun", "_law_made", "_law_pairs", "_law_doubled", "_law_bent", "_law_mate", "_law_is_pair", "_law_is_relation", "_law_is_letter", "_law_is_parting", "_law_things", "_law_words", "_law_right"]
def looseH : List PySem.Str := loose0 ++ loose1 ++ loose2
end W
namespace W
def asH0 : List PySem.Addr := [2, 3, 15, 17, 18, 20, 21, 22, 29, 30, 31, 32, 35, 42, 43, 44, 45, 48, 55, 56, 57, 58, 61, 68, 70, 71, 73, 74, 75, 76, 77, 80, 87, 89, 90, 92, 93, 94, 95, 96, 99, 106, 108, 109, 111, 112, 113, 114, 115, 118, 125, 127, 128, 130, 131, 132, 133, 134, 137, 144]
def asH1 : List PySem.Addr := [146, 147, 149, 150, 151, 152, 153, 156, 158, 159, 161, 162, 163, 165, 166, 168, 169, 170, 172, 173, 175, 176, 177, 179, 180, 182, 183, 184, 187, 188, 189, 192, 193, 194, 197, 198, 199, 201, 202, 204, 205, 206, 208, 209, 211, 212, 213, 215, 216, 218, 219, 220, 222, 223, 225, 226, 227, 229, 230, 232]
def asH2 : List PySem.Addr := [233, 234, 236, 237, 239, 240, 241, 244, 245, 253, 256, 257, 258, 260, 261, 263, 264, 265, 266, 267, 268, 270, 271, 273, 274, 275, 276, 278, 279, 281, 282, 283, 284, 286, 287, 289, 290, 291, 294, 295, 296, 298, 299, 301, 302, 303, 305, 306, 308, 309, 310, 313, 314, 315, 317, 318, 320, 321, 322, 324]
def asH3 : List PySem.Addr := [325, 327, 328, 329, 331, 332, 334, 335, 336, 338, 339, 341, 342, 343, 345, 346, 348, 349, 350, 352, 353, 355, 356, 357, 359, 360, 362, 363, 364, 365, 366, 367, 368, 371, 373, 374, 376, 377, 378, 380, 381, 383, 384, 385, 387, 388, 390, 391, 392, 394, 395, 397, 398, 399, 401, 402, 404, 405, 406, 408]
def asH4 : List PySem.Addr := [409, 411, 412, 413, 415, 416, 418, 419, 420, 422, 423, 425, 426, 427, 430, 431, 432, 434, 435, 437, 438, 439, 441, 442, 444, 445, 446, 449, 450, 463, 465, 466, 468, 469, 470, 472, 473, 475, 476, 477, 480, 481, 482, 485, 486, 487, 489, 490, 492, 493, 494, 497, 498, 499, 502, 503, 504, 507, 508, 509]
def asH5 : List PySem.Addr := [512, 513, 514, 517, 518, 519, 522, 523, 524, 526, 527, 529, 530, 531, 534, 535]
def asH : List PySem.Addr := asH0 ++ (asH1 ++ (asH2 ++ (asH3 ++ (asH4 ++ (asH5)))))
def tsH : List PySem.Addr := [379, 393]
abbrev rowH : PySem.W.OpenRow := PySem.W.OpenLaw.row PySem.Challenge.rw_wirewords_k45_relations_and_partings_jud
abbrev qH : PySem.Program := PySem.W.view rowH.prog [58]
end W
section
open PySem PySem.W PySem.Calls PyProof.Rows
local macro_rules | `(tactic| o_head $H) => `(tactic| (have hk := congrArg Hook.says (Eq.refl $H); assumption))
theorem W.headT (h : W.rowH.Holds) : W.rowH.Holds := by
  k_head
theorem W.ekH : ∀ P, W.asH = (W.headT.heap_1 P).map (·.1) := fun _ => by kernel_rfl
noncomputable abbrev W.hookH : Hook := kmHook W.headT.heap_1 W.asH W.ekH W.tsH
def W.RunH (w : World) : Prop := (HeadRun.wholeF (fun p => HeadRun.stepQ (HeadRun.denQ HeadRun.tabQ) p w) HeadRun.fenceQ 14000 W.rowH.prog).map (fun x => (HeadRun.looksF W.rowH.prog x.1.heap x.2.abs, HeadRun.seenQ W.qH W.looseH (importedModules W.rowH.prog.main.body) (fun s => xlAt W.qH [] s && recOk W.rowH.records s) x.2.abs, (W.asH.map (HeadRun.getT x.2), W.tsH.map (HeadRun.getT x.2)))) = some (true, openGood W.qH W.looseH, ((W.headT.heap_1 w.params).map fun x => some x.2, W.tsH.map fun _ => some (tabObj #[])))
theorem W.run0 (w : World) : W.RunH (w.withFollow "special-get-raises" false) := by
  unfold W.RunH
  kernel_rfl
theorem W.run1 (w : World) : W.RunH (w.withFollow "special-get-raises" true) := by
  unfold W.RunH
  kernel_rfl
/-- the run tells what the Hook asks of the objects and of the tables -/
theorem W.leftH : LeftO W.rowH.prog W.qH W.looseH (fun s => xlAt W.qH [] s && recOk W.rowH.records s) (Hook.obs W.hookH) (Hook.val W.hookH) 14000 true :=
  HeadRun.left_imp fun w => by
    have told : W.RunH w := byRow2 "special-get-raises" W.run0 W.run1 w
    unfold W.RunH at told
    have same : (fun x : Shared × SharedT => (HeadRun.looksF W.rowH.prog x.1.heap x.2.abs, HeadRun.seenQ W.qH W.looseH (importedModules W.rowH.prog.main.body) (fun s => xlAt W.qH [] s && recOk W.rowH.records s) x.2.abs, (W.asH.map (HeadRun.getT x.2), W.tsH.map (HeadRun.getT x.2)))) = fun x => (HeadRun.looksF W.rowH.prog x.1.heap x.2.abs, HeadRun.seenQ W.qH W.looseH (importedModules W.rowH.prog.main.body) (fun s => xlAt W.qH [] s && recOk W.rowH.records s) x.2.abs, Hook.obs W.hookH x.2.abs) := by
      funext x
      have g : ∀ l : List Addr, l.map (HeadRun.getT x.2) = l.map x.2.abs.heap.get? := fun l => List.map_congr_left fun a _ => HeadRun.getT_eq x.2 a
      rw [g W.asH, g W.tsH]
      rfl
    rw [same] at told
    rw [HeadRun.wholeQ_eq]
    simp only [HeadRun.seenQ_eq]
    exact told
theorem W.holdsH (hp : W.rowH.prog.theDef W.rowH.name = some ((HandSHeadRun.topDef W.rowH.prog 58).params, (HandSHeadRun.topDef W.rowH.prog 58).body, (HandSHeadRun.topDef W.rowH.prog 58).scope)) (said : W.rowH.wellSaid = true) (hw : W.rowH.toRowW.promised)
    (hc : WalkO W.qH W.looseH (XL W.qH []) W.hookH.says W.rowH.toRowW (HandSHeadRun.topDef W.rowH.prog 58) [] fun f vs => PySem.call f vs) : W.rowH.Holds :=
  holds_open (r := W.rowH) (q := W.qH) (loose := W.looseH) (Xt := fun s => xlAt W.qH [] s && recOk W.rowH.records s) (XP := XL W.qH []) (d := HandSHeadRun.topDef W.rowH.prog 58) (kwd := []) W.leftH (Hook.of _) (Hook.keeps _) (fun s e => xl_of s (Bool.and_eq_true_iff.mp e).1) XL.keeps (by kernel_rfl) hp (by kernel_rfl)
    (fun s e => recFacts_of (Bool.and_eq_true_iff.mp e).2) (by rfl) said (by decide +kernel) ⟨rfl, rfl, rfl, rfl, rfl, by decide +kernel⟩ hw hc
end

end

set_option Elab.async false
set_option linter.all false
set_option maxRecDepth 100000
set_option maxHeartbeats 4000000
/-! A def's promise where no repr is under way: what the callers' stack tells of guards is carried with the room. -/
namespace G
open PySem PySem.Spec PyProof.Rows L2

/-- room for n calls, and no repr under way -/
structure Rm (n : Nat) (B : Around) : Prop where
  rm : Room n B
  gd : B.guards = some []
theorem Rm.mono {i n : Nat} {B : Around} (q : Rm n B) (h : i ≤ n) : Rm i B := ⟨q.rm.mono h, q.gd⟩
theorem Rm.deeper {n : Nat} {B : Around} (q : Rm (n + 1) B) (env : Env) : Rm n (B.deeper env) := ⟨q.rm.deeper env, q.gd⟩

/-- the def at fa keeps its promise wherever no repr is under way -/
structure Fn (pr : Program) (wo : World) (KK : PySem.W.Frag) (mm : Str → Option Value) (ba : Heap) (CC : CXT) (n : Nat) (fa : Addr) (fd : FuncData) (pars : List Str) (pro : Sp) : Prop where
  ar : ∀ xs HH QQ EE, pro xs HH QQ EE → xs.length = pars.length
  go : ∀ (B : Around) (out : List Env) (st : Shared) (HH : Hp) (gs : Args) (ys : List Value) (xs : List V) (QQ : VK) (EE : XK), Rm n B → Env0 pr wo KK mm ba B out st HH → BindsTo st fd gs (pars.zip ys) → Vals xs ys → pro xs HH QQ EE →
    codeAny (model pr wo) B (.call (.ref fa) gs) (CR CC out pr wo HH st QQ EE) st
section
variable {pr : Program} {wo : World} {KK : PySem.W.Frag} {mm : Str → Option Value} {ba : Heap} {CC : CXT} {i n : Nat} {fa : Addr} {fd : FuncData} {pars : List Str} {pro : Sp}
theorem Fn.mono (F : Fn pr wo KK mm ba CC i fa fd pars pro) (h : i ≤ n) : Fn pr wo KK mm ba CC n fa fd pars pro :=
  ⟨F.ar, fun B out st HH gs ys xs QQ EE q => F.go B out st HH gs ys xs QQ EE (q.mono h)⟩
/-- one of the layer's own promises -/
theorem Fn.of (F : FnOk pr wo KK mm ba CC n fa fd pars pro) : Fn pr wo KK mm ba CC n fa fd pars pro :=
  ⟨F.len, fun B out st HH gs ys xs QQ EE q => F.run B out st HH gs ys xs QQ EE q.rm⟩
theorem ok {x qual : Str} {de : Stmt} {NN : List Str} (F : Fun KK x qual de fa fd) (S : FnScope NN pars (defScope de)) (ar : ∀ xs HH QQ EE, pro xs HH QQ EE → xs.length = pars.length)
    (body : ∀ (cdv : Value) (B : Around) (out : List Env) (st : Shared) (HH : Hp) (xs : List V) (QQ : VK) (EE : XK), Rm n (B.deeper (envOfC qual (defScope de) st.heap.objs.size fa cdv)) → pro xs HH QQ EE →
      ∃ t, PSs (cxOf CC pr wo KK mm ba NN qual (defScope de) fa cdv B out st HH EE) (defBody de) t ∧ t { nx := fun _ H' => QQ .non H', rt := QQ } (L2.start NN xs) HH) : Fn pr wo KK mm ba CC (n + 1) fa fd pars pro := by
  obtain ⟨oc, od, kV, doc, pm, an, cdv, ct, osl, rfl, lk, hcd⟩ := F.ex
  refine ⟨ar, fun B out st HH gs ys xs QQ EE q e0 hb r hp => ?_⟩
  exact LamX.run_ofS lk hcd S q.rm e0 hb r (ar _ _ _ _ hp) fun _ => body cdv B out st HH xs QQ EE (q.deeper _) hp
/-- nothing leaves it by an exception -/
theorem okN {x qual : Str} {de : Stmt} {NN : List Str} (F : Fun KK x qual de fa fd) (S : FnScope NN pars (defScope de)) (ar : ∀ xs HH QQ EE, pro xs HH QQ EE → xs.length = pars.length)
    (body : ∀ (cdv : Value) (B : Around) (out : List Env) (st : Shared) (HH : Hp) (xs : List V) (QQ : VK) (EE : XK), Rm n (B.deeper (envOfC qual (defScope de) st.heap.objs.size fa cdv)) → pro xs HH QQ EE →
      ∃ t, PSs (cxOf CX0 pr wo KK mm ba NN qual (defScope de) fa cdv B out st HH EE).nox (defBody de) t ∧ t { nx := fun _ H' => QQ .non H', rt := QQ } (L2.start NN xs) HH) : Fn pr wo KK mm ba CX0 (n + 1) fa fd pars pro :=
  ok F S ar fun cdv B out st HH xs QQ EE q hp => by
    obtain ⟨t, a, b⟩ := body cdv B out st HH xs QQ EE q hp
    exact ⟨t, a.nox, b⟩
end

section
variable {X : Cx} {CC : CXT} {n : Nat} {fa : Addr} {fd : FuncData} {pars kw : List Str} {pro : Sp} {dv : List V} {du : List Value} {EE : XK} {x : Str} {p q0 : Pos} {e1 : Expr} {er : List Expr} {ta tk : TA} {kws : List Keyword}
  {gU : List Value → List Value → List Value} {gW : List V → List V → List V}
/-- what a call's end gives the caller -/
theorem ended {pins : List (Addr × Obj)} {σ : L2.St} {HH : Hp} {st : Shared} {QQ : VK} {c : Code} (I : Inv X pins σ HH st) (hx : Passes CC X EE)
    (rc : codeAny (model X.prog X.w) X.A c (CR CC X.stack X.prog X.w HH st QQ EE) st) :
    codeAny (model X.prog X.w) X.A c (fun r s' => match r with
      | .ok (.ret u) => EP X pins σ QQ u s'
      | .ok _ => False
      | .error e => X.xe e s') st := codeAny_mono rc fun r s' hq => by
  match r, hq with
  | .error e, hq => exact hx pins σ HH st e s' I hq
  | .ok (.ret u), hq => exact I.after hq
  | .ok .next, hq => exact hq.elim
  | .ok .brk, hq => exact hq.elim
  | .ok .cont, hq => exact hq.elim
theorem run {pins : List (Addr × Obj)} {σ : L2.St} {HH : Hp} {st : Shared} {QQ : VK} {ys : List Value} {xs : List V} (F : Fn X.prog X.w X.K X.mg X.base CC n fa fd pars pro) (q : Rm n X.A) (hb : Binds X.K fd pars du) (hd : Vals dv du) (hx : Passes CC X EE)
    (I : Inv X pins σ HH st) (r : Vals xs ys) (h : pro (xs ++ dv) HH QQ EE) : wpAny (model X.prog X.w) X.A (call (.ref fa) ys) (EP X pins σ QQ) X.xe st := by
  have both : Vals (xs ++ dv) (ys ++ du) := r.append hd
  have many : (ys ++ du).length = pars.length := both.length.symm.trans (F.ar _ _ _ _ h)
  refine wpAny_call (codeAny_mono (ended I hx (F.go X.A X.stack st HH ⟨ys, []⟩ (ys ++ du) (xs ++ dv) QQ EE q I.env0 (hb st ys I.kIn many) both h)) fun r s' w => ?_)
  match r, w with
  | .error e, w => exact w
  | .ok (.ret u), w => exact w
  | .ok .next, w => exact w.elim
  | .ok .brk, w => exact w.elim
  | .ok .cont, w => exact w.elim
/-- f(a, ..) -/
theorem pc (F : Fn X.prog X.w X.K X.mg X.base CC n fa fd pars pro) (q : Rm n X.A) (hg : Gl X x) (hm : X.mg x = some (.ref fa)) (hk : PySem.W.keepIn X.K (.ref fa) = true) (hb : Binds X.K fd pars du) (hd : Vals dv du) (hx : Passes CC X EE)
    (ha : PA X (e1 :: er) ta) (hdb : (x == ("__debug__" : Str)) = false := by decide) (hs : starEach (e1 :: er) X.env = (false, eval e1 X.env) :: starEach er X.env := by rfl)
    (hp : (backTo q0 (starEach er X.env)).any (·.1) = false := by rfl) : PE X (.Call (.Name x p) (e1 :: er) [] q0) (tCall pro dv EE ta) :=
  ⟨fun pins st σ HH QQ I h => wpAny_Call_Name_kw (ld_glob I hg hm (PySem.W.callWith_K (h₀ := X.base) I.ok.mod.kin hk
    (thn (ha.run q0 pins st σ HH _ I h) fun _ _ ⟨_, _, I1, r, w⟩ => ⟨I1.kIn, run F q hb hd hx I1 r w⟩) hs hp) hdb)⟩
/-- f() -/
theorem pc0 (F : Fn X.prog X.w X.K X.mg X.base CC n fa fd pars pro) (q : Rm n X.A) (hg : Gl X x) (hm : X.mg x = some (.ref fa)) (hk : PySem.W.keepIn X.K (.ref fa) = true) (hb : Binds X.K fd pars du) (hd : Vals dv du) (hx : Passes CC X EE)
    (hdb : (x == ("__debug__" : Str)) = false := by decide) : PE X (.Call (.Name x p) [] [] q0) (tCall pro dv EE tNil) :=
  ⟨fun pins st σ HH QQ I h => wpAny_Call_Name_kw (ld_glob I hg hm (PySem.W.callWith_K0 I.kIn hk (run (ys := []) F q hb hd hx I .nil h)) hdb)⟩
theorem runK {pins : List (Addr × Obj)} {σ : L2.St} {HH : Hp} {st : Shared} {QQ : VK} {ys zs : List Value} {xs ws : List V} (F : Fn X.prog X.w X.K X.mg X.base CC n fa fd pars pro) (q : Rm n X.A) (hb : KBinds X.K fd pars kw gU gW) (hx : Passes CC X EE)
    (I : Inv X pins σ HH st) (r : Vals xs ys) (r2 : Vals ws zs) (h : pro (gW xs ws) HH QQ EE) : wpAny (model X.prog X.w) X.A (call (.ref fa) ys (kw.zip zs)) (EP X pins σ QQ) X.xe st := by
  have both := hb.rel r r2
  have many : (gU ys zs).length = pars.length := both.length.symm.trans (F.ar _ _ _ _ h)
  refine wpAny_call (codeAny_mono (ended I hx (F.go X.A X.stack st HH ⟨ys, kw.zip zs⟩ (gU ys zs) (gW xs ws) QQ EE q I.env0 (hb.to st ys zs I.kIn many) both h)) fun r s' w => ?_)
  match r, w with
  | .error e, w => exact w
  | .ok (.ret u), w => exact w
  | .ok .next, w => exact w.elim
  | .ok .brk, w => exact w.elim
  | .ok .cont, w => exact w.elim
/-- f(a, .., k = b, ..) -/
theorem pcK (F : Fn X.prog X.w X.K X.mg X.base CC n fa fd pars pro) (q : Rm n X.A) (hg : Gl X x) (hm : X.mg x = some (.ref fa)) (hk : PySem.W.keepIn X.K (.ref fa) = true) (hb : KBinds X.K fd pars kw gU gW) (hx : Passes CC X EE)
    (ha : PA X (e1 :: er) ta) (hkw : PK X kws tk) (h1 : (backToKw q0 (keywordEach kws X.env)).all (·.1.isSome) = true := by rfl) (h2 : (backToKw q0 (keywordEach kws X.env)).filterMap (·.1) = kw := by rfl)
    (hdb : (x == ("__debug__" : Str)) = false := by decide) (hs : starEach (e1 :: er) X.env = (false, eval e1 X.env) :: starEach er X.env := by rfl)
    (h3 : ((backTo q0 (starEach (e1 :: er) X.env)).any (·.1) || (backToKw q0 (keywordEach kws X.env)).any (·.1.isNone)) = false := by rfl) :
    PE X (.Call (.Name x p) (e1 :: er) kws q0) (tCallK pro gW EE ta tk) := by
  refine ⟨fun pins st σ HH QQ I h => wpAny_Call_Name_kw (ld_glob I hg hm ?_ hdb)⟩
  refine PySem.W.callWith_KW (h₀ := X.base) I.ok.mod.kin hk h1 (thn (ha.run q0 pins st σ HH _ I h) fun _ s1 ⟨_, H1, I1, r, w⟩ => ?_) h3 hs
  refine thn (hkw.run q0 pins s1 σ H1 _ I1 w) fun _ _ ⟨_, _, I2, r2, w2⟩ => ⟨I2.kIn, ?_⟩
  rw [h2]
  exact runK F q hb hx I2 r r2 w2
/-- f(k = b, ..) -/
theorem pcK0 (F : Fn X.prog X.w X.K X.mg X.base CC n fa fd pars pro) (q : Rm n X.A) (hg : Gl X x) (hm : X.mg x = some (.ref fa)) (hk : PySem.W.keepIn X.K (.ref fa) = true) (hb : KBinds X.K fd pars kw gU gW) (hx : Passes CC X EE)
    (hkw : PK X kws tk) (h1 : (backToKw q0 (keywordEach kws X.env)).all (·.1.isSome) = true := by rfl) (h2 : (backToKw q0 (keywordEach kws X.env)).filterMap (·.1) = kw := by rfl)
    (hdb : (x == ("__debug__" : Str)) = false := by decide) (h3 : (backToKw q0 (keywordEach kws X.env)).any (·.1.isNone) = false := by rfl) :
    PE X (.Call (.Name x p) [] kws q0) (tCallK pro gW EE tNil tk) := by
  refine ⟨fun pins st σ HH QQ I h => wpAny_Call_Name_kw (ld_glob I hg hm ?_ hdb)⟩
  refine PySem.W.callWith_KW0 (h₀ := X.base) I.ok.mod.kin hk h1 ?_ h3
  refine thn (hkw.run q0 pins st σ HH _ I h) fun _ _ ⟨_, _, I2, r2, w2⟩ => ⟨I2.kIn, ?_⟩
  rw [h2]
  exact runK F q hb hx I2 .nil r2 w2
end
end G

set_option Elab.async false
set_option linter.all false
set_option maxRecDepth 100000
set_option maxHeartbeats 4000000
/-! Data: what a value is, its repr, its type. -/
namespace G
open PySem PySem.Spec PyProof.Rows L2 Evl

theorem showsz {d : PyData} (h : d.shown.length ≤ 100000) : d.shown.length ≤ sizeLine := Nat.le_trans h (by decide)

/-- repr(x), x a datum without dicts -/
def rRp (K : PySem.W.Frag) : List V → Hp → VK → Prop := fun xs H Q => ∃ x d, xs = [x] ∧ Dp K H x d ∧ d.showable = true ∧ d.hasDict = false ∧ d.depth ≤ 40 ∧ d.shown.length ≤ 100000 ∧ Q (.str d.shown) H
theorem call_rp {X : Cx} {n : Nat} (q : Rm n X.A) : CallR X (.builtin "repr") (rRp X.K) := by
  intro pins s σ H xs us Q I r h
  obtain ⟨x, d, rfl, hd, h1, h2, h3, h4, k⟩ := h
  obtain ⟨u, rfl, rx⟩ : ∃ u, us = [u] ∧ RelV x u := by
    cases r with
    | cons a b => cases b; exact ⟨_, rfl, a⟩
  have hz := showsz h4
  have hu := q.rm.units
  cases hd with
  | non =>
    cases (show u = Value.none from rx)
    exact P.repr_of_none ⟨.str _, H, I.tok _, ⟨_, rfl⟩, k⟩
  | bl b =>
    cases (show u = Value.bool b from rx)
    refine P.repr_of_bool ⟨.str _, H, I.tok _, ⟨_, rfl⟩, ?_⟩
    cases b <;> exact k
  | int i =>
    obtain ⟨t, rfl⟩ := (show ∃ t, u = Value.int i t from rx)
    exact P.repr_of_int (by simpa [PyData.showable] using h1) ⟨.str _, H, I.tok _, ⟨_, rfl⟩, k⟩
  | str z =>
    obtain ⟨t, rfl⟩ := (show ∃ t, u = Value.str z t from rx)
    exact P.repr_of_str ⟨.str _, H, I.tok _, ⟨_, rfl⟩, k⟩ hz
  | @lst a ys ds hs ha =>
    cases (show u = Value.ref a from rx)
    obtain ⟨as, rd⟩ := Dp.reads I (.list ds) (.ref a) (.ref a) (.lst hs ha) rfl
    exact repr_of_reads' rd h1 (PyData.noDict_hsm h2) q.gd (by omega) (fun _ _ e => e) (fun h' w tk kp => ⟨.str _, H, I.kept kp, ⟨_, rfl⟩, k⟩) hz
  | @tup a ys ds hs ha =>
    cases (show u = Value.ref a from rx)
    obtain ⟨as, rd⟩ := Dp.reads I (.tuple ds) (.ref a) (.ref a) (.tup hs ha) rfl
    exact repr_of_reads' rd h1 (PyData.noDict_hsm h2) q.gd (by omega) (fun _ _ e => e) (fun h' w tk kp => ⟨.str _, H, I.kept kp, ⟨_, rfl⟩, k⟩) hz

/-! ### a dict of scalars -/
def scD : V → Option PyData
  | .non => some .none
  | .bl b => some (.bool b)
  | .int i => some (.int i)
  | .str x => some (.str x)
  | _ => none
def keyD : Key → PyData
  | .inl i => .int i
  | .inr x => .str x
/-- the data of a dict's pairs -/
inductive Kd : List (Key × V) → List (PyData × PyData) → Prop
  | nil : Kd [] []
  | cons {k : Key} {v : V} {d : PyData} {r : List (Key × V)} {ds : List (PyData × PyData)} : scD v = some d → Kd r ds → Kd ((k, v) :: r) ((keyD k, d) :: ds)
theorem scD_reads {v : V} {u : Value} {d : PyData} {h : Heap} (e : scD v = some d) (r : RelV v u) : Reads h u d [] := by
  cases v <;> simp only [scD, Option.some.injEq, reduceCtorEq] at e
  · subst e; cases (show u = Value.none from r); exact .none
  · subst e; cases (show u = Value.bool _ from r); exact .bool _
  · subst e; obtain ⟨t, rfl⟩ := (show ∃ t, u = Value.int _ t from r); exact .int _ _
  · subst e; obtain ⟨t, rfl⟩ := (show ∃ t, u = Value.str _ t from r); exact .str _ _
theorem keyD_reads {k : Key} {u : Value} {h : Heap} (e : keyIs k u = true) : Reads h u (keyD k) [] := by
  rcases keyIs_shape e with ⟨i, t, rfl, rfl⟩ | ⟨x, t, rfl, rfl⟩
  · exact .int _ _
  · exact .str _ _
theorem Kd.reads {pr : Program} {w : World} {h : Heap} : ∀ {kvs : List (Key × V)} {ds : List (PyData × PyData)} {vs : List (Key × Value)} {es : List DictEntry}, Kd kvs ds → KV kvs vs → Pairs (mixKind pr w) es vs →
    ReadsAll h (es.map (·.key)) (ds.map (·.1)) [] ∧ ReadsAll h (es.map (·.val)) (ds.map (·.2)) []
  | _, _, _, _, .nil, r, p => by
    cases r
    cases p
    exact ⟨.nil, .nil⟩
  | _, _, _, _, .cons e k, r, p => by
    cases r with
    | cons r1 r2 =>
      cases p with
      | cons p1 p2 p3 =>
        obtain ⟨a, b⟩ := Kd.reads k r2 p3
        have r0 : RelV _ _ := r1.2
        refine ⟨?_, ?_⟩
        · have q : keyIs _ _ = true := p1
          rw [← r1.1] at q
          exact ReadsAll.cons (as := []) (bs := []) (keyD_reads q) a
        · rw [← p2] at r0
          exact ReadsAll.cons (as := []) (bs := []) (scD_reads e r0) b
/-- repr(d) -/
def rRpD : List V → Hp → VK → Prop := fun xs H Q => ∃ a kvs ds, xs = [.ref a] ∧ Rd H a (.dK kvs) ∧ Kd kvs ds ∧ (PyData.dict ds).showable = true ∧ (PyData.dict ds).depth ≤ 40 ∧ (PyData.dict ds).shown.length ≤ 100000 ∧ Q (.str (PyData.dict ds).shown) H
theorem call_rpD {X : Cx} {n : Nat} (q : Rm n X.A) : CallR X (.builtin "repr") rRpD := by
  intro pins s σ H xs us Q I r h
  obtain ⟨a, kvs, ds, rfl, hd, hk, h1, h3, h4, k⟩ := h
  obtain ⟨u, rfl, rx⟩ : ∃ u, us = [u] ∧ RelV (.ref a) u := by
    cases r with
    | cons a b => cases b; exact ⟨_, rfl, a⟩
  have hz := showsz h4
  have hu := q.rm.units
  cases (show u = Value.ref a from rx)
  obtain ⟨_, hs, vs, rv, o, es, ep, e1, e2, e3, _, e5, _⟩ := (show ObjOk X.prog X.w H s.heap a (.dK kvs) from hd.ok I.hok)
  obtain ⟨r1, r2⟩ := Kd.reads (h := s.heap) hk rv e5
  have rd : Reads s.heap (.ref a) (.dict ds) (a :: [] ++ []) := .dict e1 e2.1 e3 r1 r2
  have nsm : (PyData.dict ds).hasDict = true → sysModules ∉ a :: [] ++ [] := fun _ z => by
    have e : sysModules = a := by simpa using z
    rw [← e] at hs
    simp at hs
  exact repr_of_reads' rd h1 nsm q.gd (by omega) (fun _ _ e => e) (fun h' w tk kp => ⟨.str _, H, I.kept kp, ⟨_, rfl⟩, k⟩) hz

/-! ### data as a whole: what Dp tells, or a dict of scalars -/
inductive Dd (K : PySem.W.Frag) (H : Hp) : V → PyData → Prop
  | dp {x : V} {d : PyData} (h : Dp K H x d) : Dd K H x d
  | dk {a : Addr} {kvs : List (Key × V)} {ds : List (PyData × PyData)} (h : H a = some (.dK kvs)) (k : Kd kvs ds) : Dd K H (.ref a) (.dict ds)
def Showy (d : PyData) : Prop := d.showable = true ∧ d.depth ≤ 40 ∧ d.shown.length ≤ 100000
def rRx (K : PySem.W.Frag) : List V → Hp → VK → Prop := fun xs H Q => ∃ x d, xs = [x] ∧ Dd K H x d ∧ Showy d ∧ Q (.str d.shown) H
mutual
theorem Dp.noD {K : PySem.W.Frag} {H : Hp} : ∀ {d : PyData} {x : V}, Dp K H x d → d.hasDict = false
  | .none, _, _ => rfl
  | .bool _, _, _ => rfl
  | .int _, _, _ => rfl
  | .str _, _, _ => rfl
  | .list ds, _, h => by
    cases h with
    | lst _ a => exact DpAll.noD a
  | .tuple ds, _, h => by
    cases h with
    | tup _ a => exact DpAll.noD a
  | .dict _, _, h => by cases h
theorem DpAll.noD {K : PySem.W.Frag} {H : Hp} : ∀ {ds : List PyData} {xs : List V}, DpAll K H xs ds → PyData.hasDictAll ds = false
  | [], _, _ => rfl
  | d :: ds, _, h => by
    cases h with
    | cons a b =>
      show (d.hasDict || PyData.hasDictAll ds) = false
      rw [Dp.noD a, DpAll.noD b]
      rfl
end
theorem call_rx {X : Cx} {n : Nat} (q : Rm n X.A) : CallR X (.builtin "repr") (rRx X.K) := by
  intro pins s σ H xs us Q I r h
  obtain ⟨x, d, rfl, hd, ⟨h1, h2, h3⟩, k⟩ := h
  cases hd with
  | dp e => exact call_rp q pins s σ H _ us Q I r ⟨x, d, rfl, e, h1, Dp.noD e, h2, h3, k⟩
  | dk e kd => exact call_rpD q pins s σ H _ us Q I r ⟨_, _, _, rfl, .inl e, kd, h1, h2, h3, k⟩

/-! ### types -/
def tyD : PyData → String
  | .none => "NoneType"
  | .bool _ => "bool"
  | .int _ => "int"
  | .str _ => "str"
  | .list _ => "list"
  | .tuple _ => "tuple"
  | .dict _ => "dict"
theorem Dd.ty {K : PySem.W.Frag} {H : Hp} {x : V} {d : PyData} (h : Dd K H x d) : TyX K H x (.type (tyD d)) := by
  cases h with
  | dk e _ => exact .base (.dK e)
  | dp e =>
    cases e with
    | non => exact .base .non
    | bl b => exact .base (.bl b)
    | int i => exact .base (.int i)
    | str z => exact .base (.str z)
    | lst hs _ =>
      rcases hs with (z | ⟨o, z⟩) | ⟨o, _, _, z, c, _⟩
      · exact .base (.lst z)
      · exact .base (.frz z)
      · exact .kList z c
    | tup hs _ =>
      rcases hs with (z | ⟨o, z⟩) | ⟨o, _, _, z, c, _⟩
      · exact .base (.tup z)
      · exact .fTuple z
      · exact .kTuple z c
/-- isinstance(x, T) -/
def isI : PyData → Bool | .bool _ | .int _ => true | _ => false
def isB : PyData → Bool | .bool _ => true | _ => false
def isS : PyData → Bool | .str _ => true | _ => false
def isT : PyData → Bool | .tuple _ => true | _ => false
def isL : PyData → Bool | .list _ => true | _ => false
theorem kit_I (d : PyData) : kitB (tyD d) "int" = some (isI d) := by cases d <;> (simp only [tyD, isI]; decide +kernel)
theorem kit_B (d : PyData) : kitB (tyD d) "bool" = some (isB d) := by cases d <;> (simp only [tyD, isB]; decide +kernel)
theorem kit_S (d : PyData) : kitB (tyD d) "str" = some (isS d) := by cases d <;> (simp only [tyD, isS]; decide +kernel)
theorem kit_T (d : PyData) : kitB (tyD d) "tuple" = some (isT d) := by cases d <;> (simp only [tyD, isT]; decide +kernel)
theorem kit_L (d : PyData) : kitB (tyD d) "list" = some (isL d) := by cases d <;> (simp only [tyD, isL]; decide +kernel)
end G

set_option Elab.async false
set_option linter.all false
set_option maxRecDepth 100000
set_option maxHeartbeats 4000000
/-! Comprehensions that change nothing. -/
namespace G
open PySem PySem.Spec PyProof.Rows L2 Evl
/-- what a comprehension over J asks, its one name in slot j -/
def LcG (J : It) (j : Nat) (te : TE) (σ : L2.St) (H : Hp) (D : Addr) (Qd : Hp → Prop) : Prop :=
  ∃ W : Nat → Nat → Hp → Prop, (∃ m, W 0 m (upd H D (.lst []))) ∧
    ∀ i m Hx, W i m Hx → (J.stop i Hx ∧ Qd Hx) ∨
      (J.go i Hx ∧ ∃ Nx : Hp → Prop, (∀ H', Nx H' → ∃ m', m' < m ∧ W (i + 1) m' H') ∧
        ∀ x H', J.yld i Hx x H' → gName j x (wipe σ [j]) H' fun σ2 H2 =>
          wipe σ2 [j] = wipe σ [j] ∧ tYes σ2 H2 fun b H3 =>
            if b = true then te σ2 H3 fun y H4 => ∃ acc, H4 D = some (.lst acc) ∧ acc.length < sizeLine ∧
              Nx (upd H4 D (.lst (acc ++ [y]))) else Nx H3)
theorem wipe_set (σ : L2.St) (j : Nat) (x : V) : wipe ((wipe σ [j]).set j (some x)) [j] = wipe σ [j] := by
  show ((σ.set j none).set j (some x)).set j none = σ.set j none
  simp
/-- what each turn's item makes is told by f; nothing that was known changes -/
theorem lc_pure {J : It} {n : Nat} {Gd : Hp → Prop} {Y : Nat → Hp → V → Hp → Prop} (W : Walk J n Gd Y) {te : TE} {σ : L2.St} {j : Nat} {H : Hp} {D : Addr} {Qd : Hp → Prop} (f : Nat → V) (hn : n ≤ 100000)
    (hG : ∀ H', Ex H H' → Gd H') (It : Nat → V → Prop) (hY : ∀ i Ha x Hb, i < n → Ex H Ha → Y i Ha x Hb → Hb = Ha ∧ It i x)
    (he : ∀ i x, i < n → It i x → Ev te ((wipe σ [j]).set j (some x)) H (f i))
    (new : H D = none) (hd : ∀ H', Ex H H' → H' D = some (.lst ((List.range n).map f)) → Qd H') : LcG J j te σ H D Qd := by
  refine lc_it (g := gName j) (tt := tYes) (te := te) (vs := [j]) (σ := σ) W (fun i Hc => Ex H Hc ∧ Hc D = some (.lst ((List.range i).map f))) ⟨Ex.new new, upd_same⟩ (fun i Hc _ p => hG Hc p.1) (fun i x Ha Hb hi p y => ?_) (fun Hc p => hd Hc p.1 p.2)
  obtain ⟨e, ix⟩ := hY i Ha x Hb hi p.1 y
  rw [e]
  refine ⟨wipe_set σ j x, ?_⟩
  show te ((wipe σ [j]).set j (some x)) Ha _
  refine he i x hi ix Ha p.1 _ fun H2 e2 => ⟨_, e2 _ _ p.2, ?_, ?_, ?_⟩
  · simp only [List.length_map, List.length_range]
    exact Nat.lt_of_lt_of_le (Nat.lt_of_lt_of_le hi hn) (by decide)
  · exact (p.1.trans e2).mut new
  · rw [upd_same, List.range_succ, List.map_append]
    rfl
/-- .. over the data of a list or tuple: a test of each -/
theorem range_map {α β : Type} (xs : List α) (f : Nat → β) (g : α → β) (h : ∀ i x, xs[i]? = some x → f i = g x) : (List.range xs.length).map f = xs.map g := by
  apply List.ext_getElem?
  intro i
  rw [List.getElem?_map, List.getElem?_map]
  by_cases hi : i < xs.length
  · rw [List.getElem?_range hi, List.getElem?_eq_getElem hi]
    show some (f i) = some (g xs[i])
    rw [h i xs[i] (List.getElem?_eq_getElem hi)]
  · rw [List.getElem?_eq_none (by simpa using Nat.le_of_not_lt hi), List.getElem?_eq_none (Nat.le_of_not_lt hi)]
    rfl
theorem lc_data {K : PySem.W.Frag} {J : It} {xs : List V} {ds : List PyData} {Gd : Hp → Prop} (W : Walk J xs.length Gd (YAt xs)) {te : TE} {σ : L2.St} {j : Nat} {H : Hp} {D : Addr} {Qd : Hp → Prop} (t : PyData → Bool) (hn : xs.length ≤ 100000)
    (hG : ∀ H', Ex H H' → Gd H') (hx : DpAll K H xs ds) (he : ∀ x d, Dp K H x d → Ev te ((wipe σ [j]).set j (some x)) H (.bl (t d)))
    (hK : ∀ (i : Nat) (x : V), xs[i]? = some x → ∃ d, ds[i]? = some d ∧ Dp K H x d)
    (new : H D = none) (hd : ∀ H', Ex H H' → H' D = some (.lst ((ds.map t).map V.bl)) → Qd H') : LcG J j te σ H D Qd := by
  have hl : xs.length = ds.length := by
    clear hG he hK hd W hn new
    induction hx using DpAll.rec (motive_1 := fun _ _ _ => True) <;> simp_all
  refine lc_pure W (fun i => .bl (t (ds.getD i .none))) hn hG (fun i x => xs[i]? = some x) (fun i Ha x Hb _ _ y => ⟨y.1, y.2⟩) (fun i x hi e => ?_) new (fun H' e q => hd H' e ?_)
  · obtain ⟨d, e1, e2⟩ := hK i x e
    have e3 : ds.getD i .none = d := by rw [List.getD_eq_getElem?_getD, e1]; rfl
    rw [e3]
    exact he x d e2
  · rw [q, hl, List.map_map]
    congr 2
    exact range_map ds _ _ fun i d e => by
      show V.bl (t (ds.getD i .none)) = V.bl (t d)
      rw [List.getD_eq_getElem?_getD, e]
      rfl
/-- .. the parts of which have a property -/
theorem lc_dataS {S : PyData → Prop} {K : PySem.W.Frag} {J : It} {xs : List V} {ds : List PyData} {Gd : Hp → Prop} (W : Walk J xs.length Gd (YAt xs)) {te : TE} {σ : L2.St} {j : Nat} {H : Hp} {D : Addr} {Qd : Hp → Prop} (t : PyData → Bool) (hn : xs.length ≤ 100000)
    (hG : ∀ H', Ex H H' → Gd H') (hx : DpAll K H xs ds) (hS : ∀ d ∈ ds, S d) (he : ∀ x d, Dp K H x d → S d → Ev te ((wipe σ [j]).set j (some x)) H (.bl (t d)))
    (hK : ∀ (i : Nat) (x : V), xs[i]? = some x → ∃ d, ds[i]? = some d ∧ Dp K H x d)
    (new : H D = none) (hd : ∀ H', Ex H H' → H' D = some (.lst ((ds.map t).map V.bl)) → Qd H') : LcG J j te σ H D Qd := by
  have hl : xs.length = ds.length := by
    clear hG he hK hd W hn new hS
    induction hx using DpAll.rec (motive_1 := fun _ _ _ => True) <;> simp_all
  refine lc_pure W (fun i => .bl (t (ds.getD i .none))) hn hG (fun i x => xs[i]? = some x) (fun i Ha x Hb _ _ y => ⟨y.1, y.2⟩) (fun i x hi e => ?_) new (fun H' e q => hd H' e ?_)
  · obtain ⟨d, e1, e2⟩ := hK i x e
    have e3 : ds.getD i .none = d := by rw [List.getD_eq_getElem?_getD, e1]; rfl
    rw [e3]
    exact he x d e2 (hS d (List.mem_of_getElem? e1))
  · rw [q, hl, List.map_map]
    congr 2
    exact range_map ds _ _ fun i d e => by
      show V.bl (t (ds.getD i .none)) = V.bl (t d)
      rw [List.getD_eq_getElem?_getD, e]
      rfl
end G

set_option Elab.async false
set_option linter.all false
/-! Machines by themselves: what is come to, numbered as it is met. -/
namespace Mm
abbrev Go := Nat × List Int
abbrev Rw := List (List Go)
def rw_ (rows : Rw) (s : Nat) : List Go := rows.getD s []
def addG (f : List Nat) (g : Go) : List Nat := if g.1 ∈ f then f else f ++ [g.1]
def addL (f : List Nat) (gs : List Go) : List Nat := gs.foldl addG f
/-- what is met behind k rows -/
def fk (rows : Rw) (s : Nat) : Nat → List Nat
  | 0 => [s]
  | k + 1 => match (fk rows s k)[k]? with
    | some q => addL (fk rows s k) (rw_ rows q)
    | none => fk rows s k
structure Ok (rows : Rw) : Prop where
  go : ∀ s, ∀ g ∈ rw_ rows s, g.1 < rows.length
theorem addG_pre (f : List Nat) (g : Go) : f <+: addG f g := by
  unfold addG; split
  · exact List.prefix_refl _
  · exact List.prefix_append _ _
theorem addL_pre (gs : List Go) : ∀ (f : List Nat), f <+: addL f gs := by
  induction gs with
  | nil => exact fun f => List.prefix_refl _
  | cons g r ih => exact fun f => (addG_pre f g).trans (ih (addG f g))
theorem addG_nd {f : List Nat} (h : f.Nodup) (g : Go) : (addG f g).Nodup := by
  unfold addG; split
  · exact h
  · rename_i n
    exact List.nodup_append.mpr ⟨h, by simp, fun a ha b hb => by
      simp at hb; subst hb; exact fun e => n (e ▸ ha)⟩
theorem addL_nd (gs : List Go) : ∀ {f : List Nat}, f.Nodup → (addL f gs).Nodup := by
  induction gs with
  | nil => exact fun h => h
  | cons g r ih => exact fun h => ih (addG_nd h g)
theorem addG_mem {f : List Nat} {g : Go} {x : Nat} : x ∈ addG f g ↔ x ∈ f ∨ x = g.1 := by
  unfold addG; split
  · rename_i n
    exact ⟨.inl, fun h => h.elim id fun e => e ▸ n⟩
  · simp
theorem addL_mem {gs : List Go} : ∀ {f : List Nat} {x : Nat}, x ∈ addL f gs ↔ x ∈ f ∨ ∃ g ∈ gs, x = g.1 := by
  induction gs with
  | nil => intro f x; simp [addL]
  | cons g r ih =>
    intro f x
    show x ∈ addL (addG f g) r ↔ _
    rw [ih, addG_mem]
    simp only [List.mem_cons, exists_eq_or_imp]
    constructor
    · rintro ((h | h) | h)
      · exact .inl h
      · exact .inr (.inl h)
      · exact .inr (.inr h)
    · rintro (h | h | h)
      · exact .inl (.inl h)
      · exact .inl (.inr h)
      · exact .inr h
section
variable {rows : Rw} {s : Nat}
theorem fk_pre (k : Nat) : fk rows s k <+: fk rows s (k + 1) := by
  show _ <+: (match (fk rows s k)[k]? with | some q => addL (fk rows s k) (rw_ rows q) | none => fk rows s k)
  split
  · exact addL_pre _ _
  · exact List.prefix_refl _
theorem fk_le {k j : Nat} (h : k ≤ j) : fk rows s k <+: fk rows s j := by
  induction h with
  | refl => exact List.prefix_refl _
  | step _ ih => exact ih.trans (fk_pre _)
theorem fk_nd (k : Nat) : (fk rows s k).Nodup := by
  induction k with
  | zero => simp [fk]
  | succ k ih =>
    show (match (fk rows s k)[k]? with | some q => addL (fk rows s k) (rw_ rows q) | none => fk rows s k).Nodup
    split
    · exact addL_nd _ ih
    · exact ih
theorem fk_lt (ok : Ok rows) (hs : s < rows.length) (k : Nat) : ∀ x ∈ fk rows s k, x < rows.length := by
  induction k with
  | zero => intro x hx; simp [fk] at hx; omega
  | succ k ih =>
    intro x hx
    replace hx : x ∈ (match (fk rows s k)[k]? with | some q => addL (fk rows s k) (rw_ rows q) | none => fk rows s k) := hx
    split at hx
    · rename_i q _
      rcases addL_mem.mp hx with h | ⟨g, hg, rfl⟩
      · exact ih x h
      · exact ok.go q g hg
    · exact ih x hx
theorem nd_len : ∀ {n : Nat} {l : List Nat}, l.Nodup → (∀ x ∈ l, x < n) → l.length ≤ n := by
  intro n
  induction n with
  | zero =>
    intro l _ h
    cases l with
    | nil => simp
    | cons a r => exact absurd (h a List.mem_cons_self) (Nat.not_lt_zero _)
  | succ n ih =>
    intro l nd h
    have a := ih (l := l.erase n) (nd.erase n) fun x hx => by
      have h1 := h x (List.mem_of_mem_erase hx)
      have h2 : x ≠ n := (List.Nodup.mem_erase_iff nd |>.mp hx).1
      omega
    have b : l.length ≤ (l.erase n).length + 1 := by
      rw [List.length_erase]; split <;> omega
    omega
theorem fk_len (ok : Ok rows) (hs : s < rows.length) (k : Nat) : (fk rows s k).length ≤ rows.length := nd_len (fk_nd k) (fk_lt ok hs k)
/-- all that is met -/
def met (rows : Rw) (s : Nat) : List Nat := fk rows s rows.length
theorem fk_stop {k : Nat} (h : (fk rows s k).length ≤ k) : ∀ j, k ≤ j → fk rows s j = fk rows s k := by
  intro j hj
  induction hj with
  | refl => rfl
  | @step m hm ih =>
    show (match (fk rows s m)[m]? with | some q => addL (fk rows s m) (rw_ rows q) | none => fk rows s m) = _
    have hm : k ≤ m := hm
    rw [ih, List.getElem?_eq_none (by omega)]
theorem met_eq (ok : Ok rows) (hs : s < rows.length) {k : Nat} (h : (fk rows s k).length ≤ k) : fk rows s k = met rows s := by
  unfold met
  rcases Nat.le_total k rows.length with q | q
  · exact (fk_stop h _ q).symm
  · exact fk_stop (fk_len ok hs _) _ q
theorem fk_met (ok : Ok rows) (hs : s < rows.length) (k : Nat) : fk rows s k <+: met rows s := by
  unfold met
  rcases Nat.le_total k rows.length with q | q
  · exact fk_le q
  · rw [fk_stop (fk_len ok hs _) _ q]; exact List.prefix_refl _
theorem met_nd : (met rows s).Nodup := fk_nd _
theorem met_lt (ok : Ok rows) (hs : s < rows.length) : ∀ x ∈ met rows s, x < rows.length := fk_lt ok hs _
theorem met_len (ok : Ok rows) (hs : s < rows.length) : (met rows s).length ≤ rows.length := fk_len ok hs _
theorem met_zero : (met rows s)[0]? = some s := by
  have := (fk_le (rows := rows) (s := s) (Nat.zero_le rows.length))
  obtain ⟨t, ht⟩ := this
  show (fk rows s rows.length)[0]? = _
  rw [← ht]
  rfl
theorem met_pos : 0 < (met rows s).length := (List.getElem?_eq_some_iff.mp (met_zero (rows := rows) (s := s))).1
theorem pre_get {α : Type} {a b : List α} (h : a <+: b) {i : Nat} {x : α} (e : a[i]? = some x) : b[i]? = some x := by
  obtain ⟨t, rfl⟩ := h
  rw [List.getElem?_append_left (List.getElem?_eq_some_iff.mp e).1]
  exact e
/-- the goals of row k are there behind it -/
theorem fk_goal (ok : Ok rows) (hs : s < rows.length) {k q : Nat} (h : (met rows s)[k]? = some q) : (fk rows s k)[k]? = some q := by
  have hk := (List.getElem?_eq_some_iff.mp h).1
  have : k < (fk rows s k).length := by
    rcases Nat.lt_or_ge k (fk rows s k).length with z | z
    · exact z
    · rw [met_eq ok hs z] at z
      omega
  obtain ⟨y, hy⟩ : ∃ y, (fk rows s k)[k]? = some y := ⟨_, List.getElem?_eq_getElem this⟩
  rw [pre_get (fk_met ok hs k) hy] at h
  rw [hy, h]
theorem fk_step {k q : Nat} (h : (fk rows s k)[k]? = some q) : fk rows s (k + 1) = addL (fk rows s k) (rw_ rows q) := by
  show (match (fk rows s k)[k]? with | some q => addL (fk rows s k) (rw_ rows q) | none => fk rows s k) = _
  rw [h]
theorem met_closed (ok : Ok rows) (hs : s < rows.length) : ∀ q ∈ met rows s, ∀ g ∈ rw_ rows q, g.1 ∈ met rows s := by
  intro q hq g hg
  obtain ⟨k, hk⟩ := List.mem_iff_getElem?.mp hq
  have h1 := fk_goal ok hs hk
  have h2 : g.1 ∈ fk rows s (k + 1) := by rw [fk_step h1]; exact addL_mem.mpr (.inr ⟨g, hg, rfl⟩)
  exact (fk_met ok hs (k + 1)).subset h2
theorem fk_in {S : Nat → Prop} (h0 : S s) (hc : ∀ q, S q → ∀ g ∈ rw_ rows q, S g.1) (k : Nat) : ∀ x ∈ fk rows s k, S x := by
  induction k with
  | zero => intro x hx; simp [fk] at hx; exact hx ▸ h0
  | succ k ih =>
    intro x hx
    cases e : (fk rows s k)[k]? with
    | none =>
      refine ih x ?_
      have : fk rows s (k + 1) = fk rows s k := by
        show (match (fk rows s k)[k]? with | some q => addL (fk rows s k) (rw_ rows q) | none => fk rows s k) = _
        rw [e]
      rw [← this]; exact hx
    | some q =>
      rw [fk_step e] at hx
      rcases addL_mem.mp hx with h | ⟨g, hg, rfl⟩
      · exact ih x h
      · exact hc q (ih q (List.mem_of_getElem? e)) g hg
theorem met_in {S : Nat → Prop} (h0 : S s) (hc : ∀ q, S q → ∀ g ∈ rw_ rows q, S g.1) : ∀ x ∈ met rows s, S x := fk_in h0 hc _
end
/-- a row, its goals by their places in f -/
def renum (f : List Nat) (r : List Go) : List Go := r.map fun g => (f.idxOf g.1, g.2)
def begun (rows : Rw) (s : Nat) : Rw := (met rows s).map fun q => renum (met rows s) (rw_ rows q)
theorem begun_len (rows : Rw) (s : Nat) : (begun rows s).length = (met rows s).length := by unfold begun; rw [List.length_map]
theorem begun_at {rows : Rw} {s i q : Nat} (h : (met rows s)[i]? = some q) : rw_ (begun rows s) i = renum (met rows s) (rw_ rows q) := by
  unfold begun
  show ((met rows s).map (fun q => renum (met rows s) (rw_ rows q))).getD i [] = _
  rw [List.getD_eq_getElem?_getD, List.getElem?_map, h]
  rfl
theorem begun_out {rows : Rw} {s i : Nat} (h : (met rows s).length ≤ i) : rw_ (begun rows s) i = [] := by
  show (begun rows s).getD i [] = _
  rw [List.getD_eq_getElem?_getD, List.getElem?_eq_none (by rw [begun_len]; exact h)]
  rfl
theorem idx_lt {f : List Nat} {x : Nat} (h : x ∈ f) : f.idxOf x < f.length := List.idxOf_lt_length_iff.mpr h
theorem idx_get {f : List Nat} {x : Nat} (h : x ∈ f) : f[f.idxOf x]? = some x := by
  rw [List.getElem?_eq_getElem (idx_lt h), List.getElem_idxOf]
theorem get_idx {f : List Nat} (nd : f.Nodup) {i x : Nat} (h : f[i]? = some x) : f.idxOf x = i := by
  obtain ⟨hi, e⟩ := List.getElem?_eq_some_iff.mp h
  subst e
  exact nd.idxOf_getElem i hi
theorem begun_ok {rows : Rw} {s : Nat} (ok : Ok rows) (hs : s < rows.length) : Ok (begun rows s) := by
  refine ⟨fun i g hg => ?_⟩
  rw [begun_len]
  cases e : (met rows s)[i]? with
  | none =>
    rw [begun_out (List.getElem?_eq_none_iff.mp e)] at hg
    cases hg
  | some q =>
    rw [begun_at e] at hg
    obtain ⟨g', hg', rfl⟩ := List.mem_map.mp hg
    exact idx_lt (met_closed ok hs q (List.mem_of_getElem? e) g' hg')
/-! the same met again, by their numbers -/
theorem map_addL {f : List Nat} {rows : Rw} {s : Nat} (ok : Ok rows) (hs : s < rows.length) : ∀ (gs : List Go), (∀ g ∈ gs, g.1 ∈ met rows s) → (∀ x ∈ f, x ∈ met rows s) →
    addL (f.map (met rows s).idxOf) (renum (met rows s) gs) = (addL f gs).map (met rows s).idxOf := by
  intro gs
  induction gs generalizing f with
  | nil => intro _ _; rfl
  | cons g r ih =>
    intro hg hf
    have h1 : addG (f.map (met rows s).idxOf) ((met rows s).idxOf g.1, g.2) = (addG f g).map (met rows s).idxOf := by
      have inj : (met rows s).idxOf g.1 ∈ f.map (met rows s).idxOf ↔ g.1 ∈ f := by
        constructor
        · intro h
          obtain ⟨x, hx, e⟩ := List.mem_map.mp h
          have a := idx_get (hf x hx)
          have b := idx_get (hg g List.mem_cons_self)
          rw [e, b] at a
          cases a
          exact hx
        · exact fun h => List.mem_map.mpr ⟨_, h, rfl⟩
      unfold addG
      by_cases c : g.1 ∈ f
      · rw [if_pos (inj.mpr c), if_pos c]
      · rw [if_neg (fun z => c (inj.mp z)), if_neg c, List.map_append]
        rfl
    show addL (addG (f.map (met rows s).idxOf) ((met rows s).idxOf g.1, g.2)) (renum (met rows s) r) = (addL (addG f g) r).map _
    rw [h1]
    exact ih (fun g' h' => hg g' (List.mem_cons_of_mem _ h')) fun x hx => by
      rcases addG_mem.mp hx with h | rfl
      · exact hf x h
      · exact hg g List.mem_cons_self
theorem fk_begun {rows : Rw} {s : Nat} (ok : Ok rows) (hs : s < rows.length) (k : Nat) : fk (begun rows s) 0 k = (fk rows s k).map (met rows s).idxOf := by
  induction k with
  | zero =>
    show [0] = [(met rows s).idxOf s]
    rw [get_idx met_nd met_zero]
  | succ k ih =>
    cases e : (fk rows s k)[k]? with
    | none =>
      have a : fk rows s (k + 1) = fk rows s k := by
        show (match (fk rows s k)[k]? with | some q => addL (fk rows s k) (rw_ rows q) | none => fk rows s k) = _
        rw [e]
      have b : fk (begun rows s) 0 (k + 1) = fk (begun rows s) 0 k := by
        show (match (fk (begun rows s) 0 k)[k]? with | some q => addL (fk (begun rows s) 0 k) (rw_ (begun rows s) q) | none => fk (begun rows s) 0 k) = _
        rw [ih, List.getElem?_map, e]
        rfl
      rw [a, b, ih]
    | some q =>
      have hq : q ∈ met rows s := (fk_met ok hs k).subset (List.mem_of_getElem? e)
      have e2 : (fk (begun rows s) 0 k)[k]? = some ((met rows s).idxOf q) := by rw [ih, List.getElem?_map, e]; rfl
      rw [fk_step e, fk_step e2, ih, begun_at (idx_get hq)]
      exact map_addL ok hs _ (fun g hg => met_closed ok hs q hq g hg) fun x hx => (fk_met ok hs k).subset hx
theorem idx_range {f : List Nat} (nd : f.Nodup) : f.map f.idxOf = List.range f.length := by
  refine List.ext_getElem? fun i => ?_
  rw [List.getElem?_map]
  cases e : f[i]? with
  | none => rw [List.getElem?_eq_none (by simpa using List.getElem?_eq_none_iff.mp e)]; rfl
  | some x =>
    have hi := (List.getElem?_eq_some_iff.mp e).1
    rw [List.getElem?_range hi]
    show some (f.idxOf x) = some i
    rw [get_idx nd e]
theorem met_begun {rows : Rw} {s : Nat} (ok : Ok rows) (hs : s < rows.length) : met (begun rows s) 0 = List.range (met rows s).length := by
  have a : fk (begun rows s) 0 rows.length = List.range (met rows s).length := by
    rw [fk_begun ok hs]
    exact idx_range met_nd
  have b := met_eq (begun_ok ok hs) (by rw [begun_len]; exact met_pos) (k := rows.length) (by rw [a, List.length_range]; exact met_len ok hs)
  rw [← b, a]
theorem begun_begun {rows : Rw} {s : Nat} (ok : Ok rows) (hs : s < rows.length) : begun (begun rows s) 0 = begun rows s := by
  have e := met_begun ok hs
  have hr : ∀ i, i < (met rows s).length → ∀ g ∈ rw_ (begun rows s) i, g.1 < (met rows s).length := fun i _ g hg => by
    have := (begun_ok ok hs).go i g hg
    rwa [begun_len] at this
  unfold begun
  rw [show met ((met rows s).map fun q => renum (met rows s) (rw_ rows q)) 0 = _ from e]
  refine List.ext_getElem? fun i => ?_
  rw [List.getElem?_map, List.getElem?_map]
  cases z : (met rows s)[i]? with
  | none => rw [List.getElem?_eq_none (by simpa using List.getElem?_eq_none_iff.mp z)]; rfl
  | some q =>
    have hi := (List.getElem?_eq_some_iff.mp z).1
    rw [List.getElem?_range hi]
    show some (renum (List.range (met rows s).length) (rw_ (begun rows s) i)) = some (renum (met rows s) (rw_ rows q))
    rw [← begun_at z]
    congr 1
    unfold renum
    refine (List.map_congr_left fun g hg => ?_).trans (List.map_id _)
    have := hr i hi g hg
    show ((List.range (met rows s).length).idxOf g.1, g.2) = g
    rw [get_idx List.nodup_range (List.getElem?_range this)]
/-! runs: letters by their numbers -/
def go (rows : Rw) (s j : Nat) : Go := (rw_ rows s).getD j (0, [])
def outs (rows : Rw) : Nat → List Nat → List (List Int)
  | _, [] => []
  | s, j :: js => (go rows s j).2 :: outs rows (go rows s j).1 js
def end_ (rows : Rw) : Nat → List Nat → Nat
  | s, [] => s
  | s, j :: js => end_ rows (go rows s j).1 js
theorem outs_app (rows : Rw) : ∀ (s : Nat) (a b : List Nat), outs rows s (a ++ b) = outs rows s a ++ outs rows (end_ rows s a) b
  | _, [], _ => rfl
  | s, j :: a, b => by
    show _ :: outs rows _ (a ++ b) = _
    rw [outs_app rows _ a b]
    rfl
theorem end_app (rows : Rw) : ∀ (s : Nat) (a b : List Nat), end_ rows s (a ++ b) = end_ rows (end_ rows s a) b
  | _, [], _ => rfl
  | s, j :: a, b => end_app rows _ a b
theorem outs_len (rows : Rw) : ∀ (s : Nat) (a : List Nat), (outs rows s a).length = a.length
  | _, [] => rfl
  | s, j :: a => by show (outs rows _ a).length + 1 = _; rw [outs_len rows _ a]; rfl
/-- rows have so many goals -/
def Wide (rows : Rw) (n : Nat) : Prop := ∀ r ∈ rows, r.length = n
theorem rw_len {rows : Rw} {n s : Nat} (h : Wide rows n) (hs : s < rows.length) : (rw_ rows s).length = n := by
  unfold rw_
  rw [List.getD_eq_getElem?_getD, List.getElem?_eq_getElem hs]
  exact h _ (List.getElem_mem hs)
theorem rw_at {rows : Rw} {s : Nat} (hs : s < rows.length) : rows[s]? = some (rw_ rows s) := by
  unfold rw_
  rw [List.getD_eq_getElem?_getD, List.getElem?_eq_getElem hs]
  rfl
theorem go_at {rows : Rw} {n s j : Nat} (h : Wide rows n) (hs : s < rows.length) (hj : j < n) : (rw_ rows s)[j]? = some (go rows s j) := by
  have : j < (rw_ rows s).length := by rw [rw_len h hs]; exact hj
  unfold go
  rw [List.getD_eq_getElem?_getD, List.getElem?_eq_getElem this]
  rfl
theorem go_lt {rows : Rw} {n s j : Nat} (ok : Ok rows) (h : Wide rows n) (hs : s < rows.length) (hj : j < n) : (go rows s j).1 < rows.length :=
  ok.go s _ (List.mem_of_getElem? (go_at h hs hj))
theorem end_lt {rows : Rw} {n : Nat} (ok : Ok rows) (h : Wide rows n) : ∀ {s : Nat} (a : List Nat), (∀ j ∈ a, j < n) → s < rows.length → end_ rows s a < rows.length
  | _, [], _, hs => hs
  | s, j :: a, ha, hs => end_lt ok h a (fun i hi => ha i (List.mem_cons_of_mem _ hi)) (go_lt ok h hs (ha j List.mem_cons_self))
theorem begun_wide {rows : Rw} {s n : Nat} (ok : Ok rows) (h : Wide rows n) (hs : s < rows.length) : Wide (begun rows s) n := by
  intro r hr
  obtain ⟨q, hq, rfl⟩ := List.mem_map.mp hr
  unfold renum
  rw [List.length_map]
  exact rw_len h (met_lt ok hs q hq)
theorem begun_go {rows : Rw} {s n i q j : Nat} (ok : Ok rows) (h : Wide rows n) (hs : s < rows.length) (e : (met rows s)[i]? = some q) (hj : j < n) :
    (met rows s)[(go (begun rows s) i j).1]? = some (go rows q j).1 ∧ (go (begun rows s) i j).2 = (go rows q j).2 := by
  have hq := List.mem_of_getElem? e
  have a := go_at h (met_lt ok hs q hq) hj
  have b : go (begun rows s) i j = ((met rows s).idxOf (go rows q j).1, (go rows q j).2) := by
    show (rw_ (begun rows s) i).getD j (0, []) = _
    rw [begun_at e, List.getD_eq_getElem?_getD]
    unfold renum
    rw [List.getElem?_map, a]
    rfl
  rw [b]
  exact ⟨idx_get (met_closed ok hs q hq _ (List.mem_of_getElem? a)), rfl⟩
theorem begun_run {rows : Rw} {s n : Nat} (ok : Ok rows) (h : Wide rows n) (hs : s < rows.length) : ∀ {i q : Nat} (js : List Nat), (met rows s)[i]? = some q → (∀ j ∈ js, j < n) →
    outs (begun rows s) i js = outs rows q js ∧ (met rows s)[end_ (begun rows s) i js]? = some (end_ rows q js)
  | _, _, [], e, _ => ⟨rfl, e⟩
  | i, q, j :: js, e, hj => by
    obtain ⟨a, b⟩ := begun_go ok h hs e (hj j List.mem_cons_self)
    obtain ⟨c, d⟩ := begun_run ok h hs js a fun x hx => hj x (List.mem_cons_of_mem _ hx)
    refine ⟨?_, d⟩
    show _ :: outs (begun rows s) _ js = _ :: outs rows _ js
    rw [b, c]
theorem begun_run0 {rows : Rw} {s n : Nat} (ok : Ok rows) (h : Wide rows n) (hs : s < rows.length) (js : List Nat) (hj : ∀ j ∈ js, j < n) :
    outs (begun rows s) 0 js = outs rows s js ∧ (met rows s)[end_ (begun rows s) 0 js]? = some (end_ rows s js) := begun_run ok h hs js met_zero hj
end Mm
namespace Mm
def along (rows : Rw) : Nat → List Nat → List Go
  | _, [] => []
  | s, j :: js => go rows s j :: along rows (go rows s j).1 js
theorem along_snoc (rows : Rw) : ∀ (s : Nat) (a : List Nat) (j : Nat), along rows s (a ++ [j]) = along rows s a ++ [go rows (end_ rows s a) j]
  | _, [], _ => rfl
  | s, i :: a, j => by
    show _ :: along rows _ (a ++ [j]) = _
    rw [along_snoc rows _ a j]
    rfl
theorem end_snoc (rows : Rw) (s : Nat) (a : List Nat) (j : Nat) : end_ rows s (a ++ [j]) = (go rows (end_ rows s a) j).1 := by
  rw [end_app]; rfl
theorem along_outs (rows : Rw) : ∀ (s : Nat) (a : List Nat), (along rows s a).map (·.2) = outs rows s a
  | _, [] => rfl
  | s, j :: a => by
    show _ :: (along rows _ a).map (·.2) = _
    rw [along_outs rows _ a]
    rfl
theorem along_len (rows : Rw) : ∀ (s : Nat) (a : List Nat), (along rows s a).length = a.length
  | _, [] => rfl
  | s, j :: a => by show (along rows _ a).length + 1 = _; rw [along_len rows _ a]; rfl
end Mm

set_option Elab.async false
set_option linter.all false
set_option maxRecDepth 100000
set_option maxHeartbeats 8000000
/-! != of own instances whose class has an own == alone. -/
namespace G
open PySem PySem.Spec PyProof.Rows L2 Evl
section
open PySem.W
variable {prog : Program} {w : World} {A : Around} {E : Value → Shared → Prop} {s : Shared} {K : PySem.W.Frag} {x y C f : Addr} {ox : Obj} {od : Option Obj}
theorem ifBound_B {M : Model} {name : Str} {args : List Value} {Q : Option Value → Shared → Prop} {id : String} (X : K.In s.heap) (I : InstAt s.heap x ox C od) (hs : findIn K (.ref C) name = some (some (.builtin id))) (hbn : ∀ v, bindSpecial (.builtin id) v = pure (.builtin id, [v]))
    (h : wpAny M A (call (.builtin id) (.ref x :: args)) (fun v => Q (some v)) E s) : wpAny M A (callSpecialIfBound? (.ref x) name args) Q E s := by
  simp only [callSpecialIfBound?, bindSpecialIfBound?]
  refine wpAny_holding (wpAny_bind (wpAny_bind (wpAny_bind (I.type.here ((looks_findIn X hs).here ?_)))))
  refine wpAny_bind (wpAny_askSetting (wpAny_ite ?_))
  have fin : wpAny M A (call (.builtin id) ([.ref x] ++ args) >>= fun v => pure (some v)) Q E s := wpAny_bind (wpAny_mono h (fun v s' h' => wpAny_pure h') fun _ _ h' => h')
  simp only [hbn]
  split
  · exact wpAny_bind (wpAny_pure (wpAny_pure (by exact fin)))
  · exact wpAny_tryCatch (wpAny_bind (wpAny_pure (wpAny_pure (by exact fin))))
theorem objNe_own {h : Heap} {g : Array GenState} {d : Drawn} {t : Nat} {os : OsState} (X : K.In h) (I : InstAt h x ox C od) (hs : findIn K (.ref C) "__eq__" = some (some (.ref f))) (hf : isFn K (.ref f) = true) (hu : A.units < cLine) {Q : Fin → Shared → Prop}
    (hcall : wpAny (model prog w) A (call (.ref f) [.ref x, .ref y]) (fun v s' => ∃ b, v = .bool b ∧ Q (.done (.ret (.bool (!b)))) s') E ⟨h, g, d, t, os⟩) :
    wpAny (model prog w) A (Builtin.«object.__ne__» ⟨[.ref x, .ref y], []⟩) Q E ⟨h, g, d, t, os⟩ := by
  unfold Builtin.«object.__ne__»
  repeat (first
    | with_reducible refine wpAny_cRoomFor hu ?_
    | (refine wpAny_bind (m := callSpecialIfBound? (.ref x) (Str.ofString "__eq__") [.ref y])
        (ifBound_K X I hs hf (wpAny_mono hcall (fun r s' hr => by
          obtain ⟨b, rfl, hq⟩ := hr
          repeat (first | exact hq | exact wpAny_pure hq | exact wpAny_truthy_bool hq | (refine wpAny_bind (m := truthy (.bool _)) (wpAny_truthy_bool ?_)) | wp_step)) fun _ _ e => e)))
    | wp_step)
theorem rc_ne_own {oy : Obj} {ody : Option Obj} (X : K.In s.heap) (I : InstAt s.heap x ox C od) (J : InstAt s.heap y oy C ody) (hn : findIn K (.ref C) "__ne__" = some (some (.builtin "object.__ne__"))) (mo : mroIn K C (.type "object") = some true)
    (hs : findIn K (.ref C) "__eq__" = some (some (.ref f))) (hf : isFn K (.ref f) = true) (hu : A.units + 1 < cLine) {Q : Value → Shared → Prop}
    (hcall : wpAny (model prog w) A.in1 (call (.ref f) [.ref x, .ref y]) (fun v s' => ∃ b, v = .bool b ∧ Q (.bool (!b)) s') E s) :
    wpAny (model prog w) A (richCompare .NotEq (.ref x) (.ref y)) Q E s := by
  obtain ⟨h, g, d, t, os⟩ := s
  have kind : Looks (model prog w) h (isInstance (.ref x) (.type "object")) true := I.type.andThen (looks_mroIn X mo)
  unfold richCompare
  simp only [oneThing_ref]
  refine wpAny_holding (wpAny_bind (wpAny_cRoomFor (Nat.lt_of_succ_lt hu) ?_))
  rw [cmpInfo_NotEq]
  dsimp only
  refine wpAny_bind (I.type.here (wpAny_bind (J.type.here ?_)))
  rw [show (Value.ref C != Value.ref C) = false from by simp]
  simp only [Bool.false_eq_true, if_false]
  refine wpAny_bind (wpAny_pure ?_)
  simp only [Bool.false_eq_true, if_false]
  refine wpAny_bind ?_
  simp only [tryCompare]
  refine wpAny_bind (ifBound_B X I hn (fun v => PySem.F.cmp_object.ne.bind v) (wpAny_call (codeAny_call_builtin PySem.F.cmp_object.ne.plain F.cmpEntry_ne
    (@PySem.W.check_slot (model prog w) _ _ ⟨h, g, d, t, os⟩ "object.__ne__" "object" "__ne__" (.ref x) [.ref y] [] _ F.cmpKind_ne F.cmpSplit_ne kind (F.cmpArgs_ne _ _) (objNe_own (A := A.in1) X I hs hf (by show A.units + 1 < cLine; exact hu) (wpAny_mono hcall (fun v s' hv => ?_) fun _ _ e => e))))))
  obtain ⟨b, rfl, hq⟩ := hv
  first | exact ⟨b, rfl, wpAny_pure hq⟩ | exact ⟨b, rfl, wpAny_pure (wpAny_pure hq)⟩ | exact wpAny_pure (wpAny_pure hq) | exact wpAny_pure hq
end
variable {X : Cx} {n : Nat}
/-- x != y as an expression, where the own == holds -/
def rNeG (D : Eqv) : R2 := fun x y H Q => D x y H ∧ ∀ H', Ext H H' → Q (.bl false) H'
theorem op_neG {CX : CXT} {C f : Addr} {fd : FuncData} {ps : List Str} {R : Addr → Addr → Hp → Prop} {E : XK} (F : FnOk X.prog X.w X.K X.mg X.base CX n f fd ps (spEq R))
    (hs : PySem.W.findIn X.K (.ref C) "__eq__" = some (some (.ref f))) (hf : PySem.W.isFn X.K (.ref f) = true) (hb : Binds X.K fd ps []) (hx : Passes CX X E)
    (hn : PySem.W.findIn X.K (.ref C) "__ne__" = some (some (.builtin "object.__ne__"))) (mo : PySem.W.mroIn X.K C (.type "object") = some true) (hr : Room (n + 1) X.A) : OpR X (compareOp .NotEq) (rNeG (DIns C R)) := by
  intro pins s σ H x y v u Q I rx ry hq
  obtain ⟨d, q⟩ := hq
  obtain ⟨a, b, dx, dy, fs, gs, rfl, rfl, ha, hb', hr'⟩ := d
  cases rx
  cases ry
  obtain ⟨mA, J, _⟩ := ins_get I.hok ha
  obtain ⟨mB, J', _⟩ := ins_get I.hok hb'
  obtain ⟨od, J, _⟩ := J.look
  obtain ⟨od', J', _⟩ := J'.look
  show wpAny (model X.prog X.w) X.A (richCompare .NotEq (.ref a) (.ref b)) (EP X pins σ Q) X.xe s
  refine rc_ne_own (K := X.K) I.kIn J J' hn mo hs hf (by have := hr.units; omega) ?_
  have hsp : spEq R [.ref a, .ref b] H (fun v H' => v = .bl true ∧ Ext H H') E := ⟨a, b, rfl, hr', fun H' e => ⟨rfl, e⟩⟩
  have e0 : Env0 X.prog X.w X.K X.mg X.base X.A.in1 X.stack s H := by
    have e := I.env0
    exact e.in1
  have hl := F.len _ _ _ _ hsp
  have r2 : Vals [V.ref a, V.ref b] [Value.ref a, Value.ref b] := .cons rfl (.cons rfl .nil)
  refine wpAny_call (codeAny_mono (F.run X.A.in1 X.stack s H ⟨[.ref a, .ref b], []⟩ [.ref a, .ref b] [.ref a, .ref b] _ E hr.in1 e0 (by
    have := hb s [.ref a, .ref b] I.kIn (by simpa using hl)
    simpa using this) r2 hsp) fun r s' hq => ?_)
  cases r with
  | error e => exact hx pins σ H s e s' I hq
  | ok fl =>
    cases fl with
    | ret w =>
      obtain ⟨z, H', I', rz, ez, ex⟩ := I.after hq
      subst ez
      cases rz
      exact ⟨true, rfl, .bl false, H', I', rfl, q H' ex⟩
    | next => exact False.elim hq
    | brk => exact False.elim hq
    | cont => exact False.elim hq
end G

set_option Elab.async false
set_option linter.all false
set_option maxRecDepth 100000
set_option maxHeartbeats 8000000
/-! o.m(k = e), C.m(e), C.m(k = e) for a static method. -/
namespace G
open PySem PySem.Spec PyProof.Rows L2 Evl
/-- n values by place, then one by its name -/
def KwB (fd : FuncData) (ps : List Str) (n : Nat) (kw : Str) : Prop := ∀ (s : Shared) (us : List Value) (v : Value), us.length = n → BindsTo s fd ⟨us, [(kw, v)]⟩ (ps.zip (us ++ [v]))
/-- a static method of C: its record at p, its def at g -/
structure Stc (K : PySem.W.Frag) (C : Addr) (m : Str) (p g : Addr) : Prop where
  at_ : PySem.W.findCls K (.ref C) (.type "type") m = some (.get (.builtin "staticmethod.__get__") (.ref p) .none (.ref C))
  rc : ∃ rest, PySem.W.recIn K p "staticmethod" = some (.ref g :: rest)
  kp : PySem.W.keepIn K (.ref g) = true
def tMethK (C : Addr) (m : Str) (sp : Sp) (E : XK) (ta : TE) (tk : TA) : TE := fun σ H Q => ta σ H fun x H1 => ∃ a dx fs, x = .ref a ∧ H1 a = some (.ins C dx fs) ∧ fs.lookup m = none ∧ tk σ H1 fun zs H2 => ∃ z, zs = [z] ∧ sp [.ref a, z] H2 Q E
def tStc (sp : Sp) (E : XK) (t : TA) : TE := fun σ H Q => t σ H fun vs H2 => sp vs H2 Q E
def tStcK (sp : Sp) (E : XK) (tk : TA) : TE := fun σ H Q => tk σ H fun zs H2 => ∃ z, zs = [z] ∧ sp [z] H2 Q E
section
variable {X : Cx} {CX : CXT} {k : Nat} {C p f : Addr} {fd : FuncData} {ps : List Str} {sp : Sp} {E : XK} {o e : Expr} {es : List Expr} {m : Str} {pos apos np : Pos} {ta : TE} {t tk : TA} {pl : Sem Bool} {kw x : Str} {kws : List Keyword}
theorem run_kw {pins : List (Addr × Obj)} {σ : L2.St} {H : Hp} {s : Shared} {Q : VK} {us : List Value} {vs : List V} {v : Value} {z : V} (F : FnOk X.prog X.w X.K X.mg X.base CX k f fd ps sp) (hr : Room k X.A) (hb : KwB fd ps us.length kw) (hx : Passes CX X E)
    (I : Inv X pins σ H s) (r : Vals vs us) (rz : RelV z v) (h : sp (vs ++ [z]) H Q E) : wpAny (model X.prog X.w) X.A (call (.ref f) us [(kw, v)]) (EP X pins σ Q) X.xe s := by
  have both : Vals (vs ++ [z]) (us ++ [v]) := r.append (.cons rz .nil)
  refine wpAny_call (codeAny_mono (F.run X.A X.stack s H ⟨us, [(kw, v)]⟩ (us ++ [v]) (vs ++ [z]) Q E hr I.env0 (hb s us v rfl) both h) fun r s' hq => ?_)
  cases r with
  | error e => exact hx pins σ H s e s' I hq
  | ok fl =>
    cases fl with
    | ret u => exact I.after hq
    | next => exact False.elim hq
    | brk => exact False.elim hq
    | cont => exact False.elim hq
/-- o.m(k = e) -/
theorem pe_methK1 (he : PE X o ta) (c : Cls X.K C) (hm : Meth X.K C m f) (F : FnOk X.prog X.w X.K X.mg X.base CX k f fd ps sp) (hr : Room k X.A) (hb : KwB fd ps 1 kw) (hx : Passes CX X E)
    (hkw : PK X kws tk) (h1 : (backToKw pos (keywordEach kws X.env)).all (·.1.isSome) = true := by rfl) (h2 : (backToKw pos (keywordEach kws X.env)).filterMap (·.1) = [kw] := by rfl)
    (h3 : ((backTo pos (starEach [] X.env)).any (·.1) || (backToKw pos (keywordEach kws X.env)).any (·.1.isNone)) = false := by rfl)
    (ht : eval (.Call (.Attribute o m apos) [] kws pos) X.env = (do
      let ov ← eval o X.env
      standAt apos.atName
      let (f, first) ← holding [ov] (getMethod ov m pl)
      callWith pos f first (backTo pos (starEach [] X.env)) (backToKw pos (keywordEach kws X.env))) := by rfl) :
    PE X (.Call (.Attribute o m apos) [] kws pos) (tMethK C m sp E ta tk) := by
  refine ⟨fun pins s σ H Q I h => ?_⟩
  refine PySem.W.methodCall_KW (pl := pl) (thn (he.run pins s σ H _ I h) fun u s1 ⟨x, H1, I1, rx, a, dx, fs, ex, ea, l, q⟩ => ?_) ht
  subst ex
  obtain rfl : u = Value.ref a := rx
  refine getmeth_ok I1 ea c hm l ?_
  refine PySem.W.callWith_KW0 (first := [.ref a]) (h₀ := X.base) I.ok.mod.kin hm.kp h1 ?_ h3
  refine thn (hkw.run pos pins s1 σ H1 _ I1 q) fun zs s2 ⟨ws, H2, I2, r2, z, ez, w2⟩ => ⟨I2.kIn, ?_⟩
  rw [h2]
  subst ez
  cases r2 with
  | cons rz rn =>
    cases rn
    exact run_kw (us := [.ref a]) (vs := [.ref a]) F hr hb hx I2 (.cons rfl .nil) rz w2
theorem getsm_ok {pins : List (Addr × Obj)} {σ : L2.St} {H : Hp} {s : Shared} {A : Around} {E : Value → Shared → Prop} {Q : Value × List Value → Shared → Prop} (I : Inv X pins σ H s) (r : ClX.CRead X.K C (.type "type")) (h : Stc X.K C m p f)
    (q : ∀ s', Inv X pins σ H s' → Q (.ref f, []) s') : wpAny (model X.prog X.w) A (getMethod (.ref C) m pl) Q E s := by
  obtain ⟨rest, hp⟩ := h.rc
  refine PySem.W.method_cls I.kIn r.ga ?_
  refine PySem.W.cls_bind I.kIn r.rd h.at_ ?_
  refine wpAny_call (PySem.W.sm_get (s := { s with toks := s.toks + 1 }) I.kIn hp (PySem.W.handed_on rfl ?_))
  exact q _ (I.tok _)
/-- C.m(e, ..) -/
theorem pe_stc (hg : Gl X x) (hgm : X.mg x = some (.ref C)) (r : ClX.CRead X.K C (.type "type")) (h : Stc X.K C m p f) (F : FnOk X.prog X.w X.K X.mg X.base CX k f fd ps sp) (hr : Room k X.A) (hb : Binds X.K fd ps []) (hx : Passes CX X E) (ha : PA X (e :: es) t)
    (hdb : (x == ("__debug__" : Str)) = false := by decide)
    (hst : starEach (e :: es) X.env = (false, eval e X.env) :: starEach es X.env := by rfl) (hpl : (backTo pos (starEach es X.env)).any (·.1) = false := by rfl)
    (ht : eval (.Call (.Attribute (.Name x np) m apos) (e :: es) [] pos) X.env = (do
      let ov ← eval (.Name x np) X.env
      standAt apos.atName
      let (f, first) ← holding [ov] (getMethod ov m pl)
      callWith pos f first (backTo pos (starEach (e :: es) X.env)) (backToKw pos (keywordEach [] X.env))) := by rfl) :
    PE X (.Call (.Attribute (.Name x np) m apos) (e :: es) [] pos) (tStc sp E t) := by
  have he : PE X (.Name x np) (tC (.ref C)) := pe_glob (v := .ref C) hg hgm rfl hdb
  refine ⟨fun pins s σ H Q I w => ?_⟩
  refine PySem.W.methodCall_KW (pl := pl) (thn (he.run pins s σ H (fun y H1 => y = .ref C ∧ H1 = H) I ⟨rfl, rfl⟩) fun u s1 ⟨y, H1, I1, rx, ey, eH⟩ => ?_) ht
  subst ey
  subst eH
  obtain rfl : u = Value.ref C := rx
  refine getsm_ok I1 r h fun s2 I2 => ?_
  refine PySem.W.callWith_K (first := []) (h₀ := X.base) I.ok.mod.kin h.kp (thn (ha.run pos pins s2 σ H1 _ I2 w) fun us s3 ⟨vs, H2, I3, rv, q2⟩ => ⟨I3.kIn, ?_⟩) hst hpl
  have q2 : sp (vs ++ []) H2 Q E := by rw [List.append_nil]; exact q2
  exact run_fn (us := us) (vs := vs) F hr hb .nil hx I3 rv q2
/-- C.m(k = e) -/
theorem pe_stcK (hg : Gl X x) (hgm : X.mg x = some (.ref C)) (r : ClX.CRead X.K C (.type "type")) (h : Stc X.K C m p f) (F : FnOk X.prog X.w X.K X.mg X.base CX k f fd ps sp) (hr : Room k X.A) (hb : KwB fd ps 0 kw) (hx : Passes CX X E)
    (hkw : PK X kws tk) (hdb : (x == ("__debug__" : Str)) = false := by decide) (h1 : (backToKw pos (keywordEach kws X.env)).all (·.1.isSome) = true := by rfl) (h2 : (backToKw pos (keywordEach kws X.env)).filterMap (·.1) = [kw] := by rfl)
    (h3 : ((backTo pos (starEach [] X.env)).any (·.1) || (backToKw pos (keywordEach kws X.env)).any (·.1.isNone)) = false := by rfl)
    (ht : eval (.Call (.Attribute (.Name x np) m apos) [] kws pos) X.env = (do
      let ov ← eval (.Name x np) X.env
      standAt apos.atName
      let (f, first) ← holding [ov] (getMethod ov m pl)
      callWith pos f first (backTo pos (starEach [] X.env)) (backToKw pos (keywordEach kws X.env))) := by rfl) :
    PE X (.Call (.Attribute (.Name x np) m apos) [] kws pos) (tStcK sp E tk) := by
  have he : PE X (.Name x np) (tC (.ref C)) := pe_glob (v := .ref C) hg hgm rfl hdb
  refine ⟨fun pins s σ H Q I w => ?_⟩
  refine PySem.W.methodCall_KW (pl := pl) (thn (he.run pins s σ H (fun y H1 => y = .ref C ∧ H1 = H) I ⟨rfl, rfl⟩) fun u s1 ⟨y, H1, I1, rx, ey, eH⟩ => ?_) ht
  subst ey
  subst eH
  obtain rfl : u = Value.ref C := rx
  refine getsm_ok I1 r h fun s2 I2 => ?_
  refine PySem.W.callWith_KW0 (first := []) (h₀ := X.base) I.ok.mod.kin h.kp h1 ?_ h3
  refine thn (hkw.run pos pins s2 σ H1 _ I2 w) fun zs s3 ⟨ws, H2, I3, r2, z, ez, w2⟩ => ⟨I3.kIn, ?_⟩
  rw [h2]
  subst ez
  cases r2 with
  | cons rz rn =>
    cases rn
    exact run_kw (us := []) (vs := []) F hr hb hx I3 .nil rz w2
end
end G

set_option Elab.async false
set_option linter.all false
set_option maxRecDepth 100000
set_option maxHeartbeats 4000000
namespace W
open PySem PySem.Spec PyProof.Rows L2 Evl G
/-- the text by places -/
def top (i : Nat) : Stmt := PySem.Challenge.pw_wirewords_k45_relations_and_partings_jud.main.body.getD i (.Pass ⟨0, 0, 0, 0⟩)
abbrev dInteger : Stmt := top 11
abbrev dCount : Stmt := top 12
abbrev dBit : Stmt := top 13
abbrev dList : Stmt := top 14
abbrev dLetter : Stmt := top 15
abbrev dWord : Stmt := top 16
abbrev dAllBits : Stmt := top 17
abbrev dNumberOf : Stmt := top 18
abbrev dCWidth : Stmt := top 21
abbrev dCNumber : Stmt := top 22
abbrev dUnlikeRows : Stmt := top 24
abbrev dIsClosed : Stmt := top 25
abbrev dIsGoal : Stmt := top 27
abbrev dCRows : Stmt := top 28
abbrev dCWidths : Stmt := top 31
abbrev dPairMoves : Stmt := top 32
abbrev dIsState : Stmt := top 33
abbrev dIsRelation : Stmt := top 34
abbrev dIsParting : Stmt := top 35
abbrev dPot : Stmt := top 37
abbrev dDraw : Stmt := top 38
abbrev dPick : Stmt := top 39
abbrev dMachine : Stmt := top 40
abbrev dLLetters : Stmt := top 41
abbrev dPlayed : Stmt := top 42
abbrev dLWord : Stmt := top 43
abbrev dMade : Stmt := top 46
abbrev dPairs : Stmt := top 47
abbrev dDoubled : Stmt := top 48
abbrev dBent : Stmt := top 49
abbrev dMate : Stmt := top 50
abbrev dIsPair : Stmt := top 51
abbrev dLIsRel : Stmt := top 52
abbrev dLIsLetter : Stmt := top 53
abbrev dLIsPart : Stmt := top 54
abbrev dThings : Stmt := top 55
abbrev dLWords : Stmt := top 56
abbrev dRight : Stmt := top 57
abbrev dLaw : Stmt := top 58
abbrev dM (i : Nat) : Stmt := inClass (top 29) i
/-- what the top has left of names -/
structure Names (mg : Str → Option Value) : Prop where
  isinstance : mg "isinstance" = none
  int : mg "int" = none
  bool : mg "bool" = none
  list : mg "list" = none
  tuple : mg "tuple" = none
  len : mg "len" = none
  all : mg "all" = none
  abs : mg "abs" = none
  max : mg "max" = none
  min : mg "min" = none
  divmod : mg "divmod" = none
  range : mg "range" = none
  repr : mg "repr" = none
  enumerate : mg "enumerate" = none
  zip : mg "zip" = none
  any : mg "any" = none
  str : mg "str" = none
  sorted : mg "sorted" = none
  dict : mg "dict" = none
  ValueError : mg "ValueError" = none
  gWidth : ∃ t, mg "GREATEST_SMALL_WIDTH" = some (.int 4 t)
/-- a def of the module's top, where it stands -/
structure At (K : PySem.W.Frag) (mg : Str → Option Value) (x : Str) (de : Stmt) (ps : List Str) (f : Addr) (fd : FuncData) : Prop where
  fn : Fun K x x de f fd
  gl : mg x = some (.ref f)
  bi : Binds K fd ps []
/-- a method of the class at M -/
structure MthT (K : PySem.W.Frag) (M : Addr) (x qual : Str) (de : Stmt) (ps : List Str) (f : Addr) (fd : FuncData) : Prop where
  fn : Fun K x qual de f fd
  me : Meth K M x f
  bi : Binds K fd ps []
/-- a property of the class at M -/
structure PrpT (K : PySem.W.Frag) (M : Addr) (x qual : Str) (de : Stmt) (p f : Addr) (fd : FuncData) : Prop where
  fn : Fun K x qual de f fd
  pr : PropOf K M x p f
  bi : Binds K fd ["self"] []
/-- a static method of the class at M -/
structure StaT (K : PySem.W.Frag) (M : Addr) (x qual : Str) (de : Stmt) (ps : List Str) (p f : Addr) (fd : FuncData) : Prop where
  fn : Fun K x qual de f fd
  st : Stc K M x p f
  bi : Binds K fd ps []
/-- a test of a datum -/
def spT (K : PySem.W.Frag) (g : PyData → Bool) : Sp := fun vs H Q _ => ∃ x d, vs = [x] ∧ Dd K H x d ∧ ∀ H', Ex H H' → Q (.bl (g d)) H'
/-- a test of a datum, and a width -/
def spW (K : PySem.W.Frag) (g : PyData → Nat → Bool) : Sp := fun vs H Q _ => ∃ (x : V) (d : PyData) (n : Nat), vs = [x, .int (n : Int)] ∧ Dd K H x d ∧ n ≤ 100 ∧ ∀ H', Ex H H' → Q (.bl (g d n)) H'
def isInteger (d : PyData) : Bool := isI d && !isB d
def isCount : PyData → Bool | .int i => decide (0 ≤ i) | _ => false
def isBit : PyData → Bool | .int i => decide (0 ≤ i) && decide (i ≤ 1) | _ => false
/-- a built-in type as a value -/
theorem pTy {X : Cx} {x : Str} (T : String) {pos : Pos} (hg : Gl X x) (hm : X.mg x = none) (hv : bootBuiltins x = some (.type T)) (hn : x ≠ "__name__" := by decide) (hd : (x == ("__debug__" : Str)) = false := by decide) : PE X (.Name x pos) (tC (.ty T)) :=
  pe_bltn hg hm hv rfl hn hd
theorem pGs {X : Cx} {x z : Str} {t : Tok} {pos : Pos} (hg : Gl X x) (hm : X.mg x = some (.str z t)) (hd : (x == ("__debug__" : Str)) = false := by decide) : PE X (.Name x pos) (tC (.str z)) := pe_glob hg hm ⟨t, rfl⟩ hd
theorem pGi {X : Cx} {x : Str} {i : Int} {t : Tok} {pos : Pos} (hg : Gl X x) (hm : X.mg x = some (.int i t)) (hd : (x == ("__debug__" : Str)) = false := by decide) : PE X (.Name x pos) (tC (.int i)) := pe_glob hg hm ⟨t, rfl⟩ hd
/-- isinstance(x, T) of two arguments -/
abbrev tIsi (K : PySem.W.Frag) (i : Nat) (T : String) : TE := tCB (rIsi K) (tCons (tVar i) (tCons (tC (.ty T)) tNil))
theorem rd_isi {K : PySem.W.Frag} {i : Nat} {T : String} {σ : L2.St} {H : Hp} {Q : VK} {x : V} {d : PyData} {b : Bool} (hs : σ[i]? = some (some x)) (hd : Dd K H x d) (hk : kitB (tyD d) T = some b) (h : Q (.bl b) H) : tIsi K i T σ H Q :=
  ⟨x, hs, x, _, _, _, b, rfl, .ty _, hd.ty, kit_ty hk, h⟩
/-- what the top has left: the names, the defs -/
structure Txt (K : PySem.W.Frag) (mg : Str → Option Value) : Prop extends Names mg where
  integer : ∃ f fd, At K mg "is_integer" dInteger ["value"] f fd
  count : ∃ f fd, At K mg "is_count" dCount ["value"] f fd
  bit : ∃ f fd, At K mg "is_bit" dBit ["value"] f fd
  lst : ∃ f fd, At K mg "is_list" dList ["value"] f fd
  letter : ∃ f fd, At K mg "is_letter" dLetter ["value", "width"] f fd
  word : ∃ f fd, At K mg "is_word" dWord ["value", "width"] f fd
  allBits : ∃ f fd, At K mg "all_bits" dAllBits ["width"] f fd
  numberOf : ∃ f fd, At K mg "number_of" dNumberOf ["bits"] f fd
  cWidth : ∃ f fd, At K mg "check_small_width" dCWidth ["width"] f fd
  cNumber : ∃ f fd, At K mg "check_number" dCNumber ["what", "rows", "limit"] f fd
  unlikeRows : ∃ f fd, At K mg "unlike_rows" dUnlikeRows ["value", "is_row"] f fd
  isClosed : ∃ f fd, At K mg "is_closed" dIsClosed ["rows", "start", "moves"] f fd
  isGoal : ∃ f fd, At K mg "is_goal" dIsGoal ["value", "states", "out_width"] f fd
  cRows : ∃ f fd, At K mg "check_machine_rows" dCRows ["rows", "width", "out_width"] f fd
  cWidths : ∃ f fd, At K mg "check_widths" dCWidths ["one", "other"] f fd
  pairMoves : ∃ f fd, At K mg "pair_moves" dPairMoves ["one", "other"] f fd
  isState : ∃ f fd, At K mg "is_state" dIsState ["machine", "value"] f fd
  isRelation : ∃ f fd, At K mg "is_relation" dIsRelation ["one", "other", "value"] f fd
  isParting : ∃ f fd, At K mg "is_parting" dIsParting ["one", "other", "value"] f fd
  pot : ∃ f fd, At K mg "_law_pot" dPot ["_law_script", "_law_k"] f fd
  draw : ∃ f fd, At K mg "_law_draw" dDraw ["_law_pot_here", "_law_faces"] f fd
  pick : ∃ f fd, At K mg "_law_pick" dPick ["_law_pot_here", "_law_some"] f fd
  machine : ∃ f fd, At K mg "_law_machine" dMachine ["_law_pot_here", "_law_most", "_law_width", "_law_outs"] f fd
  lLetters : ∃ f fd, At K mg "_law_letters" dLLetters ["_law_width"] f fd
  played : ∃ f fd, At K mg "_law_played" dPlayed ["_law_model", "_law_state", "_law_word_here"] f fd
  lWord : ∃ f fd, At K mg "_law_word" dLWord ["_law_pot_here", "_law_width", "_law_most"] f fd
  made : ∃ f fd, At K mg "_law_made" dMade ["_law_model"] f fd
  pairs : ∃ f fd, At K mg "_law_pairs" dPairs ["_law_one", "_law_other", "_law_first"] f fd
  doubled : ∃ f fd, At K mg "_law_doubled" dDoubled ["_law_pot_here", "_law_model"] f fd
  bent : ∃ f fd, At K mg "_law_bent" dBent ["_law_pot_here", "_law_model"] f fd
  mate : ∃ f fd, At K mg "_law_mate" dMate ["_law_pot_here", "_law_model"] f fd
  isPair : ∃ f fd, At K mg "_law_is_pair" dIsPair ["_law_one", "_law_other", "_law_value"] f fd
  lIsRel : ∃ f fd, At K mg "_law_is_relation" dLIsRel ["_law_one", "_law_other", "_law_value"] f fd
  lIsLetter : ∃ f fd, At K mg "_law_is_letter" dLIsLetter ["_law_width", "_law_value"] f fd
  lIsPart : ∃ f fd, At K mg "_law_is_parting" dLIsPart ["_law_one", "_law_other", "_law_value"] f fd
  things : ∃ f fd, At K mg "_law_things" dThings ["_law_pot_here", "_law_one", "_law_other"] f fd
  lWords : ∃ f fd, At K mg "_law_words" dLWords ["_law_pot_here", "_law_model", "_law_parted"] f fd
  right : ∃ f fd, At K mg "_law_right" dRight ["_law_pot_here"] f fd
/-- the class -/
structure MacT (K : PySem.W.Frag) (mg : Str → Option Value) (M : Addr) : Prop where
  gl : mg "Machine" = some (.ref M)
  cl : Cls K M
  kp : PySem.W.keepIn K (.ref M) = true
  makes : PySem.W.makesIn K M = true
  isC : PySem.W.kitOne K (.ref M) (.ref M) = some true
  ty : ∀ (H : Hp) (a dx : Addr) (fs : List (Str × V)), H a = some (.ins M dx fs) → TyOf K H (.ref a) (.ref M)
  rd : ClX.CRead K M (.type "type")
  most : ∃ t, ClX.CVal K M (.type "type") "MOST_STATES" (.int 64) (.int 64 t)
  n_width : NoAttr K M "_width"
  n_out_width : NoAttr K M "_out_width"
  n_rows : NoAttr K M "_rows"
  init : ∃ f fd, Fun K "__init__" "Machine.__init__" (dM 1) f fd ∧ PySem.W.findIn K (.ref M) "__init__" = some (some (.ref f)) ∧ PySem.W.isFn K (.ref f) = true ∧ Binds K fd ["self", "width", "out_width", "rows"] []
  widthP : ∃ p f fd, PrpT K M "width" "Machine.width" (dM 3) p f fd
  out_widthP : ∃ p f fd, PrpT K M "out_width" "Machine.out_width" (dM 4) p f fd
  letters : ∃ f fd, MthT K M "letters" "Machine.letters" (dM 5) ["self"] f fd
  rowsM : ∃ f fd, MthT K M "rows" "Machine.rows" (dM 6) ["self"] f fd
  course : ∃ f fd, MthT K M "course" "Machine.course" (dM 8) ["self", "word"] f fd
  answer : ∃ f fd, MthT K M "answer" "Machine.answer" (dM 9) ["self", "word"] f fd
  len : ∃ f fd, MthT K M "__len__" "Machine.__len__" (dM 14) ["self"] f fd
section
variable {K : PySem.W.Frag} {H H' : Hp} {x : V} {d : PyData} {σ : L2.St} {Q : VK} {g : PyData → Bool}
mutual
theorem dp_ex (e : Ex H H') : ∀ {d : PyData} {x : V}, Dp K H x d → Dp K H' x d
  | .none, _, h => by cases h; exact .non
  | .bool b, _, h => by cases h; exact .bl b
  | .int i, _, h => by cases h; exact .int i
  | .str z, _, h => by cases h; exact .str z
  | .list ds, _, h => by
    cases h with
    | lst hs a => exact .lst (ex_l e hs) (dpAll_ex e a)
  | .tuple ds, _, h => by
    cases h with
    | tup hs a => exact .tup (ex_t e hs) (dpAll_ex e a)
  | .dict _, _, h => by cases h
theorem dpAll_ex (e : Ex H H') : ∀ {ds : List PyData} {xs : List V}, DpAll K H xs ds → DpAll K H' xs ds
  | [], _, h => by cases h; exact .nil
  | d :: ds, _, h => by
    cases h with
    | cons a b => exact .cons (dp_ex e a) (dpAll_ex e b)
end
theorem dd_ex (e : Ex H H') (h : Dd K H x d) : Dd K H' x d := by
  cases h with
  | dp q => exact .dp (dp_ex e q)
  | dk q k => exact .dk (e _ _ q) k
theorem dpAll_at : ∀ {xs : List V} {ds : List PyData} {i : Nat} {x : V}, DpAll K H xs ds → xs[i]? = some x → ∃ d, ds[i]? = some d ∧ Dp K H x d
  | _, _, _, _, .nil, e => by simp at e
  | _, _, 0, _, .cons a b, e => by
    simp at e
    subst e
    exact ⟨_, rfl, a⟩
  | _, _, i + 1, x, .cons a b, e => by
    obtain ⟨d, e1, e2⟩ := dpAll_at (i := i) (x := x) b (by simpa using e)
    exact ⟨d, by simpa using e1, e2⟩
theorem dpAll_len : ∀ {xs : List V} {ds : List PyData}, DpAll K H xs ds → xs.length = ds.length
  | _, _, .nil => rfl
  | _, _, .cons _ b => by simp [dpAll_len b]
/-- f(x), f a test -/
theorem rd_t {i : Nat} {E : XK} (hs : σ[i]? = some (some x)) (hd : Dd K H x d) (h : ∀ H', Ex H H' → Q (.bl (g d)) H') : tCall (spT K g) [] E (tCons (tVar i) tNil) σ H Q := ⟨x, hs, x, d, rfl, hd, h⟩
end
end W

set_option Elab.async false
set_option linter.all false
set_option maxRecDepth 100000
set_option maxHeartbeats 4000000
namespace W
open PySem PySem.Spec PyProof.Rows L2 Evl G
section
variable {P : Program} {w : World} {K : PySem.W.Frag} {mg : Str → Option Value} {base : Heap}
theorem scInteger : FnScope ["value"] ["value"] (defScope dInteger) := ⟨rfl, rfl, rfl, by decide +kernel, rfl, by decide +kernel, by decide +kernel⟩
theorem okInteger {f : Addr} {fd : FuncData} (F : At K mg "is_integer" dInteger ["value"] f fd) (T : Txt K mg) : FnOk P w K mg base CX0 1 f fd ["value"] (spT K isInteger) := by
  refine F.fn.ok scInteger (fun vs H Q E h => ?_) (fun cdv A outer s H vs Q E hr h => ?_)
  · obtain ⟨x, d, rfl, _⟩ := h
    rfl
  · obtain ⟨x, d, rfl, hd, k⟩ := h
    refine ⟨_, pss_one (ps_ret (pe_and (pe_callB call_isi (by rfl) T.isinstance (by decide +kernel) (pa_cons (pv 0) (pa_cons (pTy "int" (by rfl) T.int (by decide +kernel)) pa_nil)))
      (pe_one (pe_not (pe_callB call_isi (by rfl) T.isinstance (by decide +kernel) (pa_cons (pv 0) (pa_cons (pTy "bool" (by rfl) T.bool (by decide +kernel)) pa_nil))))))), ?_⟩
    refine ⟨_, rfl, x, _, _, _, _, rfl, .ty _, hd.ty, kit_ty (kit_I d), _, rfl, ?_⟩
    cases e : isI d with
    | false =>
      refine iteF ?_
      have e2 : isInteger d = false := by unfold isInteger; rw [e]; rfl
      have q := k H (Ex.refl H)
      rw [e2] at q
      exact q
    | true =>
      refine iteT ?_
      refine ⟨_, rfl, x, _, _, _, _, rfl, .ty _, hd.ty, kit_ty (kit_B d), _, rfl, ?_⟩
      have e2 : isInteger d = !isB d := by unfold isInteger; rw [e]; rfl
      have q := k H (Ex.refl H)
      rw [e2] at q
      exact q
theorem scCount : FnScope ["value"] ["value"] (defScope dCount) := ⟨rfl, rfl, rfl, by decide +kernel, rfl, by decide +kernel, by decide +kernel⟩
theorem okCount {f : Addr} {fd : FuncData} (F : At K mg "is_count" dCount ["value"] f fd) (T : Txt K mg) : FnOk P w K mg base CX0 2 f fd ["value"] (spT K isCount) := by
  obtain ⟨fI, fdI, FI⟩ := T.integer
  have GI : FnOk P w K mg base CX0 1 fI fdI ["value"] (spT K isInteger) := okInteger FI T
  refine F.fn.ok scCount (fun vs H Q E h => ?_) (fun cdv A outer s H vs Q E hr h => ?_)
  · obtain ⟨x, d, rfl, _⟩ := h
    rfl
  · obtain ⟨x, d, rfl, hd, k⟩ := h
    refine ⟨_, pss_one (ps_ret (pe_and (pe_call GI hr (by rfl) FI.gl FI.fn.kp FI.bi .nil pass0 (pa_cons (pv 0) pa_nil)) (pe_one (pe_cmpR op_ge (pv 0) pe_int (nomark _))))), ?_⟩
    refine rd_t rfl hd fun H1 e1 => ⟨_, rfl, ?_⟩
    have kk := k H1 e1
    cases e : isInteger d with
    | false =>
      have e2 : isCount d = false := by cases d <;> first | rfl | (simp [isInteger, isI, isB] at e)
      rw [e2] at kk
      exact iteF kk
    | true =>
      refine iteT ?_
      obtain ⟨i, rfl⟩ : ∃ i, d = .int i := by cases d <;> first | exact ⟨_, rfl⟩ | (simp [isInteger, isI, isB] at e)
      cases hd with
      | dp z =>
        cases z
        exact ⟨_, rfl, _, _, rfl, rfl, kk⟩
theorem scBit : FnScope ["value"] ["value"] (defScope dBit) := ⟨rfl, rfl, rfl, by decide +kernel, rfl, by decide +kernel, by decide +kernel⟩
theorem okBit {f : Addr} {fd : FuncData} (F : At K mg "is_bit" dBit ["value"] f fd) (T : Txt K mg) : FnOk P w K mg base CX0 2 f fd ["value"] (spT K isBit) := by
  obtain ⟨fI, fdI, FI⟩ := T.integer
  have GI : FnOk P w K mg base CX0 1 fI fdI ["value"] (spT K isInteger) := okInteger FI T
  refine F.fn.ok scBit (fun vs H Q E h => ?_) (fun cdv A outer s H vs Q E hr h => ?_)
  · obtain ⟨x, d, rfl, _⟩ := h
    rfl
  · obtain ⟨x, d, rfl, hd, k⟩ := h
    refine ⟨_, pss_one (ps_ret (pe_and (pe_call GI hr (by rfl) FI.gl FI.fn.kp FI.bi .nil pass0 (pa_cons (pv 0) pa_nil)) (pe_one (pe_chain op_le op_le pe_int (pv 0) pe_int)))), ?_⟩
    refine rd_t rfl hd fun H1 e1 => ⟨_, rfl, ?_⟩
    have kk := k H1 e1
    cases e : isInteger d with
    | false =>
      have e2 : isBit d = false := by cases d <;> first | rfl | (simp [isInteger, isI, isB] at e)
      rw [e2] at kk
      exact iteF kk
    | true =>
      refine iteT ?_
      obtain ⟨i, rfl⟩ : ∃ i, d = .int i := by cases d <;> first | exact ⟨_, rfl⟩ | (simp [isInteger, isI, isB] at e)
      cases hd with
      | dp z =>
        cases z
        have e3 : isBit (.int i) = (decide (0 ≤ i) && decide (i ≤ 1)) := rfl
        rw [e3] at kk
        refine ⟨_, rfl, _, _, rfl, rfl, _, rfl, ?_⟩
        cases e4 : decide ((0 : Int) ≤ i) with
        | false =>
          rw [e4] at kk
          exact iteF kk
        | true =>
          rw [e4] at kk
          exact iteT ⟨_, _, rfl, rfl, kk⟩
end
end W

set_option Elab.async false
set_option linter.all false
set_option maxRecDepth 100000
set_option maxHeartbeats 4000000
namespace W
open PySem PySem.Spec PyProof.Rows L2 Evl G
def isList (d : PyData) : Bool := isL d || isT d
def isLetter (d : PyData) (n : Nat) : Bool := match d with
  | .tuple ds => decide (ds.length = n) && ds.all isBit
  | _ => false
def isWord (d : PyData) (n : Nat) : Bool := match d with
  | .tuple ds => ds.all fun d => isLetter d n
  | .list ds => ds.all fun d => isLetter d n
  | _ => false
section
variable {P : Program} {w : World} {K : PySem.W.Frag} {mg : Str → Option Value} {base : Heap}
theorem scList : FnScope ["value"] ["value"] (defScope dList) := ⟨rfl, rfl, rfl, by decide +kernel, rfl, by decide +kernel, by decide +kernel⟩
theorem okList {f : Addr} {fd : FuncData} (F : At K mg "is_list" dList ["value"] f fd) (T : Txt K mg) : FnOk P w K mg base CX0 1 f fd ["value"] (spT K isList) := by
  refine F.fn.ok scList (fun vs H Q E h => ?_) (fun cdv A outer s H vs Q E hr h => ?_)
  · obtain ⟨x, d, rfl, _⟩ := h
    rfl
  · obtain ⟨x, d, rfl, hd, k⟩ := h
    refine ⟨_, pss_one (ps_ret (pe_callB call_isiT (by rfl) T.isinstance (by decide +kernel) (pa_cons (pv 0) (pa_cons (pe_tup (pa_cons (pTy "list" (by rfl) T.list (by decide +kernel)) (pa_cons (pTy "tuple" (by rfl) T.tuple (by decide +kernel)) pa_nil))) pa_nil)))), ?_⟩
    refine ⟨_, rfl, (by show 2 ≤ sizeLine; decide), fun p hp => ?_⟩
    have e1 : Ex H (upd H p (.tup [.ty "list", .ty "tuple"])) := Ex.new hp
    refine ⟨x, p, _, _, [.type "list", .type "tuple"], isList d, rfl, upd_same, .cons (.ty _) (.cons (.ty _) .nil), (dd_ex e1 hd).ty, ?_, k _ e1⟩
    refine kitAny_cons (kit_ty (kit_L d)) (fun e => kitAny_cons (kit_ty (kit_T d)) (fun e2 => ?_) (fun e2 => ?_)) (fun e => ?_)
    · have z : isList d = false := by unfold isList; rw [e, e2]; rfl
      rw [z]
      exact kitAny_nil
    · unfold isList
      rw [e2]
      simp
    · unfold isList
      rw [e]
      rfl
theorem scLetter : FnScope ["value", "width", "bit"] ["value", "width"] (defScope dLetter) := ⟨rfl, rfl, rfl, by decide +kernel, rfl, by decide +kernel, by decide +kernel⟩
theorem okLetter {f : Addr} {fd : FuncData} (F : At K mg "is_letter" dLetter ["value", "width"] f fd) (T : Txt K mg) : FnOk P w K mg base CX0 3 f fd ["value", "width"] (spW K isLetter) := by
  obtain ⟨fB, fdB, FB⟩ := T.bit
  have GB : FnOk P w K mg base CX0 2 fB fdB ["value"] (spT K isBit) := okBit FB T
  refine F.fn.ok scLetter (fun vs H Q E h => ?_) (fun cdv A outer s H vs Q E hr h => ?_)
  · obtain ⟨x, d, n, rfl, _⟩ := h
    rfl
  · obtain ⟨x, d, n, rfl, hd, hn, k⟩ := h
    refine ⟨_, pss_one (ps_ret (pe_and (pe_callB call_isi (by rfl) T.isinstance (by decide +kernel) (pa_cons (pv 0) (pa_cons (pTy "tuple" (by rfl) T.tuple (by decide +kernel)) pa_nil)))
      (pe_and (pe_cmpR op_eq (pe_callB call_len_seq (by rfl) T.len PySem.boot_len (pa_cons (pv 0) pa_nil)) (pv 1) (nomark _))
      (pe_one (pe_callB (cr_all rfl) (by rfl) T.all (by decide +kernel) (pa_cons (pe_lc (own := [("bit", 2)]) (g := gName 2) (by rfl) scLetter.nd (pi_tup (pv 0)) (blkOk_by (own := [("bit", 2)]) (N := ["value", "width", "bit"]) (sc := defScope dLetter) (by decide +kernel))
        (fun _ _ _ _ _ => pg_name (i := 2) scLetter.nd rfl (Or.inl rfl)) (fun _ _ _ _ _ => pts_nil) (fun _ _ _ _ _ => pe_call GB hr (by rfl) FB.gl FB.fn.kp FB.bi .nil pass0 (pa_cons (pv 2) pa_nil))) pa_nil)))))), ?_⟩
    refine rd_isi (K := K) (i := 0) (T := "tuple") rfl hd (kit_T d) ⟨_, rfl, ?_⟩
    cases e : isT d with
    | false =>
      have kk := k H (Ex.refl H)
      have e2 : isLetter d n = false := by cases d <;> first | rfl | (simp [isT] at e)
      rw [e2] at kk
      exact iteF kk
    | true =>
      obtain ⟨ds, rfl⟩ : ∃ ds, d = .tuple ds := by cases d <;> first | exact ⟨_, rfl⟩ | (simp [isT] at e)
      refine iteT ?_
      cases hd with
      | dp z =>
        cases z with
        | @tup a xs _ hs ha =>
          have hl := dpAll_len ha
          refine ⟨_, rfl, a, xs, rfl, .inr hs, _, rfl, rfl, _, rfl, ?_⟩
          have e3 : isLetter (.tuple ds) n = (decide (ds.length = n) && ds.all isBit) := rfl
          rw [e3] at k
          by_cases c : ds.length = n
          · have c' : decide ((V.int (xs.length : Int)) = V.int (n : Int)) = true := by
              rw [hl, c]
              exact decide_eq_true rfl
            rw [c']
            refine iteT ?_
            rw [decide_eq_true c] at k
            refine ⟨_, rfl, a, rfl, ⟨_, hs⟩, fun D new => ?_⟩
            refine lc_data (K := K) (ds := ds) walk_tup isBit (by omega) (fun H' e => ex_t e hs) ha (fun x d hx => ?_) (fun i x e => dpAll_at ha e) new (fun H' e q => ?_)
            · intro H1 e1 Q1 q1
              exact rd_t (i := 2) rfl (.dp (dp_ex e1 hx)) q1
            · refine ⟨D, ds.map isBit, rfl, .inl (.inl q), ?_⟩
              have kk := k H' e
              have e5 : (ds.map isBit).all id = ds.all isBit := by rw [List.all_map]; rfl
              rw [e5]
              simpa using kk
          · have c' : decide ((V.int (xs.length : Int)) = V.int (n : Int)) = false := by
              rw [hl]
              refine decide_eq_false fun z => c ?_
              have := V.int.inj z
              omega
            rw [c']
            have kk := k H (Ex.refl H)
            rw [decide_eq_false c] at kk
            exact iteF kk
end
end W

set_option Elab.async false
set_option linter.all false
set_option maxRecDepth 100000
set_option maxHeartbeats 4000000
namespace W
open PySem PySem.Spec PyProof.Rows L2 Evl G
def szD : PyData → Nat
  | .list ds => ds.length
  | .tuple ds => ds.length
  | _ => 0
theorem isWord_no {d : PyData} {n : Nat} (e : isL d = false) (e0 : isT d = false) : isWord d n = false := by
  cases d with
  | list ds => cases e
  | tuple ds => cases e0
  | _ => rfl
def spWs (K : PySem.W.Frag) (g : PyData → Nat → Bool) : Sp := fun vs H Q _ => ∃ (x : V) (d : PyData) (n : Nat), vs = [x, .int (n : Int)] ∧ Dd K H x d ∧ n ≤ 100 ∧ szD d ≤ 1000 ∧ ∀ H', Ex H H' → Q (.bl (g d n)) H'
section
variable {P : Program} {w : World} {K : PySem.W.Frag} {mg : Str → Option Value} {base : Heap}
theorem rd_w {H : Hp} {σ : L2.St} {Q : VK} {g : PyData → Nat → Bool} {x : V} {d : PyData} {n : Nat} {i j : Nat} {E : XK} (hs : σ[i]? = some (some x)) (hj : σ[j]? = some (some (.int (n : Int)))) (hd : Dd K H x d) (hn : n ≤ 100) (h : ∀ H', Ex H H' → Q (.bl (g d n)) H') :
    tCall (spW K g) [] E (tCons (tVar i) (tCons (tVar j) tNil)) σ H Q := ⟨x, hs, .int (n : Int), hj, x, d, n, rfl, hd, hn, h⟩
theorem scWord : FnScope ["value", "width", "letter"] ["value", "width"] (defScope dWord) := ⟨rfl, rfl, rfl, by decide +kernel, rfl, by decide +kernel, by decide +kernel⟩
theorem okWord {f : Addr} {fd : FuncData} (F : At K mg "is_word" dWord ["value", "width"] f fd) (T : Txt K mg) : FnOk P w K mg base CX0 4 f fd ["value", "width"] (spWs K isWord) := by
  obtain ⟨fL, fdL, FL⟩ := T.lst
  obtain ⟨fB, fdB, FB⟩ := T.letter
  have GL : FnOk P w K mg base CX0 1 fL fdL ["value"] (spT K isList) := okList FL T
  have GB : FnOk P w K mg base CX0 3 fB fdB ["value", "width"] (spW K isLetter) := okLetter FB T
  refine F.fn.ok scWord (fun vs H Q E h => ?_) (fun cdv A outer s H vs Q E hr h => ?_)
  · obtain ⟨x, d, n, rfl, _⟩ := h
    rfl
  · obtain ⟨x, d, n, rfl, hd, hn, hz, k⟩ := h
    have hr1 : Room 1 _ := hr.mono (by decide)
    cases e : isL d with
    | true =>
      obtain ⟨ds, rfl⟩ : ∃ ds, d = .list ds := by cases d <;> first | exact ⟨_, rfl⟩ | (simp [isL] at e)
      refine ⟨_, pss_one (ps_ret (pe_and (pe_call GL hr1 (by rfl) FL.gl FL.fn.kp FL.bi .nil pass0 (pa_cons (pv 0) pa_nil))
        (pe_one (pe_callB (cr_all rfl) (by rfl) T.all (by decide +kernel) (pa_cons (pe_lc (own := [("letter", 2)]) (g := gName 2) (by rfl) scWord.nd (pi_list (pv 0)) (blkOk_by (own := [("letter", 2)]) (N := ["value", "width", "letter"]) (sc := defScope dWord) (by decide +kernel))
          (fun _ _ _ _ _ => pg_name (i := 2) scWord.nd rfl (Or.inl rfl)) (fun _ _ _ _ _ => pts_nil) (fun _ _ _ _ _ => pe_call GB hr (by rfl) FB.gl FB.fn.kp FB.bi .nil pass0 (pa_cons (pv 2) (pa_cons (pv 1) pa_nil)))) pa_nil))))), ?_⟩
      refine rd_t rfl hd fun H1 e1 => ⟨true, rfl, iteT ?_⟩
      have hd1 := dd_ex e1 hd
      cases hd1 with
      | dp z =>
        cases z with
        | @lst a xs _ hs ha =>
          have hl := dpAll_len ha
          refine ⟨_, rfl, a, rfl, ⟨_, hs⟩, fun D new => ?_⟩
          refine lc_data (K := K) (ds := ds) walk_list (fun d => isLetter d n) (by have : ds.length ≤ 1000 := hz; omega) (fun H' e => ex_l e hs) ha (fun x d hx => ?_) (fun i x e => dpAll_at ha e) new (fun H' e q => ?_)
          · intro H2 e2 Q1 q1
            exact rd_w (i := 2) (j := 1) rfl rfl (.dp (dp_ex e2 hx)) hn q1
          · refine ⟨D, ds.map (fun d => isLetter d n), rfl, .inl (.inl q), ?_⟩
            have kk := k H' (e1.trans e)
            have e5 : (ds.map (fun d => isLetter d n)).all id = ds.all (fun d => isLetter d n) := by rw [List.all_map]; rfl
            rw [e5]
            exact kk
    | false =>
      refine ⟨_, pss_one (ps_ret (pe_and (pe_call GL hr1 (by rfl) FL.gl FL.fn.kp FL.bi .nil pass0 (pa_cons (pv 0) pa_nil))
        (pe_one (pe_callB (cr_all rfl) (by rfl) T.all (by decide +kernel) (pa_cons (pe_lc (own := [("letter", 2)]) (g := gName 2) (by rfl) scWord.nd (pi_tup (pv 0)) (blkOk_by (own := [("letter", 2)]) (N := ["value", "width", "letter"]) (sc := defScope dWord) (by decide +kernel))
          (fun _ _ _ _ _ => pg_name (i := 2) scWord.nd rfl (Or.inl rfl)) (fun _ _ _ _ _ => pts_nil) (fun _ _ _ _ _ => pe_call GB hr (by rfl) FB.gl FB.fn.kp FB.bi .nil pass0 (pa_cons (pv 2) (pa_cons (pv 1) pa_nil)))) pa_nil))))), ?_⟩
      refine rd_t rfl hd fun H1 e1 => ⟨_, rfl, ?_⟩
      cases e0 : isT d with
      | false =>
        have kk := k H1 e1
        have e2 : isWord d n = false := isWord_no e e0
        have e3 : isList d = false := by unfold isList; rw [e, e0]; rfl
        rw [e2] at kk
        rw [e3]
        exact iteF kk
      | true =>
        obtain ⟨ds, rfl⟩ : ∃ ds, d = .tuple ds := by cases d <;> first | exact ⟨_, rfl⟩ | (simp [isT] at e0)
        refine iteT ?_
        have hd1 := dd_ex e1 hd
        cases hd1 with
        | dp z =>
          cases z with
          | @tup a xs _ hs ha =>
            have hl := dpAll_len ha
            refine ⟨_, rfl, a, rfl, ⟨_, hs⟩, fun D new => ?_⟩
            refine lc_data (K := K) (ds := ds) walk_tup (fun d => isLetter d n) (by have : ds.length ≤ 1000 := hz; omega) (fun H' e => ex_t e hs) ha (fun x d hx => ?_) (fun i x e => dpAll_at ha e) new (fun H' e q => ?_)
            · intro H2 e2 Q1 q1
              exact rd_w (i := 2) (j := 1) rfl rfl (.dp (dp_ex e2 hx)) hn q1
            · refine ⟨D, ds.map (fun d => isLetter d n), rfl, .inl (.inl q), ?_⟩
              have kk := k H' (e1.trans e)
              have e5 : (ds.map (fun d => isLetter d n)).all id = ds.all (fun d => isLetter d n) := by rw [List.all_map]; rfl
              rw [e5]
              exact kk
end
end W

set_option Elab.async false
set_option linter.all false
set_option maxRecDepth 100000
set_option maxHeartbeats 4000000
/-! A tuple once, or not at all: t * 1, t * 0. -/
namespace G
open PySem PySem.Spec PyProof.Rows L2 Evl
theorem tmul_one (l : Addr) (items : Array Value) (n : Nat) (sl : Array (Option Value)) (u : Tok) (dd : Option Addr) :
    Meets (Builtin.«tuple.__mul__» ⟨[.ref l, .int 1 u], []⟩) (fun _ R s => s.heap.get? l = some { cls := .type "tuple", dict := dd, data := .seq items n, slots := sl } ∧ R (.ok (.ret (Value.ref l))) s) :=
  .of_wp fun prog w A R s h => by
    obtain ⟨hp, g, d, tk, os⟩ := s
    obtain ⟨hl, h⟩ := h
    have f1 := AutoSeq1.idx_int
    wp_walk using wpAny_loadPart' hl
    exact ⟨_, rfl, h⟩
theorem tmul_zero (l : Addr) (items : Array Value) (n : Nat) (sl : Array (Option Value)) (u : Tok) (dd : Option Addr) (hi : items.isEmpty = false) :
    Meets (Builtin.«tuple.__mul__» ⟨[.ref l, .int 0 u], []⟩) (fun _ R s => s.heap.get? l = some { cls := .type "tuple", dict := dd, data := .seq items n, slots := sl } ∧
      R (.ok (.ret (Value.ref s.heap.objs.size))) { s with heap := s.heap.push { cls := Value.type "tuple", data := Data.seq #[] }, toks := s.toks }) :=
  .of_wp fun prog w A R s h => by
    obtain ⟨hp, g, d, tk, os⟩ := s
    obtain ⟨hl, h⟩ := h
    have f1 := AutoSeq1.idx_int
    wp_walk using wpAny_loadPart' hl
    exact ⟨_, rfl, h⟩
/-- t * k, 0 ≤ k -/
def rRepA (K : PySem.W.Frag) : R2 := fun x y H Q => ∃ l k xs, x = .ref l ∧ y = .int k ∧ SqT K H l xs ∧ xs ≠ [] ∧ 0 ≤ k ∧ k ≤ 1000 ∧ xs.length ≤ 1000 ∧ (k = 1 → Q (.ref l) H) ∧ (k ≠ 1 → ∀ p, H p = none → Q (.ref p) (upd H p (.tup (List.replicate k.toNat xs).flatten)))
theorem op_repA {X : Cx} : OpR X (binaryOp .Mult) (rRepA X.K) := by
  intro pins s σ H x y v u Q I rx ry h
  obtain ⟨l, k, xs, rfl, rfl, hT, hne, h0, h1, hz, q1, q2⟩ := h
  by_cases c2 : 2 ≤ k
  · exact op_repT pins s σ H _ _ v u Q I rx ry ⟨l, k, xs, rfl, rfl, hT, hne, c2, h1, hz, q2 (by omega)⟩
  · cases rx
    obtain ⟨t, rfl⟩ := ry
    obtain ⟨its, r, ⟨⟨cl, dd, dat, sl⟩, ho, hc, n, hd⟩, hs⟩ := I.tuple hT
    simp only at hc hd
    subst hc hd
    have hi : its.toArray.isEmpty = false := by
      cases its with
      | nil =>
        cases r
        exact absurd rfl hne
      | cons a b => rfl
    by_cases c1 : k = 1
    · subst c1
      refine wpAny_binaryOp_repeat_ref (T := "tuple") (U := "int") (by decide) ⟨_, ho, rfl⟩ (fun s' => typeIs_int s' 1 t) noFill_tuple_mul F.fills_int_mul F.slot_int_rmul repeat_tuple F.slot_int_index.lookup ?_
      refine call_meets F.slot_int_rmul (typeIs_int s 1 t) F.entry_int_rmul (F.args_int_rmul_2 _ _) (int_rmul_tuple 1 t l its.toArray n dd sl) ⟨ho, rfl, ⟨_, ho, rfl⟩, ?_⟩
      exact call_meets F.slot_tuple_mul ⟨_, ho, rfl⟩ F.entry_tuple_mul (F.args_tuple_mul_2 _ _) (tmul_one l its.toArray n sl t dd) ⟨ho, .ref l, H, I.tok _, rfl, q1 rfl⟩
    · obtain rfl : k = 0 := by omega
      refine wpAny_binaryOp_repeat_ref (T := "tuple") (U := "int") (by decide) ⟨_, ho, rfl⟩ (fun s' => typeIs_int s' 0 t) noFill_tuple_mul F.fills_int_mul F.slot_int_rmul repeat_tuple F.slot_int_index.lookup ?_
      refine call_meets F.slot_int_rmul (typeIs_int s 0 t) F.entry_int_rmul (F.args_int_rmul_2 _ _) (int_rmul_tuple 0 t l its.toArray n dd sl) ⟨ho, rfl, ⟨_, ho, rfl⟩, ?_⟩
      refine call_meets F.slot_tuple_mul ⟨_, ho, rfl⟩ F.entry_tuple_mul (F.args_tuple_mul_2 _ _) (tmul_zero l its.toArray n sl t dd hi) ⟨ho, ?_⟩
      refine ⟨.ref s.heap.objs.size, _, I.laid (t' := s.toks) (o := .tup (List.replicate (0 : Int).toNat xs).flatten) (fun b ob q => Heap.get?_push_of_some _ q) (Nat.le_refl _) ?_, rfl, q2 (by decide) _ (I.hok.fresh (Nat.le_refl _))⟩
      exact ⟨Nat.zero_le _, [], .nil, IsTup.new _ _⟩
end G

set_option Elab.async false
set_option linter.all false
set_option maxRecDepth 100000
set_option maxHeartbeats 4000000
/-! What is written out as data: everything in it is new. -/
namespace G
open PySem PySem.Spec PyProof.Rows L2 Evl
/-- what H' has and H had not -/
def nw (H H' : Hp) : Hp := fun b => if H b = none then H' b else none
theorem nw_some {H H' : Hp} {b : Addr} {o : HO} : nw H H' b = some o ↔ H b = none ∧ H' b = some o := by
  unfold nw
  by_cases h : H b = none
  · rw [if_pos h]; exact ⟨fun e => ⟨h, e⟩, fun e => e.2⟩
  · rw [if_neg h]; exact ⟨fun e => (by cases e), fun e => absurd e.1 h⟩
theorem nw_ex {H H1 H2 : Hp} (e : Ex H1 H2) : Ex (nw H H1) (nw H H2) := fun b o h => by
  rw [nw_some] at h ⊢
  exact ⟨h.1, e b o h.2⟩
theorem nw_back {H H1 H2 : Hp} (e : Ex H H1) : Ex (nw H1 H2) (nw H H2) := fun b o h => by
  rw [nw_some] at h ⊢
  exact ⟨fresh_back e h.1, h.2⟩
theorem nw_out {H H' : Hp} : Ex (nw H H') H' := fun b o h => (nw_some.mp h).2
mutual
theorem dp_exG {K : PySem.W.Frag} {H H' : Hp} (e : Ex H H') : ∀ {d : PyData} {x : V}, Dp K H x d → Dp K H' x d
  | .none, _, h => by cases h; exact .non
  | .bool b, _, h => by cases h; exact .bl b
  | .int i, _, h => by cases h; exact .int i
  | .str z, _, h => by cases h; exact .str z
  | .list ds, _, h => by
    cases h with
    | lst hs a => exact .lst (ex_l e hs) (dpAll_exG e a)
  | .tuple ds, _, h => by
    cases h with
    | tup hs a => exact .tup (ex_t e hs) (dpAll_exG e a)
  | .dict _, _, h => by cases h
theorem dpAll_exG {K : PySem.W.Frag} {H H' : Hp} (e : Ex H H') : ∀ {ds : List PyData} {xs : List V}, DpAll K H xs ds → DpAll K H' xs ds
  | [], _, h => by cases h; exact .nil
  | d :: ds, _, h => by
    cases h with
    | cons a b => exact .cons (dp_exG e a) (dpAll_exG e b)
end
theorem dd_exG {K : PySem.W.Frag} {H H' : Hp} {x : V} {d : PyData} (e : Ex H H') (h : Dd K H x d) : Dd K H' x d := by
  cases h with
  | dp q => exact .dp (dp_exG e q)
  | dk q k => exact .dk (e _ _ q) k
inductive DdAll (K : PySem.W.Frag) (H : Hp) : List V → List PyData → Prop
  | nil : DdAll K H [] []
  | cons {x : V} {d : PyData} {xs : List V} {ds : List PyData} : Dd K H x d → DdAll K H xs ds → DdAll K H (x :: xs) (d :: ds)
theorem DdAll.ex {K : PySem.W.Frag} {H H' : Hp} (e : Ex H H') {xs : List V} {ds : List PyData} (h : DdAll K H xs ds) : DdAll K H' xs ds := by
  induction h with
  | nil => exact .nil
  | cons a _ ih => exact .cons (dd_exG e a) ih
theorem DdAll.len {K : PySem.W.Frag} {H : Hp} {xs : List V} {ds : List PyData} (h : DdAll K H xs ds) : xs.length = ds.length := by
  induction h with
  | nil => rfl
  | cons _ _ ih => simp [ih]
theorem DdAll.append {K : PySem.W.Frag} {H : Hp} {xs ys : List V} {ds es : List PyData} (h : DdAll K H xs ds) (q : DdAll K H ys es) : DdAll K H (xs ++ ys) (ds ++ es) := by
  induction h with
  | nil => exact q
  | cons a _ ih => exact .cons a ih
theorem DdAll.at {K : PySem.W.Frag} {H : Hp} {xs : List V} {ds : List PyData} (h : DdAll K H xs ds) : ∀ {i : Nat} {x : V}, xs[i]? = some x → ∃ d, ds[i]? = some d ∧ Dd K H x d := by
  induction h with
  | nil => intro i x e; simp at e
  | cons a _ ih =>
    intro i x e
    cases i with
    | zero =>
      simp at e
      subst e
      exact ⟨_, rfl, a⟩
    | succ i =>
      obtain ⟨d, e1, e2⟩ := ih (by simpa using e)
      exact ⟨d, by simpa using e1, e2⟩
/-- te gives a new datum -/
def Nd (K : PySem.W.Frag) (te : TE) (d : PyData) : Prop := ∀ σ H (Q : VK), (∀ x H', Ex H H' → Dp K (nw H H') x d → Q x H') → te σ H Q
def Nds (K : PySem.W.Frag) (ta : TA) (ds : List PyData) : Prop := ∀ σ H (Q : List V → Hp → Prop), (∀ xs H', Ex H H' → DpAll K (nw H H') xs ds → Q xs H') → ta σ H Q
def Ndd (K : PySem.W.Frag) (te : TE) (d : PyData) : Prop := ∀ σ H (Q : VK), (∀ x H', Ex H H' → Dd K (nw H H') x d → Q x H') → te σ H Q
def Ndds (K : PySem.W.Frag) (ta : TA) (ds : List PyData) : Prop := ∀ σ H (Q : List V → Hp → Prop), (∀ xs H', Ex H H' → DdAll K (nw H H') xs ds → Q xs H') → ta σ H Q
section
variable {K : PySem.W.Frag} {te : TE} {ta : TA} {d : PyData} {ds : List PyData}
theorem nd_non : Nd K (tC .non) .none := fun _ H _ q => q _ H (Ex.refl H) .non
theorem nd_bl {b : Bool} : Nd K (tC (.bl b)) (.bool b) := fun _ H _ q => q _ H (Ex.refl H) (.bl b)
theorem nd_int {i : Int} : Nd K (tC (.int i)) (.int i) := fun _ H _ q => q _ H (Ex.refl H) (.int i)
theorem nd_str {z : Str} : Nd K (tC (.str z)) (.str z) := fun _ H _ q => q _ H (Ex.refl H) (.str z)
theorem nd_neg {i : Int} : Nd K (tUn (rU fun i => .int (-i)) (tC (.int i))) (.int (-i)) := fun _ H _ q => ⟨i, rfl, q _ H (Ex.refl H) (.int (-i))⟩
theorem nds_nil : Nds K tNil [] := fun _ H _ q => q _ H (Ex.refl H) .nil
theorem nds_cons (a : Nd K te d) (b : Nds K ta ds) : Nds K (tCons te ta) (d :: ds) := fun σ H Q q =>
  a σ H _ fun x H1 e1 h1 => b σ H1 _ fun xs H2 e2 h2 => q _ H2 (e1.trans e2) (.cons (dp_exG (nw_ex e2) h1) (dpAll_exG (nw_back e1) h2))
theorem DpAll.lenG {H : Hp} : ∀ {ds : List PyData} {xs : List V}, DpAll K H xs ds → xs.length = ds.length
  | [], _, h => by cases h; rfl
  | _ :: _, _, h => by
    cases h with
    | cons _ b => simp [DpAll.lenG b]
theorem nd_tup (a : Nds K ta ds) (hl : ds.length ≤ 1000) : Nd K (tTup ta) (.tuple ds) := fun σ H Q q =>
  a σ H _ fun xs H1 e1 h1 => ⟨Nat.le_trans (by rw [DpAll.lenG h1]; exact hl) (show 1000 ≤ sizeLine by decide), fun p hp => by
    have e2 : Ex H1 (upd H1 p (.tup xs)) := Ex.new hp
    refine q _ _ (e1.trans e2) (.tup (xs := xs) (.inl (.inl ?_)) (dpAll_exG (nw_ex e2) h1))
    rw [nw_some]
    exact ⟨fresh_back e1 hp, upd_same⟩⟩
theorem nd_lst (a : Nds K ta ds) (hl : ds.length ≤ 1000) : Nd K (tLst ta) (.list ds) := fun σ H Q q =>
  a σ H _ fun xs H1 e1 h1 => ⟨Nat.le_trans (by rw [DpAll.lenG h1]; exact hl) (show 1000 ≤ sizeLine by decide), fun p hp => by
    have e2 : Ex H1 (upd H1 p (.lst xs)) := Ex.new hp
    refine q _ _ (e1.trans e2) (.lst (xs := xs) (.inl (.inl ?_)) (dpAll_exG (nw_ex e2) h1))
    rw [nw_some]
    exact ⟨fresh_back e1 hp, upd_same⟩⟩
theorem ndd_of (a : Nd K te d) : Ndd K te d := fun σ H Q q => a σ H Q fun x H' e h => q x H' e (.dp h)
theorem ndds_nil : Ndds K tNil [] := fun _ H _ q => q _ H (Ex.refl H) .nil
theorem ndds_cons (a : Ndd K te d) (b : Ndds K ta ds) : Ndds K (tCons te ta) (d :: ds) := fun σ H Q q =>
  a σ H _ fun x H1 e1 h1 => b σ H1 _ fun xs H2 e2 h2 => q _ H2 (e1.trans e2) (.cons (dd_exG (nw_ex e2) h1) (h2.ex (nw_back e1)))
theorem ndd_empty : Ndd K tDNewK (.dict []) := fun σ H Q q p hp => q _ _ (Ex.new hp) (.dk (kvs := []) (nw_some.mpr ⟨hp, upd_same⟩) .nil)
/-- a list of data, written out: l is new -/
theorem rd_data {σ : L2.St} {H : Hp} {Q : VK} (a : Ndds K ta ds) (hl : ds.length ≤ 1000) (q : ∀ l xs H', H l = none → Ex H H' → H' l = some (.lst xs) → DdAll K (nw H H') xs ds → Q (.ref l) H') : tLst ta σ H Q :=
  a σ H _ fun xs H1 e1 h1 => ⟨Nat.le_trans (by rw [h1.len]; exact hl) (show 1000 ≤ sizeLine by decide), fun p hp =>
    q p xs _ (fresh_back e1 hp) (e1.trans (Ex.new hp)) upd_same (h1.ex (nw_ex (Ex.new hp)))⟩
end
end G

set_option Elab.async false
set_option linter.all false
set_option maxRecDepth 100000
set_option maxHeartbeats 4000000
/-! Values without changes: more of what evaluates to what. -/
namespace G
open PySem PySem.Spec PyProof.Rows L2 Evl
/-- a list, new or not -/
def EvLs (te : TE) (σ : L2.St) (H : Hp) (xs : List V) : Prop := ∀ H1, Ex H H1 → ∀ Q : VK, (∀ p H2, Ex H1 H2 → H2 p = some (.lst xs) → Q (.ref p) H2) → te σ H1 Q
section
variable {K : PySem.W.Frag} {σ : L2.St} {H : Hp} {ta tb te : TE} {xs ys : List V} {x y z v : V}
theorem EvLs.of (h : EvL te σ H xs) : EvLs te σ H xs := fun H1 e Q q => h H1 e Q fun p H2 _ e2 h2 => q p H2 e2 h2
theorem evs_var {i : Nat} {a : Addr} (hs : σ[i]? = some (some (.ref a))) (hl : H a = some (.lst xs)) : EvLs (tVar i) σ H xs := fun H1 e Q q => ⟨_, hs, q a H1 (Ex.refl H1) (e _ _ hl)⟩
theorem el_cat (ha : EvLs ta σ H xs) (hb : EvLs tb σ H ys) (hz : xs.length + ys.length ≤ 100000) : EvL (tOp rCat ta tb) σ H (xs ++ ys) := fun H1 e Q q =>
  ha H1 e _ fun p H2 e2 h2 => hb H2 (e.trans e2) _ fun p' H3 e3 h3 => ⟨p, p', xs, ys, rfl, rfl, e3 _ _ h2, h3, sz_of hz, fun c hc => q c _ (fresh_back (e2.trans e3) hc) ((e2.trans e3).trans (Ex.new hc)) upd_same⟩
theorem ev_callK {pro : Sp} {gW : List V → List V → List V} {E : XK} {tk : TA} {vs : List V} (h : EvA tk σ H vs) (hs : SpV pro (gW [] vs) H z) : Ev (tCallK pro gW E tNil tk) σ H z := fun H1 e Q q =>
  h H1 e _ fun H2 e2 => hs H2 (e.trans e2) Q (fun H3 e3 => q H3 (e2.trans e3)) E
theorem ea_2 {t1 t2 : TE} (h1 : Ev t1 σ H x) (h2 : Ev t2 σ H y) : EvA (tCons t1 (tCons t2 tNil)) σ H [x, y] := ea_cons h1 (ea_cons h2 ea_nil)
theorem ea_1 {t1 : TE} (h1 : Ev t1 σ H x) : EvA (tCons t1 tNil) σ H [x] := ea_cons h1 ea_nil
theorem el_rep {n : Nat} (ha : EvLs ta σ H xs) (hz : xs.length * n ≤ 100000) (hn : n ≤ 100000) : EvL (tOp rRep ta (tC (.int (n : Int)))) σ H (List.replicate n xs).flatten := fun H1 e Q q =>
  ha H1 e _ fun p H2 e2 h2 => ⟨p, (n : Int), xs, rfl, rfl, h2, by omega, by omega, by
    have : ((n : Int)).toNat = n := by omega
    rw [this]
    exact sz_of hz, fun c hc => by
    have : ((n : Int)).toNat = n := by omega
    rw [this]
    exact q c _ (fresh_back e2 hc) (e2.trans (Ex.new hc)) upd_same⟩
/-- a new list, then what follows -/
theorem rd_l {Q : VK} (xs : List V) (h : EvL te σ H xs) (q : ∀ p H1, H p = none → Ex H H1 → H1 p = some (.lst xs) → Q (.ref p) H1) : te σ H Q := h H (Ex.refl H) Q q
theorem rd_v {Q : VK} (v : V) (h : Ev te σ H v) (q : ∀ H1, Ex H H1 → Q v H1) : te σ H Q := h H (Ex.refl H) Q q
variable {u : TS} {D : Ends} {i j : Nat}
theorem q_asgL (xs : List V) (h : EvL te σ H xs) (k : ∀ p H1, H p = none → Ex H H1 → H1 p = some (.lst xs) → u D (σ.set i (some (.ref p))) H1) : tSeq (tAsg te (gName i)) u D σ H := h H (Ex.refl H) _ fun p H1 a b c => k p H1 a b c
theorem q_asgV (v : V) (h : Ev te σ H v) (k : ∀ H1, Ex H H1 → u D (σ.set i (some v)) H1) : tSeq (tAsg te (gName i)) u D σ H := h H (Ex.refl H) _ fun H1 a => k H1 a
theorem q_par {ta : TA} (v z : V) (h : EvA ta σ H [v, z]) (k : ∀ H1, Ex H H1 → u D ((σ.set i (some v)).set j (some z)) H1) : tSeq (tPar i j ta) u D σ H := h H (Ex.refl H) _ fun H1 a => ⟨v, z, rfl, k H1 a⟩
/-- for x in range(n), n written -/
theorem q_forR {tb : TS} {n : Nat} (hn : n ≤ 100000) (Pv : Nat → L2.St → Hp → Prop) (h0 : Pv 0 σ H)
    (hs : ∀ (i : Nat) (σ' : L2.St) (H' : Hp), i < n → Pv i σ' H' → tb { D with nx := Pv (i + 1), ct := Pv (i + 1), bk := u D } (σ'.set j (some (.int (i : Int)))) H') (hd : ∀ σ' H', Pv n σ' H' → u D σ' H') :
    tSeq (tFor (iRng1 (tCons (tC (.int (n : Int))) tNil)) (gName j) tb) u D σ H :=
  ⟨(n : Int), rfl, by omega, by omega, for_range (lo := 0) (n := (n : Int).toNat) Pv h0 (fun i σ' H' hi p => by
    have e0 : (0 : Int) + (i : Int) = (i : Int) := Int.zero_add _
    show tb { D with nx := Pv (i + 1), ct := Pv (i + 1), bk := u D } (σ'.set j (some (.int ((0 : Int) + (i : Int))))) H'
    rw [e0]
    exact hs i σ' H' (by omega) p) (fun σ' H' p => hd σ' H' (by simpa using p))⟩
end
end G

set_option Elab.async false
set_option linter.all false
set_option maxRecDepth 100000
set_option maxHeartbeats 4000000
/-! Comprehensions that make data. -/
namespace G
open PySem PySem.Spec PyProof.Rows L2 Evl
/-- H without D -/
def hid (D : Addr) (H : Hp) : Hp := fun b => if b = D then none else H b
theorem hid_some {D b : Addr} {H : Hp} {o : HO} : hid D H b = some o ↔ b ≠ D ∧ H b = some o := by
  unfold hid
  by_cases h : b = D
  · rw [if_pos h]; exact ⟨fun e => (by cases e), fun e => absurd h e.1⟩
  · rw [if_neg h]; exact ⟨fun e => ⟨h, e⟩, fun e => e.2⟩
theorem hid_ex {D : Addr} {H H' : Hp} (e : Ex H H') : Ex (hid D H) (hid D H') := fun b o q => hid_some.mpr ⟨(hid_some.mp q).1, e b o (hid_some.mp q).2⟩
theorem hid_upd {D : Addr} {H : Hp} {o : HO} : Ex (hid D H) (hid D (upd H D o)) := fun b u q => by
  rw [hid_some] at q ⊢
  exact ⟨q.1, by rw [upd_ne q.1]; exact q.2⟩
theorem hid_out {D : Addr} {H : Hp} : Ex (hid D H) H := fun b o q => (hid_some.mp q).2
theorem hid_nw {D : Addr} {Ha H' : Hp} (h : Ha D ≠ none) : Ex (nw Ha H') (hid D H') := fun b o q => by
  rw [nw_some] at q
  exact hid_some.mpr ⟨fun z => h (by rw [← z]; exact q.1), q.2⟩
theorem hid_old {D : Addr} {H Ha : Hp} (h : H D = none) (e : Ex H Ha) : Ex H (hid D Ha) := fun b o q => hid_some.mpr ⟨ne_of_none q h, e b o q⟩
theorem dpAll_appG {K : PySem.W.Frag} {H : Hp} : ∀ {xs ys : List V} {ds es : List PyData}, DpAll K H xs ds → DpAll K H ys es → DpAll K H (xs ++ ys) (ds ++ es)
  | [], _, _, _, h, q => by cases h; exact q
  | _ :: _, _, _, _, h, q => by
    cases h with
    | cons a b => exact .cons a (dpAll_appG b q)
theorem tVar_eq {i : Nat} {v : V} {σ : L2.St} {H : Hp} (h : σ[i]? = some (some v)) : tVar i σ H = fun R => R v H := by
  funext R
  refine propext ⟨fun ⟨v', e, q⟩ => ?_, fun q => ⟨v, h, q⟩⟩
  rw [h] at e
  cases e
  exact q
theorem pi_tupK {Y : Cx} {K : PySem.W.Frag} {tg l : Expr} {tl : TE} (hl : PE Y l tl) (h : Y.K = K := by rfl) : PI Y tg l (iTup K tl) := by
  subst h
  exact pi_tup hl
/-- [e for x in xs for b in (0, 1)]: what it asks, slots j and j2; each e makes a new datum -/
theorem lc2_new {K : PySem.W.Frag} {a : Addr} {xs : List V} {te : TE} {σ : L2.St} {j j2 : Nat} {H : Hp} {Q : VK} (f : Nat → Nat → PyData) (hx : SqL K H a xs) (hz : xs.length ≤ 1000) {tl : TE} (hl : tl σ H = fun R => R (.ref a) H) (hjj : j ≠ j2)
    (he : ∀ (i c : Nat) (x : V), xs[i]? = some x → c < 2 → ∀ Ha, Ex H Ha → ∀ Q1 : VK, (∀ v H', Ex Ha H' → Dp K (nw Ha H') v (f i c) → Q1 v H') → te (((wipe σ [j, j2]).set j (some x)).set j2 (some (.int (c : Int)))) Ha Q1)
    (hd : ∀ D vs H', H D = none → Ex H H' → H' D = some (.lst vs) → DpAll K (hid D H') vs ((List.range xs.length).flatMap fun i => [f i 0, f i 1]) → Q (.ref D) H') :
    tLc2 (iList K tl) (gName j) tYes (iTup K (tTup (tCons (tC (.int 0)) (tCons (tC (.int 1)) tNil)))) (gName j2) tYes te [j, j2] [j2] σ H Q := by
  show iList K tl σ H _
  unfold iList
  rw [hl]
  refine ⟨a, rfl, ⟨xs, hx⟩, fun D new => ?_⟩
  have w0 : ∀ x, wipe ((wipe σ [j, j2]).set j (some x)) [j, j2] = wipe σ [j, j2] := fun x => by
    show ((((σ.set j2 none).set j none).set j (some x)).set j2 none).set j none = (σ.set j2 none).set j none
    rw [List.set_set, List.set_comm _ _ hjj, List.set_set, List.set_set]
  refine ⟨fun i m Hc => m = xs.length - i ∧ i ≤ xs.length ∧ Ex H Hc ∧ ∃ vs, Hc D = some (.lst vs) ∧ DpAll K (hid D Hc) vs ((List.range i).flatMap fun i => [f i 0, f i 1]) ∧ vs.length = 2 * i, ⟨xs.length, by simp, Nat.zero_le _, Ex.new new, [], upd_same, .nil, rfl⟩, ?_⟩
  rintro i m Hc ⟨rfl, hi, e, vs, hD, hv, hvl⟩
  by_cases hlt : i < xs.length
  · refine .inr ⟨⟨xs, xs[i], ex_l e hx, by simp [hlt]⟩, fun H' => Ex H H' ∧ ∃ vs, H' D = some (.lst vs) ∧ DpAll K (hid D H') vs ((List.range (i + 1)).flatMap fun i => [f i 0, f i 1]) ∧ vs.length = 2 * (i + 1), fun H' p => ⟨xs.length - (i + 1), by omega, rfl, hlt, p⟩, fun x H' y => ?_⟩
    have hxi : xs[i]? = some x := y.2 xs (ex_l e hx)
    obtain rfl : H' = Hc := y.1
    refine ⟨w0 x, ?_⟩
    unfold tYes
    dsimp only
    rw [if_pos rfl]
    refine ⟨(by show 2 ≤ sizeLine; decide), fun t ht => ⟨t, rfl, ⟨_, st_of upd_same⟩, ?_⟩⟩
    have e1 : Ex H' (upd H' t (.tup [.int 0, .int 1])) := Ex.new ht
    have hv1 := dpAll_exG (hid_ex (D := D) e1) hv
    refine ⟨fun c k Hc => k = 2 - c ∧ c ≤ 2 ∧ Ex H Hc ∧ Hc t = some (.tup [.int 0, .int 1]) ∧ ∃ vs, Hc D = some (.lst vs) ∧ DpAll K (hid D Hc) vs (((List.range i).flatMap fun i => [f i 0, f i 1]) ++ (List.range c).map (f i)) ∧ vs.length = 2 * i + c,
      ⟨2, rfl, Nat.zero_le _, e.trans e1, upd_same, vs, e1 _ _ hD, by simpa using hv1, hvl⟩, ?_⟩
    rintro c k Hd ⟨rfl, hc, e2, ht2, ws, hD2, hw, hwl⟩
    by_cases hc2 : c < 2
    · refine .inr ⟨⟨[.int 0, .int 1], [V.int 0, V.int 1][c], st_of ht2, by simp [hc2]⟩, fun H' => Ex H H' ∧ H' t = some (.tup [.int 0, .int 1]) ∧ ∃ vs, H' D = some (.lst vs) ∧ DpAll K (hid D H') vs (((List.range i).flatMap fun i => [f i 0, f i 1]) ++ (List.range (c + 1)).map (f i)) ∧ vs.length = 2 * i + (c + 1), fun H' p => ⟨2 - (c + 1), by omega, rfl, hc2, p⟩, fun b Hb yb => ?_⟩
      have hb : [V.int 0, V.int 1][c]? = some b := yb.2 _ (st_of ht2)
      obtain rfl : Hb = Hd := yb.1
      have hb2 : b = .int (c : Int) := by
        match c, hc2, hb with
        | 0, _, hb => simpa using hb.symm
        | 1, _, hb => simpa using hb.symm
      subst hb2
      refine ⟨?_, ?_⟩
      · show ((((wipe σ [j, j2]).set j (some x)).set j2 none).set j2 (some (.int (c : Int)))).set j2 none = ((wipe σ [j, j2]).set j (some x)).set j2 none
        simp
      rw [if_pos rfl]
      have es : (((wipe σ [j, j2]).set j (some x)).set j2 none).set j2 (some (V.int (c : Int))) = ((wipe σ [j, j2]).set j (some x)).set j2 (some (.int (c : Int))) := by simp
      have es2 : (List.set (wipe (List.set (wipe σ [j, j2]) j (some x)) [j2]) j2 (some (V.int (c : Int)))) = ((wipe σ [j, j2]).set j (some x)).set j2 (some (.int (c : Int))) := es
      rw [es2]
      refine he i c x hxi hc2 Hb e2 _ fun v He e3 dv => ⟨ws, e3 _ _ hD2, ?_, ?_, ?_, ws ++ [v], upd_same, ?_, ?_⟩
      · exact Nat.lt_of_lt_of_le (show ws.length < 3000 by omega) (by decide)
      · exact (e2.trans e3).mut new
      · rw [upd_ne (fun z => by rw [z, hD2] at ht2; cases ht2)]
        exact e3 _ _ ht2
      · rw [List.range_succ, List.map_append, ← List.append_assoc]
        refine dpAll_appG (dpAll_exG hid_upd (dpAll_exG (hid_ex e3) hw)) (.cons (dp_exG hid_upd (dp_exG (hid_nw (by rw [hD2]; simp)) dv)) .nil)
      · simp [hwl]
        omega
    · have : c = 2 := by omega
      subst this
      refine .inl ⟨⟨_, st_of ht2, Nat.le_refl _⟩, e2, ws, hD2, ?_, by omega⟩
      rw [List.range_succ, List.flatMap_append]
      have r2 : (List.range 2).map (f i) = [f i 0, f i 1] := rfl
      rw [r2] at hw
      simpa using hw
  · have : i = xs.length := by omega
    subst this
    exact .inl ⟨⟨xs, ex_l e hx, Nat.le_refl _⟩, hd D vs Hc new e hD hv⟩
end G

set_option Elab.async false
set_option linter.all false
set_option maxRecDepth 100000
set_option maxHeartbeats 4000000
namespace W
open PySem PySem.Spec PyProof.Rows L2 Evl G
theorem dpAll_ints {K : PySem.W.Frag} {H : Hp} : ∀ bs : List Int, DpAll K H (bs.map V.int) (bs.map PyData.int)
  | [] => .nil
  | b :: bs => .cons (.int b) (dpAll_ints bs)
def stepR (rs : List (List Int)) : List (List Int) := rs.flatMap fun r => [r ++ [0], r ++ [1]]
def bitsL : Nat → List (List Int)
  | 0 => [[]]
  | n + 1 => stepR (bitsL n)
def rowD (r : List Int) : PyData := .tuple (r.map .int)
def rowsD (rs : List (List Int)) : List PyData := rs.map rowD
theorem stepR_len (rs : List (List Int)) : (stepR rs).length = 2 * rs.length := by
  induction rs with
  | nil => rfl
  | cons r rs ih =>
    have e : stepR (r :: rs) = (r ++ [0]) :: (r ++ [1]) :: stepR rs := rfl
    rw [e]
    simp only [List.length_cons, ih]
    omega
theorem bitsL_len (n : Nat) : (bitsL n).length = 2 ^ n := by
  induction n with
  | zero => rfl
  | succ n ih =>
    show (stepR (bitsL n)).length = _
    rw [stepR_len, ih, Nat.pow_succ]
    omega
theorem rowsD_step : ∀ (rs : List (List Int)), rowsD (stepR rs) = rs.flatMap fun r => [.tuple (r.map .int ++ [.int 0]), .tuple (r.map .int ++ [.int 1])]
  | [] => rfl
  | r :: rs => by
    have e : stepR (r :: rs) = (r ++ [0]) :: (r ++ [1]) :: stepR rs := rfl
    rw [e]
    show rowD (r ++ [0]) :: rowD (r ++ [1]) :: rowsD (stepR rs) = _
    rw [rowsD_step rs]
    simp [rowD]
theorem range_flatMap {α β : Type} (xs : List α) (f : Nat → List β) (g : α → List β) (h : ∀ i x, xs[i]? = some x → f i = g x) : (List.range xs.length).flatMap f = xs.flatMap g := by
  rw [List.flatMap_def, List.flatMap_def, range_map xs f g h]
theorem op_catK {Y : Cx} {K : PySem.W.Frag} (h : Y.K = K := by rfl) : OpR Y (binaryOp .Add) (rCatA K) := by
  subst h
  exact op_catA
/-- row + (bit,) -/
theorem rd_more {K : PySem.W.Frag} {σ : L2.St} {Ha : Hp} {Q : VK} {i : Nat} {x : V} {te : TE} {r : List Int} {c : Int} (hs : σ[i]? = some (some x)) (hx : Dp K Ha x (rowD r)) (hr : r.length ≤ 100) (ht : te σ Ha = fun R => R (.int c) Ha)
    (q : ∀ v H', Ex Ha H' → Dp K (nw Ha H') v (.tuple (r.map .int ++ [.int c])) → Q v H') : tOp (rCatA K) (tVar i) (tTup (tCons te tNil)) σ Ha Q := by
  cases hx with
  | @tup a xs _ hq ha =>
    refine ⟨_, hs, ?_⟩
    show tTup (tCons te tNil) σ Ha _
    unfold tTup tCons tNil
    rw [ht]
    refine ⟨(by show 1 ≤ sizeLine; decide), fun t2 h2 => ?_⟩
    have e1 : Ex Ha (upd Ha t2 (.tup [.int c])) := Ex.new h2
    have hl : xs.length = r.length := by
      have := dpAll_len ha
      simpa using this
    refine ⟨a, t2, xs, [.int c], rfl, rfl, ex_t e1 hq, st_of upd_same, ?_, fun z => ?_, fun _ z => (by cases z), fun z _ p hp => ?_⟩
    · exact Nat.le_trans (show xs.length + 1 ≤ 200 by omega) (by decide)
    · subst z
      have : r = [] := List.eq_nil_of_length_eq_zero (by simpa using hl.symm)
      subst this
      exact q _ _ e1 (.tup (st_of (nw_some.mpr ⟨h2, upd_same⟩)) (.cons (.int c) .nil))
    · have e2 : Ex (upd Ha t2 (.tup [.int c])) (upd (upd Ha t2 (.tup [.int c])) p (.tup (xs ++ [.int c]))) := Ex.new hp
      refine q _ _ (e1.trans e2) (.tup (st_of (nw_some.mpr ⟨fresh_back e1 hp, upd_same⟩)) (dpAll_appG ?_ (.cons (.int c) .nil)))
      have e : xs = r.map V.int := by
        clear hq e1 e2 q hl
        have : ∀ (xs : List V) (r : List Int), DpAll K Ha xs (r.map PyData.int) → xs = r.map V.int := by
          intro xs
          induction xs with
          | nil =>
            intro r h
            cases r with
            | nil => rfl
            | cons _ _ => cases h
          | cons x xs ih =>
            intro r h
            cases r with
            | nil => cases h
            | cons y r =>
              cases h with
              | cons u v =>
                cases u
                rw [ih r v]
                rfl
        exact this xs r ha
      rw [e]
      exact dpAll_ints r
def spRows (K : PySem.W.Frag) : Sp := fun vs H Q _ => ∃ n : Nat, vs = [.int (n : Int)] ∧ n ≤ 8 ∧ ∀ l xs H', H l = none → Ex H H' → H' l = some (.lst xs) → DpAll K (hid l H') xs (rowsD (bitsL n)) → Q (.ref l) H'
section
variable {P : Program} {w : World} {K : PySem.W.Frag} {mg : Str → Option Value} {base : Heap}
theorem bits_short (n : Nat) : ∀ r ∈ bitsL n, r.length = n := by
  induction n with
  | zero => intro r h; simp [bitsL] at h; rw [h]; rfl
  | succ n ih =>
    intro r h
    have h : r ∈ stepR (bitsL n) := h
    unfold stepR at h
    obtain ⟨q, hq, h⟩ := List.mem_flatMap.mp h
    have := ih q hq
    simp at h
    rcases h with rfl | rfl <;> simp [this]
theorem scAllBits : FnScope ["width", "rows", "_", "row", "bit"] ["width"] (defScope dAllBits) := ⟨rfl, rfl, rfl, by decide +kernel, rfl, by decide +kernel, by decide +kernel⟩
theorem okAllBits {f : Addr} {fd : FuncData} (F : At K mg "all_bits" dAllBits ["width"] f fd) (T : Txt K mg) : FnOk P w K mg base CX0 1 f fd ["width"] (spRows K) := by
  refine F.fn.ok scAllBits (fun vs H Q E h => ?_) (fun cdv A outer s H vs Q E hr h => ?_)
  · obtain ⟨n, rfl, _⟩ := h
    rfl
  · obtain ⟨n, rfl, hn, k⟩ := h
    refine ⟨_, pss_cons (ps_set (i := 1) scAllBits.nd rfl (Or.inl rfl) (pe_lst (pa_cons (pe_tup pa_nil) pa_nil)))
      (pss_cons (ps_for PassesOwn.never rfl (pi_range1 (by rfl) T.range (pa_cons (pv 0) pa_nil)) (pg_name (i := 2) scAllBits.nd rfl (Or.inl rfl))
        (pss_one (ps_setLc2 (i := 1) (own := [("row", 3), ("bit", 4)]) (vs1 := [4]) (g := gName 3) (g1 := gName 4) (by rfl) scAllBits.nd rfl rfl (sw_true rfl rfl rfl (by decide +kernel)) (pi_list (pv 1)) (blkOk_by (own := [("row", 3), ("bit", 4)]) (N := ["width", "rows", "_", "row", "bit"]) (sc := defScope dAllBits) (by decide +kernel)) (by decide)
          (fun _ _ _ _ _ => pg_name (i := 3) scAllBits.nd rfl (Or.inl rfl)) (fun _ _ _ _ _ => pts_nil) (fun _ _ _ _ _ => pi_tupK (K := K) (pe_tup (pa_cons pe_int (pa_cons pe_int pa_nil)))) (fun _ _ _ _ _ => pg_name (i := 4) scAllBits.nd rfl (Or.inl rfl)) (fun _ _ _ _ _ => pts_nil)
          (fun _ _ _ _ _ => pe_op (op_catK (K := K)) (pv 3) (pe_tup (pa_cons (pv 4) pa_nil))))))
      (pss_one (ps_ret (pv 1)))), ?_⟩
    refine ⟨Nat.zero_le _, fun t ht => ⟨(by show 1 ≤ sizeLine; decide), fun l hl => ?_⟩⟩
    have e1 : Ex H (upd H t (.tup [])) := Ex.new ht
    have e2 : Ex (upd H t (.tup [])) (upd (upd H t (.tup [])) l (.lst [.ref t])) := Ex.new hl
    refine ⟨_, rfl, (n : Int), rfl, by omega, by omega, for_range (lo := 0) (n := (n : Int).toNat) (fun i σ Hc => ∃ (l : Addr) (xs : List V) (v2 v3 v4 : Option V), σ = [some (.int (n : Int)), some (.ref l), v2, v3, v4] ∧ H l = none ∧ Ex H Hc ∧ Hc l = some (.lst xs) ∧ DpAll K (hid l Hc) xs (rowsD (bitsL i)))
      ⟨l, [.ref t], none, none, none, rfl, fresh_back e1 hl, e1.trans e2, upd_same, .cons (.tup (st_of (hid_some.mpr ⟨fun z => ?_, ?_⟩)) .nil) .nil⟩ (fun i σ Hc hi inv => ?_) (fun σ Hc inv => ?_)⟩
    · rw [z, upd_same] at hl
      cases hl
    · rw [upd_ne (fun z => by rw [z, upd_same] at hl; cases hl), upd_same]
    · obtain ⟨l, xs, v2, v3, v4, rfl, hl0, ec, hlc, hx⟩ := inv
      have hxl : xs.length = (bitsL i).length := by
        have := dpAll_len hx
        simpa [rowsD] using this
      have hb : (bitsL i).length ≤ 256 := by
        rw [bitsL_len]
        exact Nat.pow_le_pow_right (by decide) (show i ≤ 8 by omega)
      show tAsg _ _ _ [some (.int (n : Int)), some (.ref l), some (.int (0 + (i : Int))), v3, v4] Hc
      unfold tAsg
      refine lc2_new (K := K) (j := 3) (j2 := 4) (a := l) (xs := xs) (fun i' c => .tuple (((bitsL i).getD i' []).map .int ++ [.int (c : Int)])) (sq_of hlc) (by omega) ?_ (by decide) (fun i' c x hxi hc Ha ea Q1 q1 => ?_) (fun D vs H' nD eD hD dD => ?_)
      · exact tVar_eq rfl
      · obtain ⟨d, hd1, hd2⟩ := dpAll_at hx hxi
        obtain ⟨r, hr1, hr2⟩ : ∃ r, (bitsL i)[i']? = some r ∧ d = rowD r := by
          unfold rowsD at hd1
          rw [List.getElem?_map] at hd1
          cases e : (bitsL i)[i']? with
          | none => rw [e] at hd1; cases hd1
          | some r => rw [e] at hd1; exact ⟨r, rfl, (Option.some.inj hd1).symm⟩
        subst hr2
        have e3 : (bitsL i).getD i' [] = r := by rw [List.getD_eq_getElem?_getD, hr1]; rfl
        rw [e3] at q1
        refine rd_more (K := K) (i := 3) (r := r) (c := (c : Int)) rfl (dp_ex (hid_out.trans ea) hd2) ?_ ?_ q1
        · have := bits_short i r (List.mem_of_getElem? hr1)
          omega
        · exact tVar_eq rfl
      · refine ⟨D, vs, _, _, _, rfl, fresh_back ec nD, ec.trans eD, hD, ?_⟩
        have e4 : (List.range xs.length).flatMap (fun i' => [PyData.tuple (((bitsL i).getD i' []).map .int ++ [.int ((0 : Nat) : Int)]), PyData.tuple (((bitsL i).getD i' []).map .int ++ [.int ((1 : Nat) : Int)])]) = rowsD (bitsL (i + 1)) := by
          rw [hxl]
          show _ = rowsD (stepR (bitsL i))
          rw [rowsD_step]
          exact range_flatMap (bitsL i) _ _ fun j r e => by
            rw [List.getD_eq_getElem?_getD, e]
            rfl
        rw [← e4]
        exact dD
    · obtain ⟨l, xs, v2, v3, v4, rfl, hl0, ec, hlc, hx⟩ := inv
      have : (n : Int).toNat = n := by omega
      rw [this] at hx
      exact ⟨_, rfl, k l xs Hc hl0 ec hlc hx⟩
end
end W

set_option Elab.async false
set_option linter.all false
set_option maxRecDepth 100000
set_option maxHeartbeats 4000000
namespace W
open PySem PySem.Spec PyProof.Rows L2 Evl G
theorem take_more {α : Type} {l : List α} {i : Nat} {x : α} (h : l[i]? = some x) : l.take (i + 1) = l.take i ++ [x] := by
  rw [List.take_succ, h]
  rfl
def num : List Int → Int := List.foldl (fun a b => 2 * a + b) 0
theorem num_snoc (r : List Int) (b : Int) : num (r ++ [b]) = 2 * num r + b := by
  unfold num
  rw [List.foldl_append]
  rfl
theorem ints_back {K : PySem.W.Frag} {H : Hp} : ∀ {ys : List Int} {xs : List V}, DpAll K H xs (ys.map .int) → xs = ys.map V.int
  | [], _, h => by cases h; rfl
  | _ :: _, _, h => by
    cases h with
    | cons a b =>
      cases a
      rw [ints_back b]
      rfl
def spNumberOf (K : PySem.W.Frag) : Sp := fun vs H Q _ => ∃ (y : V) (ys : List Int), vs = [y] ∧ (Dp K H y (.list (ys.map .int)) ∨ Dp K H y (.tuple (ys.map .int))) ∧ Q (.int (num ys)) H
section
variable {P : Program} {w : World} {K : PySem.W.Frag} {mg : Str → Option Value} {base : Heap}
theorem scNumberOf : FnScope ["bits", "at", "bit"] ["bits"] (defScope dNumberOf) := ⟨rfl, rfl, rfl, by decide +kernel, rfl, by decide +kernel, by decide +kernel⟩
theorem okNumberOf {f : Addr} {fd : FuncData} (F : At K mg "number_of" dNumberOf ["bits"] f fd) : FnOk P w K mg base CX0 1 f fd ["bits"] (spNumberOf K) := by
  refine F.fn.ok scNumberOf (fun vs H Q E h => ?_) (fun cdv A outer s H vs Q E hr h => ?_)
  · obtain ⟨y, ys, rfl, _⟩ := h
    rfl
  · obtain ⟨y, ys, rfl, hy, k⟩ := h
    have turn : ∀ (i : Nat) (x : V), (ys.map V.int)[i]? = some x → ∃ c, x = .int c ∧ ys.take (i + 1) = ys.take i ++ [c] ∧ (ys.take (i + 1)).getLast? = some c := fun i x e => by
      rw [List.getElem?_map] at e
      cases q : ys[i]? with
      | none => rw [q] at e; cases e
      | some c =>
        rw [q] at e
        exact ⟨c, (Option.some.inj e).symm, take_more q, by rw [take_more q]; simp⟩
    rcases hy with hy | hy
    · cases hy with
      | @lst a xs _ hs ha =>
        have e := ints_back ha
        subst e
        refine ⟨_, pss_cons (ps_set (i := 1) scNumberOf.nd rfl (Or.inl rfl) pe_int)
          (pss_cons (ps_for PassesOwn.never rfl (pi_list (pv 0)) (pg_name (i := 2) scNumberOf.nd rfl (Or.inl rfl))
            (pss_one (ps_set (i := 1) scNumberOf.nd rfl (Or.inl rfl) (pe_op op_add (pe_op op_mul pe_int (pv 1)) (pv 2)))))
          (pss_one (ps_ret (pv 1)))), ?_⟩
        refine ⟨_, rfl, a, rfl, ⟨_, hs⟩, for_list (K := K) (a := a) (xs := ys.map V.int) (fun i σ Hc => Hc = H ∧ σ = [some (.ref a), some (.int (num (ys.take i))), (ys.take i).getLast?.map V.int])
          ⟨rfl, rfl⟩ (fun i σ Hc _ inv => by rw [inv.1]; exact hs) (fun i x σ Hc hi inv => ?_) (fun σ Hc inv => ?_)⟩
        · obtain ⟨rfl, rfl⟩ := inv
          obtain ⟨c, rfl, h1, h2⟩ := turn i x hi
          refine ⟨_, rfl, 2, num (ys.take i), rfl, rfl, .inl ⟨by decide, by decide⟩, _, rfl, _, c, rfl, rfl, rfl, ?_⟩
          rw [h2, h1, num_snoc]
          rfl
        · obtain ⟨rfl, rfl⟩ := inv
          rw [List.length_map, List.take_length]
          exact ⟨_, rfl, k⟩
    · cases hy with
      | @tup a xs _ hs ha =>
        have e := ints_back ha
        subst e
        refine ⟨_, pss_cons (ps_set (i := 1) scNumberOf.nd rfl (Or.inl rfl) pe_int)
          (pss_cons (ps_for PassesOwn.never rfl (pi_tup (pv 0)) (pg_name (i := 2) scNumberOf.nd rfl (Or.inl rfl))
            (pss_one (ps_set (i := 1) scNumberOf.nd rfl (Or.inl rfl) (pe_op op_add (pe_op op_mul pe_int (pv 1)) (pv 2)))))
          (pss_one (ps_ret (pv 1)))), ?_⟩
        refine ⟨_, rfl, a, rfl, ⟨_, hs⟩, for_tup (K := K) (a := a) (xs := ys.map V.int) (fun i σ Hc => Hc = H ∧ σ = [some (.ref a), some (.int (num (ys.take i))), (ys.take i).getLast?.map V.int])
          ⟨rfl, rfl⟩ (fun i σ Hc _ inv => by rw [inv.1]; exact hs) (fun i x σ Hc hi inv => ?_) (fun σ Hc inv => ?_)⟩
        · obtain ⟨rfl, rfl⟩ := inv
          obtain ⟨c, rfl, h1, h2⟩ := turn i x hi
          refine ⟨_, rfl, 2, num (ys.take i), rfl, rfl, .inl ⟨by decide, by decide⟩, _, rfl, _, c, rfl, rfl, rfl, ?_⟩
          rw [h2, h1, num_snoc]
          rfl
        · obtain ⟨rfl, rfl⟩ := inv
          rw [List.length_map, List.take_length]
          exact ⟨_, rfl, k⟩
end
end W

set_option Elab.async false
set_option linter.all false
set_option maxRecDepth 100000
set_option maxHeartbeats 4000000
/-! try with several clauses, each one with the same name behind «as». -/
namespace G
open PySem PySem.Spec PyProof.Rows L2 Evl
/-- the ends within a suite: its name, slot i, is gone behind it -/
def endsAs (i : Nat) (D : Ends) : Ends := { nx := fun σ' H' => D.nx (σ'.set i none) H', rt := D.rt, bk := fun σ' H' => D.bk (σ'.set i none) H', ct := fun σ' H' => D.ct (σ'.set i none) H' }
/-- what the clauses wish of an exception, one behind the other -/
def wAll (K : PySem.W.Frag) (i : Nat) (Wo : WX) (D : Ends) : List (Value × (Addr → Value → Option Addr → TS)) → WX
  | [] => Wo
  | (c, ts) :: r => fun cls d σ H => ∃ b, PySem.W.exmOne K cls c = some b ∧ (b = true → ∀ a, H a = none → ts a cls d (endsAs i D) (σ.set i (some (.ref a))) H) ∧ (b = false → wAll K i Wo D r cls d σ H)
/-- the clauses of a try, each with its class and its suite's reading -/
inductive Cls' (X : Cx) (n : Str) : List ExceptHandler → List (Value × (Addr → Value → Option Addr → TS)) → Prop
  | nil : Cls' X n [] []
  | cons {x : Str} {c : Value} {ts : Addr → Value → Option Addr → TS} {b0 : Stmt} {su : List Stmt} {q1 q2 : Pos} {hs : List ExceptHandler} {l : List (Value × (Addr → Value → Option Addr → TS))} (hc : Names X x c)
      (hsu : ∀ (a : Addr) (oe : Obj) (cls : Value) (d : Option Addr) (pn : List (Addr × Obj)), Zc cls d oe → (∃ vs, oe.data = .fields vs) → PSs (X.suite a ((a, oe) :: pn)) (b0 :: su) (ts a cls d))
      (r : Cls' X n hs l) : Cls' X n (.ExceptHandler (some (.Name x q1)) (some n) (b0 :: su) q2 :: hs) ((c, ts) :: l)
section
variable {X : Cx} {n : Str} {i : Nat} {body : List Stmt} {h0 : ExceptHandler} {hs : List ExceptHandler} {l : List (Value × (Addr → Value → Option Addr → TS))} {pos : Pos} {tb : WX → TS} {Wo : WX}
theorem ps_tries (hst : X.stack = X.env :: X.outer) (hfr : X.env.frame = some X.env.locals) (hN : X.N.Nodup) (hi : X.N[i]? = some n) (hln : X.env.kindOf n = some .local) (tk : Takes X Wo)
    (hb : ∀ (W : WX) (pn : List (Addr × Obj)) (xe : Value → Shared → Prop), Takes (X.tr pn xe) W → PassesOwn (model X.prog X.w) X.A X.env xe → PSs (X.tr pn xe) body (tb W))
    (hh : Cls' X n (h0 :: hs) l) : PS X (.Try body (h0 :: hs) [] [] pos) (fun D σ H => tb (wAll X.K i Wo D l) D σ H) := by
  refine ⟨fun pins s σ H D I hyp => ?_⟩
  have okX := I.ok
  have hA : X.A.frames = some (X.env :: X.outer) := okX.frames.trans (by rw [hst])
  have hlc : Loc X.env.scope n := .inl hln
  refine wpAny_Try_except ?_
  have run := (hb (wAll X.K i Wo D l) (X.pn ++ pins)
    (fun e s1 => wpAny (model X.prog X.w) X.A (noteFrame e X.env)
      (fun _ s2 => wpAny (model X.prog X.w) X.A (setFlight e none)
        (fun _ s3 => wpAny (model X.prog X.w) X.A (handleBy e X.env (h0 :: hs)) (SP X pins D) X.xe s3) X.xe s2) X.xe s1)
    (fun u s' xx => ?_) PassesOwn.looking).run [] s σ H D (I.toTry _) hyp
  · refine wpAny_mono run (fun fl s1 hsp => ?_) fun _ _ z => z
    match fl, hsp with
    | .next, ⟨σ', H', J, q⟩ => exact wpAny_execs_nil ⟨σ', H', J.ofTry okX, q⟩
    | .brk, ⟨σ', H', J, q⟩ => exact ⟨σ', H', J.ofTry okX, q⟩
    | .cont, ⟨σ', H', J, q⟩ => exact ⟨σ', H', J.ofTry okX, q⟩
    | .ret _, ⟨v, σ', H', J, r, q⟩ => exact ⟨v, σ', H', J.ofTry okX, r, q⟩
  · obtain ⟨a, B, sI, pins', σ', H', cls, d, rfl, J', nb, up, sky0, na, hos, hag, wish⟩ := xx
    have J : Inv X pins σ' H' sI := J'.ofTry okX
    have sky : Sky B (X.env :: X.outer) a (Zc cls d) X.env.locals s'.heap := hst ▸ sky0
    show wpAny (model X.prog X.w) X.A (noteFrame (.ref a) X.env) _ _ _
    refine Sky.land Zc.steady hA hfr sky fun h3 f3 u3 => ?_
    have J3 : Inv X pins σ' H' { s' with heap := h3 } := J.landed nb f3.1 (up.trans u3) hos hag
    obtain ⟨oe3, vs3, he3, hz3, hd3⟩ := f3.there
    have nofr : a ∉ frs (X.env :: X.outer) := fun hm => by
      obtain ⟨_, o1, e1, hno⟩ := f3.2.2.1.mem hm
      rw [he3] at e1
      cases e1
      exact hno _ hd3
    have nL : a ≠ X.env.locals := fun z => nofr (List.mem_filterMap.mpr ⟨X.env, List.mem_cons_self, by rw [hfr, z]⟩)
    have nF : a ∉ X.fs := fun hm => by
      obtain ⟨ev, hev, hq⟩ := List.mem_filterMap.mp hm
      exact nofr (List.mem_filterMap.mpr ⟨ev, List.mem_cons_of_mem _ hev, hq⟩)
    have S3 := J3.suite he3 hd3 na nL nF
    have LT : PySem.W.Looks (model X.prog X.w) h3 (typeOf (.ref a)) cls := fun A Q E s k q => wpAny_typeOf_ref (k _ _ he3) (by rw [hz3.1]; exact q)
    have try1 : ∀ {hds : List ExceptHandler} {ll : List (Value × (Addr → Value → Option Addr → TS))}, Cls' X n hds ll → wAll X.K i Wo D ll cls d σ' H' →
        wpAny (model X.prog X.w) X.A (handleBy (.ref a) X.env hds) (SP X pins D) X.xe { s' with heap := h3 } := by
      intro hds ll hk
      induction hk with
      | nil =>
        intro wi
        refine wpAny_handleBy_nil ?_
        obtain ⟨_, _, _, oe, vs, TT, oT, ts', he, hz, hd, h1, hr⟩ := id f3
        unfold PySem.passOn
        refine wpAny_bind (wpAny_field he hd h1 ?_)
        rw [if_neg (show ¬ ((Value.ref TT == Value.none) = true) from by simp)]
        have out : wpAny (model X.prog X.w) X.A (setFlight (.ref a) X.env.frame) (fun _ s4 => wpAny (model X.prog X.w) X.A (throw (.ref a) : Sem Flow) (SP X pins D) X.xe s4) X.xe { s' with heap := h3 } := by
          rw [hfr]
          refine HandSPX.setFlight_upZ f3 fun h4 g4 u4 => wpAny_throw (tk _ _ ⟨a, B, sI, pins, σ', H', cls, d, rfl, J, nb, (up.trans u3).trans u4, .inr (.inr (by rw [hst]; exact g4)), na, hos, hag, wi⟩)
        first
          | exact wpAny_bind (wpAny_pure (wpAny_bind out))
          | exact wpAny_bind out
      | @cons x c ts b0 su q1 q2 hs2 l2 hc hsu r ih =>
        intro wi
        obtain ⟨b, hb1, yes, no⟩ := wi
        refine wpAny_handleBy_cons (codeAny_handlers_test ?_) (by intro q; cases q)
        have LM := PySem.W.exm_one (M := model X.prog X.w) (J3.kIn) LT hb1
        have test : ∀ {Q : Value → Shared → Prop} {E : Value → Shared → Prop}, Q c { s' with heap := h3 } →
            wpAny (model X.prog X.w) (X.A.mark (some (.ref a))) (eval (.Name x q1) X.env) Q E { s' with heap := h3 } := fun {Q E} q => by
          obtain ⟨hg, hdbg, hm | ⟨hm, hv, hnn⟩⟩ := hc
          · exact ld_glob (X := X.suite a ((a, oe3) :: (X.pn ++ pins))) S3 hg hm q hdbg
          · exact ld_blt (X := X.suite a ((a, oe3) :: (X.pn ++ pins))) S3 hg hm hv q hnn hdbg
        refine test (LM.here ?_)
        cases b with
        | false => exact ih (no rfl)
        | true =>
          refine codeAny_handlers_suite_as (HandSPX.lands_againZ f3 fun h4 f4 u4 => ?_)
          have J4 : Inv X pins σ' H' { s' with heap := h4 } := J.landed nb f4.1 ((up.trans u3).trans u4) hos hag
          obtain ⟨oe4, vs4, he4, hz4, hd4⟩ := f4.there
          have S4 := J4.suite he4 hd4 na nL nF
          refine store_ok (X := X.suite a ((a, oe4) :: (X.pn ++ pins))) (v := .ref a) S4 hN hi hlc rfl (fun s5 S5 => ?_) (.inr hln)
          refine wpAny_mono ((hsu a oe4 cls d (X.pn ++ pins) hz4 ⟨_, hd4⟩).run [] s5 _ H' _ S5 (yes rfl a na)) (fun fl s6 hsp => ?_) (fun _ _ z => z.elim)
          have gone : ∀ {σ6 : L2.St} {H6 : Hp} {Q : Shared → Prop}, Inv (X.suite a ((a, oe4) :: (X.pn ++ pins))) [] σ6 H6 s6 → (∀ s7, Inv X pins (σ6.set i none) H6 s7 → Q s7) →
              wpAny (model X.prog X.w) X.A (do bindName X.env n .none; unbindBehindTheSuite X.env n q2) (fun _ s7 => Q s7) X.xe s6 := fun {σ6 H6 Q} S6 hq => gone_ok (S6.unsuite okX) hN hi hln hq
          match fl, hsp with
          | .next, ⟨_, _, S6, q6⟩ => exact gone S6 fun s7 J7 => ⟨_, _, J7, q6⟩
          | .brk, ⟨_, _, S6, q6⟩ => exact gone S6 fun s7 J7 => ⟨_, _, J7, q6⟩
          | .cont, ⟨_, _, S6, q6⟩ => exact gone S6 fun s7 J7 => ⟨_, _, J7, q6⟩
          | .ret _, ⟨_, _, _, S6, r6, q6⟩ => exact gone S6 fun s7 J7 => ⟨_, _, _, J7, r6, q6⟩
    exact try1 hh wish
end
end G

set_option Elab.async false
set_option linter.all false
set_option maxRecDepth 100000
set_option maxHeartbeats 4000000
/-! sorted(xs), xs a list of alike data: the very order. -/
namespace G
open PySem PySem.Spec PyProof.Rows L2 Evl
/-- the pairs of what stands in the list and its data, sorted by the data -/
def srt (xs : List V) (ds : List PyData) : List (V × PyData) := (xs.zip ds).mergeSort (PySem.W.dataLe false Prod.snd)
def rSrt (K : PySem.W.Frag) : List V → Hp → VK → Prop := fun vs H Q => ∃ (a : Addr) (xs : List V) (ds : List PyData), vs = [.ref a] ∧ SqL K H a xs ∧ DpAll K H xs ds ∧ PySem.W.AllAlike ds ∧ PySem.W.Sortable ds ∧ ds.length ≤ 1000 ∧ (∀ d ∈ ds, d.depth ≤ 50) ∧
  ∀ p, H p = none → Q (.ref p) (upd H p (.lst ((srt xs ds).map Prod.fst)))
theorem dpAll_pair {K : PySem.W.Frag} {H : Hp} : ∀ {xs : List V} {ds : List PyData}, DpAll K H xs ds → ∀ p ∈ xs.zip ds, Dp K H p.1 p.2
  | _, _, .nil, p, h => by cases h
  | _, _, .cons a b, p, h => by
    rcases List.mem_cons.mp h with rfl | h
    · exact a
    · exact dpAll_pair b p h
theorem zip_snd {K : PySem.W.Frag} {H : Hp} : ∀ {xs : List V} {ds : List PyData}, DpAll K H xs ds → (xs.zip ds).map Prod.snd = ds
  | _, _, .nil => rfl
  | _, _, .cons _ b => by simp [zip_snd b]
theorem zip_fst {K : PySem.W.Frag} {H : Hp} : ∀ {xs : List V} {ds : List PyData}, DpAll K H xs ds → (xs.zip ds).map Prod.fst = xs
  | _, _, .nil => rfl
  | _, _, .cons _ b => by simp [zip_fst b]
theorem srt_perm (xs : List V) (ds : List PyData) : (srt xs ds).Perm (xs.zip ds) := List.mergeSort_perm _ _
theorem srt_dp {K : PySem.W.Frag} {H : Hp} {xs : List V} {ds : List PyData} (h : DpAll K H xs ds) : DpAll K H ((srt xs ds).map Prod.fst) ((srt xs ds).map Prod.snd) := by
  have all : ∀ p ∈ srt xs ds, Dp K H p.1 p.2 := fun p hp => dpAll_pair h p ((srt_perm xs ds).mem_iff.mp hp)
  generalize srt xs ds = l at all
  induction l with
  | nil => exact .nil
  | cons p r ih => exact .cons (all p List.mem_cons_self) (ih fun q hq => all q (List.mem_cons_of_mem _ hq))
theorem each_vals : ∀ {out : List Value} {ps : List (V × PyData)}, PySem.W.EachIs (fun v (p : V × PyData) => RelV p.1 v) out ps → Vals (ps.map Prod.fst) out
  | _, _, .nil => .nil
  | _, _, .cons a b => .cons a (each_vals b)
theorem cr_srt {X : Cx} (hu : X.A.units + 64 < cLine) : CallR X (.builtin "sorted") (rSrt X.K) := by
  intro pins s σ H vs us Q I r h
  obtain ⟨a, xs, ds, rfl, hs, hd, hal, hk, hz, hdep, q⟩ := h
  obtain ⟨its, rel, hl, _⟩ := I.list hs
  rw [Vals.ref1 r]
  have hlen := G.DpAll.lenG hd
  have e1 : ∀ {xs : List V} {ds : List PyData} {its : List Value}, DpAll X.K H xs ds → Vals xs its → PySem.W.EachIs (fun v (p : V × PyData) => RelV p.1 v ∧ ∃ as, Reads s.heap v p.2 as) its (xs.zip ds) := by
    intro xs ds its hd rel
    induction rel generalizing ds with
    | nil => cases hd; exact .nil
    | cons a b ih =>
      cases hd with
      | cons c d => exact .cons ⟨a, Dp.reads I _ _ _ c a⟩ (ih d)
  have ee := e1 hd rel
  refine PySem.W.sorted_data (R := fun v (p : V × PyData) => RelV p.1 v) (bs := xs.zip ds) (enc := Prod.snd) hl.isList (ee.mono fun _ _ z => z.1) (ee.mono fun _ _ z => z.2) (by rw [zip_snd hd]; exact hal) (by rw [zip_snd hd]; exact hk)
    (Nat.le_trans (by rw [List.length_zip, hlen]; omega) (show 1000 ≤ sizeLine by decide)) (fun p hp => ?_) fun out hlo ho => ?_
  · have : p.2 ∈ ds := by
      rw [← zip_snd hd]
      exact List.mem_map.mpr ⟨p, hp, rfl⟩
    have := hdep _ this
    omega
  · obtain ⟨ep, he⟩ := PyProof.Rows.sortedAll_at s.heap its out.toArray
    have vo : Vals ((srt xs ds).map Prod.fst) out := each_vals ho
    have z : ((srt xs ds).map Prod.fst).length ≤ sizeLine := Nat.le_trans (by rw [List.length_map, (srt_perm xs ds).length_eq, List.length_zip, hlen]; omega) (show 1000 ≤ sizeLine by decide)
    exact ⟨.ref _, upd H (s.heap.objs.size + 1) (.lst ((srt xs ds).map Prod.fst)), I.laid (t' := s.toks) (fun _ _ => PyProof.Rows.sortedAll_old) (Nat.le_succ _) ⟨z, out, ep, vo, by simpa using he⟩, rfl, q _ (I.hok.fresh (Nat.le_succ _))⟩
end G

set_option Elab.async false
set_option linter.all false
set_option maxRecDepth 100000
set_option maxHeartbeats 4000000
namespace G
open PySem PySem.Spec PyProof.Rows L2 Evl
theorem entry_sift : entryFor table "_heapq.heapify.sift" = some Builtin.«_heapq.heapify.sift» := entryFor_of_tree (by kernel_rfl)
theorem plain_sift : plainId "_heapq.heapify.sift" = true := by decide +kernel
theorem quiet_sift (args : Args) : (Code.builtin "_heapq.heapify.sift" args).quiet = true := Code.quiet_builtin args (by decide +kernel)
theorem rc_lt {prog : Program} {w : World} {A : Around} {E : Value → Shared → Prop} {s : Shared} {x y : Str} {t u : Tok} {Q : Value → Shared → Prop} (h : Q (.bool (x.cps.toList < y.cps.toList)) s) : wpAny (model prog w) A (richCompare .Lt (.str x t) (.str y u)) Q E s := PySem.P.lt_str h
theorem swap_perm {its : Array Value} {i j : Nat} (hi : i < its.size) (hj : j < its.size) : ((its.setIfInBounds i its[j]).setIfInBounds j its[i]).toList.Perm its.toList := by
  rw [Array.toList_setIfInBounds, Array.toList_setIfInBounds]
  have h1 : i < its.toList.length := by simpa using hi
  have h2 : j < its.toList.length := by simpa using hj
  have q := List.set_set_perm h1 h2
  simpa using q
theorem sift_up {prog : Program} {w : World} {A : Around} {a : Addr} {top : Nat} {res : Value} : ∀ (pos : Nat) {R : Result → Shared → Prop} {its : Array Value} {n : Nat} {s : Shared} {t1 t2 t3 : Tok},
    s.heap.get? a = some { cls := .type "list", data := .seq its n } → pos < its.size → (∀ v ∈ its.toList, ∃ z t, v = .str z t) → its.size ≤ 1000 →
    (∀ (its' : Array Value) (n' : Nat) (h' : Heap) (tk : Nat), its'.toList.Perm its.toList → h'.get? a = some { cls := .type "list", data := .seq its' n' } → (∀ b o, b ≠ a → s.heap.get? b = some o → h'.get? b = some o) → R (.ok (.ret res)) { s with heap := h', toks := tk }) →
    codeAny (model prog w) A (.builtin "_heapq.heapify.sift" ⟨[.ref a, .bool false, .bool false, .int (pos : Int) t1, .int (top : Int) t2, res, .int (-1) t3], []⟩) R s := by
  intro pos
  induction pos using Nat.strongRecOn with
  | ind pos ih =>
  intro R its n s t1 t2 t3 ha hp hs hz hR
  refine codeAny_builtin entry_sift ?_
  unfold Builtin.«_heapq.heapify.sift»
  by_cases hsz : pos > top
  · have hq : (pos - 1) / 2 < its.size := by omega
    obtain ⟨zx, tx, hx⟩ := hs its[pos] (by simp)
    obtain ⟨zp, tp, hy⟩ := hs its[(pos - 1) / 2] (by simp)
    have ex : its[pos]? = some (.str zx tx) := by rw [Array.getElem?_eq_getElem hp, hx]
    have ey : its[(pos - 1) / 2]? = some (.str zp tp) := by rw [Array.getElem?_eq_getElem hq, hy]
    obtain ⟨hp', g, d, tk, os⟩ := s
    dsimp only
    wp_walk using wpAny_seqItems ha rfl
    rw [Int.toNat_natCast, ex]
    dsimp only
    wp_walk
    rw [ey]
    dsimp only
    wp_walk using rc_lt
    cases hlt : decide (zx.cps.toList < zp.cps.toList) with
    | false =>
      wp_walk
      exact hR its n _ tk (List.Perm.refl _) ha fun _ _ _ e => e
    | true =>
      wp_walk using wpAny_seqItems ha rfl
      rw [ey]
      dsimp only
      wp_walk
      rw [ex]
      dsimp only
      wp_walk using (wpAny_updateSeq ha rfl)
      have sw : ((its.setIfInBounds ((pos - 1) / 2) (.str zx tx)).setIfInBounds pos (.str zp tp)).toList.Perm its.toList := by
        have q := swap_perm hq hp
        rw [hx, hy] at q
        exact q
      have up := Heap.get?_update_self (h := hp') (Obj.mapSeq fun xs => (xs.setIfInBounds ((pos - 1) / 2) (.str zx tx)).setIfInBounds pos (.str zp tp)) ha rfl
      have sz : ((its.setIfInBounds ((pos - 1) / 2) (.str zx tx)).setIfInBounds pos (.str zp tp)).size = its.size := by simp
      refine ⟨quiet_sift _, ?_⟩
      rw [Int.toNat_natCast]
      refine ih ((pos - 1) / 2) (by omega) up (by rw [sz]; exact hq) (fun v hv => hs v (sw.mem_iff.mp hv)) (by rw [sz]; exact hz) fun its' n' h' tk' pm hg kp => ?_
      exact hR its' n' h' tk' (pm.trans sw) hg fun b o nb e => kp b o nb (by rw [Heap.get?_update_ne _ _ _ _ nb]; exact e)
  · obtain ⟨hp', g, d, tk, os⟩ := s
    dsimp only
    wp_walk using wpAny_seqItems ha rfl
    exact hR its n _ tk (List.Perm.refl _) ha fun _ _ _ e => e
end G

set_option Elab.async false
set_option linter.all false
set_option maxRecDepth 100000
set_option maxHeartbeats 4000000
namespace G
open PySem PySem.Spec PyProof.Rows L2 Evl
theorem sift_down {prog : Program} {w : World} {A : Around} {a : Addr} {top : Nat} {res : Value} : ∀ (k pos : Nat) {R : Result → Shared → Prop} {its : Array Value} {n : Nat} {s : Shared} {t1 t2 t3 : Tok}, its.size - pos = k →
    s.heap.get? a = some { cls := .type "list", data := .seq its n } → pos < its.size → (∀ v ∈ its.toList, ∃ z t, v = .str z t) → its.size ≤ 1000 →
    (∀ (its' : Array Value) (n' : Nat) (h' : Heap) (tk : Nat), its'.toList.Perm its.toList → h'.get? a = some { cls := .type "list", data := .seq its' n' } → (∀ b o, b ≠ a → s.heap.get? b = some o → h'.get? b = some o) → R (.ok (.ret res)) { s with heap := h', toks := tk }) →
    codeAny (model prog w) A (.builtin "_heapq.heapify.sift" ⟨[.ref a, .bool false, .bool true, .int (pos : Int) t1, .int (top : Int) t2, res, .int (-1) t3], []⟩) R s := by
  intro k
  induction k using Nat.strongRecOn with
  | ind k ih =>
  intro pos R its n s t1 t2 t3 hk ha hp hs hz hR
  refine codeAny_builtin entry_sift ?_
  unfold Builtin.«_heapq.heapify.sift»
  by_cases hsz : pos < its.size / 2
  · have hl : 2 * pos + 1 < its.size := by omega
    -- the swap with the child c
    have go : ∀ (c : Nat) (tk : Nat), pos < c → c < its.size → ∀ (x y : Value), its[c]? = some x → its[pos]? = some y → ∀ (g : Array Value → Array Value), (∀ xs, g xs = (xs.setIfInBounds c y).setIfInBounds pos x) → ∀ (t1 t2 t3 : Tok),
        codeAny (model prog w) A (.builtin "_heapq.heapify.sift" ⟨[.ref a, .bool false, .bool true, .int (c : Int) t1, .int (top : Int) t2, res, .int (-1) t3], []⟩) R { s with heap := s.heap.update a (Obj.mapSeq g), toks := tk } := by
      intro c tk hc1 hc2 x y ex ey g hg t1 t2 t3
      have hx : its[c] = x := by rw [Array.getElem?_eq_getElem hc2] at ex; exact Option.some.inj ex
      have hy : its[pos] = y := by rw [Array.getElem?_eq_getElem hp] at ey; exact Option.some.inj ey
      have sw : (g its).toList.Perm its.toList := by
        rw [hg its, ← hx, ← hy]
        exact swap_perm hc2 hp
      have sz : (g its).size = its.size := by rw [hg its]; simp
      have up := Heap.get?_update_self (h := s.heap) (Obj.mapSeq g) ha rfl
      refine ih (its.size - c) (by omega) c (by rw [sz]) up (by rw [sz]; exact hc2) (fun v hv => hs v (sw.mem_iff.mp hv)) (by rw [sz]; exact hz) fun its' n' h' tk' pm hg2 kp => ?_
      exact hR its' n' h' tk' (pm.trans sw) hg2 fun b o nb e => kp b o nb (by rw [Heap.get?_update_ne _ _ _ _ nb]; exact e)
    obtain ⟨zl, tl, hxl⟩ := hs its[2 * pos + 1] (by simp)
    obtain ⟨zy, ty, hy⟩ := hs its[pos] (by simp)
    have el : its[2 * pos + 1]? = some (.str zl tl) := by rw [Array.getElem?_eq_getElem hl, hxl]
    have ey : its[pos]? = some (.str zy ty) := by rw [Array.getElem?_eq_getElem hp, hy]
    by_cases hr : 2 * pos + 1 + 1 < its.size
    · obtain ⟨zr, tr, hxr⟩ := hs its[2 * pos + 1 + 1] (by simp)
      have er : its[2 * pos + 1 + 1]? = some (.str zr tr) := by rw [Array.getElem?_eq_getElem hr, hxr]
      obtain ⟨hp', g, d, tk, os⟩ := s
      dsimp only
      wp_walk using wpAny_seqItems ha rfl
      rw [Int.toNat_natCast, el]
      dsimp only
      wp_walk
      rw [er]
      dsimp only
      wp_walk using rc_lt, wpAny_seqItems ha rfl
      cases hlt : decide (zl.cps.toList < zr.cps.toList) with
      | false =>
        wp_walk using wpAny_seqItems ha rfl
        rw [er]
        dsimp only
        wp_walk
        rw [ey]
        dsimp only
        wp_walk using (wpAny_updateSeq ha rfl)
        refine ⟨quiet_sift _, ?_⟩
        rw [Int.toNat_natCast]
        exact go (2 * pos + 1 + 1) _ (by omega) hr _ _ er ey _ (fun _ => rfl) _ _ _
      | true =>
        wp_walk using wpAny_seqItems ha rfl
        rw [el]
        dsimp only
        wp_walk
        rw [ey]
        dsimp only
        wp_walk using (wpAny_updateSeq ha rfl)
        refine ⟨quiet_sift _, ?_⟩
        rw [Int.toNat_natCast]
        exact go (2 * pos + 1) _ (by omega) hl _ _ el ey _ (fun _ => rfl) _ _ _
    · obtain ⟨hp', g, d, tk, os⟩ := s
      dsimp only
      wp_walk using wpAny_seqItems ha rfl
      rw [Int.toNat_natCast, el]
      dsimp only
      wp_walk
      rw [ey]
      dsimp only
      wp_walk using (wpAny_updateSeq ha rfl)
      refine ⟨quiet_sift _, ?_⟩
      rw [Int.toNat_natCast]
      exact go (2 * pos + 1) _ (by omega) hl _ _ el ey _ (fun _ => rfl) _ _ _
  · obtain ⟨hp', g, d, tk, os⟩ := s
    dsimp only
    wp_walk using wpAny_seqItems ha rfl
    refine ⟨quiet_sift _, ?_⟩
    rw [Int.toNat_natCast, Int.toNat_natCast]
    exact sift_up pos ha hp hs hz hR
end G

set_option Elab.async false
set_option linter.all false
set_option maxRecDepth 100000
set_option maxHeartbeats 4000000
namespace G
open PySem PySem.Spec PyProof.Rows L2 Evl
theorem entry_push : entryFor table "_heapq.heappush" = some Builtin.«_heapq.heappush» := entryFor_of_tree (by kernel_rfl)
theorem plain_push : plainId "_heapq.heappush" = true := by decide +kernel
theorem chk_push (a v : Value) : checkBuiltinCall "_heapq.heappush" ⟨[a, v], []⟩ = pure () := by kernel_rfl
theorem entry_pop : entryFor table "_heapq.heappop" = some Builtin.«_heapq.heappop» := entryFor_of_tree (by kernel_rfl)
theorem plain_pop : plainId "_heapq.heappop" = true := by decide +kernel
theorem chk_pop (a : Value) : checkBuiltinCall "_heapq.heappop" ⟨[a], []⟩ = pure () := by kernel_rfl
theorem list_list : isSubtype (.type "list") (.type "list") = pure true := by rw [isSubtype_type]; kernel_rfl
theorem code_push {prog : Program} {w : World} {A : Around} {R : Result → Shared → Prop} {a : Addr} {its : Array Value} {n : Nat} {s : Shared} {v : Value}
    (ha : s.heap.get? a = some { cls := .type "list", data := .seq its n }) (hs : ∀ v ∈ its.toList, ∃ z t, v = .str z t) (hv : ∃ z t, v = .str z t) (hz : its.size < 1000)
    (hR : ∀ (its' : Array Value) (n' : Nat) (h' : Heap) (tk : Nat), its'.toList.Perm (its.push v).toList → h'.get? a = some { cls := .type "list", data := .seq its' n' } → (∀ b o, b ≠ a → s.heap.get? b = some o → h'.get? b = some o) → R (.ok (.ret .none)) { s with heap := h', toks := tk }) :
    codeAny (model prog w) A (.call (.builtin "_heapq.heappush") ⟨[.ref a, v], []⟩) R s := by
  refine codeAny_call_builtin plain_push entry_push (wpAny_of_eq (chk_push _ _) ?_)
  have hT : s.TypeIs (.ref a) "list" := ⟨_, ha, rfl⟩
  have hL := list_list
  have up := Heap.get?_update_self (h := s.heap) (Obj.mapSeq (·.push v)) ha rfl
  obtain ⟨hp', g, d, tk, os⟩ := s
  unfold Builtin.«_heapq.heappush»
  dsimp only
  wp_walk using wpAny_seqItems ha rfl, (wpAny_updateSeq ha rfl)
  have sz : (its.push v).size = its.size + 1 := by simp
  refine ⟨quiet_sift _, ?_⟩
  refine sift_up ((its.push v).size - 1) up (by show (its.push v).size - 1 < (its.push v).size; omega) (fun x hx => ?_) (by show (its.push v).size ≤ 1000; omega) fun its' n' h' tk' pm hg kp => ?_
  · rw [Array.toList_push] at hx
    rcases List.mem_append.mp hx with m | m
    · exact hs x m
    · rw [List.mem_singleton.mp m]
      exact hv
  · exact hR its' n' h' tk' pm hg fun b o nb e => kp b o nb (by rw [Heap.get?_update_ne _ _ _ _ nb]; exact e)
theorem code_pop {prog : Program} {w : World} {A : Around} {R : Result → Shared → Prop} {a : Addr} {its : Array Value} {n : Nat} {s : Shared}
    (ha : s.heap.get? a = some { cls := .type "list", data := .seq its n }) (hs : ∀ v ∈ its.toList, ∃ z t, v = .str z t) (h0 : 0 < its.size) (hz : its.size ≤ 1000)
    (hR : ∀ (z : Str) (t : Tok) (its' : Array Value) (n' : Nat) (h' : Heap) (tk : Nat), (Value.str z t :: its'.toList).Perm its.toList → h'.get? a = some { cls := .type "list", data := .seq its' n' } → (∀ b o, b ≠ a → s.heap.get? b = some o → h'.get? b = some o) → R (.ok (.ret (.str z t))) { s with heap := h', toks := tk }) :
    codeAny (model prog w) A (.call (.builtin "_heapq.heappop") ⟨[.ref a], []⟩) R s := by
  refine codeAny_call_builtin plain_pop entry_pop (wpAny_of_eq (chk_pop _) ?_)
  have hT : s.TypeIs (.ref a) "list" := ⟨_, ha, rfl⟩
  have hL := list_list
  obtain ⟨last, eb⟩ : ∃ last, its.back? = some last := by
    rw [Array.back?_eq_getElem?]
    exact ⟨_, Array.getElem?_eq_getElem (by omega)⟩
  have el : its.toList.getLast? = some last := by rw [Array.getLast?_toList]; exact eb
  obtain ⟨hp', g, d, tk, os⟩ := s
  unfold Builtin.«_heapq.heappop»
  have pp := Heap.get?_update_self (h := hp') (Obj.mapSeq (·.pop)) ha rfl
  by_cases h1 : its.size = 1
  · wp_walk using wpAny_seqItems ha rfl
    rw [eb]
    dsimp only
    have e1 : (its.size == 1) = true := by rw [h1]; rfl
    wp_walk using (wpAny_updateSeq ha rfl)
    obtain ⟨y, hy⟩ : ∃ y, its.toList = [y] := by
      have hl : its.toList.length = 1 := by simpa using h1
      match hL2 : its.toList, hl with
      | [y], _ => exact ⟨y, rfl⟩
    obtain ⟨z, t, rfl⟩ := hs y (by rw [hy]; simp)
    have e2 : last = .str z t := by
      rw [hy] at el
      exact (Option.some.inj el).symm
    subst e2
    have ep : its.pop.toList = [] := by
      rw [Array.toList_pop, hy]
      rfl
    refine hR z t its.pop _ _ _ ?_ pp fun b o nb e => by rw [Heap.get?_update_ne _ _ _ _ nb]; exact e
    rw [ep, hy]
  · have e1 : (its.size == 1) = false := by simpa using h1
    obtain ⟨x, y, r, hxy⟩ : ∃ x y r, its.toList = x :: (r ++ [y]) := by
      have hl : 2 ≤ its.toList.length := by
        have : its.toList.length = its.size := by simp
        omega
      match hL2 : its.toList, hl with
      | x :: b :: t, _ => exact ⟨x, (b :: t).getLast (by simp), (b :: t).dropLast, by rw [List.dropLast_concat_getLast]⟩
    have e2 : last = y := by
      rw [hxy] at el
      have q : (x :: (r ++ [y])).getLast? = some y := by simp [List.getLast?_cons, List.getLast?_append]
      rw [q] at el
      exact (Option.some.inj el).symm
    subst e2
    have efirst : its[0]? = some x := by
      have q : its.toList[0]? = its[0]? := Array.getElem?_toList
      rw [hxy] at q
      exact q.symm
    have sz : its.pop.size = its.size - 1 := by simp
    have ep : its.pop.toList = x :: r := by
      rw [Array.toList_pop, hxy]
      simp [List.dropLast_cons_of_ne_nil]
    have es : (its.pop.setIfInBounds 0 last).toList = last :: r := by
      rw [Array.toList_setIfInBounds, ep]
      rfl
    have sz2 : (its.pop.setIfInBounds 0 last).size = its.size - 1 := by simp
    have up2 := Heap.get?_update_self (h := hp'.update a (Obj.mapSeq (·.pop))) (Obj.mapSeq (·.setIfInBounds 0 last)) pp rfl
    obtain ⟨z, t, rfl⟩ := hs x (by rw [hxy]; simp)
    wp_walk using wpAny_seqItems ha rfl
    rw [eb]
    dsimp only
    wp_walk using (wpAny_updateSeq ha rfl)
    rw [efirst]
    dsimp only
    have f1 : its.pop.size ≤ sizeLine := by rw [sz]; exact Nat.le_trans (show its.size - 1 ≤ 1000 by omega) (by decide)
    have f2 : (its.pop.setIfInBounds 0 last).size ≤ sizeLine + 1 := by rw [sz2]; exact Nat.le_trans (show its.size - 1 ≤ 1000 by omega) (by decide)
    refine wpAny_pure (wpAny_bind ?_)
    refine wpAny_updateSeq pp rfl (hz := f1) (_hz' := f2) ?_
    wp_walk
    refine ⟨quiet_sift _, ?_⟩
    refine sift_down ((its.pop.setIfInBounds 0 last).size - 0) 0 rfl up2 (by show 0 < (its.pop.setIfInBounds 0 last).size; omega) (fun v hv => ?_) (by show (its.pop.setIfInBounds 0 last).size ≤ 1000; omega) fun its' n' h' tk' pm hg kp => ?_
    · have hv : v ∈ (its.pop.setIfInBounds 0 last).toList := hv
      rw [es] at hv
      refine hs v ?_
      rw [hxy]
      rcases List.mem_cons.mp hv with rfl | m
      · simp
      · simp [m]
    · have pm : its'.toList.Perm (its.pop.setIfInBounds 0 last).toList := pm
      rw [es] at pm
      refine hR z t its' n' h' tk' ?_ hg fun b o nb e => kp b o nb (by rw [Heap.get?_update_ne _ _ _ _ nb, Heap.get?_update_ne _ _ _ _ nb]; exact e)
      rw [hxy]
      exact .cons _ (pm.trans (List.perm_append_singleton last r).symm)
end G

set_option Elab.async false
set_option linter.all false
set_option maxRecDepth 100000
set_option maxHeartbeats 4000000
/-! heappush, heappop of a list of texts: what comes in goes out, in some sequence. -/
namespace G
open PySem PySem.Spec PyProof.Rows L2 Evl
def strOf : Value → Str
  | .str z _ => z
  | _ => Str.empty
theorem vals_strOf : ∀ {us : List Value}, (∀ v ∈ us, ∃ z t, v = .str z t) → Vals ((us.map strOf).map V.str) us
  | [], _ => .nil
  | u :: us, h => by
    obtain ⟨z, t, rfl⟩ := h u List.mem_cons_self
    exact .cons ⟨t, rfl⟩ (vals_strOf fun v hv => h v (List.mem_cons_of_mem _ hv))
theorem strOf_vals : ∀ {zs : List Str} {us : List Value}, Vals (zs.map V.str) us → us.map strOf = zs ∧ ∀ v ∈ us, ∃ z t, v = .str z t
  | [], _, h => by
    cases h
    exact ⟨rfl, fun v hv => by cases hv⟩
  | z :: zs, _, h => by
    cases h with
    | cons a b =>
      obtain ⟨t, rfl⟩ := a
      obtain ⟨h1, h2⟩ := strOf_vals b
      refine ⟨by simp [strOf, h1], fun v hv => ?_⟩
      rcases List.mem_cons.mp hv with rfl | hv
      · exact ⟨z, t, rfl⟩
      · exact h2 v hv
def rPush : List V → Hp → VK → Prop := fun vs H Q => ∃ (l : Addr) (z : Str) (zs : List Str), vs = [.ref l, .str z] ∧ H l = some (.lst (zs.map V.str)) ∧ zs.length < 900 ∧ ∀ zs' : List Str, zs'.Perm (z :: zs) → Q .non (upd H l (.lst (zs'.map V.str)))
def rPopH : List V → Hp → VK → Prop := fun vs H Q => ∃ (l : Addr) (zs : List Str), vs = [.ref l] ∧ H l = some (.lst (zs.map V.str)) ∧ zs ≠ [] ∧ zs.length < 900 ∧ ∀ (z : Str) (zs' : List Str), (z :: zs').Perm zs → Q (.str z) (upd H l (.lst (zs'.map V.str)))
theorem cr_push {X : Cx} : CallR X (.builtin "_heapq.heappush") rPush := by
  intro pins s σ H vs us Q I r h
  obtain ⟨l, z, zs, rfl, hl, hz, q⟩ := h
  obtain ⟨u1, u2, rfl, r1, r2⟩ := vals2 r
  cases r1
  obtain ⟨t, rfl⟩ := r2
  obtain ⟨_, its, n, rel, ho⟩ := I.hok l _ hl
  obtain ⟨e1, e2⟩ := strOf_vals rel
  have len := rel.length
  rw [List.length_map] at len
  refine wpAny_call (code_push (its := its.toArray) ho (by simpa using e2) ⟨z, t, rfl⟩ (by rw [List.size_toArray, ← len]; omega) fun its' n' h' tk pm hg kp => ?_)
  have pm : its'.toList.Perm (its ++ [.str z t]) := by simpa using pm
  have st : ∀ v ∈ its'.toList, ∃ z t, v = .str z t := fun v hv => by
    rcases List.mem_append.mp (pm.mem_iff.mp hv) with m | m
    · exact e2 v m
    · exact ⟨z, t, by simpa using m⟩
  have pz : (its'.toList.map strOf).Perm (z :: zs) := by
    have p1 := pm.map strOf
    rw [List.map_append, e1] at p1
    exact p1.trans (List.perm_append_singleton _ _)
  have lz : (its'.toList.map strOf).length = zs.length + 1 := by rw [pz.length_eq]; rfl
  have new : ObjOk X.prog X.w (upd H l (.lst ((its'.toList.map strOf).map V.str))) h' l (.lst ((its'.toList.map strOf).map V.str)) := ⟨Nat.le_trans (by rw [List.length_map, lz]; omega) (show 1000 ≤ sizeLine by decide), its'.toList, n', vals_strOf st, hg⟩
  exact ⟨.non, _, I.write (e := l) (t' := tk) (by rw [hl]; trivial) (.inl rfl) (fun b o nb e => kp b o nb e) ⟨_, hg⟩ new, rfl, q _ pz⟩
theorem cr_popH {X : Cx} : CallR X (.builtin "_heapq.heappop") rPopH := by
  intro pins s σ H vs us Q I r h
  obtain ⟨l, zs, rfl, hl, hne, hz, q⟩ := h
  rw [Vals.ref1 r]
  obtain ⟨_, its, n, rel, ho⟩ := I.hok l _ hl
  obtain ⟨e1, e2⟩ := strOf_vals rel
  have len := rel.length
  rw [List.length_map] at len
  have pos : 0 < zs.length := List.length_pos_iff.mpr hne
  refine wpAny_call (code_pop (its := its.toArray) ho (by simpa using e2) (by rw [List.size_toArray, ← len]; exact pos) (by rw [List.size_toArray, ← len]; omega) fun z t its' n' h' tk pm hg kp => ?_)
  have pm : (Value.str z t :: its'.toList).Perm its := by simpa using pm
  have st : ∀ v ∈ its'.toList, ∃ z t, v = .str z t := fun v hv => e2 v (pm.mem_iff.mp (List.mem_cons_of_mem _ hv))
  have pz : (z :: its'.toList.map strOf).Perm zs := by
    have p1 := pm.map strOf
    rw [e1] at p1
    exact p1
  have lz : (its'.toList.map strOf).length + 1 = zs.length := pz.length_eq
  have new : ObjOk X.prog X.w (upd H l (.lst ((its'.toList.map strOf).map V.str))) h' l (.lst ((its'.toList.map strOf).map V.str)) := ⟨Nat.le_trans (by rw [List.length_map]; omega) (show 1000 ≤ sizeLine by decide), its'.toList, n', vals_strOf st, hg⟩
  exact ⟨.str z, _, I.write (e := l) (t' := tk) (by rw [hl]; trivial) (.inl rfl) (fun b o nb e => kp b o nb e) ⟨_, hg⟩ new, ⟨t, rfl⟩, q _ _ pz⟩
end G

set_option Elab.async false
set_option linter.all false
set_option maxRecDepth 100000
set_option maxHeartbeats 4000000
/-! A set of texts: one more, and sorted. -/
namespace G
open PySem PySem.Spec PyProof.Rows L2 Evl
def zOf (e : Int × Value) : Str := strOf e.2
def Ent (w : World) (e : Int × Value) : Prop := ∃ z u, e.2 = Value.str z u ∧ e.1 = hashStr w z
/-- at a stands the set of the texts zs -/
def SetX (w : World) (h : Heap) (a : Addr) (zs : List Str) : Prop :=
  ∃ (o : Obj) (es : Array (Int × Value)) (n : Nat) (T : SetTable), (h.get? a = some o ∧ o.ExactSet ∧ o.data = .set es n T) ∧ ((∀ e ∈ es.toList, Ent w e) ∧ (es.toList.map zOf).Perm zs ∧ zs.Nodup) ∧
    es.size < scanBound ∧ T.fits es.size = true ∧ Ris T.place.toList ∧ (w.params.followText "set-order" = true ∨ T.led = true)
section
variable {P : Program} {w : World} {h h' : Heap} {a : Addr} {zs : List Str}
theorem SetX.kept (R : SetX w h a zs) (k : ∀ o, h.get? a = some o → h'.get? a = some o) : SetX w h' a zs := by
  obtain ⟨o, es, n, T, ⟨q, r⟩, t⟩ := R
  exact ⟨o, es, n, T, ⟨k o q, r⟩, t⟩
theorem ent_elems {l : List (Int × Value)} (g : ∀ e ∈ l, Ent w e) : ElemsOf (strKind P w) l := by
  intro e m
  obtain ⟨z, u, e1, e2⟩ := g e m
  refine ⟨⟨z, ?_, e2⟩, ?_⟩
  · rw [e1]
    exact strKind_is P w z u
  · rw [e1]
    rfl
theorem ent_is {e : Int × Value} (g : Ent w e) (z : Str) : (strKind P w).is z e.2 = true ↔ zOf e = z := by
  obtain ⟨y, u, e1, _⟩ := g
  have q : zOf e = y := by unfold zOf; rw [e1]; rfl
  rw [q, e1]
  constructor
  · intro i
    exact (strKind P w).inj _ y z (strKind_is P w y u) i
  · rintro rfl
    exact strKind_is P w y u
theorem ent_mem {l : List (Int × Value)} (g : ∀ e ∈ l, Ent w e) (z : Str) : z ∈ l.map zOf ↔ ∃ e ∈ l, (strKind P w).is z e.2 = true := by
  rw [List.mem_map]
  exact ⟨fun ⟨e, m, q⟩ => ⟨e, m, (ent_is (g e m) z).mpr q⟩, fun ⟨e, m, q⟩ => ⟨e, m, (ent_is (g e m) z).mp q⟩⟩
theorem SetX.of (R : SetX w h a zs) : h.SetOf (strKind P w) a (fun z => decide (z ∈ zs)) zs.length := by
  obtain ⟨o, es, n, T, ⟨q1, q2, q3⟩, ⟨g, pm, _⟩, b, f, _⟩ := R
  refine ⟨o, es, n, T, q1, q2, q3, ent_elems g, fun z => ?_, b, f, ?_⟩
  · rw [decide_eq_true_iff, ← pm.mem_iff]
    exact ent_mem g z
  · rw [← pm.length_eq, List.length_map, Array.length_toList]
theorem SetX.nil (w : World) (h : Heap) : SetX w (h.push { cls := .type "set", dict := none, data := .set #[] 0 (.fresh 0 0 (!w.params.followText "set-order")) }) h.objs.size [] := by
  refine ⟨_, #[], 0, _, ⟨Heap.get?_push_size _ rfl, ⟨rfl, rfl, rfl⟩, rfl⟩, ⟨fun e m => by simp at m, List.Perm.refl _, List.nodup_nil⟩, by decide, rfl, List.Pairwise.nil, ?_⟩
  cases z : w.params.followText "set-order" with
  | true => exact .inl rfl
  | false => exact .inr rfl
end
def ins (z : Str) (zs : List Str) : List Str := if z ∈ zs then zs else z :: zs
section
variable {P : Program} {w : World} {A : Around} {E : Value → Shared → Prop} {s : Shared} {a : Addr} {zs : List Str}
theorem put_at {h : Heap} {o : Obj} {es fs : Array (Int × Value)} {n : Nat} {T U : SetTable} (q : h.get? a = some o) (d : o.data = .set es n T) :
    (h.update a (Obj.putSet fs U)).get? a = some { o with data := .set fs (n + 1) U } := by
  have r := Heap.get?_update_self (Obj.putSet fs U) q (by rw [putSet_of fs U d]; rfl)
  rw [r, putSet_of fs U d]
/-- what stands behind the laying of a new one -/
theorem laid_more {gv : Bool → Sem Unit} (hgv : ∀ (b : Bool) (s1 : Shared) (R1 : Unit → Shared → Prop), R1 () s1 → wpAny (model P w) A (gv b) R1 E s1)
    {o : Obj} {es fs : Array (Int × Value)} {n : Nat} {T U : SetTable} (q : s.heap.get? a = some o) (ex : o.ExactSet) (d : o.data = .set es n T) (g : ∀ e ∈ fs.toList, Ent w e) (pm : (fs.toList.map zOf).Perm zs) (nd : zs.Nodup)
    (b : fs.size < scanBound) (f : U.fits fs.size = true) (rs : Ris U.place.toList) (ld : w.params.followText "set-order" = true ∨ U.led = true) {wd : Bool} {R : Option Bool → Shared → Prop}
    (k : ∀ h', Heap.SameBut a s.heap h' → SetX w h' a zs → R (some true) { s with heap := h' }) :
    wpAny (model P w) A (do
        storeSet a fs U
        if (!wd && U.tooFull) = true then do
          gv (relayAll U fs (SetTable.grown fs.size)).2.2
          storeSet a (relayAll U fs (SetTable.grown fs.size)).1 (relayAll U fs (SetTable.grown fs.size)).2.1
          pure (some true)
        else pure (some true)) R E s := by
  refine wpAny_bind (wpAny_storeSet_of q d ?_ (fits_of_scanBound b))
  have q1 := put_at (fs := fs) (U := U) q d
  have c1 := Heap.SameBut.update s.heap a (Obj.putSet fs U)
  by_cases full : (!wd && U.tooFull) = true
  · rw [if_pos full]
    have pm2 := relayAll_perm U fs (SetTable.grown fs.size)
    have f2 := relayAll_fits U fs (SetTable.grown fs.size)
    have r2 := relayAll_ris U fs (SetTable.grown fs.size)
    have l2 := relayAll_led U fs (SetTable.grown fs.size)
    revert pm2 f2 r2 l2
    generalize relayAll U fs (SetTable.grown fs.size) = Z
    obtain ⟨gs, W, gave⟩ := Z
    intro pm2 f2 r2 l2
    dsimp only at pm2 f2 r2 l2 ⊢
    have sz : gs.size = fs.size := by
      have := pm2.length_eq
      simpa using this
    have b2 : gs.size < scanBound := sz ▸ b
    refine wpAny_bind (hgv _ _ _ ?_)
    refine wpAny_bind (wpAny_storeSet_of q1 rfl ?_ (fits_of_scanBound b2))
    have q2 := put_at (fs := gs) (U := W) q1 rfl
    refine wpAny_pure (k _ (c1.trans (Heap.SameBut.update _ a _)) ?_)
    refine ⟨_, gs, _, W, ⟨q2, ex, rfl⟩, ⟨fun e m => g e (pm2.mem_iff.mp m), (pm2.map zOf).trans pm, nd⟩, b2, f2, r2, ?_⟩
    rcases ld with ld | ld
    · exact .inl ld
    · exact .inr (l2.trans ld)
  · rw [if_neg full]
    exact wpAny_pure (k _ c1 ⟨_, fs, _, U, ⟨q1, ex, rfl⟩, ⟨g, pm, nd⟩, b, f, rs, ld⟩)
theorem add_hashed {z : Str} {u : Tok} {Q : Bool → Shared → Prop} (R : SetX w s.heap a zs) (room : zs.length + 1 < scanBound)
    (k : ∀ b h', Heap.SameBut a s.heap h' → SetX w h' a (ins z zs) → Q b { s with heap := h' }) :
    wpAny (model P w) A (setAddHashed a (.str z u) (hashStr w z)) Q E s := by
  obtain ⟨o, es, n, T, ⟨q, ex, d⟩, ⟨g, pm, nd⟩, b, f, rs, ld⟩ := id R
  have el : ElemsOf (strKind P w) es.toList := ent_elems g
  have key : (strKind P w).is z (.str z u) = true := strKind_is P w z u
  have sc : (Value.str z u).scannable = true := rfl
  unfold setAddHashed setAddHashedIn
  refine wpAny_holding (wpAny_bind (wpAny_setState_of q d f ?_))
  dsimp only
  rw [byScan_of sc b el]
  simp only [↓reduceIte]
  unfold setAddByScan
  refine wpAny_bind (wpAny_bind (wpAny_rule (wpAny_bind (wpAny_setScan_of key q d f el ?_))))
  cases fi : List.findIdx? (fun e => (strKind P w).is z e.2) es.toList with
  | some j =>
    obtain ⟨jl, jp, _⟩ := List.findIdx?_eq_some_iff_getElem.mp fi
    have zin : z ∈ zs := pm.mem_iff.mp ((ent_mem (P := P) g z).mpr ⟨_, List.getElem_mem jl, jp⟩)
    have r := k false s.heap (Heap.SameBut.refl a s.heap) (by unfold ins; rw [if_pos zin]; exact R)
    exact wpAny_pure (wpAny_pure r)
  | none =>
    have nin : z ∉ es.toList.map zOf := fun m => by
      obtain ⟨e, me, y⟩ := (ent_mem (P := P) g z).mp m
      exact absurd y (by rw [List.findIdx?_eq_none_iff.mp fi e me]; exact Bool.false_ne_true)
    have nz : z ∉ zs := fun m => nin (pm.mem_iff.mpr m)
    have more : ins z zs = z :: zs := by unfold ins; rw [if_neg nz]
    rw [more] at k
    dsimp only
    have gave : ∀ (c : Bool) {s1 : Shared} {R1 : Unit → Shared → Prop}, R1 () s1 → wpAny (model P w) A (match c with | true => rule "set.scan.the-table-gave-way" | false => pure ()) R1 E s1 := by
      intro c s1 R1 y
      cases c
      · exact wpAny_pure y
      · exact wpAny_rule y
    have pm1 := layNew_perm T es ((strKind P w).hash z) (.str z u)
    have f1 := layNew_fits T es ((strKind P w).hash z) (.str z u)
    have r1 := layNew_ris T es ((strKind P w).hash z) (.str z u) rs
    have l1 := layNew_led T es ((strKind P w).hash z) (.str z u)
    revert pm1 f1 r1 l1
    show _ → _ → _ → _ → wpAny _ _ _ _ _ _
    have eh : (strKind P w).hash z = hashStr w z := rfl
    rw [eh]
    generalize layNew T es (hashStr w z) (.str z u) = Z
    obtain ⟨fs, U, wd, gv⟩ := Z
    intro pm1 f1 r1 l1
    dsimp only at pm1 f1 r1 l1 ⊢
    rw [Array.toList_push] at pm1
    have pmc := pm1.trans (List.perm_append_singleton (hashStr w z, Value.str z u) es.toList)
    have pmz : (fs.toList.map zOf).Perm (z :: zs) := (pmc.map zOf).trans (List.Perm.cons z pm)
    have g1 : ∀ e ∈ fs.toList, Ent w e := by
      intro e m
      rcases List.mem_cons.mp (pmc.mem_iff.mp m) with y | y
      · exact ⟨z, u, by rw [y], by rw [y]⟩
      · exact g e y
    have sz : fs.size = zs.length + 1 := by
      have := pmz.length_eq
      simpa using this
    have b1 : fs.size < scanBound := by rw [sz]; exact room
    have nd1 : (z :: zs).Nodup := List.nodup_cons.mpr ⟨nz, nd⟩
    have ld1 : w.params.followText "set-order" = true ∨ U.led = true := ld.imp id fun y => l1.trans y
    refine wpAny_bind (gave _ ?_)
    split
    · refine wpAny_bind ?_
      rw [hashByValue_scannable 8 sc]
      refine wpAny_pure (laid_more ?_ q ex d g1 pmz nd1 b1 ?_ ?_ ?_ ?_)
      · intro c s1 R1 y
        cases c
        · exact wpAny_pure y
        · exact wpAny_rule y
      · first | (split <;> first | exact f1 | exact SetTable.fits_plain_off f1) | exact f1
      · first | (split <;> exact r1) | exact r1
      · first | (split <;> exact ld1) | exact ld1
      · intro h' sb R1
        dsimp only
        exact wpAny_pure (k true h' sb R1)
    · refine wpAny_bind (wpAny_pure ?_)
      simp only [↓reduceIte]
      refine laid_more ?_ q ex d g1 pmz nd1 b1 f1 r1 ld1 ?_
      · intro c s1 R1 y
        cases c
        · exact wpAny_pure y
        · exact wpAny_rule y
      · intro h' sb R1
        dsimp only
        exact wpAny_pure (k true h' sb R1)
theorem add_text {z : Str} {u : Tok} {Q : Value → Shared → Prop} (R : SetX w s.heap a zs) (room : zs.length + 1 < scanBound)
    (k : ∀ h', Heap.SameBut a s.heap h' → SetX w h' a (ins z zs) → Q .none { s with heap := h', toks := s.toks + 1 }) :
    wpAny (model P w) A (call (.builtin "set.add") [.ref a, .str z u]) Q E s := by
  have T0 : s.heap.SetOf (strKind P w) a (fun z => decide (z ∈ zs)) zs.length := R.of
  refine wpAny_call_entry F.slot_set_add T0.typeIs F.entry_set_add ?_ (F.args_set_add_2 _ _)
  unfold Builtin.«set.add» Builtin.Frozenset.oneOther
  simp only [List.isEmpty_nil, bind_assoc]
  unfold Builtin.Frozenset.addrOf setAdd
  refine wpAny_bind (wpAny_pure ?_)
  try dsimp only
  refine wpAny_bind (wpAny_pure ?_)
  try dsimp only
  refine wpAny_bind (wpAny_holding (wpAny_bind ((strKind P w).pyHash (strKind_is P w z u) ?_)))
  refine add_hashed (s := { s with toks := s.toks + 1 }) R room fun b h' sb R1 => ?_
  exact wpAny_pure ⟨_, rfl, k h' sb R1⟩
end
/-- the set of the texts zs at a, as a tracked thing -/
def setO (w : World) (a : Addr) (zs : List Str) : HO := .ext fun h => SetX w h a zs
theorem setO_ok {P : Program} {w : World} {H : Hp} {h : Heap} {a : Addr} {zs : List Str} (R : SetX w h a zs) : ObjOk P w H h a (setO w a zs) := by
  obtain ⟨o, _, _, _, ⟨q, _⟩, _⟩ := id R
  exact ⟨R, ⟨o, q⟩, fun _ _ p k => SetX.kept p k⟩
section
variable {X : Cx} {pins : List (Addr × Obj)} {σ : L2.St} {H : Hp} {s : Shared}
theorem setO_at {a : Addr} {zs : List Str} (I : Inv X pins σ H s) (q : H a = some (setO X.w a zs)) : SetX X.w s.heap a zs := (I.hok a _ q).1
theorem addX_ok {E : Value → Shared → Prop} {D : Addr} {zs : List Str} {z : Str} {u : Tok} {Q : Value → Shared → Prop} (I : Inv X pins σ H s) (q : H D = some (setO X.w D zs)) (room : zs.length + 1 < scanBound)
    (k : ∀ s', Inv X pins σ (upd H D (setO X.w D (ins z zs))) s' → Q .none s') : wpAny (model X.prog X.w) X.A (call (.builtin "set.add") [.ref D, .str z u]) Q E s := by
  refine add_text (setO_at I q) room fun h' sb R1 => k _ ?_
  obtain ⟨o, _, _, _, ⟨q1, _⟩, _⟩ := id R1
  exact I.write (e := D) (t' := s.toks + 1) (by rw [q]; trivial) (.inl rfl) (fun b y nb hy => (sb.2 b nb).trans hy) ⟨o, q1⟩ (setO_ok R1)
end
end G

set_option Elab.async false
set_option linter.all false
set_option maxRecDepth 100000
set_option maxHeartbeats 4000000
/-! {elt for target in iter if ..}, elt a text; sorted of a set of texts. -/
namespace G
open PySem PySem.Spec PyProof.Rows L2 Evl
section
variable {X : Cx}
/-- how one turn goes on -/
def TurnX (w : World) (D : Addr) (g : TG) (tt : TT) (te : TE) (vs : List Nat) (σ : L2.St) (Nx : Hp → Prop) (x : V) (H : Hp) : Prop :=
  g x (wipe σ vs) H fun σ2 H2 => wipe σ2 vs = wipe σ vs ∧ tt σ2 H2 fun b H3 =>
    if b = true then te σ2 H3 fun y H4 => ∃ (z : Str) (zs : List Str), y = .str z ∧ H4 D = some (setO w D zs) ∧ zs.length + 1 < scanBound ∧ Nx (upd H4 D (setO w D (ins z zs))) else Nx H3
/-- how the turns go, J what is walked -/
def WalkX (w : World) (J : It) (D : Addr) (g : TG) (tt : TT) (te : TE) (vs : List Nat) (σ : L2.St) (H0 : Hp) (Qd : Hp → Prop) : Prop :=
  ∃ W : Nat → Nat → Hp → Prop, (∃ m, W 0 m H0) ∧ ∀ i m H, W i m H → (J.stop i H ∧ Qd H) ∨
    (J.go i H ∧ ∃ Nx : Hp → Prop, (∀ H', Nx H' → ∃ m', m' < m ∧ W (i + 1) m' H') ∧ ∀ x H', J.yld i H x H' → TurnX w D g tt te vs σ Nx x H')
def tSx (w : World) (wi : TI) (g : TG) (tt : TT) (te : TE) (vs : List Nat) : TE := fun σ H Q => wi σ H fun J H1 => ∀ D, H1 D = none → WalkX w J D g tt te vs σ (upd H1 D (setO w D [])) fun H' => Q (.ref D) H'
theorem pe_sx {elt tg iter : Expr} {ifs : List Expr} {scope : Scope} {own : List (PySem.Str × Nat)} {pos : Pos} {wi : TI} {g : TG} {tt : TT} {te : TE} (hc : X.calm = true) (nd : X.N.Nodup) (hi : PI X tg iter wi) (ok : BlkOk X.N X.env.scope scope own)
    (hg : ∀ (s : Shared) (H : Hp) (C : Addr) (cl : List (PySem.Str × Addr)) (fp : List Addr), PG (X.blk s H scope (compEnvC scope cl C X.env) fp) tg g)
    (ht : ∀ (s : Shared) (H : Hp) (C : Addr) (cl : List (PySem.Str × Addr)) (fp : List Addr), PTs (X.blk s H scope (compEnvC scope cl C X.env) fp) ifs tt)
    (he : ∀ (s : Shared) (H : Hp) (C : Addr) (cl : List (PySem.Str × Addr)) (fp : List Addr), PE (X.blk s H scope (compEnvC scope cl C X.env) fp) elt te)
    (hf : ∀ x, foldedSetIterable iter X.env x = pure x := by intro _; rfl) : PE X (.SetComp elt [⟨tg, iter, ifs, 0⟩] scope pos) (tSx X.w wi g tt te (own.map (·.2))) := by
  refine ⟨fun pins s σ H Q I h => ?_⟩
  rw [PpSet.eval_SetComp]
  have clo : ∀ y ∈ scope.names, y.2 = .free → ∃ c, X.env.cells.lookup y.1 = some c := by
    intro y m e
    exact (ok.free y m e).elim (fun k => I.ok.has _ (.inl k)) (fun k => I.ok.has _ (.inr k))
  refine wpAny_comprehension_free rfl hf (closure_ok clo) ok.kind (fun y m e => by rw [ok.uniq y m, e]) (thn (hi.run pins s σ H _ I h) fun xv sa ha => thn ha fun iv sb hb => ?_)
  obtain ⟨it, fp, tn, J, HA, rfl, IA, T, stA, fA, turns⟩ := hb
  refine PpSet.newSet_ok (newEnv_comp ?_)
  obtain ⟨W, ⟨m0, w0⟩, turn⟩ := turns sb.heap.objs.size (IA.hok.fresh (Nat.le_refl _))
  have keepA : ∀ (b : Addr) (o : Obj), sb.heap.get? b = some o → (sb.heap.push { cls := .type "set", dict := none, data := .set #[] 0 (.fresh 0 0 (!X.w.params.followText "set-order")) }).get? b = some o := fun b o e => Heap.get?_push_of_some _ e
  have IB : Inv X pins σ (upd HA sb.heap.objs.size (setO X.w sb.heap.objs.size [])) { sb with heap := sb.heap.push { cls := .type "set", dict := none, data := .set #[] 0 (.fresh 0 0 (!X.w.params.followText "set-order")) } } :=
    IA.laid (t' := sb.toks) keepA (Nat.le_refl _) (setO_ok (SetX.nil X.w sb.heap))
  have stB := T.keep _ _ _ stA fun b _ o e => keepA b o e
  generalize eD : sb.heap.objs.size = D at IB w0 turn ⊢
  generalize eB : ({ sb with heap := sb.heap.push { cls := .type "set", dict := none, data := .set #[] 0 (.fresh 0 0 (!X.w.params.followText "set-order")) } } : Shared) = sB at IB
  have eBh : sb.heap.push { cls := .type "set", dict := none, data := .set #[] 0 (.fresh 0 0 (!X.w.params.followText "set-order")) } = sB.heap := by rw [← eB]
  rw [eBh] at stB
  have fpB : ∀ b ∈ fp, FpOk X pins (upd HA D (setO X.w D [])) b ∧ b < sB.heap.objs.size := by
    intro b m
    obtain ⟨o, e, _⟩ := T.obj _ _ stA b m
    have lt := Heap.lt_size e
    refine ⟨⟨?_, (fA b m).2⟩, ?_⟩
    · rw [upd_ne (by rw [← eD]; exact Nat.ne_of_lt lt)]
      exact (fA b m).1
    · rw [← eBh, Heap.size_push]
      exact Nat.lt_succ_of_lt lt
  have IC := block_start IB ok nd fpB
  have pg := hg sB (upd HA D (setO X.w D [])) sB.heap.objs.size (cellsFrom (sB.heap.objs.size + 1) scope.names (cloFrom X.env.cells scope.names [])) fp
  have pt := ht sB (upd HA D (setO X.w D [])) sB.heap.objs.size (cellsFrom (sB.heap.objs.size + 1) scope.names (cloFrom X.env.cells scope.names [])) fp
  have pe := he sB (upd HA D (setO X.w D [])) sB.heap.objs.size (cellsFrom (sB.heap.objs.size + 1) scope.names (cloFrom X.env.cells scope.names [])) fp
  have noB : ∀ b ∈ fp, (upd HA D (setO X.w D [])) b = none := fun b m => (fpB b m).1.1
  show codeAny _ _ (.compStart (.SetComp elt [⟨tg, iter, ifs, 0⟩] scope pos) 0 (.ref it) (.ref D) (compEnvC scope (cellsFrom (sB.heap.objs.size + 1) scope.names (cloFrom X.env.cells scope.names [])) sB.heap.objs.size X.env)) (compPost (model X.prog X.w) X.A X.xe none (EP X pins σ Q) (.ref D) sB.heap.objs.size) { sB with heap := pushCells (sB.heap.push { cls := .type "dict", data := .dict #[] }) scope.names }
  generalize ece : compEnvC scope (cellsFrom (sB.heap.objs.size + 1) scope.names (cloFrom X.env.cells scope.names [])) sB.heap.objs.size X.env = ce at IC pg pt pe ⊢
  have loc : ce.locals = sB.heap.objs.size := by rw [← ece]; rfl
  generalize eH : upd HA D (setO X.w D []) = HB at IB IC pg pt pe w0 noB fpB
  generalize esC : ({ sB with heap := pushCells (sB.heap.push { cls := .type "dict", data := .dict #[] }) scope.names } : Shared) = sC at IC ⊢
  have stC : tn 0 sC.heap := T.keep _ _ _ stB fun b _ o e => by
    rw [← esC]
    exact pushCells_keeps _ _ _ _ (Heap.get?_push_of_some _ e)
  have still : ∀ {σ1 : L2.St} {H1 : Hp} {s1 : Shared}, Inv (X.blk sB HB scope ce fp) [] σ1 H1 s1 → (∀ b ∈ fp, H1 b = none) → ∀ b ∈ fp, FpOk (X.blk sB HB scope ce fp) [] H1 b := by
    intro σ1 H1 s1 I1 no b m
    exact ⟨no b m, (I1.ok.exf b m).1, I1.ok.exfs b m, .inl m, fun x c e => (I1.ok.exf b m).2 x c e, fun p hp => by cases hp⟩
  have main : codeAny (model X.prog X.w) X.A (.compLoop (.SetComp elt [⟨tg, iter, ifs, 0⟩] scope pos) 0 (.ref it) (.ref D) ce) (compPost (model X.prog X.w) X.A X.xe none (EP X pins σ Q) (.ref D) sB.heap.objs.size) sC := by
    refine PpSet.compLoopS_any (fun n s1 => ∃ i H1, Inv (X.blk sB HB scope ce fp) [] (wipe σ (own.map (·.2))) H1 s1 ∧ tn i s1.heap ∧ (∀ b ∈ fp, H1 b = none) ∧ W i n H1) ?_ m0 ⟨0, HB, IC, stC, noB, w0⟩
    rintro n s1 ⟨i, H1, I1, st1, no1, w1⟩
    rcases turn i n H1 w1 with ⟨halt, fin⟩ | ⟨go, Nx, less, step⟩
    · refine thnF (T.done (X.blk sB HB scope ce fp) rfl rfl rfl hc i [] s1 _ H1 (fun _ _ => False) I1 (still I1 no1) st1 halt) fun r s2 ⟨er, I2⟩ => ?_
      subst er
      have I3 : Inv X pins σ H1 s2 := IB.call' (ch := fp) I2.os I2.base I2.hok I2.bare fun b m => ⟨(fpB b m).1.2.2.2.1, (fpB b m).1.2.1, (fpB b m).1.2.2.2.2.1, (fpB b m).1.2.2.2.2.2⟩
      have nC : H1 sB.heap.objs.size = none := by
        have := I2.free
        rw [show (X.blk sB HB scope ce fp).env.locals = ce.locals from rfl, loc] at this
        exact this
      obtain ⟨m, hn, _⟩ := I2.loc
      have hn : s2.heap.Ns ce.locals m := hn
      rw [loc] at hn
      obtain ⟨f0, f1, f2, f3, f4, f5⟩ := IB.fpOk (Nat.le_refl _) nC
      exact ⟨m, hn, fun h2 sm => ⟨.ref D, H1, I3.turned (t' := s2.toks) (fun b o nb e => (sm.2 b nb).trans e) f0 f1 f3 f4 f5, rfl, fin⟩⟩
    · refine thnF (T.item (X.blk sB HB scope ce fp) rfl rfl rfl hc i [] s1 _ H1 (fun _ _ => False) I1 (still I1 no1) st1 go) fun r s2 ⟨u, er, next⟩ => ?_
      subst er
      refine thnF next fun _ s3 ⟨x, H3, I3, r3, y3, st3, no3⟩ => ?_
      have I3p := I3.pinned (still I3 no3) (T.obj _ _ st3)
      refine thnF (pg.run _ s3 _ H3 x u _ I3p r3 (step x H3 y3)) fun _ s4 ⟨σ4, H4, I4, wp4, q4⟩ => ?_
      refine thnF (pt.run _ s4 σ4 H4 _ I4 q4) fun b s5 ⟨H5, I5, q5⟩ => ?_
      have turned : ∀ {s9 : Shared} {H9 : Hp}, Inv (X.blk sB HB scope ce fp) ([] ++ pinsAt fp s3.heap) σ4 H9 s9 → Nx H9 → ∃ m, m < n ∧ ∃ i H1, Inv (X.blk sB HB scope ce fp) [] (wipe σ (own.map (·.2))) H1 s9 ∧ tn i s9.heap ∧ (∀ b ∈ fp, H1 b = none) ∧ W i m H1 := by
        intro s9 H9 I9 nx
        obtain ⟨m, lt, w9⟩ := less H9 nx
        have pin : ∀ b ∈ fp, ∀ o, s3.heap.get? b = some o → s9.heap.get? b = some o ∧ H9 b = none := fun b mb o e =>
          have z := I9.pin (b, o) (List.mem_append_right _ (List.mem_append_right _ (mem_pinsAt mb e)))
          ⟨z.1, z.2.1⟩
        refine ⟨m, lt, i + 1, H9, (I9.unpinned (pins := [])).weak (by rw [← wp4, wipe_length]) (fun j v e => ?_), T.keep _ _ _ st3 fun b mb o e => (pin b mb o e).1, fun b mb => ?_, w9⟩
        · rw [← wp4] at e
          exact (wipe_some e).1
        · obtain ⟨o, e, _⟩ := T.obj _ _ st3 b mb
          exact (pin b mb o e).2
      cases b with
      | false =>
        rw [if_neg (by decide)] at q5
        rw [if_neg (by decide)]
        exact turned I5 q5
      | true =>
        rw [if_pos rfl] at q5
        rw [if_pos rfl]
        refine thnF (pe.run _ s5 σ4 H5 _ I5 q5) fun v s6 ⟨yv, H6, I6, r6, z, zs, ey, hD, room, nx⟩ => ?_
        subst ey
        obtain ⟨u2, rfl⟩ := r6
        exact addX_ok (X := X.blk sB HB scope ce fp) I6 hD room fun s7 I7 => turned I7 nx
  exact PpSet.codeAny_compStart_set main (T.self X.A 0 _ _ _ stC main)
end
/-! ### sorted of a set of texts -/
def rSortX (w : World) : List V → Hp → VK → Prop := fun vs H Q => ∃ (a : Addr) (zs : List Str), vs = [.ref a] ∧ H a = some (setO w a zs) ∧ zs.length < 64 ∧ ∀ (ys : List Str) (p : Addr), ys.Perm zs → H p = none → Q (.ref p) (upd H p (.lst (ys.map V.str)))
end G

set_option Elab.async false
set_option linter.all false
set_option maxRecDepth 100000
set_option maxHeartbeats 4000000
namespace G
open PySem PySem.Spec PyProof.Rows L2 Evl
theorem texts_of {w : World} {es : List (Int × Value)} : ∀ {vs : List Value}, (∀ v ∈ vs, ∃ z u, v = Value.str z u) → StrsAre vs (vs.map strOf)
  | [], _ => .nil
  | v :: vs, h => by
    obtain ⟨z, u, rfl⟩ := h v List.mem_cons_self
    exact .cons z u (texts_of (w := w) (es := es) fun x m => h x (List.mem_cons_of_mem _ m))
/-- sorted(a set of texts) -/
theorem cr_sortX {X : Cx} (hc : X.calm = true) : CallR X (.builtin "sorted") (rSortX X.w) := by
  intro pins s σ H vs us Q I r h
  obtain ⟨a, zs, rfl, ha, few, q⟩ := h
  obtain ⟨o, es, n, T, ⟨q1, q2, q3⟩, ⟨g, pm, _⟩, b, f, rs, ld⟩ := setO_at I ha
  rw [Vals.ref1 r]
  refine Calls.call_function_entry PyProof.Rows.kind_sorted PyProof.Rows.plain_sorted PyProof.Rows.entry_sorted (PyProof.Rows.args_sorted1 _) ?_
  unfold Builtin.«sorted»
  refine wpAny_bind (m := checkCount "sorted" 1 1 _) (wpAny_pure ?_)
  refine wpAny_bind (collect_set (A := X.A.in1) (I.ok.hd hc) ⟨o, q1, q2.1, q3⟩ f b rs ld fun s1 ws k1 z1 g1 o1 pw => ?_)
  have tx : ∀ v ∈ ws, ∃ z u, v = Value.str z u := by
    intro v m
    obtain ⟨e, me, ee⟩ := List.mem_map.mp (pw.mem_iff.mp m)
    obtain ⟨z, u, e1, _⟩ := g e me
    exact ⟨z, u, by rw [← ee, e1]⟩
  have SA : StrsAre ws (ws.map strOf) := texts_of (w := X.w) (es := []) tx
  have pz : (ws.map strOf).Perm zs := by
    have p1 := pw.map strOf
    rw [List.map_map] at p1
    exact p1.trans pm
  have len : ws.length = zs.length := by
    have := pz.length_eq
    simpa using this
  refine wpAny_bind (wpAny_newList ?_ (by rw [len, sizeLine_eq]; omega))
  have hL : (s1.heap.push (seqObj "list" ws.toArray 0)).get? s1.heap.objs.size = some (seqObj "list" ws.toArray 0) := Heap.get?_push_size _ rfl
  refine wpAny_bind (wpAny_holding (wpAny_call_entry PyProof.Rows.slot_list_sort ⟨_, hL, rfl⟩ PyProof.Rows.entry_list_sort
    (list_sort_treeK strKind_oneLt (s := { s1 with heap := s1.heap.push (seqObj "list" ws.toArray 0) }) hL SA.keysOf (fun x y rest e => keyKind_strs (by rw [← e]; exact SA)) (by rw [len]; exact few) fun st hp hs => ⟨_, rfl, ?_⟩) (PyProof.Rows.args_list_sort _)))
  obtain ⟨ys, y1, y2, y3⟩ := sorted_out_str SA hp hs
  obtain ⟨c, hcat⟩ := PyProof.Rows.sortedHeap_at (vs := ws) (out := (arrOf st).map (·.2)) hL
  have yl : (ys.map V.str).length ≤ sizeLine := by
    rw [List.length_map, y2.length_eq, List.length_map, len]
    exact Nat.le_trans (Nat.le_of_lt few) (by decide)
  have I1 : Inv X pins σ H s1 := I.call' (ch := []) o1 (Un.kept k1) (I.hok.kept k1) (by rw [g1]; exact I.bare) (fun _ z => nomatch z)
  have I2 : Inv X pins σ (upd H s1.heap.objs.size (.lst (ys.map V.str))) { s1 with heap := sortedHeap (s1.heap.push (seqObj "list" ws.toArray 0)) s1.heap.objs.size ws ((arrOf st).map (·.2)) } := by
    refine I1.laid (t' := s1.toks) (fun x u e => ?_) (Nat.le_refl _) (show ObjOk X.prog X.w _ _ _ (.lst (ys.map V.str)) from ⟨yl, ((arrOf st).map (·.2)).toList, c, vals_of_strs y1, by rw [Array.toArray_toList]; exact hcat⟩)
    have lt := Heap.lt_size e
    rw [PyProof.Rows.sortedHeap_old (Nat.ne_of_lt lt) (by rw [size_push']; exact Nat.lt_succ_of_lt lt)]
    exact Heap.get?_push_of_some _ e
  exact wpAny_pure ⟨_, rfl, .ref s1.heap.objs.size, _, I2, rfl, q ys _ (y2.trans pz) (I1.hok.fresh (Nat.le_refl _))⟩
/-! ### how the turns of a set's comprehension go over a list -/
section
variable {K : PySem.W.Frag} {w : World}
/-- {z for z in a list of texts if it is kept}: what is kept, once each -/
theorem walks_tup {a D : Addr} {xs : List V} {g : TG} {tt : TT} {te : TE} {vs : List Nat} {σ : L2.St} {H0 : Hp} {Qd : Hp → Prop} (Pv : Nat → Hp → Prop) (h0 : Pv 0 H0) (hl : ∀ i H, i ≤ xs.length → Pv i H → SqT K H a xs)
    (hs : ∀ i x H, xs[i]? = some x → Pv i H → TurnX w D g tt te vs σ (Pv (i + 1)) x H) (hd : ∀ H, Pv xs.length H → Qd H) : WalkX w (Itt K a) D g tt te vs σ H0 Qd := by
  refine ⟨fun i m H => m + i = xs.length ∧ Pv i H, ⟨xs.length, rfl, h0⟩, ?_⟩
  rintro i m H ⟨e, p⟩
  have st := hl i H (by omega) p
  rcases Nat.lt_or_ge i xs.length with lt | ge
  · refine .inr ⟨⟨xs, xs[i], st, by simp [lt]⟩, Pv (i + 1), fun H' p' => ⟨m - 1, by omega, by omega, p'⟩, fun x H' y => ?_⟩
    obtain ⟨rfl, y⟩ := y
    exact hs i x _ (y xs st) p
  · have ei : i = xs.length := by omega
    subst ei
    exact .inl ⟨⟨xs, st, Nat.le_refl _⟩, hd H p⟩
end
end G

set_option Elab.async false
set_option linter.all false
set_option maxRecDepth 100000
set_option maxHeartbeats 4000000
/-! x in o, x not in o by the class's own __contains__. -/
namespace G
open PySem PySem.Spec PyProof.Rows L2 Evl
/-- the def promises a truth value -/
def rInOwn (C : Addr) (sp : Sp) (E : XK) (neg : Bool) : R2 := fun x y H Q => ∃ a dx fs, y = .ref a ∧ H a = some (.ins C dx fs) ∧ sp [.ref a, x] H (fun v H' => ∃ b, v = .bl b ∧ Q (.bl (if neg = true then !b else b)) H') E
section
variable {X : Cx} {CC : CXT} {n : Nat} {C f : Addr} {fd : FuncData} {ps : List Str} {sp : Sp} {E : XK}
theorem op_inOwn (F : FnOk X.prog X.w X.K X.mg X.base CC n f fd ps sp) (hr : Room n X.A) (hs : PySem.W.findIn X.K (.ref C) "__contains__" = some (some (.ref f))) (hf : PySem.W.isFn X.K (.ref f) = true) (hb : Binds X.K fd ps []) (hx : Passes CC X E) :
    OpR X (compareOp .In) (rInOwn C sp E false) := by
  intro pins s σ H x y v u Q I rx ry h
  obtain ⟨a, dx, fs, rfl, ha, h⟩ := h
  cases ry
  obtain ⟨mA, J, _⟩ := ins_get I.hok ha
  obtain ⟨od, J, _⟩ := J.look
  obtain ⟨m, hF⟩ := I.fr
  refine PySem.W.in_K hF I.ok.mod.kin J hs hf (wpAny_mono (run_fn (vs := [.ref a, x]) (us := [.ref a, v]) F hr hb .nil hx I (.cons rfl (.cons rx .nil)) h) (fun r s1 q => ?_) fun _ _ z => z)
  obtain ⟨z, H1, I1, rz, b, rfl, q⟩ := q
  cases rz
  exact wpAny_truthy_bool ⟨.bl b, H1, I1, rfl, q⟩
theorem op_ninOwn (F : FnOk X.prog X.w X.K X.mg X.base CC n f fd ps sp) (hr : Room n X.A) (hs : PySem.W.findIn X.K (.ref C) "__contains__" = some (some (.ref f))) (hf : PySem.W.isFn X.K (.ref f) = true) (hb : Binds X.K fd ps []) (hx : Passes CC X E) :
    OpR X (compareOp .NotIn) (rInOwn C sp E true) := by
  intro pins s σ H x y v u Q I rx ry h
  obtain ⟨a, dx, fs, rfl, ha, h⟩ := h
  cases ry
  obtain ⟨mA, J, _⟩ := ins_get I.hok ha
  obtain ⟨od, J, _⟩ := J.look
  obtain ⟨m, hF⟩ := I.fr
  refine PySem.W.notIn_K hF I.ok.mod.kin J hs hf (wpAny_mono (run_fn (vs := [.ref a, x]) (us := [.ref a, v]) F hr hb .nil hx I (.cons rfl (.cons rx .nil)) h) (fun r s1 q => ?_) fun _ _ z => z)
  obtain ⟨z, H1, I1, rz, b, rfl, q⟩ := q
  cases rz
  exact wpAny_truthy_bool ⟨.bl (!b), H1, I1, rfl, q⟩
end
/-! ### dict comprehensions that only make things -/
/-- what a dict's comprehension over J asks -/
def DcG (J : It) (g : TG) (tt : TT) (tk tv : TE) (vs : List Nat) (σ : L2.St) (H : Hp) (D : Addr) (Qd : Hp → Prop) : Prop :=
  ∃ W : Nat → Nat → Hp → Prop, (∃ m, W 0 m (upd H D (.dK []))) ∧ ∀ i m Hx, W i m Hx →
    (J.stop i Hx ∧ Qd Hx) ∨ (J.go i Hx ∧ ∃ Nx : Hp → Prop, (∀ H', Nx H' → ∃ m', m' < m ∧ W (i + 1) m' H') ∧ ∀ x H', J.yld i Hx x H' → g x (wipe σ vs) H' fun σ2 H2 => wipe σ2 vs = wipe σ vs ∧ tt σ2 H2 fun b H3 =>
      if b = true then tk σ2 H3 fun y H4 => tv σ2 H4 fun z H5 => ∃ kvs k, y = kV k ∧ H5 D = some (.dK kvs) ∧ kvs.length < sizeLine ∧ Nx (upd H5 D (.dK (putK kvs k z))) else Nx H3)
theorem dc_it {J : It} {n : Nat} {Gd : Hp → Prop} {Y : Nat → Hp → V → Hp → Prop} (w : Walk J n Gd Y) {g : TG} {tt : TT} {tk tv : TE} {vs : List Nat} {σ : L2.St} {H : Hp} {D : Addr} {Qd : Hp → Prop} (Pv : Nat → Hp → Prop) (h0 : Pv 0 (upd H D (.dK [])))
    (hG : ∀ i Hx, i ≤ n → Pv i Hx → Gd Hx)
    (hs : ∀ i x Ha Hb, i < n → Pv i Ha → Y i Ha x Hb → g x (wipe σ vs) Hb fun σ2 H2 => wipe σ2 vs = wipe σ vs ∧ tt σ2 H2 fun b H3 =>
      if b = true then tk σ2 H3 fun y H4 => tv σ2 H4 fun z H5 => ∃ kvs k, y = kV k ∧ H5 D = some (.dK kvs) ∧ kvs.length < sizeLine ∧ Pv (i + 1) (upd H5 D (.dK (putK kvs k z))) else Pv (i + 1) H3)
    (hd : ∀ Hx, Pv n Hx → Qd Hx) : DcG J g tt tk tv vs σ H D Qd := by
  refine ⟨fun i m Hx => m + i = n ∧ Pv i Hx, ⟨n, rfl, h0⟩, ?_⟩
  rintro i m Hx ⟨e, p⟩
  have q := hG i Hx (by omega) p
  rcases Nat.lt_or_ge i n with lt | ge
  · exact .inr ⟨w.goes i Hx lt q, Pv (i + 1), fun H' p' => ⟨m - 1, by omega, by omega, p'⟩, fun x H' y => hs i x Hx H' lt p (w.yields i Hx x H' lt q y)⟩
  · have ei : i = n := by omega
    subst ei
    exact .inl ⟨w.stops Hx q, hd Hx p⟩
/-- keys and values are told of each turn's item; nothing that was known changes -/
theorem dc_pure {J : It} {n : Nat} {Gd : Hp → Prop} {Y : Nat → Hp → V → Hp → Prop} (w : Walk J n Gd Y) {tk tv : TE} {σ : L2.St} {j : Nat} {H : Hp} {D : Addr} {Qd : Hp → Prop} (fk : Nat → Key) (fv : Nat → V) (hn : n ≤ 100000)
    (hG : ∀ H', Ex H H' → Gd H') (It : Nat → V → Prop) (hY : ∀ i Ha x Hb, i < n → Ex H Ha → Y i Ha x Hb → Hb = Ha ∧ It i x)
    (hk : ∀ i x, i < n → It i x → Ev tk ((wipe σ [j]).set j (some x)) H (kV (fk i))) (hv : ∀ i x, i < n → It i x → Ev tv ((wipe σ [j]).set j (some x)) H (fv i))
    (nd : ∀ i k, i < n → k < n → fk i = fk k → i = k)
    (new : H D = none) (hd : ∀ H', Ex H H' → H' D = some (.dK ((List.range n).map fun i => (fk i, fv i))) → Qd H') : DcG J (gName j) tYes tk tv [j] σ H D Qd := by
  refine dc_it w (fun i Hc => Ex H Hc ∧ Hc D = some (.dK ((List.range i).map fun i => (fk i, fv i)))) ⟨Ex.new new, upd_same⟩ (fun i Hc _ p => hG Hc p.1) (fun i x Ha Hb hi p y => ?_) (fun Hc p => hd Hc p.1 p.2)
  obtain ⟨e, ix⟩ := hY i Ha x Hb hi p.1 y
  rw [e]
  refine ⟨wipe_set σ j x, ?_⟩
  show tk ((wipe σ [j]).set j (some x)) Ha _
  refine hk i x hi ix Ha p.1 _ fun H2 e2 => hv i x hi ix H2 (p.1.trans e2) _ fun H3 e3 => ?_
  have at3 := e3 _ _ (e2 _ _ p.2)
  refine ⟨_, fk i, rfl, at3, ?_, (p.1.trans (e2.trans e3)).mut new, ?_⟩
  · simp only [List.length_map, List.length_range]
    exact Nat.lt_of_lt_of_le (Nat.lt_of_lt_of_le hi hn) (by decide)
  · rw [upd_same, List.range_succ, List.map_append]
    unfold putK
    rw [if_neg]
    · rfl
    · intro c
      obtain ⟨q, hq, eq⟩ := List.any_eq_true.mp c
      obtain ⟨k, hk', rfl⟩ := List.mem_map.mp hq
      have lt := List.mem_range.mp hk'
      have := nd k i (by omega) hi (of_decide_eq_true eq)
      omega
end G

set_option Elab.async false
set_option linter.all false
set_option maxRecDepth 100000
set_option maxHeartbeats 4000000
/-! name = {k: v for ..} on one line, the name a local. -/
namespace G
open PySem PySem.Spec PyProof.Rows L2 Evl
section
variable {X : Cx}
theorem ps_setDc {i : Nat} {y : Str} {py pos spos : Pos} {kx vx tg iter : Expr} {ifs : List Expr} {scope : Scope} {own : List (Str × Nat)} {wi : TI} {g : TG} {tt : TT} {tk tv : TE} (hc : X.calm = true) (nd : X.N.Nodup) (hy : X.N[i]? = some y) (hl : X.env.scope.names.lookup y = some .local)
    (sw : swapsWith (.DictComp kx vx [⟨tg, iter, ifs, 0⟩] scope pos) (some (.Name y py)) spos.line X.env = pure true) (hi : PI X tg iter wi) (ok : BlkOk X.N X.env.scope scope own)
    (hg : ∀ (s : Shared) (H : Hp) (C : Addr) (cl : List (Str × Addr)) (fp : List Addr), PG (X.blk s H scope (compEnvC scope cl C X.env) fp) tg g)
    (ht : ∀ (s : Shared) (H : Hp) (C : Addr) (cl : List (Str × Addr)) (fp : List Addr), PTs (X.blk s H scope (compEnvC scope cl C X.env) fp) ifs tt)
    (hk : ∀ (s : Shared) (H : Hp) (C : Addr) (cl : List (Str × Addr)) (fp : List Addr), PE (X.blk s H scope (compEnvC scope cl C X.env) fp) kx tk)
    (hv : ∀ (s : Shared) (H : Hp) (C : Addr) (cl : List (Str × Addr)) (fp : List Addr), PE (X.blk s H scope (compEnvC scope cl C X.env) fp) vx tv) (hf : ∀ x, foldedSetIterable iter X.env x = pure x := by intro _; rfl) :
    PS X (.Assign [.Name y py] (.DictComp kx vx [⟨tg, iter, ifs, 0⟩] scope pos) spos) (tAsg (tDc wi g tt tk tv (own.map (·.2))) (gName i)) := by
  refine ⟨fun pins s σ H D I h => ?_⟩
  rw [exec_Assign_Name_used _ _ _ _ sw]
  refine wpAny_bind (wpAny_standAt (wpAny_bind ?_))
  show wpAny _ X.A (do let _ ← comprehension (.DictComp kx vx [⟨tg, iter, ifs, 0⟩] scope pos) scope X.env (firstIterPos [⟨tg, iter, ifs, 0⟩] pos) newDict false (eval iter X.env) (some (assign (.Name y py) X.env))) _ _ s
  have h1 : tDc wi g tt tk tv (own.map (·.2)) σ H (fun x H1 => gName i x σ H1 D.nx) := h
  refine wpAny_bind (thn (dc_core (Qf := fun _ s1 => SP X pins D .next s1) hc nd I hi ok hg ht hk hv hf h1 fun L C s1 m H1 I1 q ns fp => ?_) fun _ s1 q => wpAny_pure (wpAny_pure q))
  show wpAny _ _ (assign (.Name y py) X.env (.ref L)) _ _ _
  refine wpAny_assign_Name (store_ok2 (v := V.ref L) I1 nd hy (.inl hl) rfl (fun s2 I2 ⟨a, same, ha⟩ => ?_) (.inr hl))
  obtain ⟨p0, p1, p2, p3, p4, p5⟩ := fp
  have ne : C ≠ a := fun e => ha.elim (fun z => p1 (e.trans z)) fun z => p4 y a z e.symm
  exact ⟨m, ns.sameBut same ne, fun h3 same3 => ⟨_, H1, I2.turned (t' := s2.toks) (fun b o hb e => (same3.2 b hb).trans e) p0 p1 p3 p4 p5, q⟩⟩
theorem sw_dict {kx vx : Expr} {gs : List Comprehension} {scope : Scope} {pos py : Pos} {y : Str} {l : Nat} {env : Env} (hk : env.scope.kind = .function) (hy : env.scope.names.lookup y = some .local) (hl : (py.line == pos.line) = true)
    (ha : (scope.names.any fun (n, k) => n == y && (k == .local || k == .cell)) = false) : swapsWith (.DictComp kx vx gs scope pos) (some (.Name y py)) l env = pure true := by
  have e1 : env.kindOf y = some .local := hy
  have e2 : env.blockKind = .function := by
    unfold Env.blockKind
    rw [hk]
    rfl
  unfold swapsWith
  simp only [e1, e2, ha, Expr.pos, hl]
  rfl
end
end G

set_option Elab.async false
set_option linter.all false
set_option maxRecDepth 100000
set_option maxHeartbeats 4000000
/-! Comprehensions over a list whose items are told by as and em. -/
namespace G
open PySem PySem.Spec PyProof.Rows L2 Evl
section
variable {α : Type} {J : It} {as : List α} {em : α → V} {Gd : Hp → Prop} {te tk tv : TE} {σ : L2.St} {j : Nat} {H : Hp} {D : Addr} {Qd : Hp → Prop}
theorem nth_map {i : Nat} {x : V} (e : (as.map em)[i]? = some x) : ∃ a, as[i]? = some a ∧ x = em a := by
  rw [List.getElem?_map] at e
  cases q : as[i]? with
  | none => rw [q] at e; cases e
  | some a =>
    rw [q] at e
    exact ⟨a, rfl, (Option.some.inj e).symm⟩
theorem lc_each (W : Walk J (as.map em).length Gd (YAt (as.map em))) (f : α → V) (hn : as.length ≤ 100000) (hG : ∀ H', Ex H H' → Gd H') (he : ∀ a ∈ as, Ev te ((wipe σ [j]).set j (some (em a))) H (f a))
    (new : H D = none) (hd : ∀ H', Ex H H' → H' D = some (.lst (as.map f)) → Qd H') : LcG J j te σ H D Qd := by
  refine lc_pure W (fun i => (as[i]?.map f).getD .non) (by rw [List.length_map]; exact hn) hG (fun i x => (as.map em)[i]? = some x) (fun i Ha x Hb _ _ y => ⟨y.1, y.2⟩) (fun i x hi e => ?_) new (fun H' e q => hd H' e ?_)
  · obtain ⟨a, ha, rfl⟩ := nth_map e
    rw [ha]
    exact he a (List.mem_of_getElem? ha)
  · rw [q, List.length_map]
    congr 2
    exact range_map as _ f fun i x e => by rw [e]; rfl
/-- a dict of it -/
theorem dc_each (W : Walk J (as.map em).length Gd (YAt (as.map em))) (fk : α → Key) (fv : α → V) (hn : as.length ≤ 100000) (hG : ∀ H', Ex H H' → Gd H') (hk : ∀ a ∈ as, Ev tk ((wipe σ [j]).set j (some (em a))) H (kV (fk a)))
    (hv : ∀ a ∈ as, Ev tv ((wipe σ [j]).set j (some (em a))) H (fv a)) (nd : (as.map fk).Nodup) (new : H D = none) (hd : ∀ H', Ex H H' → H' D = some (.dK (as.map fun a => (fk a, fv a))) → Qd H') : DcG J (gName j) tYes tk tv [j] σ H D Qd := by
  have at_ : ∀ (i : Nat) (a : α), as[i]? = some a → (as[i]?.map fk).getD (Sum.inl 0) = fk a := fun i a e => by rw [e]; rfl
  refine dc_pure W (fun i => (as[i]?.map fk).getD (Sum.inl 0)) (fun i => (as[i]?.map fv).getD .non) (by rw [List.length_map]; exact hn) hG (fun i x => (as.map em)[i]? = some x) (fun i Ha x Hb _ _ y => ⟨y.1, y.2⟩) (fun i x hi e => ?_) (fun i x hi e => ?_)
    (fun i k hi hk' e => ?_) new (fun H' e q => hd H' e ?_)
  · obtain ⟨a, ha, rfl⟩ := nth_map e
    rw [ha]
    exact hk a (List.mem_of_getElem? ha)
  · obtain ⟨a, ha, rfl⟩ := nth_map e
    rw [ha]
    exact hv a (List.mem_of_getElem? ha)
  · rw [List.length_map] at hi hk'
    rw [at_ i as[i] (by simp [hi]), at_ k as[k] (by simp [hk'])] at e
    have h1 : (as.map fk)[i]? = (as.map fk)[k]? := by
      rw [List.getElem?_map, List.getElem?_map, List.getElem?_eq_getElem hi, List.getElem?_eq_getElem hk']
      show some (fk as[i]) = some (fk as[k])
      rw [e]
    exact (List.getElem?_inj (by rw [List.length_map]; exact hi) nd).mp h1
  · rw [q, List.length_map]
    congr 2
    exact range_map as _ (fun a => (fk a, fv a)) fun i x e => by rw [e]; rfl
end
/-- under a dict's lock nothing else changes -/
theorem ex_unlock {H H' : Hp} {d : Addr} {u : HO} {o : Obj} (h : H d = some u) (e : Ex (upd H d (.frz o u)) H') : Ex H (upd H' d u) := fun b q hb => by
  by_cases z : b = d
  · subst z
    rw [h] at hb
    rw [upd_same, ← hb]
  · rw [upd_ne z]
    exact e b q (by rw [upd_ne z]; exact hb)
end G

set_option Elab.async false
set_option linter.all false
set_option maxRecDepth 100000
set_option maxHeartbeats 4000000
/-! sorted of tuples that begin with unlike names: the names rise; two such lists of the same are one. -/
namespace G
open PySem PySem.Spec PyProof.Rows L2 Evl
/-- in the sequence of the names -/
def NameLt (x y : Str) : Prop := x.cps.toList < y.cps.toList
def Rising {α : Type} (nm : α → Str) (l : List α) : Prop := l.Pairwise fun a b => NameLt (nm a) (nm b)
theorem NameLt.asymm {x y : Str} (h : NameLt x y) (g : NameLt y x) : False := List.lt_asymm h g
theorem NameLt.irrefl {x : Str} (h : NameLt x x) : False := h.asymm h
theorem NameLt.of_ne {x y : Str} (h : ¬ NameLt y x) (ne : x ≠ y) : NameLt x y := by
  unfold NameLt at *
  refine Decidable.byContradiction fun q => ne (PySem.W.str_of_cps ?_)
  exact List.le_antisymm (List.not_lt.mp h) (List.not_lt.mp q)
theorem rising_eq {α : Type} {nm : α → Str} : ∀ {l m : List α}, Rising nm l → Rising nm m → l.Perm m → l = m
  | [], m, _, _, p => (List.nil_perm.mp p).symm
  | a :: l, [], _, _, p => absurd (List.perm_nil.mp p) (by simp)
  | a :: l, b :: m, hl, hm, p => by
    obtain ⟨a1, a2⟩ := List.pairwise_cons.mp hl
    obtain ⟨b1, b2⟩ := List.pairwise_cons.mp hm
    have e : a = b := by
      rcases List.mem_cons.mp (p.mem_iff.mp List.mem_cons_self) with z | z
      · exact z
      · rcases List.mem_cons.mp (p.mem_iff.mpr (List.mem_cons_self (a := b) (l := m))) with y | y
        · exact y.symm
        · exact ((b1 a z).asymm (a1 b y)).elim
    subst e
    rw [rising_eq a2 b2 (List.Perm.cons_inv p)]
theorem rising_nodup {α : Type} {nm : α → Str} {l : List α} (h : Rising nm l) : (l.map nm).Nodup := by
  unfold List.Nodup
  rw [List.pairwise_map]
  exact h.imp fun q e => by rw [e] at q; exact q.irrefl
section
variable {α : Type} {nm : α → Str} {f : α → PyData} {rest : α → List PyData}
theorem less_name (hf : ∀ a, f a = .tuple (.str (nm a) :: rest a)) {a b : α} (ne : nm a ≠ nm b) (h : (!PySem.W.dataLt (f b) (f a)) = true) : NameLt (nm a) (nm b) := by
  rw [hf, hf, PySem.W.dataLt_tuple, PySem.W.dataLt_cons (by rfl)] at h
  have e : PyData.eqv (.str (nm b)) (.str (nm a)) = false := by
    show decide (nm b = nm a) = false
    exact decide_eq_false (Ne.symm ne)
  rw [e, if_neg (by decide), PySem.W.dataLt_str] at h
  refine NameLt.of_ne (fun q => ?_) ne
  have q : (nm b).cps.toList < (nm a).cps.toList := q
  rw [decide_eq_true q] at h
  cases h
/-- the items and what they tell, in the sequence of the names -/
theorem srt_names (hf : ∀ a, f a = .tuple (.str (nm a) :: rest a)) {xs : List V} {as : List α} (len : xs.length = as.length) (nd : (as.map nm).Nodup) :
    ∃ sn : List α, sn.Perm as ∧ Rising nm sn ∧ (srt xs (as.map f)).map Prod.snd = sn.map f := by
  have tl := PySem.W.sortLe_total (α := V × α) (PyProof.Rows.listOrd PyProof.Rows.itemOrd) false fun p => PySem.W.keyToks (f p.2)
  have ez : xs.zip (as.map f) = (xs.zip as).map fun p => (p.1, f p.2) := by
    rw [List.zip_map_right]
    rfl
  have em : srt xs (as.map f) = ((xs.zip as).mergeSort (PySem.W.dataLe false fun p => f p.2)).map fun p => (p.1, f p.2) := by
    unfold srt
    rw [ez]
    exact (List.map_mergeSort (r := PySem.W.dataLe false fun p : V × α => f p.2) (s := PySem.W.dataLe false Prod.snd) (f := fun p : V × α => (p.1, f p.2)) (fun a _ b _ => rfl)).symm
  have pm : ((xs.zip as).mergeSort (PySem.W.dataLe false fun p => f p.2)).Perm (xs.zip as) := List.mergeSort_perm _ _
  have pw : ((xs.zip as).mergeSort (PySem.W.dataLe false fun p => f p.2)).Pairwise fun p q => PySem.W.dataLe false (fun p : V × α => f p.2) p q = true :=
    List.pairwise_mergeSort (fun a b c => tl.trans a b c) (fun a b => by rcases tl.total a b with z | z <;> simp [PySem.W.dataLe, z]) _
  have snd : (xs.zip as).map Prod.snd = as := List.map_snd_zip (Nat.le_of_eq len.symm)
  have pa : (((xs.zip as).mergeSort (PySem.W.dataLe false fun p => f p.2)).map Prod.snd).Perm as := by
    have q := pm.map Prod.snd
    rwa [snd] at q
  refine ⟨((xs.zip as).mergeSort (PySem.W.dataLe false fun p => f p.2)).map Prod.snd, pa, ?_, ?_⟩
  · have nd2 : ((((xs.zip as).mergeSort (PySem.W.dataLe false fun p => f p.2)).map Prod.snd).map nm).Nodup := (pa.map nm).nodup_iff.mpr nd
    unfold Rising
    rw [List.pairwise_map]
    unfold List.Nodup at nd2
    rw [List.pairwise_map, List.pairwise_map] at nd2
    exact pw.imp₂ (fun p q h ne => less_name hf ne h) nd2
  · rw [em, List.map_map, List.map_map]
    rfl
end
end G

set_option Elab.async false
set_option linter.all false
set_option maxRecDepth 100000
set_option maxHeartbeats 4000000
/-! zip of two walked things of unlike sorts (a list and a tuple): what its next does. -/
namespace G
open PySem PySem.Spec PyProof.Rows L2 Evl
/-- one side of a zip: the iterator at i over what stands at l -/
structure Side (prog : Program) (w : World) (i l : Addr) (xs : Array Value) where
  St : Nat → Heap → Prop
  near : ∀ {k : Nat} {h h' : Heap}, St k h → (∀ o, h.get? i = some o → h'.get? i = some o) → (∀ o, h.get? l = some o → h'.get? l = some o) → St k h'
  here : ∀ {k : Nat} {h : Heap}, St k h → ∃ o, h.get? i = some o ∧ ∀ v, o.data ≠ .cell v
  item : ∀ {A : Around} {E : Value → Shared → Prop} {s : Shared} {k : Nat} {x : Value} {Q : Value → Shared → Prop}, St k s.heap → xs[k]? = some x → (∀ h', St (k + 1) h' → Heap.SameBut i s.heap h' → Q x { s with heap := h' }) →
    wpAny (model prog w) A (Builtin.SmallTypes.nextOf (.ref i)) Q E s
  done : ∀ {A : Around} {E : Value → Shared → Prop} {s : Shared} {k : Nat} {Q : Value → Shared → Prop}, A.handled = none → St k s.heap → xs[k]? = none →
    (∀ h' e, Heap.ExtBut i s.heap h' → (∃ o, h'.get? e = some o ∧ o.cls = .type "StopIteration") → E (.ref e) { s with heap := h' }) → wpAny (model prog w) A (Builtin.SmallTypes.nextOf (.ref i)) Q E s
section
variable {prog : Program} {w : World} {i l : Addr} {xs : Array Value}
theorem list_near {h h' : Heap} (q : h.IsList l xs) (k : ∀ o, h.get? l = some o → h'.get? l = some o) : h'.IsList l xs := by
  obtain ⟨o, e, r⟩ := q
  exact ⟨o, k o e, r⟩
theorem tuple_near {h h' : Heap} (q : h.IsTuple l xs) (k : ∀ o, h.get? l = some o → h'.get? l = some o) : h'.IsTuple l xs := by
  obtain ⟨o, e, r⟩ := q
  exact ⟨o, k o e, r⟩
def sideL (ne : l ≠ i) : Side prog w i l xs where
  St k h := h.IsListIter i l k ∧ h.IsList l xs
  near q a b := ⟨q.1.at fun o e => a o e, list_near q.2 b⟩
  here q := by
    obtain ⟨⟨o, e, _, d⟩, _⟩ := q
    exact ⟨o, e, fun v z => by rw [d] at z; cases z⟩
  item q hx k := wpAny_nextOf_list_item q.1 q.2 hx fun h' a b => k h' ⟨a, list_near q.2 fun o e => b.extBut _ _ ne e⟩ b
  done hh q hx k := wpAny_nextOf_list_end hh q.1 q.2 hx k
def sideT (ne : l ≠ i) : Side prog w i l xs where
  St k h := h.IsTupleIter i l k ∧ h.IsTuple l xs
  near q a b := ⟨q.1.at fun o e => a o e, tuple_near q.2 b⟩
  here q := by
    obtain ⟨⟨o, e, _, d⟩, _⟩ := q
    exact ⟨o, e, fun v z => by rw [d] at z; cases z⟩
  item q hx k := RZ.nextOf_tuple_item q.1 q.2 hx fun h' a b => k h' ⟨a, tuple_near q.2 fun o e => b.extBut _ _ ne e⟩ b
  done hh q hx k := RZ.nextOf_tuple_end hh q.1 q.2 hx k
end
section
variable {prog : Program} {w : World} {A : Around} {E : Value → Shared → Prop} {s : Shared} {z TI TO i1 i2 l1 l2 : Addr} {k1 k2 : Nat} {xs ys : Array Value} {x y a b : Value}
/-- the pair is free: it is given out anew -/
theorem zip_item (D : ZipApart z TI TO i1 i2 l1 l2) (S1 : Side prog w i1 l1 xs) (S2 : Side prog w i2 l2 ys) {Q : Value → Shared → Prop} (hz : IsZip s.heap z TI TO .none) (hI : IsPair s.heap TI (.ref i1) (.ref i2)) (hO : IsPair s.heap TO a b)
    (q1 : S1.St k1 s.heap) (q2 : S2.St k2 s.heap) (hx : xs[k1]? = some x) (hy : ys[k2]? = some y)
    (k : ∀ h', IsZip h' z TI TO (rawInt s.heap.objs.size) → IsPair h' TO x y → S1.St (k1 + 1) h' → S2.St (k2 + 1) h' → IsPair h' s.heap.objs.size x y → h'.objs.size = s.heap.objs.size + 1 →
      (∀ c o, c ≠ z → c ≠ TO → c ≠ i1 → c ≠ i2 → s.heap.get? c = some o → h'.get? c = some o) → Q (.ref s.heap.objs.size) { s with heap := h' }) :
    wpAny (model prog w) A (Builtin.«zip.__next__» ⟨[.ref z], []⟩) (fun fin s1 => ∃ v, fin = .done (.ret v) ∧ Q v s1) E s := by
  show wpAny _ _ (field (.ref z) 2 >>= _) _ _ _
  refine wpAny_bind (wpAny_field hz rfl (x := .bool false) rfl ?_)
  show wpAny _ _ (field (.ref z) 3 >>= _) _ _ _
  refine wpAny_bind (wpAny_field hz rfl (x := .ref TI) rfl (wpAny_bind (wpAny_seqItems hI rfl ?_)))
  show wpAny _ _ (Builtin.SmallTypes.ownedTupleIsFree (.ref z) >>= _) _ _ _
  refine wpAny_bind ?_
  unfold Builtin.SmallTypes.ownedTupleIsFree
  refine wpAny_bind (wpAny_field hz rfl (x := .none) rfl (wpAny_pure ?_))
  simp only [if_true]
  refine wpAny_bind (wpAny_rule (wpAny_bind (wpAny_field hz rfl (x := .ref TO) rfl (wpAny_bind (wpAny_setField_rec hz (by simp) fun ha za ca => ?_)))))
  have za : IsZip ha z TI TO .ellipsis := za
  have p1 := S1.near q1 (fun o e => ca.extBut _ o D.i1z e) (fun o e => ca.extBut _ o D.l1z e)
  have p2 := S2.near q2 (fun o e => ca.extBut _ o D.i2z e) (fun o e => ca.extBut _ o D.l2z e)
  refine wpAny_bind ?_
  simp only [List.zipIdx_cons, List.zipIdx_nil, List.forIn_cons, List.forIn_nil]
  refine wpAny_bind (wpAny_bind (wpAny_onRaise ?_))
  show wpAny _ _ (Builtin.SmallTypes.nextOf (.ref i1) >>= _) _ _ _
  refine wpAny_bind (S1.item (s := { s with heap := ha }) p1 hx fun hb r1 cb => wpAny_pure ?_)
  have p2 := S2.near p2 (fun o e => cb.extBut _ o D.i12.symm e) (fun o e => cb.extBut _ o D.l2i1 e)
  have oB : IsPair hb TO a b := cb.extBut _ _ D.TOi1 (ca.extBut _ _ D.TOz hO)
  refine wpAny_bind (wpAny_seqItems oB rfl (wpAny_bind (wpAny_updateSeq_pair oB fun hc oC cc => ?_)))
  have oC : IsPair hc TO x b := oC
  have r1 := S1.near r1 (fun o e => cc.extBut _ o D.TOi1.symm e) (fun o e => cc.extBut _ o D.l1TO e)
  have p2 := S2.near p2 (fun o e => cc.extBut _ o D.TOi2.symm e) (fun o e => cc.extBut _ o D.l2TO e)
  refine wpAny_bind (wpAny_letGo (wpAny_pure ?_))
  refine wpAny_bind (wpAny_bind (wpAny_onRaise ?_))
  show wpAny _ _ (Builtin.SmallTypes.nextOf (.ref i2) >>= _) _ _ _
  refine wpAny_bind (S2.item (s := { s with heap := hc }) p2 hy fun hd r2 cd => wpAny_pure ?_)
  have r1 := S1.near r1 (fun o e => cd.extBut _ o D.i12 e) (fun o e => cd.extBut _ o D.l1i2 e)
  have oD : IsPair hd TO x b := cd.extBut _ _ D.TOi2 oC
  refine wpAny_bind (wpAny_seqItems oD rfl (wpAny_bind (wpAny_updateSeq_pair oD fun he oE ce => ?_)))
  have oE : IsPair he TO x y := oE
  have r1 := S1.near r1 (fun o e => ce.extBut _ o D.TOi1.symm e) (fun o e => ce.extBut _ o D.l1TO e)
  have r2 := S2.near r2 (fun o e => ce.extBut _ o D.TOi2.symm e) (fun o e => ce.extBut _ o D.l2TO e)
  refine wpAny_bind (wpAny_letGo (wpAny_pure (wpAny_pure (wpAny_bind (wpAny_seqItems oE rfl (wpAny_bind (wpAny_newTuple ?_)))))))
  have size : he.objs.size = s.heap.objs.size := by rw [ce.1, cd.1, cc.1, cb.1, ca.1]
  have zE : IsZip he z TI TO .ellipsis := ce.extBut _ _ D.TOz.symm (cd.extBut _ _ D.i2z.symm (cc.extBut _ _ D.TOz.symm (cb.extBut _ _ D.i1z.symm za)))
  have oth : ∀ c o, c ≠ z → c ≠ TO → c ≠ i1 → c ≠ i2 → s.heap.get? c = some o → he.get? c = some o := fun c o n1 n2 n3 n4 e =>
    ce.extBut _ _ n2 (cd.extBut _ _ n4 (cc.extBut _ _ n2 (cb.extBut _ _ n3 (ca.extBut _ _ n1 e))))
  have zlt : z < he.objs.size := Heap.lt_size zE
  show wpAny _ _ (Builtin.SmallTypes.ownedTupleHandOut (.ref z) (.ref he.objs.size) >>= _) _ _ _
  refine wpAny_bind ?_
  unfold Builtin.SmallTypes.ownedTupleHandOut
  have zF : IsZip (he.push { cls := .type "tuple", data := .seq #[x, y] }) z TI TO .ellipsis := Heap.get?_push_of_some _ zE
  refine wpAny_bind (wpAny_setField_rec zF (by simp) fun hf zf cf => ?_)
  have zf : IsZip hf z TI TO (rawInt he.objs.size) := zf
  refine wpAny_setField_rec zf (by simp) fun hg zg cg => ?_
  have zg : IsZip hg z TI TO (rawInt he.objs.size) := zg
  have up : ∀ c o, c ≠ z → he.get? c = some o → hg.get? c = some o := fun c o n e => cg.extBut _ _ n (cf.extBut _ _ n (Heap.get?_push_of_some _ e))
  have new : IsPair hg he.objs.size x y := cg.extBut _ _ (Nat.ne_of_gt zlt) (cf.extBut _ _ (Nat.ne_of_gt zlt) (Heap.get?_push_size _ rfl))
  have size2 : hg.objs.size = he.objs.size + 1 := by rw [cg.1, cf.1, Heap.size_push]
  rw [size] at zg new size2
  refine wpAny_pure ⟨_, rfl, ?_⟩
  show Q (.ref he.objs.size) _
  rw [size]
  exact k hg zg (up _ _ D.TOz oE) (S1.near r1 (fun o e => up _ o D.i1z e) (fun o e => up _ o D.l1z e)) (S2.near r2 (fun o e => up _ o D.i2z e) (fun o e => up _ o D.l2z e)) new size2 fun c o n1 n2 n3 n4 e => up c o n1 (oth c o n1 n2 n3 n4 e)
/-- its end -/
theorem zip_end (hh : A.handled = none) (D : ZipApart z TI TO i1 i2 l1 l2) (S1 : Side prog w i1 l1 xs) (S2 : Side prog w i2 l2 ys) {Q : Fin → Shared → Prop} (hz : IsZip s.heap z TI TO .none) (hI : IsPair s.heap TI (.ref i1) (.ref i2)) (hO : IsPair s.heap TO a b)
    (q1 : S1.St k1 s.heap) (q2 : S2.St k2 s.heap) (hend : xs[k1]? = none ∨ ys[k2]? = none)
    (k : ∀ h' e, (∀ c o, c ≠ z → c ≠ TO → c ≠ i1 → c ≠ i2 → s.heap.get? c = some o → h'.get? c = some o) → (∃ o, h'.get? e = some o ∧ o.cls = .type "StopIteration") → E (.ref e) { s with heap := h' }) :
    wpAny (model prog w) A (Builtin.«zip.__next__» ⟨[.ref z], []⟩) Q E s := by
  show wpAny _ _ (field (.ref z) 2 >>= _) _ _ _
  refine wpAny_bind (wpAny_field hz rfl (x := .bool false) rfl ?_)
  show wpAny _ _ (field (.ref z) 3 >>= _) _ _ _
  refine wpAny_bind (wpAny_field hz rfl (x := .ref TI) rfl (wpAny_bind (wpAny_seqItems hI rfl ?_)))
  show wpAny _ _ (Builtin.SmallTypes.ownedTupleIsFree (.ref z) >>= _) _ _ _
  refine wpAny_bind ?_
  unfold Builtin.SmallTypes.ownedTupleIsFree
  refine wpAny_bind (wpAny_field hz rfl (x := .none) rfl (wpAny_pure ?_))
  simp only [if_true]
  refine wpAny_bind (wpAny_rule (wpAny_bind (wpAny_field hz rfl (x := .ref TO) rfl (wpAny_bind (wpAny_setField_rec hz (by simp) fun ha za ca => ?_)))))
  have za : IsZip ha z TI TO .ellipsis := za
  have p1 := S1.near q1 (fun o e => ca.extBut _ o D.i1z e) (fun o e => ca.extBut _ o D.l1z e)
  have p2 := S2.near q2 (fun o e => ca.extBut _ o D.i2z e) (fun o e => ca.extBut _ o D.l2z e)
  refine wpAny_bind ?_
  simp only [List.zipIdx_cons, List.zipIdx_nil, List.forIn_cons, List.forIn_nil]
  refine wpAny_bind (wpAny_bind (wpAny_onRaise ?_))
  show wpAny _ _ (Builtin.SmallTypes.nextOf (.ref i1) >>= _) _ _ _
  cases hx : xs[k1]? with
  | none =>
    refine wpAny_bind (S1.done (s := { s with heap := ha }) hh p1 hx fun hb e cb st => ?_)
    obtain ⟨oe, he, hc⟩ := st
    have zb : IsZip hb z TI TO .ellipsis := cb _ _ D.i1z.symm za
    have ez : e ≠ z := fun q => by
      rw [q, zb] at he
      cases he
      simp at hc
    exact wpAny_setField_rec zb (by simp) fun hd _ cd => k hd e (fun c o n1 _ n3 _ q => cd.extBut _ _ n1 (cb _ _ n3 (ca.extBut _ _ n1 q))) ⟨oe, cd.extBut _ _ ez he, hc⟩
  | some x =>
    have hy : ys[k2]? = none := hend.resolve_left (by rw [hx]; exact fun q => by cases q)
    refine wpAny_bind (S1.item (s := { s with heap := ha }) p1 hx fun hb r1 cb => wpAny_pure ?_)
    have p2 := S2.near p2 (fun o e => cb.extBut _ o D.i12.symm e) (fun o e => cb.extBut _ o D.l2i1 e)
    have oB : IsPair hb TO a b := cb.extBut _ _ D.TOi1 (ca.extBut _ _ D.TOz hO)
    refine wpAny_bind (wpAny_seqItems oB rfl (wpAny_bind (wpAny_updateSeq_pair oB fun hc oC cc => ?_)))
    have p2 := S2.near p2 (fun o e => cc.extBut _ o D.TOi2.symm e) (fun o e => cc.extBut _ o D.l2TO e)
    refine wpAny_bind (wpAny_letGo (wpAny_pure ?_))
    refine wpAny_bind (wpAny_bind (wpAny_onRaise ?_))
    show wpAny _ _ (Builtin.SmallTypes.nextOf (.ref i2) >>= _) _ _ _
    refine wpAny_bind (S2.done (s := { s with heap := hc }) hh p2 hy fun hd e cd st => ?_)
    obtain ⟨oe, he, hcl⟩ := st
    have zd : IsZip hd z TI TO .ellipsis := cd _ _ D.i2z.symm (cc.extBut _ _ D.TOz.symm (cb.extBut _ _ D.i1z.symm za))
    have ez : e ≠ z := fun q => by
      rw [q, zd] at he
      cases he
      simp at hcl
    exact wpAny_setField_rec zd (by simp) fun hf _ cf => k hf e (fun c o n1 n2 n3 n4 q => cf.extBut _ _ n1 (cd _ _ n4 (cc.extBut _ _ n2 (cb.extBut _ _ n3 (ca.extBut _ _ n1 q))))) ⟨oe, cf.extBut _ _ ez he, hcl⟩
/-- the pair last given out is held still: a new one -/
theorem zip_itemH (D : ZipApart z TI TO i1 i2 l1 l2) (S1 : Side prog w i1 l1 xs) (S2 : Side prog w i2 l2 ys) {T : Addr} {f : Bool} {oT : Obj} {Q : Value → Shared → Prop} (hz : IsZipHeld s.heap z TI TO T f) (hT : s.heap.get? T = some oT) (hI : IsPair s.heap TI (.ref i1) (.ref i2))
    (q1 : S1.St k1 s.heap) (q2 : S2.St k2 s.heap) (hx : xs[k1]? = some x) (hy : ys[k2]? = some y)
    (k : ∀ h', IsZipHeld h' z TI TO T true → S1.St (k1 + 1) h' → S2.St (k2 + 1) h' → IsPair h' s.heap.objs.size x y → h'.objs.size = s.heap.objs.size + 1 →
      (∀ c o, c ≠ z → c ≠ i1 → c ≠ i2 → s.heap.get? c = some o → h'.get? c = some o) → Q (.ref s.heap.objs.size) { s with heap := h' }) :
    wpAny (model prog w) A (Builtin.«zip.__next__» ⟨[.ref z], []⟩) (fun fin s1 => ∃ v, fin = .done (.ret v) ∧ Q v s1) E s := by
  show wpAny _ _ (field (.ref z) 2 >>= _) _ _ _
  refine wpAny_bind (wpAny_field hz rfl (x := .bool false) rfl ?_)
  show wpAny _ _ (field (.ref z) 3 >>= _) _ _ _
  refine wpAny_bind (wpAny_field hz rfl (x := .ref TI) rfl (wpAny_bind (wpAny_seqItems hI rfl ?_)))
  show wpAny _ _ (Builtin.SmallTypes.ownedTupleIsFree (.ref z) >>= _) _ _ _
  refine wpAny_bind (wpAny_tupleHeld_zip hz hT fun ha za ca => ?_)
  have p1 := S1.near q1 (fun o e => ca.extBut _ o D.i1z e) (fun o e => ca.extBut _ o D.l1z e)
  have p2 := S2.near q2 (fun o e => ca.extBut _ o D.i2z e) (fun o e => ca.extBut _ o D.l2z e)
  simp only [Bool.false_eq_true, if_false]
  refine wpAny_bind ?_
  rw [← Array.forIn_toList]
  simp only [List.forIn_cons, List.forIn_nil]
  refine wpAny_bind (wpAny_bind (wpAny_holding ?_))
  show wpAny _ _ (Builtin.SmallTypes.nextOf (.ref i1) >>= _) _ _ _
  refine wpAny_bind (S1.item (s := { s with heap := ha }) p1 hx fun hb r1 cb => wpAny_pure (wpAny_pure ?_))
  have p2 := S2.near p2 (fun o e => cb.extBut _ o D.i12.symm e) (fun o e => cb.extBut _ o D.l2i1 e)
  refine wpAny_bind (wpAny_bind (wpAny_holding ?_))
  show wpAny _ _ (Builtin.SmallTypes.nextOf (.ref i2) >>= _) _ _ _
  refine wpAny_bind (S2.item (s := { s with heap := hb }) p2 hy fun hc r2 cc => wpAny_pure (wpAny_pure (wpAny_pure ?_)))
  have r1 := S1.near r1 (fun o e => cc.extBut _ o D.i12 e) (fun o e => cc.extBut _ o D.l1i2 e)
  show wpAny _ _ (newTuple [x, y] >>= _) _ _ _
  refine wpAny_bind (wpAny_newTuple ?_)
  have size : hc.objs.size = s.heap.objs.size := by rw [cc.1, cb.1, ca.1]
  have zc : IsZipHeld hc z TI TO T true := cc.extBut _ _ D.i2z.symm (cb.extBut _ _ D.i1z.symm za)
  have oth : ∀ c o, c ≠ z → c ≠ i1 → c ≠ i2 → s.heap.get? c = some o → hc.get? c = some o := fun c o n1 n2 n3 e => cc.extBut _ _ n3 (cb.extBut _ _ n2 (ca.extBut _ _ n1 e))
  refine wpAny_pure ⟨_, rfl, ?_⟩
  show Q (.ref hc.objs.size) _
  have new : IsPair (hc.push { cls := .type "tuple", data := .seq #[x, y] }) hc.objs.size x y := Heap.get?_push_size _ rfl
  have size2 : (hc.push { cls := .type "tuple", data := .seq #[x, y] }).objs.size = hc.objs.size + 1 := Heap.size_push ..
  rw [size] at new size2 ⊢
  exact k _ (Heap.get?_push_of_some _ zc) (S1.near r1 (fun o e => Heap.get?_push_of_some _ e) (fun o e => Heap.get?_push_of_some _ e)) (S2.near r2 (fun o e => Heap.get?_push_of_some _ e) (fun o e => Heap.get?_push_of_some _ e)) new size2 fun c o n1 n2 n3 e => Heap.get?_push_of_some _ (oth c o n1 n2 n3 e)
theorem zip_endH (hh : A.handled = none) (D : ZipApart z TI TO i1 i2 l1 l2) (S1 : Side prog w i1 l1 xs) (S2 : Side prog w i2 l2 ys) {T : Addr} {f : Bool} {oT : Obj} {Q : Fin → Shared → Prop} (hz : IsZipHeld s.heap z TI TO T f) (hT : s.heap.get? T = some oT) (hI : IsPair s.heap TI (.ref i1) (.ref i2))
    (q1 : S1.St k1 s.heap) (q2 : S2.St k2 s.heap) (hend : xs[k1]? = none ∨ ys[k2]? = none)
    (k : ∀ h' e, (∀ c o, c ≠ z → c ≠ i1 → c ≠ i2 → s.heap.get? c = some o → h'.get? c = some o) → (∃ o, h'.get? e = some o ∧ o.cls = .type "StopIteration") → E (.ref e) { s with heap := h' }) :
    wpAny (model prog w) A (Builtin.«zip.__next__» ⟨[.ref z], []⟩) Q E s := by
  show wpAny _ _ (field (.ref z) 2 >>= _) _ _ _
  refine wpAny_bind (wpAny_field hz rfl (x := .bool false) rfl ?_)
  show wpAny _ _ (field (.ref z) 3 >>= _) _ _ _
  refine wpAny_bind (wpAny_field hz rfl (x := .ref TI) rfl (wpAny_bind (wpAny_seqItems hI rfl ?_)))
  show wpAny _ _ (Builtin.SmallTypes.ownedTupleIsFree (.ref z) >>= _) _ _ _
  refine wpAny_bind (wpAny_tupleHeld_zip hz hT fun ha za ca => ?_)
  have p1 := S1.near q1 (fun o e => ca.extBut _ o D.i1z e) (fun o e => ca.extBut _ o D.l1z e)
  have p2 := S2.near q2 (fun o e => ca.extBut _ o D.i2z e) (fun o e => ca.extBut _ o D.l2z e)
  simp only [Bool.false_eq_true, if_false]
  refine wpAny_bind ?_
  rw [← Array.forIn_toList]
  simp only [List.forIn_cons, List.forIn_nil]
  refine wpAny_bind (wpAny_bind (wpAny_holding ?_))
  show wpAny _ _ (Builtin.SmallTypes.nextOf (.ref i1) >>= _) _ _ _
  cases hx : xs[k1]? with
  | none => exact wpAny_bind (S1.done (s := { s with heap := ha }) hh p1 hx fun hb e cb st => k hb e (fun c o n1 n2 _ q => cb _ _ n2 (ca.extBut _ _ n1 q)) st)
  | some x =>
    have hy : ys[k2]? = none := hend.resolve_left (by rw [hx]; exact fun q => by cases q)
    refine wpAny_bind (S1.item (s := { s with heap := ha }) p1 hx fun hb r1 cb => wpAny_pure (wpAny_pure ?_))
    have p2 := S2.near p2 (fun o e => cb.extBut _ o D.i12.symm e) (fun o e => cb.extBut _ o D.l2i1 e)
    refine wpAny_bind (wpAny_bind (wpAny_holding ?_))
    show wpAny _ _ (Builtin.SmallTypes.nextOf (.ref i2) >>= _) _ _ _
    exact wpAny_bind (S2.done (s := { s with heap := hb }) hh p2 hy fun hc e cc st => k hc e (fun c o n1 n2 n3 q => cc _ _ n3 (cb.extBut _ _ n2 (ca.extBut _ _ n1 q))) st)
end
end G

set_option Elab.async false
set_option linter.all false
set_option maxRecDepth 100000
set_option maxHeartbeats 4000000
/-! list(zip(a list, a tuple)). -/
namespace G
open PySem PySem.Spec PyProof.Rows L2 Evl
theorem zip_len0 : typeLookup (.type "zip") "__len__" = pure none := am_miss_of_fast (by decide +kernel)
theorem zip_hint0 : typeLookup (.type "zip") "__length_hint__" = pure none := am_miss_of_fast (by decide +kernel)
theorem hint_zip {prog : Program} {w : World} {A : Around} {E : Value → Shared → Prop} {s : Shared} {z : Addr} {Q : Bool → Shared → Prop} (hT : s.TypeIs (.ref z) "zip") (q : Q true s) : wpAny (model prog w) A (Builtin.List.listLengthHint (.ref z)) Q E s := by
  unfold Builtin.List.listLengthHint
  refine wpAny_bind (wpAny_specialOf hT zip_len0 ?_)
  show wpAny _ A (specialOf (Value.ref z) (Str.ofString "__length_hint__") >>= _) _ _ _
  exact wpAny_bind (wpAny_specialOf hT zip_hint0 (wpAny_pure q))
/-- where a zip stands that is drawn empty into the list at S -/
def ZS {prog : Program} {w : World} {i1 i2 l1 l2 : Addr} {xs ys : Array Value} (z TI TO S : Addr) (S1 : Side prog w i1 l1 xs) (S2 : Side prog w i2 l2 ys) (h : Heap) (i : Nat) : Prop :=
  IsPair h TI (.ref i1) (.ref i2) ∧ S1.St i h ∧ S2.St i h ∧ ((IsZip h z TI TO .none ∧ ∃ a b, IsPair h TO a b) ∨ ∃ (T : Addr) (f : Bool) (oT : Obj), IsZipHeld h z TI TO T f ∧ h.get? T = some oT ∧ T ≠ z ∧ T ≠ i1 ∧ T ≠ i2 ∧ T ≠ S)
/-- what has been drawn: new pairs -/
structure PsG (ps : List (Value × Value)) (lo : Addr) (h : Heap) (as : List Addr) : Prop where
  rise : as.Pairwise (· < ·)
  above : ∀ a ∈ as, lo < a
  pairs : ∀ (j : Nat) (a : Addr), as[j]? = some a → ∃ p, ps[j]? = some p ∧ IsPair h a p.1 p.2
section
variable {prog : Program} {w : World} {A : Around} {E : Value → Shared → Prop} {s : Shared} {z TI TO S i1 i2 l1 l2 : Addr} {xs ys : Array Value} {i : Nat}
theorem ZS.type {S1 : Side prog w i1 l1 xs} {S2 : Side prog w i2 l2 ys} {h : Heap} (q : ZS z TI TO S S1 S2 h i) : ∃ o, h.get? z = some o ∧ o.cls = .type "zip" := by
  obtain ⟨_, _, _, ⟨hz, _⟩ | ⟨T, f, oT, hz, _⟩⟩ := q
  · exact ⟨_, hz, rfl⟩
  · exact ⟨_, hz, rfl⟩
theorem ZS.near {S1 : Side prog w i1 l1 xs} {S2 : Side prog w i2 l2 ys} {h h' : Heap} (q : ZS z TI TO S S1 S2 h i) (ns : z ≠ S ∧ TI ≠ S ∧ TO ≠ S ∧ i1 ≠ S ∧ i2 ≠ S ∧ l1 ≠ S ∧ l2 ≠ S) (k : ∀ b o, b ≠ S → h.get? b = some o → h'.get? b = some o) : ZS z TI TO S S1 S2 h' i := by
  obtain ⟨n1, n2, n3, n4, n5, n6, n7⟩ := ns
  obtain ⟨hI, q1, q2, r⟩ := q
  refine ⟨k _ _ n2 hI, S1.near q1 (fun o e => k _ o n4 e) (fun o e => k _ o n6 e), S2.near q2 (fun o e => k _ o n5 e) (fun o e => k _ o n7 e), ?_⟩
  rcases r with ⟨hz, a, b, hO⟩ | ⟨T, f, oT, hz, hT, t1, t2, t3, t4⟩
  · exact .inl ⟨k _ _ n1 hz, a, b, k _ _ n3 hO⟩
  · exact .inr ⟨T, f, oT, k _ _ n1 hz, k _ _ t4 hT, t1, t2, t3, t4⟩
theorem zs_item (D : ZipApart z TI TO i1 i2 l1 l2) {S1 : Side prog w i1 l1 xs} {S2 : Side prog w i2 l2 ys} (q : ZS z TI TO S S1 S2 s.heap i) (hS : S < s.heap.objs.size) {x y : Value} (hx : xs[i]? = some x) (hy : ys[i]? = some y) {Q : Option Value → Shared → Prop}
    (k : ∀ h', ZS z TI TO S S1 S2 h' (i + 1) → IsPair h' s.heap.objs.size x y → h'.objs.size = s.heap.objs.size + 1 → (∀ c o, c ≠ z → c ≠ TO → c ≠ i1 → c ≠ i2 → s.heap.get? c = some o → h'.get? c = some o) → Q (some (.ref s.heap.objs.size)) { s with heap := h' }) :
    wpAny (model prog w) A (pyNext (.ref z)) Q E s := by
  have hT : s.TypeIs (.ref z) "zip" := q.type
  obtain ⟨oz, ez, _⟩ := q.type
  have lz : z < s.heap.objs.size := Heap.lt_size ez
  obtain ⟨hI, q1, q2, r⟩ := q
  obtain ⟨o1, e1, _⟩ := S1.here q1
  obtain ⟨o2, e2, _⟩ := S2.here q2
  have li1 := Heap.lt_size e1
  have li2 := Heap.lt_size e2
  unfold pyNext
  refine wpAny_bind (wpAny_attempt (wpAny_callSpecial?_slot (name := Str.ofString "__next__") hT F.slot_zip_next (wpAny_call_entry F.slot_zip_next hT F.entry_zip_next ?_ (F.args_zip_next_1 _))))
  rcases r with ⟨hz, a, b, hO⟩ | ⟨T, f, oT, hz, hTT, t1, t2, t3, t4⟩
  · refine zip_item D S1 S2 hz hI hO q1 q2 hx hy fun h' a1 a2 a3 a4 a5 a6 a7 => wpAny_pure (k h' ⟨a7 _ _ D.TIz D.TITO D.TIi1 D.TIi2 hI, a3, a4, .inr ⟨s.heap.objs.size, false, _, a1, a5, Nat.ne_of_gt lz, Nat.ne_of_gt li1, Nat.ne_of_gt li2, Nat.ne_of_gt hS⟩⟩ a5 a6 a7)
  · refine zip_itemH D S1 S2 hz hTT hI q1 q2 hx hy fun h' a1 a3 a4 a5 a6 a7 => wpAny_pure (k h' ⟨a7 _ _ D.TIz D.TIi1 D.TIi2 hI, a3, a4, .inr ⟨T, true, _, a1, a7 _ _ t1 t2 t3 hTT, t1, t2, t3, t4⟩⟩ a5 a6 fun c o n1 _ n3 n4 e => a7 c o n1 n3 n4 e)
theorem zs_end (hh : A.handled = none) (D : ZipApart z TI TO i1 i2 l1 l2) {S1 : Side prog w i1 l1 xs} {S2 : Side prog w i2 l2 ys} (q : ZS z TI TO S S1 S2 s.heap i) (hend : xs[i]? = none ∨ ys[i]? = none) {Q : Option Value → Shared → Prop}
    (k : ∀ h', (∀ c o, c ≠ z → c ≠ TO → c ≠ i1 → c ≠ i2 → s.heap.get? c = some o → h'.get? c = some o) → Q none { s with heap := h' }) : wpAny (model prog w) A (pyNext (.ref z)) Q E s := by
  have hT : s.TypeIs (.ref z) "zip" := q.type
  obtain ⟨hI, q1, q2, r⟩ := q
  unfold pyNext
  rcases r with ⟨hz, a, b, hO⟩ | ⟨T, f, oT, hz, hTT, t1, t2, t3, t4⟩
  · refine wpAny_bind (wpAny_attempt (wpAny_callSpecial?_slot (name := Str.ofString "__next__") hT F.slot_zip_next
      (wpAny_call_entry F.slot_zip_next hT F.entry_zip_next (zip_end (A := A.in1) hh D S1 S2 hz hI hO q1 q2 hend fun h' e ke he => ?_) (F.args_zip_next_1 _))))
    obtain ⟨o, e1, e2⟩ := he
    refine wpAny_bind (wpAny_isInstance (T := "StopIteration") (b := true) ⟨o, e1, e2⟩ isSubtype_stop ?_)
    exact wpAny_pure (k _ ke)
  · refine wpAny_bind (wpAny_attempt (wpAny_callSpecial?_slot (name := Str.ofString "__next__") hT F.slot_zip_next
      (wpAny_call_entry F.slot_zip_next hT F.entry_zip_next (zip_endH (A := A.in1) hh D S1 S2 hz hTT hI q1 q2 hend fun h' e ke he => ?_) (F.args_zip_next_1 _))))
    obtain ⟨o, e1, e2⟩ := he
    refine wpAny_bind (wpAny_isInstance (T := "StopIteration") (b := true) ⟨o, e1, e2⟩ isSubtype_stop ?_)
    exact wpAny_pure (k _ fun c o n1 _ n3 n4 w => ke c o n1 n3 n4 w)
/-- drawn into the list at S -/
theorem zs_loop (hh : A.handled = none) (D : ZipApart z TI TO i1 i2 l1 l2) {S1 : Side prog w i1 l1 xs} {S2 : Side prog w i2 l2 ys} (ns : z ≠ S ∧ TI ≠ S ∧ TO ≠ S ∧ i1 ≠ S ∧ i2 ≠ S ∧ l1 ≠ S ∧ l2 ≠ S) (res : Value) {lo : Addr} {ho : Heap} {R : Result → Shared → Prop}
    (room : (xs.toList.zip ys.toList).length ≤ sizeLine) (below : ∀ b o, ho.get? b = some o → b ≠ z ∧ b ≠ TO ∧ b ≠ i1 ∧ b ≠ i2) (lz : z ≤ lo ∧ TO ≤ lo ∧ i1 ≤ lo ∧ i2 ≤ lo ∧ S ≤ lo)
    (hR : ∀ h' acc c as, (∀ b o, b ≠ S → ho.get? b = some o → h'.get? b = some o) → h'.get? S = some { cls := .type "list", dict := none, data := .seq acc c, slots := #[] } → as.length = (xs.toList.zip ys.toList).length → PsG (xs.toList.zip ys.toList) lo h' as →
      acc.toList = as.map Value.ref → R (.ok (.ret res)) { s with heap := h' }) :
    ∀ (k i : Nat) (h : Heap) (c : Nat) (acc : Array Value) (as : List Addr), (xs.toList.zip ys.toList).length = k + i → ZS z TI TO S S1 S2 h i → (∀ b o, b ≠ S → ho.get? b = some o → h.get? b = some o) →
      h.get? S = some { cls := .type "list", dict := none, data := .seq acc c, slots := #[] } → acc.toList = as.map Value.ref → as.length = i → PsG (xs.toList.zip ys.toList) lo h as → lo < h.objs.size →
      codeAny (model prog w) A (.builtin "list.extend.loop" ⟨[.ref S, .ref z, res], []⟩) R { s with heap := h } := by
  obtain ⟨n1, n2, n3, n4, n5, n6, n7⟩ := id ns
  obtain ⟨z1, z2, z3, z4, z5⟩ := lz
  intro k
  induction k with
  | zero =>
    intro i h c acc as hk q kp hS ha hl g hs
    refine codeAny_builtin F.entry_extend_loop ?_
    rw [Around.under_plainId F.plain_extend_loop _]
    show wpAny _ A.in1 (pyNext (.ref z) >>= _) _ _ _
    have hend : xs[i]? = none ∨ ys[i]? = none := by
      rw [List.length_zip, Array.length_toList, Array.length_toList] at hk
      rcases Nat.lt_or_ge i xs.size with c1 | c1
      · exact .inr (by simp; omega)
      · exact .inl (by simp; omega)
    refine wpAny_bind (zs_end (A := A.in1) (s := { s with heap := h }) hh D q hend fun h' ke => ?_)
    refine wpAny_pure (hR h' acc c as (fun b o nb e => ?_) (ke _ _ (Ne.symm n1) (Ne.symm n3) (Ne.symm n4) (Ne.symm n5) hS) (by omega) ⟨g.rise, g.above, fun j a hj => ?_⟩ ha)
    · obtain ⟨b1, b2, b3, b4⟩ := below b o e
      exact ke b o b1 b2 b3 b4 (kp b o nb e)
    · obtain ⟨p, e1, e2⟩ := g.pairs j a hj
      have ab := g.above a (List.mem_of_getElem? hj)
      exact ⟨p, e1, ke _ _ (Nat.ne_of_gt (Nat.lt_of_le_of_lt z1 ab)) (Nat.ne_of_gt (Nat.lt_of_le_of_lt z2 ab)) (Nat.ne_of_gt (Nat.lt_of_le_of_lt z3 ab)) (Nat.ne_of_gt (Nat.lt_of_le_of_lt z4 ab)) e2⟩
  | succ k ih =>
    intro i h c acc as hk q kp hS ha hl g hs
    have lt : i < (xs.toList.zip ys.toList).length := by omega
    have lt2 := lt
    rw [List.length_zip, Array.length_toList, Array.length_toList] at lt2
    have hx : xs[i]? = some xs[i] := by simp
    have hy : ys[i]? = some ys[i] := by simp
    have hp : (xs.toList.zip ys.toList)[i]? = some (xs[i], ys[i]) := by
      rw [List.getElem?_zip_eq_some]
      exact ⟨by simpa using hx, by simpa using hy⟩
    have sz : acc.size = i := by rw [← Array.length_toList, ha, List.length_map, hl]
    have lS : S < h.objs.size := Heap.lt_size hS
    refine codeAny_builtin F.entry_extend_loop ?_
    rw [Around.under_plainId F.plain_extend_loop _]
    show wpAny _ A.in1 (pyNext (.ref z) >>= _) _ _ _
    refine wpAny_bind (zs_item (A := A.in1) (s := { s with heap := h }) D q lS hx hy fun h' q' new size2 ke => ?_)
    dsimp only at new size2 ke ⊢
    have hS' := ke S _ (Ne.symm n1) (Ne.symm n3) (Ne.symm n4) (Ne.symm n5) hS
    have up : ∀ b o, b ≠ S → h'.get? b = some o → (h'.update S (Obj.mapSeq (·.push (Value.ref h.objs.size)))).get? b = some o := fun b o nb e => (Heap.get?_update_other _ _ (Ne.symm nb)).trans e
    have mineOf : ∀ b o, lo < b → h.get? b = some o → h'.get? b = some o := fun b o ab e => ke _ _ (Nat.ne_of_gt (Nat.lt_of_le_of_lt z1 ab)) (Nat.ne_of_gt (Nat.lt_of_le_of_lt z2 ab)) (Nat.ne_of_gt (Nat.lt_of_le_of_lt z3 ab)) (Nat.ne_of_gt (Nat.lt_of_le_of_lt z4 ab)) e
    show wpAny _ A.in1 (updateSeq S (·.push (Value.ref h.objs.size)) >>= _) _ _ _
    refine wpAny_bind ?_
    refine wpAny_updateSeq hS' rfl (wpAny_pure ⟨plainId_quiet F.plain_extend_loop _, ih (i + 1) _ _ (acc.push (Value.ref h.objs.size)) (as ++ [h.objs.size]) (by omega) (q'.near ns up) (fun b o nb e => ?_) (Heap.get?_update_self _ hS' rfl) (by rw [Array.toList_push, ha, List.map_append]; rfl) (by rw [List.length_append, hl]; rfl) ⟨?_, ?_, ?_⟩ ?_⟩) (by rw [sz]; omega) (by show (acc.push (Value.ref h.objs.size)).size ≤ sizeLine + 1; rw [Array.size_push, sz]; omega)
    · obtain ⟨b1, b2, b3, b4⟩ := below b o e
      exact up b o nb (ke b o b1 b2 b3 b4 (kp b o nb e))
    · refine List.pairwise_append.mpr ⟨g.rise, List.pairwise_singleton _ _, fun a ia b ib => ?_⟩
      rw [List.mem_singleton.mp ib]
      obtain ⟨j, hj⟩ := List.mem_iff_getElem?.mp ia
      obtain ⟨p, _, e2⟩ := g.pairs j a hj
      exact Heap.lt_size e2
    · intro a ia
      rcases List.mem_append.mp ia with ia | ia
      · exact g.above a ia
      · rw [List.mem_singleton.mp ia]
        exact hs
    · intro j a hj
      rcases Nat.lt_or_ge j as.length with c1 | c1
      · rw [List.getElem?_append_left c1] at hj
        obtain ⟨p, e1, e2⟩ := g.pairs j a hj
        have ab := g.above a (List.mem_of_getElem? hj)
        exact ⟨p, e1, up _ _ (Nat.ne_of_gt (Nat.lt_of_le_of_lt z5 ab)) (mineOf _ _ ab e2)⟩
      · rw [List.getElem?_append_right c1] at hj
        have j0 : j - as.length = 0 := by
          rcases Nat.eq_zero_or_pos (j - as.length) with e | e
          · exact e
          · rw [List.getElem?_eq_none (by rw [List.length_singleton]; omega)] at hj
            cases hj
        rw [j0] at hj
        have ea : h.objs.size = a := Option.some.inj hj
        have ej : j = i := by omega
        rw [← ea, ej]
        exact ⟨_, hp, up _ _ (Nat.ne_of_gt lS) new⟩
    · have e : (h'.update S (Obj.mapSeq (·.push (Value.ref h.objs.size)))).get? h.objs.size = _ := up _ _ (Nat.ne_of_gt lS) new
      exact Nat.lt_trans hs (Heap.lt_size e)
end
end G

set_option Elab.async false
set_option linter.all false
set_option maxRecDepth 100000
set_option maxHeartbeats 4000000
/-! zip(a list, a tuple): made, walked, drawn into a list. -/
namespace G
open PySem PySem.Spec PyProof.Rows L2 Evl
abbrev zM1 (h : Heap) (l1 : Addr) : Heap := h.push { cls := .type "list_iterator", data := .fields #[.ref l1, .int 0 0] }
abbrev zM2 (h : Heap) (l1 l2 : Addr) : Heap := (zM1 h l1).push { cls := .type "tuple_iterator", data := .fields #[.ref l2, .int 0 0] }
abbrev zM3 (h : Heap) (l1 l2 : Addr) : Heap := (zM2 h l1 l2).push { cls := .type "tuple", data := .seq #[.ref h.objs.size, .ref (zM1 h l1).objs.size] }
abbrev zM4 (h : Heap) (l1 l2 : Addr) : Heap := (zM3 h l1 l2).push { cls := .type "tuple", data := .seq #[.none, .none] }
abbrev zM5 (h : Heap) (l1 l2 : Addr) : Heap := (zM4 h l1 l2).push { cls := .type "zip", data := .fields #[.none, .bool false, .bool false, .ref (zM2 h l1 l2).objs.size, .ref (zM3 h l1 l2).objs.size] }
theorem meets_zipM (l1 l2 : Addr) (xs ys : Array Value) :
    Meets (Builtin.«zip.__new__» ⟨[.type "zip", .ref l1, .ref l2], []⟩) (fun _ R s => s.heap.IsList l1 xs ∧ s.heap.IsTuple l2 ys ∧
      R (.ok (.ret (.ref (zM4 s.heap l1 l2).objs.size))) { s with heap := zM5 s.heap l1 l2 }) :=
  .of_wp fun prog w A R s h => by
    obtain ⟨hp, g, d, tk, os⟩ := s
    obtain ⟨q1, q2, h⟩ := h
    have hsub := sub_zip
    have r1 : Heap.IsList (Shared.heap ⟨hp, g, d, tk, os⟩) l1 xs := q1
    have r2 : Heap.IsTuple (Shared.heap ⟨hp.push { cls := .type "list_iterator", data := .fields #[.ref l1, .int 0 0] }, g, d, tk, os⟩) l2 ys := Heap.IsTuple.push q2 _
    wp_walk using wpAny_pyIter_list r1, wpAny_pyIter_tuple r2
    exact ⟨_, rfl, h⟩
section
variable {prog : Program} {w : World} {A : Around} {E : Value → Shared → Prop} {s : Shared}
theorem call_zipM {l1 l2 : Addr} {xs ys : Array Value} {Q : Value → Shared → Prop} (q1 : s.heap.IsList l1 xs) (q2 : s.heap.IsTuple l2 ys)
    (h : ∀ h', IsZip h' (s.heap.objs.size + 4) (s.heap.objs.size + 2) (s.heap.objs.size + 3) .none → IsPair h' (s.heap.objs.size + 2) (.ref s.heap.objs.size) (.ref (s.heap.objs.size + 1)) →
      IsPair h' (s.heap.objs.size + 3) .none .none → h'.IsListIter s.heap.objs.size l1 0 → h'.IsTupleIter (s.heap.objs.size + 1) l2 0 → h'.objs.size = s.heap.objs.size + 5 →
      (∀ c o, s.heap.get? c = some o → h'.get? c = some o) → Q (.ref (s.heap.objs.size + 4)) { s with heap := h' }) :
    wpAny (model prog w) A (call (.type "zip") [.ref l1, .ref l2]) Q E s := by
  refine callType_new F.called_zip (by decide) (F.typeCall_zip_2 _ _) (F.newCall_zip_2 _ _) (fun obj => F.args_object_init_3 obj _ _) F.entry_zip_new
    (meets_zipM l1 l2 xs ys) ⟨q1, q2, ?_⟩
  have z1 : (zM1 s.heap l1).objs.size = s.heap.objs.size + 1 := Heap.size_push ..
  have z2 : (zM2 s.heap l1 l2).objs.size = s.heap.objs.size + 2 := by rw [Heap.size_push, z1]
  have z3 : (zM3 s.heap l1 l2).objs.size = s.heap.objs.size + 3 := by rw [Heap.size_push, z2]
  have z4 : (zM4 s.heap l1 l2).objs.size = s.heap.objs.size + 4 := by rw [Heap.size_push, z3]
  have z5 : (zM5 s.heap l1 l2).objs.size = s.heap.objs.size + 5 := by rw [Heap.size_push, z4]
  have g5 : (zM5 s.heap l1 l2).get? (zM4 s.heap l1 l2).objs.size = some _ := Heap.get?_push_size _ rfl
  have g4 : (zM5 s.heap l1 l2).get? (zM3 s.heap l1 l2).objs.size = some _ := Heap.get?_push_of_some _ (Heap.get?_push_size _ rfl)
  have g3 : (zM5 s.heap l1 l2).get? (zM2 s.heap l1 l2).objs.size = some _ := Heap.get?_push_of_some _ (Heap.get?_push_of_some _ (Heap.get?_push_size _ rfl))
  have g2 : (zM5 s.heap l1 l2).get? (zM1 s.heap l1).objs.size = some _ := Heap.get?_push_of_some _ (Heap.get?_push_of_some _ (Heap.get?_push_of_some _ (Heap.get?_push_size _ rfl)))
  have g1 : (zM5 s.heap l1 l2).get? s.heap.objs.size = some _ := Heap.get?_push_of_some _ (Heap.get?_push_of_some _ (Heap.get?_push_of_some _ (Heap.get?_push_of_some _ (Heap.get?_push_size _ rfl))))
  show _ ∧ _
  rw [z2, z3, z4] at g5
  rw [z1, z2] at g3
  rw [z3] at g4
  rw [z1] at g2
  rw [z4]
  exact ⟨⟨_, g5, rfl⟩, h _ g5 g3 g4 ⟨_, g1, rfl, rfl⟩ ⟨_, g2, rfl, rfl⟩ z5 fun c o x =>
    Heap.get?_push_of_some _ (Heap.get?_push_of_some _ (Heap.get?_push_of_some _ (Heap.get?_push_of_some _ (Heap.get?_push_of_some _ x))))⟩
section
variable {z TI TO i1 i2 l1 l2 : Addr} {k1 k2 : Nat} {xs ys : Array Value} {x y a b : Value}
theorem next_item (D : ZipApart z TI TO i1 i2 l1 l2) (S1 : Side prog w i1 l1 xs) (S2 : Side prog w i2 l2 ys) {Q : Option Value → Shared → Prop} (hz : IsZip s.heap z TI TO .none) (hI : IsPair s.heap TI (.ref i1) (.ref i2)) (hO : IsPair s.heap TO a b)
    (q1 : S1.St k1 s.heap) (q2 : S2.St k2 s.heap) (hx : xs[k1]? = some x) (hy : ys[k2]? = some y)
    (k : ∀ h', IsZip h' z TI TO (rawInt s.heap.objs.size) → IsPair h' TO x y → S1.St (k1 + 1) h' → S2.St (k2 + 1) h' → IsPair h' s.heap.objs.size x y → h'.objs.size = s.heap.objs.size + 1 →
      (∀ c o, c ≠ z → c ≠ TO → c ≠ i1 → c ≠ i2 → s.heap.get? c = some o → h'.get? c = some o) → Q (some (.ref s.heap.objs.size)) { s with heap := h' }) :
    wpAny (model prog w) A (pyNext (.ref z)) Q E s := by
  have hT : s.TypeIs (.ref z) "zip" := ⟨_, hz, rfl⟩
  unfold pyNext
  exact wpAny_bind (wpAny_attempt (wpAny_callSpecial?_slot (name := Str.ofString "__next__") hT F.slot_zip_next
    (wpAny_call_entry F.slot_zip_next hT F.entry_zip_next
      (zip_item D S1 S2 hz hI hO q1 q2 hx hy fun h' a1 a2 a3 a4 a5 a6 a7 => wpAny_pure (k h' a1 a2 a3 a4 a5 a6 a7)) (F.args_zip_next_1 _))))
theorem next_end (hh : A.handled = none) (D : ZipApart z TI TO i1 i2 l1 l2) (S1 : Side prog w i1 l1 xs) (S2 : Side prog w i2 l2 ys) {Q : Option Value → Shared → Prop} (hz : IsZip s.heap z TI TO .none) (hI : IsPair s.heap TI (.ref i1) (.ref i2)) (hO : IsPair s.heap TO a b)
    (q1 : S1.St k1 s.heap) (q2 : S2.St k2 s.heap) (hend : xs[k1]? = none ∨ ys[k2]? = none)
    (k : ∀ h', (∀ c o, c ≠ z → c ≠ TO → c ≠ i1 → c ≠ i2 → s.heap.get? c = some o → h'.get? c = some o) → Q none { s with heap := h' }) :
    wpAny (model prog w) A (pyNext (.ref z)) Q E s := by
  have hT : s.TypeIs (.ref z) "zip" := ⟨_, hz, rfl⟩
  unfold pyNext
  refine wpAny_bind (wpAny_attempt (wpAny_callSpecial?_slot (name := Str.ofString "__next__") hT F.slot_zip_next
    (wpAny_call_entry F.slot_zip_next hT F.entry_zip_next (zip_end (A := A.in1) hh D S1 S2 hz hI hO q1 q2 hend fun h' e ke he => ?_) (F.args_zip_next_1 _))))
  obtain ⟨o, e1, e2⟩ := he
  refine wpAny_bind (wpAny_isInstance (T := "StopIteration") (b := true) ⟨o, e1, e2⟩ isSubtype_stop ?_)
  exact wpAny_pure (k _ ke)
end
end
/-- the list at a and the tuple at b as they stand at each turn, the items in new pairs -/
def Itm (K : PySem.W.Frag) (a b : Addr) : It :=
  ⟨fun i H => ∃ (xs ys : List V) (x y : V), SqL K H a xs ∧ SqT K H b ys ∧ xs[i]? = some x ∧ ys[i]? = some y,
    fun i H v H' => ∃ T x y, v = .ref T ∧ H T = none ∧ H' = upd H T (.tup [x, y]) ∧ (∀ xs, SqL K H a xs → xs[i]? = some x) ∧ ∀ ys, SqT K H b ys → ys[i]? = some y,
    fun i H => ∃ xs ys : List V, SqL K H a xs ∧ SqT K H b ys ∧ (xs.length ≤ i ∨ ys.length ≤ i)⟩
theorem turn_zipM {P : Program} {w : World} {K : PySem.W.Frag} {elts : List Expr} {kk : Nat} {tpos : Pos} {a b z TI TO i1 i2 : Addr} (D : ZipApart z TI TO i1 i2 a b) :
    Turn P w K (.Tuple elts kk tpos) (Itm K a b) [z, TI, TO, i1, i2] z (fun i h => IsZip h z TI TO .none ∧ IsPair h TI (.ref i1) (.ref i2) ∧ (∃ x y, IsPair h TO x y) ∧ h.IsListIter i1 a i ∧ h.IsTupleIter i2 b i) where
  mem := by simp
  obj := fun i h st c hc => by
    obtain ⟨hz, hTI, ⟨x, y, hTO⟩, ⟨o1, e1, _, d1⟩, ⟨o2, e2, _, d2⟩⟩ := st
    have e' : c = z ∨ c = TI ∨ c = TO ∨ c = i1 ∨ c = i2 := by simpa using hc
    rcases e' with q | q | q | q | q
    · rw [q]; exact ⟨_, hz, fun v q => nomatch q⟩
    · rw [q]; exact ⟨_, hTI, fun v q => nomatch q⟩
    · rw [q]; exact ⟨_, hTO, fun v q => nomatch q⟩
    · rw [q]; exact ⟨o1, e1, fun v q => by rw [d1] at q; cases q⟩
    · rw [q]; exact ⟨o2, e2, fun v q => by rw [d2] at q; cases q⟩
  keep := fun i h h' st k => by
    obtain ⟨hz, hTI, ⟨x, y, hTO⟩, h1, h2⟩ := st
    exact ⟨k z (by simp) _ hz, k TI (by simp) _ hTI, ⟨x, y, k TO (by simp) _ hTO⟩, h1.at fun o q => k i1 (by simp) o q, h2.at fun o q => k i2 (by simp) o q⟩
  item := by
    intro X hP hw hK hc i pins s σ H E I hf st hg
    subst hP hw hK
    obtain ⟨hz, hTI, ⟨x0, y0, hTO⟩, h1, h2⟩ := st
    obtain ⟨xs, ys, x, y, hqx, hqy, hx, hy⟩ := hg
    obtain ⟨its, rv, p, _⟩ := I.list hqx
    obtain ⟨its2, rv2, p2, _⟩ := I.tuple hqy
    obtain ⟨u, hu, ru⟩ := rv.get hx
    obtain ⟨u2, hu2, ru2⟩ := rv2.get hy
    have hzl : z < s.heap.objs.size := Heap.lt_size hz
    refine next_item D (sideL (xs := its.toArray) D.l1i1) (sideT (xs := its2.toArray) D.l2i2) hz hTI hTO ⟨h1, p.isList⟩ ⟨h2, p2⟩ (x := u) (y := u2) (by simpa using hu) (by simpa using hu2) fun h' z' TO' h1' h2' hT hsz hk => ?_
    refine ⟨_, rfl, wpAny_letOwnedTupleGo_zip (s := { s with heap := h' }) z' fun h'' z'' sb => ?_⟩
    have hT2 : h''.get? s.heap.objs.size = some { cls := .type "tuple", data := .seq #[u, u2] } := (sb.2 _ (Nat.ne_of_gt hzl)).trans hT
    have new : ObjOk X.prog X.w (upd H s.heap.objs.size (.tup [x, y])) h'' s.heap.objs.size (.tup [x, y]) :=
      ⟨by show 2 ≤ sizeLine; decide, [u, u2], .cons ru (.cons ru2 .nil), ⟨_, hT2, rfl, _, rfl⟩⟩
    have I1 : Inv X pins σ (upd H s.heap.objs.size (.tup [x, y])) { s with heap := h'' } :=
      I.turnedNew (t' := s.toks) (ch := [z, TI, TO, i1, i2]) (fun c o hb q => (sb.2 c (fun q' => hb (by simp [q']))).trans (hk c o (fun q' => hb (by simp [q'])) (fun q' => hb (by simp [q'])) (fun q' => hb (by simp [q'])) (fun q' => hb (by simp [q'])) q)) hf (Nat.le_refl _) new
    refine ⟨.ref s.heap.objs.size, _, I1, rfl, ⟨_, x, y, rfl, I.hok.fresh (Nat.le_refl _), rfl, fun l hl => by rw [I.list_inj hl hqx]; exact hx, fun l hl => by rw [I.tuple_inj hl hqy]; exact hy⟩, ⟨z'', ?_, ⟨u, u2, ?_⟩, ?_, ?_⟩, fun c hcm => ?_⟩
    · exact (sb.2 _ D.TIz).trans (hk _ _ D.TIz D.TITO D.TIi1 D.TIi2 hTI)
    · exact (sb.2 _ D.TOz).trans TO'
    · exact h1'.1.at fun o q => (sb.2 _ D.i1z).trans q
    · exact h2'.1.at fun o q => (sb.2 _ D.i2z).trans q
    · have hlt : c < s.heap.objs.size := by
        have e' : c = z ∨ c = TI ∨ c = TO ∨ c = i1 ∨ c = i2 := by simpa using hcm
        rcases e' with q | q | q | q | q
        · rw [q]; exact hzl
        · rw [q]; exact Heap.lt_size hTI
        · rw [q]; exact Heap.lt_size hTO
        · rw [q]; obtain ⟨_, e1, _⟩ := h1; exact Heap.lt_size e1
        · rw [q]; obtain ⟨_, e2, _⟩ := h2; exact Heap.lt_size e2
      rw [upd_ne (Nat.ne_of_lt hlt)]
      exact (hf c hcm).1
  done := by
    intro X hP hw hK hc i pins s σ H E I hf st hg
    subst hP hw hK
    obtain ⟨hz, hTI, ⟨x0, y0, hTO⟩, h1, h2⟩ := st
    obtain ⟨xs, ys, hqx, hqy, hend⟩ := hg
    obtain ⟨its, rv, p, _⟩ := I.list hqx
    obtain ⟨its2, rv2, p2, _⟩ := I.tuple hqy
    have l1 := rv.length
    have l2 := rv2.length
    have he : its.toArray[i]? = none ∨ its2.toArray[i]? = none := by
      rcases hend with q | q
      · exact .inl (by simp; omega)
      · exact .inr (by simp; omega)
    exact next_end (I.ok.hd hc) D (sideL (xs := its.toArray) D.l1i1) (sideT (xs := its2.toArray) D.l2i2) hz hTI hTO ⟨h1, p.isList⟩ ⟨h2, p2⟩ he fun h' hk => ⟨rfl, I.turnedL (t' := s.toks) (ch := [z, TI, TO, i1, i2]) (fun c o hb q =>
      hk c o (fun q' => hb (by simp [q'])) (fun q' => hb (by simp [q'])) (fun q' => hb (by simp [q'])) (fun q' => hb (by simp [q'])) q) hf⟩
  self := fun A i s Q E st h => wpAny_pyIter_zip st.1 h
def iZipM (K : PySem.W.Frag) (ta : TA) : TI := fun σ H R => ta σ H fun vs H1 => ∃ a b xs ys, vs = [.ref a, .ref b] ∧ SqL K H1 a xs ∧ SqT K H1 b ys ∧ R (Itm K a b) H1
theorem pi_zipM {X : Cx} {e e2 : Expr} {ta : TA} {p pos tpos : Pos} {elts : List Expr} {kk : Nat} {K : PySem.W.Frag} (hK : X.K = K) (hg : Gl X "zip") (hm : X.mg "zip" = none) (ha : PA X [e, e2] ta)
    (hs : starEach [e, e2] X.env = (false, eval e X.env) :: starEach [e2] X.env := by rfl) (hpl : (backTo pos (starEach [e2] X.env)).any (·.1) = false := by rfl) :
    PI X (.Tuple elts kk tpos) (.Call (.Name "zip" p) [e, e2] [] pos) (iZipM K ta) := by
  subst hK
  refine ⟨fun pins s σ H R I h => ?_⟩
  refine Call_ (ld_blt I hg hm PyProof.Rows.boot_zip (PyProof.Rows.callWith_type1 (thn (ha.run pos pins s σ H _ I h) fun us s1 ⟨vs, H1, I1, r1, q1⟩ => ?_) hs hpl))
  obtain ⟨a, b, xs, ys, ex, hqx, hqy, q⟩ := q1
  subst ex
  cases r1 with
  | cons r rr =>
    cases rr with
    | cons r' rr =>
      cases rr
      cases r
      cases r'
      obtain ⟨its, rv, p1, _⟩ := I1.list hqx
      obtain ⟨its2, rv2, p2, _⟩ := I1.tuple hqy
      obtain ⟨o2, ho2, _⟩ := id p2
      have la : a < s1.heap.objs.size := p1.lt
      have lb : b < s1.heap.objs.size := Heap.lt_size ho2
      refine call_zipM p1.isList (show s1.heap.IsTuple b its2.toArray from p2) fun h' hz hTI hTO h1 h2 hsz hk => wpAny_pyIter_zip hz ?_
      have I2 : Inv X pins σ H1 { s1 with heap := h' } := I1.kept (t' := s1.toks) hk
      refine ⟨s1.heap.objs.size + 4, [s1.heap.objs.size + 4, s1.heap.objs.size + 2, s1.heap.objs.size + 3, s1.heap.objs.size, s1.heap.objs.size + 1], _, _, H1, rfl, I2, turn_zipM (PySem.W.ktu_apart s1.heap.objs.size a b la lb), ⟨hz, hTI, ⟨_, _, hTO⟩, h1, h2⟩, fun c hcm => ?_, q⟩
      have e' : c = s1.heap.objs.size + 4 ∨ c = s1.heap.objs.size + 2 ∨ c = s1.heap.objs.size + 3 ∨ c = s1.heap.objs.size ∨ c = s1.heap.objs.size + 1 := by simpa using hcm
      have hle : s1.heap.objs.size ≤ c := by
        rcases e' with z | z | z | z | z
        · rw [z]; exact Nat.le_add_right _ _
        · rw [z]; exact Nat.le_add_right _ _
        · rw [z]; exact Nat.le_add_right _ _
        · rw [z]; exact Nat.le_refl _
        · rw [z]; exact Nat.le_add_right _ _
      exact I1.fpOk hle (I1.hok.fresh hle)
end G

set_option Elab.async false
set_option linter.all false
set_option maxRecDepth 100000
set_option maxHeartbeats 4000000
/-! list(zip(a list, a tuple)). -/
namespace G
open PySem PySem.Spec PyProof.Rows L2 Evl
section
variable {prog : Program} {w : World} {A : Around} {E : Value → Shared → Prop} {s : Shared} {z TI TO S i1 i2 l1 l2 : Addr} {xs ys : Array Value}
theorem zx_extend (hh : A.handled = none) (D : ZipApart z TI TO i1 i2 l1 l2) {S1 : Side prog w i1 l1 xs} {S2 : Side prog w i2 l2 ys} (ns : z ≠ S ∧ TI ≠ S ∧ TO ≠ S ∧ i1 ≠ S ∧ i2 ≠ S ∧ l1 ≠ S ∧ l2 ≠ S) (res : Value) (c₀ : Nat) {ho : Heap} {R : Result → Shared → Prop}
    (hz : IsZip s.heap z TI TO .none) (q : ZS z TI TO S S1 S2 s.heap 0) (hS : s.heap.get? S = some { cls := .type "list", data := .seq #[] c₀ })
    (room : (xs.toList.zip ys.toList).length ≤ sizeLine) (below : ∀ b o, ho.get? b = some o → b ≠ z ∧ b ≠ TO ∧ b ≠ i1 ∧ b ≠ i2) (lz : z ≤ S ∧ TO ≤ S ∧ i1 ≤ S ∧ i2 ≤ S ∧ S ≤ S) (up : ∀ b o, b ≠ S → ho.get? b = some o → s.heap.get? b = some o)
    (hR : ∀ h' acc c as, (∀ b o, b ≠ S → ho.get? b = some o → h'.get? b = some o) → h'.get? S = some { cls := .type "list", dict := none, data := .seq acc c, slots := #[] } → as.length = (xs.toList.zip ys.toList).length → PsG (xs.toList.zip ys.toList) S h' as →
      acc.toList = as.map Value.ref → R (.ok (.ret res)) { s with heap := h' }) :
    wpAny (model prog w) A.in1 (Builtin.List.listExtendWith (.ref S) (.ref z) res)
      (fun fin s' => match fin with | .done f => R (.ok f) s' | .again c' => c'.quiet = true ∧ codeAny (model prog w) A c' R s') (fun e s' => R (.error e) s') s := by
  have lS : S < s.heap.objs.size := Heap.lt_size hS
  have hT : s.TypeIs (.ref z) "zip" := ⟨_, hz, rfl⟩
  have key : ∀ (h : Heap) (c₁ : Nat), (∀ b o, b ≠ S → s.heap.get? b = some o → h.get? b = some o) → h.get? S = some { cls := .type "list", data := .seq #[] c₁ } → codeAny (model prog w) A (.builtin "list.extend.loop" ⟨[.ref S, .ref z, res], []⟩) R { s with heap := h } := by
    intro h c₁ hk hS₁
    refine zs_loop (ho := ho) hh D ns res room below lz hR (xs.toList.zip ys.toList).length 0 h c₁ #[] [] (Nat.add_zero _).symm (q.near ns hk) (fun b o nb e => hk b o nb (up b o nb e)) hS₁ rfl rfl ⟨List.Pairwise.nil, (fun _ ha => nomatch ha), (fun j a hj => by simp at hj)⟩ (Heap.lt_size hS₁)
  unfold Builtin.List.listExtendWith
  refine wpAny_bind (wpAny_typeOf (T := "zip") hT ?_)
  have h1 : Builtin.List.listSameRef (.ref S) (.ref z) = false := by simp [Builtin.List.listSameRef, ns.1.symm]
  have h2 : (Value.type "zip" == Value.type "list") = false := by decide
  have h3 : (Value.type "zip" == Value.type "tuple") = false := by decide
  simp only [h1, h2, h3, Bool.or_false, Bool.false_eq_true, if_false]
  refine wpAny_bind (wpAny_pyIter_zip hz ?_)
  refine wpAny_bind (wpAny_holding (hint_zip hT ?_))
  refine wpAny_ite_split (fun _ => ?_) (fun _ => wpAny_pure ⟨plainId_quiet PySem.F.plain_extend_loop _, key _ c₀ (fun b o _ e => e) hS⟩)
  refine wpAny_bind (wpAny_rule ?_)
  refine wpAny_bind ?_
  show wpAny _ _ (updateSeq S (·.push .none) >>= fun _ => updateSeq S (·.pop)) _ _ _
  refine wpAny_bind (wpAny_updateSeq hS rfl ?_)
  have hS₂ := Heap.get?_update_self (Obj.mapSeq (·.push Value.none)) hS rfl
  refine wpAny_updateSeq (hz := by seq_fits) hS₂ rfl ?_
  have hS₃ := Heap.get?_update_self (Obj.mapSeq (·.pop)) hS₂ rfl
  refine wpAny_pure ⟨plainId_quiet PySem.F.plain_extend_loop _, key _ _ (fun b o hb e => ?_) hS₃⟩
  exact (Heap.get?_update_other _ _ (Ne.symm hb)).trans ((Heap.get?_update_other _ _ (Ne.symm hb)).trans e)
theorem zx_init (hh : A.handled = none) (D : ZipApart z TI TO i1 i2 l1 l2) {S1 : Side prog w i1 l1 xs} {S2 : Side prog w i2 l2 ys} (ns : z ≠ S ∧ TI ≠ S ∧ TO ≠ S ∧ i1 ≠ S ∧ i2 ≠ S ∧ l1 ≠ S ∧ l2 ≠ S) {ho : Heap} {R : Result → Shared → Prop}
    (hz : IsZip s.heap z TI TO .none) (q : ZS z TI TO S S1 S2 s.heap 0) (hS : s.heap.get? S = some { cls := .type "list", data := .seq #[] })
    (room : (xs.toList.zip ys.toList).length ≤ sizeLine) (below : ∀ b o, ho.get? b = some o → b ≠ z ∧ b ≠ TO ∧ b ≠ i1 ∧ b ≠ i2) (lz : z ≤ S ∧ TO ≤ S ∧ i1 ≤ S ∧ i2 ≤ S ∧ S ≤ S) (up : ∀ b o, b ≠ S → ho.get? b = some o → s.heap.get? b = some o)
    (hR : ∀ h' acc c as, (∀ b o, b ≠ S → ho.get? b = some o → h'.get? b = some o) → h'.get? S = some { cls := .type "list", dict := none, data := .seq acc c, slots := #[] } → as.length = (xs.toList.zip ys.toList).length → PsG (xs.toList.zip ys.toList) S h' as →
      acc.toList = as.map Value.ref → R (.ok (.ret .none)) { s with heap := h' }) :
    wpAny (model prog w) A.in1 (Builtin.«list.__init__» ⟨[.ref S, .ref z], []⟩)
      (fun fin s' => match fin with | .done f => R (.ok f) s' | .again c' => c'.quiet = true ∧ codeAny (model prog w) A c' R s') (fun e s' => R (.error e) s') s := by
  show wpAny _ _ (do let old ← Builtin.List.listItems (.ref S); Builtin.List.listUpdate (.ref S) (fun _ => #[]); letGo old.toList.reverse; Builtin.List.listExtendWith (.ref S) (.ref z) .none) _ _ s
  refine wpAny_bind ?_
  unfold Builtin.List.listItems
  refine wpAny_bind (wpAny_seqItems hS rfl (wpAny_pure ?_))
  show wpAny _ _ (updateSeq S (fun _ => #[]) >>= fun _ => letGo (#[] : Array Value).toList.reverse >>= fun _ => Builtin.List.listExtendWith (.ref S) (.ref z) .none) _ _ s
  refine wpAny_bind (wpAny_updateSeq hS rfl ?_)
  have hS₂ := Heap.get?_update_self (Obj.mapSeq (fun _ => (#[] : Array Value))) hS rfl
  have oth : ∀ b o, b ≠ S → s.heap.get? b = some o → (s.heap.update S (Obj.mapSeq (fun _ => (#[] : Array Value)))).get? b = some o :=
    fun b o hb e => (Heap.get?_update_other _ _ (Ne.symm hb)).trans e
  refine wpAny_bind (wpAny_letGo ?_)
  exact zx_extend hh D ns .none _ (ho := ho) (oth _ _ ns.1 hz) (q.near ns oth) hS₂ room below lz (fun b o nb e => oth b o nb (up b o nb e)) hR
theorem zx_call {a b : Value} (hh : A.handled = none) (D : ZipApart z TI TO i1 i2 l1 l2) (S1 : Side prog w i1 l1 xs) (S2 : Side prog w i2 l2 ys) {ho : Heap} {Q : Value → Shared → Prop}
    (hz : IsZip s.heap z TI TO .none) (hI : IsPair s.heap TI (.ref i1) (.ref i2)) (hO : IsPair s.heap TO a b) (q1 : S1.St 0 s.heap) (q2 : S2.St 0 s.heap) (here : l1 < s.heap.objs.size ∧ l2 < s.heap.objs.size)
    (room : (xs.toList.zip ys.toList).length ≤ sizeLine) (below : ∀ b o, ho.get? b = some o → b ≠ z ∧ b ≠ TO ∧ b ≠ i1 ∧ b ≠ i2) (up : ∀ b o, ho.get? b = some o → s.heap.get? b = some o)
    (hQ : ∀ h' acc c as, (∀ b o, ho.get? b = some o → h'.get? b = some o) → h'.get? s.heap.objs.size = some { cls := .type "list", dict := none, data := .seq acc c, slots := #[] } → as.length = (xs.toList.zip ys.toList).length → PsG (xs.toList.zip ys.toList) s.heap.objs.size h' as →
      acc.toList = as.map Value.ref → Q (.ref s.heap.objs.size) { s with heap := h' }) :
    wpAny (model prog w) A (call (.type "list") [.ref z]) Q E s := by
  refine callType_codes (Q₁ := fun obj s₁ => obj = .ref s.heap.objs.size ∧ s₁ = { s with heap := s.heap.push { cls := .type "list", data := .seq #[] } }) PySem.F.called_list (PySem.F.typeCall_list_1 _) PySem.F.entry_list_init
    (code_list_new _ ⟨rfl, rfl⟩) fun obj s₁ h₁ => ?_
  obtain ⟨rfl, rfl⟩ := h₁
  have hS : (s.heap.push { cls := .type "list", data := .seq #[] }).get? s.heap.objs.size = some { cls := .type "list", data := .seq #[] } := Heap.get?_push_size _ rfl
  obtain ⟨o1, e1, _⟩ := S1.here q1
  obtain ⟨o2, e2, _⟩ := S2.here q2
  have nz := Heap.lt_size hz
  have nI := Heap.lt_size hI
  have nO := Heap.lt_size hO
  have n1 := Heap.lt_size e1
  have n2 := Heap.lt_size e2
  have pu : ∀ b o, s.heap.get? b = some o → (s.heap.push { cls := .type "list", data := .seq #[] }).get? b = some o := fun b o e => Heap.get?_push_of_some _ e
  refine ⟨⟨_, hS, rfl⟩, PySem.F.args_list_init_2 _ _, zx_init (A := A.in1) (S1 := S1) (S2 := S2) (ho := ho) hh D ⟨Nat.ne_of_lt nz, Nat.ne_of_lt nI, Nat.ne_of_lt nO, Nat.ne_of_lt n1, Nat.ne_of_lt n2, Nat.ne_of_lt here.1, Nat.ne_of_lt here.2⟩
    (pu _ _ hz) ⟨pu _ _ hI, S1.near q1 (fun o e => pu _ o e) (fun o e => pu _ o e), S2.near q2 (fun o e => pu _ o e) (fun o e => pu _ o e), .inl ⟨pu _ _ hz, a, b, pu _ _ hO⟩⟩ hS room below
    ⟨Nat.le_of_lt nz, Nat.le_of_lt nO, Nat.le_of_lt n1, Nat.le_of_lt n2, Nat.le_refl _⟩ (fun b o _ e => pu b o (up b o e)) (fun h' acc c as hk hS' hl hG hacc => ?_)⟩
  exact ⟨rfl, hQ h' acc c as (fun b o e => hk b o (Nat.ne_of_lt (Heap.lt_size (up b o e))) e) hS' hl hG hacc⟩
end
/-! the tuples tracked at their addresses -/
def putP : Hp → List Addr → List (V × V) → Hp
  | H, a :: as, p :: ps => putP (upd H a (.tup [p.1, p.2])) as ps
  | H, _, _ => H
theorem putP_off {b : Addr} : ∀ (as : List Addr) (ps : List (V × V)) (H : Hp), b ∉ as → putP H as ps b = H b
  | [], _, _, _ => rfl
  | _ :: _, [], _, _ => rfl
  | a :: as, p :: ps, H, h => by
    show putP (upd H a (.tup [p.1, p.2])) as ps b = H b
    rw [putP_off as ps _ (fun z => h (List.mem_cons_of_mem _ z)), upd_ne (fun z => h (by rw [z]; exact List.mem_cons_self))]
theorem putP_at : ∀ (as : List Addr) (ps : List (V × V)) (H : Hp), as.length = ps.length → as.Nodup → Paired (fun (t : Addr) (p : V × V) => putP H as ps t = some (.tup [p.1, p.2])) as ps
  | [], [], _, _, _ => .nil
  | [], _ :: _, _, h, _ => by cases h
  | _ :: _, [], _, h, _ => by cases h
  | a :: as, p :: ps, H, h, hn => by
    have hn' := List.nodup_cons.mp hn
    have ih := putP_at as ps (upd H a (.tup [p.1, p.2])) (Nat.succ.inj h) hn'.2
    refine .cons ?_ ih
    show putP (upd H a (.tup [p.1, p.2])) as ps a = some (.tup [p.1, p.2])
    rw [putP_off as ps _ hn'.1, upd_same]
/-- as list(zip(..)) lays them -/
structure ZipLaid (H H' : Hp) (p : Addr) (ts : List Addr) (ps : List (V × V)) : Prop where
  ex : ∀ b o, H b = some o → H' b = some o
  np : H p = none
  nt : ∀ t ∈ ts, H t = none
  pt : p ∉ ts
  at_ : H' p = some (.lst (ts.map V.ref))
  each : Paired (fun (t : Addr) (q : V × V) => H' t = some (.tup [q.1, q.2])) ts ps
  nd : ts.Nodup
theorem pairs_laid {X : Cx} {pins : List (Addr × Obj)} {σ : L2.St} {H : Hp} {s : Shared} {h' : Heap} {S : Addr} {xs ys : List V} {vs us : List Value} {acc : Array Value} {c : Nat} {as : List Addr} (I : Inv X pins σ H s) (hz : xs.length ≤ sizeLine) (kx : Vals xs vs) (ky : Vals ys us) (lS : s.heap.objs.size ≤ S)
    (hk : ∀ b o, s.heap.get? b = some o → h'.get? b = some o) (hS : h'.get? S = some { cls := .type "list", dict := none, data := .seq acc c, slots := #[] }) (hl : as.length = (vs.zip us).length) (hG : PsG (vs.zip us) S h' as) (hacc : acc.toList = as.map Value.ref) :
    ∃ H' : Hp, ZipLaid H H' S as (xs.zip ys) ∧ Inv X pins σ H' { s with heap := h' } := by
  have lx : xs.length = vs.length := Paired.length kx
  have ly : ys.length = us.length := Paired.length ky
  have lz : (xs.zip ys).length = (vs.zip us).length := by rw [List.length_zip, List.length_zip, lx, ly]
  have le : as.length ≤ xs.length := by rw [hl, List.length_zip, ← lx]; exact Nat.min_le_left _ _
  have hSn : S ∉ as := fun z => Nat.lt_irrefl _ (hG.above _ z)
  have nd : as.Nodup := List.Pairwise.imp (fun {a b} (h : a < b) => Nat.ne_of_lt h) hG.rise
  have new : ∀ t ∈ as, H t = none := fun t ht => I.hok.fresh (Nat.le_trans lS (Nat.le_of_lt (hG.above t ht)))
  have newS : H S = none := I.hok.fresh lS
  have atP := putP_at as (xs.zip ys) (upd H S (.lst (as.map V.ref))) (by omega) nd
  have off : ∀ b, b ∉ as → b ≠ S → putP (upd H S (.lst (as.map V.ref))) as (xs.zip ys) b = H b := fun b h1 h2 => by rw [putP_off as _ _ h1, upd_ne h2]
  have low : ∀ b o, s.heap.get? b = some o → b ∉ as ∧ b ≠ S := fun b o e => ⟨fun z => absurd (Heap.lt_size e) (Nat.not_lt.mpr (Nat.le_trans lS (Nat.le_of_lt (hG.above b z)))), Nat.ne_of_lt (Nat.lt_of_lt_of_le (Heap.lt_size e) lS)⟩
  have kp : ∀ b u, H b = some u → (putP (upd H S (.lst (as.map V.ref))) as (xs.zip ys)) b = some u := fun b u e => by
    rw [off b (fun z => by rw [new b z] at e; cases e) (fun z => by rw [z, newS] at e; cases e)]
    exact e
  have eS : putP (upd H S (.lst (as.map V.ref))) as (xs.zip ys) S = some (.lst (as.map V.ref)) := by rw [putP_off as _ _ hSn, upd_same]
  refine ⟨putP (upd H S (.lst (as.map V.ref))) as (xs.zip ys), ⟨kp, newS, new, hSn, eS, atP, nd⟩, ?_⟩
  refine I.call' (s' := { s with heap := h' }) (ch := []) rfl ⟨fun b o q _ _ _ => hk b o q, fun b o q _ _ _ => ⟨o.slots, hk b o q⟩, fun b o q n _ => ?_, fun b o q _ => ⟨o, hk b o q⟩, fun b xs q => kp b _ q, fun b o u q => kp b _ q, fun b ps q => ⟨#[], by rw [kp b _ q]; simp⟩⟩ (fun b u q => ?_) I.bare fun b z => by simp at z
  · obtain ⟨z1, z2⟩ := low b o q
    rw [off b z1 z2]
    exact n
  · by_cases hb : b ∈ as
    · obtain ⟨j, pk, e1, e2, e3⟩ := LiI.paired_ix atP hb
      rw [e3] at q
      cases q
      obtain ⟨pv, f1, f3⟩ := hG.pairs j b e1
      rw [List.getElem?_zip_eq_some] at e2 f1
      obtain ⟨g1, g2⟩ := e2
      obtain ⟨k1, k2⟩ := f1
      obtain ⟨x1, m1, r1⟩ := LiI.paired_get kx g1
      obtain ⟨x2, m2, r2⟩ := LiI.paired_get ky g2
      rw [k1] at m1
      rw [k2] at m2
      cases m1
      cases m2
      exact ⟨by show 2 ≤ sizeLine; decide, [pv.1, pv.2], .cons r1 (.cons r2 .nil), ⟨_, f3, rfl, _, rfl⟩⟩
    · by_cases hb2 : b = S
      · rw [hb2] at q ⊢
        rw [eS] at q
        cases q
        refine ⟨by rw [List.length_map]; omega, acc.toList, c, by rw [hacc]; exact LiI.vals_refs as, ?_⟩
        rw [Array.toArray_toList]
        exact hS
      · rw [off b hb hb2] at q
        exact (I.hok b u q).stay (fun d v _ y => hk d v y) (fun d y => kp d _ y) fun d xs y => kp d _ y
def tListZip (K : PySem.W.Frag) (ta : TA) : TE := fun σ H Q => ta σ H fun vs H1 => ∃ (a b : Addr) (xs ys : List V), vs = [.ref a, .ref b] ∧ SqL K H1 a xs ∧ SqT K H1 b ys ∧
  ∀ (H' : Hp) (p : Addr) (ts : List Addr), ZipLaid H1 H' p ts (xs.zip ys) → Q (.ref p) H'
theorem pe_listZip {X : Cx} {e e2 : Expr} {ta : TA} {p p2 q pos : Pos} (hc : X.calm = true) (hgl : Gl X "list") (hml : X.mg "list" = none) (hg : Gl X "zip") (hm : X.mg "zip" = none) (ha : PA X [e, e2] ta)
    (na : starEach [.Call (.Name "zip" p2) [e, e2] [] q] X.env = (false, eval (.Call (.Name "zip" p2) [e, e2] [] q) X.env) :: starEach [] X.env := by rfl)
    (hs : starEach [e, e2] X.env = (false, eval e X.env) :: starEach [e2] X.env := by rfl) (hpl : (backTo q (starEach [e2] X.env)).any (·.1) = false := by rfl) :
    PE X (.Call (.Name "list" p) [.Call (.Name "zip" p2) [e, e2] [] q] [] pos) (tListZip X.K ta) := by
  refine ⟨fun pins s σ H Q I h => ?_⟩
  refine Call_ (ld_blt I hgl hml (show bootBuiltins "list" = some (.type "list") by decide +kernel) ?_)
  refine PyProof.Rows.callWith_type1 (PyProof.Rows.args_cons ?_ na) na rfl
  refine Call_ (ld_blt I hg hm PyProof.Rows.boot_zip (PyProof.Rows.callWith_type1 (thn (ha.run q pins s σ H _ I h) fun us s1 ⟨vs, H1, I1, r1, q1⟩ => ?_) hs hpl))
  obtain ⟨a, b, xs, ys, ex, hqx, hqy, k⟩ := q1
  subst ex
  cases r1 with
  | cons r rr =>
    cases rr with
    | cons r' rr =>
      cases rr
      cases r
      cases r'
      obtain ⟨its, rv, p1, zb⟩ := I1.list hqx
      obtain ⟨its2, rv2, pt, zb2⟩ := I1.tuple hqy
      obtain ⟨o2, ho2, _⟩ := id pt
      have la : a < s1.heap.objs.size := p1.lt
      have lb : b < s1.heap.objs.size := Heap.lt_size ho2
      refine call_zipM p1.isList (show s1.heap.IsTuple b its2.toArray from pt) fun h' hz hTI hTO h1 h2 hsz hk => PyProof.Rows.args_nil ?_
      have D := PySem.W.ktu_apart s1.heap.objs.size a b la lb
      have bel : ∀ c o, s1.heap.get? c = some o → c ≠ s1.heap.objs.size + 4 ∧ c ≠ s1.heap.objs.size + 3 ∧ c ≠ s1.heap.objs.size ∧ c ≠ s1.heap.objs.size + 1 := fun c o e => by
        have w : c < s1.heap.objs.size := Heap.lt_size e
        exact ⟨Nat.ne_of_lt (Nat.lt_add_right 4 w), Nat.ne_of_lt (Nat.lt_add_right 3 w), Nat.ne_of_lt w, Nat.ne_of_lt (Nat.lt_add_right 1 w)⟩
      refine zx_call (s := { s1 with heap := h' }) (ho := s1.heap) (I1.ok.hd hc) D (sideL (xs := its.toArray) D.l1i1) (sideT (xs := its2.toArray) D.l2i2) hz hTI hTO ⟨h1, list_near p1.isList fun o e => hk _ o e⟩ ⟨h2, tuple_near pt fun o e => hk _ o e⟩ ⟨by rw [hsz]; exact Nat.lt_add_right 5 la, by rw [hsz]; exact Nat.lt_add_right 5 lb⟩
        ?_ bel hk fun h'' acc c as kk hS hl hG hacc => ?_
      · show (its.toArray.toList.zip its2.toArray.toList).length ≤ sizeLine
        rw [List.length_zip]
        have := rv.length
        simp
        omega
      · have q5 : s1.heap.objs.size ≤ h'.objs.size := by rw [hsz]; omega
        obtain ⟨H', zl, J⟩ := pairs_laid I1 (by have := rv.length; omega) rv rv2 q5 kk hS hl hG hacc
        exact ⟨.ref h'.objs.size, H', J, rfl, k H' _ as zl⟩
end G

set_option Elab.async false
set_option linter.all false
set_option maxRecDepth 100000
set_option maxHeartbeats 4000000
namespace G
open PySem PySem.Spec PyProof.Rows L2 Evl
/-- a loop over zip of a list and a tuple of one length -/
theorem for_zipM {K : PySem.W.Frag} {a b : Addr} {xs ys : List V} {g : TG} {tb : TS} {D : Ends} {σ : L2.St} {H : Hp} (hl : xs.length = ys.length) (Pv : Nat → L2.St → Hp → Prop) (h0 : Pv 0 σ H) (hq : ∀ i σ H, Pv i σ H → SqL K H a xs ∧ SqT K H b ys)
    (hs : ∀ (i : Nat) (x y : V) (T : Addr) (σ : L2.St) (H : Hp), xs[i]? = some x → ys[i]? = some y → Pv i σ H → H T = none → g (.ref T) σ (upd H T (.tup [x, y])) fun σ2 H2 => tb { D with nx := Pv (i + 1), ct := Pv (i + 1), bk := D.nx } σ2 H2) (hd : ∀ σ H, Pv xs.length σ H → D.nx σ H) :
    ∃ W : Nat → Nat → L2.St → Hp → Prop, (∃ m, W 0 m σ H) ∧ ∀ i m σ H, W i m σ H →
      ((Itm K a b).stop i H ∧ D.nx σ H) ∨ ((Itm K a b).go i H ∧ ∃ N : L2.St → Hp → Prop, (∀ σ' H', N σ' H' → ∃ m', m' < m ∧ W (i + 1) m' σ' H') ∧ ∀ v H', (Itm K a b).yld i H v H' → g v σ H' fun σ2 H2 => tb { D with nx := N, ct := N, bk := D.nx } σ2 H2) := by
  refine ⟨fun i m σ H => m = xs.length - i ∧ i ≤ xs.length ∧ Pv i σ H, ⟨xs.length, rfl, Nat.zero_le _, h0⟩, ?_⟩
  rintro i m σ H ⟨rfl, hi, p⟩
  obtain ⟨qx, qy⟩ := hq i σ H p
  by_cases hlt : i < xs.length
  · have hx : xs[i]? = some xs[i] := List.getElem?_eq_getElem hlt
    have hlt2 : i < ys.length := by omega
    have hy : ys[i]? = some ys[i] := List.getElem?_eq_getElem hlt2
    refine .inr ⟨⟨xs, ys, _, _, qx, qy, hx, hy⟩, Pv (i + 1), fun σ' H' p' => ⟨xs.length - (i + 1), by omega, rfl, hlt, p'⟩, fun v H' y => ?_⟩
    obtain ⟨T, x', y', rfl, hT, rfl, f1, f2⟩ := y
    exact hs i x' y' T σ H (f1 xs qx) (f2 ys qy) p hT
  · have e : i = xs.length := by omega
    subst e
    exact .inl ⟨⟨xs, ys, qx, qy, Or.inl (Nat.le_refl _)⟩, hd σ H p⟩
theorem ev_dget {i j : Nat} {σ : L2.St} {H : Hp} {D : Addr} {k : Key} {v : V} {kvs : List (Key × V)} (hi : σ[i]? = some (some (.ref D))) (hj : σ[j]? = some (some (kV k))) (hD : H D = some (.dK kvs)) (hv : valV kvs k = some v) : Ev (tDGet (tVar i) (tVar j)) σ H v := fun H1 e Q q => by
  have g := DGet.k (k := k) (e _ _ hD)
  rw [hv] at g
  exact ⟨_, hi, _, hj, D, v, rfl, g, q H1 (Ex.refl H1)⟩
def iSq (K : PySem.W.Frag) (tl : TE) : TI := fun σ H R => tl σ H fun x H1 => ∃ a, x = .ref a ∧ (((∃ xs, SqL K H1 a xs) ∧ R (Itl K a) H1) ∨ ((∃ xs, SqT K H1 a xs) ∧ R (Itt K a) H1))
/-- a list or a tuple, walked -/
theorem pi_sq {X : Cx} {K : PySem.W.Frag} {tg l : Expr} {tl : TE} (hK : X.K = K) (hl : PE X l tl) : PI X tg l (iSq K tl) := by
  subst hK
  refine ⟨fun pins s σ H R I h => ?_⟩
  refine thn (hl.run pins s σ H _ I h) fun v s1 ⟨x, H1, I1, r1, q1⟩ => ?_
  obtain ⟨a, e, q1⟩ := q1
  subst e
  cases r1
  rcases q1 with ⟨⟨xs, hq⟩, q⟩ | ⟨⟨xs, hq⟩, q⟩
  · obtain ⟨its, rv, p, hz⟩ := I1.list hq
    refine wpAny_pyIter_list p.isList ?_
    refine ⟨s1.heap.objs.size, [s1.heap.objs.size], _, _, H1, rfl, I1.kept (t' := s1.toks) fun b o e => Heap.get?_push_of_some _ e, turn_list a _, ⟨_, Heap.get?_push_size _ rfl, rfl, rfl⟩, fun b hb => ?_, q⟩
    have e : b = s1.heap.objs.size := by simpa using hb
    subst e
    exact I1.fpOk (Nat.le_refl _) (I1.hok.fresh (Nat.le_refl _))
  · obtain ⟨its, rv, p, hz⟩ := I1.tuple hq
    refine wpAny_pyIter_tuple (show s1.heap.IsTuple a its.toArray from p) ?_
    refine ⟨s1.heap.objs.size, [s1.heap.objs.size], _, _, H1, rfl, I1.kept (t' := s1.toks) fun b o e => Heap.get?_push_of_some _ e, turn_tuple a _, ⟨_, Heap.get?_push_size _ rfl, rfl, rfl⟩, fun b hb => ?_, q⟩
    have e : b = s1.heap.objs.size := by simpa using hb
    subst e
    exact I1.fpOk (Nat.le_refl _) (I1.hok.fresh (Nat.le_refl _))
/-- a loop over a list or a tuple that stays -/
theorem for_sq {K : PySem.W.Frag} {j : Nat} {a : Addr} {xs : List V} {g : TG} {tb : TS} {D : Ends} {σ : L2.St} {H H0 : Hp} (hj : σ[j]? = some (some (.ref a))) (h : SqL K H0 a xs ∨ SqT K H0 a xs) (e : Ex H0 H) (Pv : Nat → L2.St → Hp → Prop) (h0 : Pv 0 σ H) (hG : ∀ i σ H, Pv i σ H → Ex H0 H)
    (hs : ∀ i x σ H, xs[i]? = some x → Pv i σ H → g x σ H fun σ2 H2 => tb { D with nx := Pv (i + 1), ct := Pv (i + 1), bk := D.nx } σ2 H2) (hd : ∀ σ H, Pv xs.length σ H → D.nx σ H) : tFor (iSq K (tVar j)) g tb D σ H := by
  rcases h with h | h
  · exact ⟨_, hj, a, rfl, .inl ⟨⟨_, ex_l e h⟩, for_it walk_list Pv h0 (fun i σ H _ p => ex_l (hG i σ H p) h) (fun i x σ H H' _ p y => by obtain ⟨rfl, y⟩ := y; exact hs i x σ _ y p) hd⟩⟩
  · exact ⟨_, hj, a, rfl, .inr ⟨⟨_, ex_t e h⟩, for_it walk_tup Pv h0 (fun i σ H _ p => ex_t (hG i σ H p) h) (fun i x σ H H' _ p y => by obtain ⟨rfl, y⟩ := y; exact hs i x σ _ y p) hd⟩⟩
end G

set_option Elab.async false
set_option linter.all false
set_option maxRecDepth 100000
set_option maxHeartbeats 8000000
namespace W
open PySem PySem.Spec PyProof.Rows L2 Evl G
/-- all but p stays -/
def ExBut (p : Addr) (H H' : Hp) : Prop := ∀ b o, H b = some o → b ≠ p → H' b = some o
theorem ExBut.refl (p : Addr) (H : Hp) : ExBut p H H := fun _ _ e _ => e
theorem ExBut.trans {p : Addr} {H H1 H2 : Hp} (a : ExBut p H H1) (b : ExBut p H1 H2) : ExBut p H H2 := fun c o e n => b c o (a c o e n) n
theorem ExBut.of {p : Addr} {H H' : Hp} (e : Ex H H') : ExBut p H H' := fun b o h _ => e b o h
theorem ExBut.upd {p : Addr} {H : Hp} {o : HO} : ExBut p H (upd H p o) := fun b u e n => by rw [upd_ne n]; exact e
theorem ExBut.mut {p b : Addr} {H H' : Hp} {o : HO} (e : ExBut p H H') (h : H b = none) : ExBut p H (L2.upd H' b o) := fun a u ha n => by
  rw [upd_ne fun z => by rw [z, h] at ha; cases ha]
  exact e a u ha n
theorem ExBut.fresh {p b : Addr} {H H' : Hp} (e : ExBut p H H') (h : H' b = none) (n : b ≠ p) : H b = none := by
  cases q : H b with
  | none => rfl
  | some o =>
    rw [e _ _ q n] at h
    cases h
/-- no list or tuple stands at p -/
def Apart (H : Hp) (p : Addr) : Prop := ∀ u, H p = some u → (∀ xs, u ≠ .lst xs) ∧ (∀ xs, u ≠ .tup xs) ∧ ∀ o v, u ≠ .frz o v
theorem apart_ins {H : Hp} {p C dx : Addr} {fs : List (Str × V)} (h : H p = some (.ins C dx fs)) : Apart H p := fun u e => by
  rw [h] at e
  cases e
  exact ⟨(fun _ z => by cases z), (fun _ z => by cases z), (fun _ _ z => by cases z)⟩
section
variable {K : PySem.W.Frag} {H H' : Hp} {p a : Addr} {xs : List V}
theorem but_st (hp : Apart H p) (e : ExBut p H H') (h : SqT K H a xs) : SqT K H' a xs := by
  rcases h with (h | ⟨q, h⟩) | h
  · exact .inl (.inl (e _ _ h fun z => (hp _ (z ▸ h)).2.1 _ rfl))
  · exact .inl (.inr ⟨q, e _ _ h fun z => (hp _ (z ▸ h)).2.2 _ _ rfl⟩)
  · exact .inr h
theorem but_sl (hp : Apart H p) (e : ExBut p H H') (h : SqL K H a xs) : SqL K H' a xs := by
  rcases h with (h | ⟨q, h⟩) | h
  · exact .inl (.inl (e _ _ h fun z => (hp _ (z ▸ h)).1 _ rfl))
  · exact .inl (.inr ⟨q, e _ _ h fun z => (hp _ (z ▸ h)).2.2 _ _ rfl⟩)
  · exact .inr h
mutual
theorem but_dp (hp : Apart H p) (e : ExBut p H H') : ∀ {d : PyData} {x : V}, Dp K H x d → Dp K H' x d
  | .none, _, h => by cases h; exact .non
  | .bool b, _, h => by cases h; exact .bl b
  | .int i, _, h => by cases h; exact .int i
  | .str z, _, h => by cases h; exact .str z
  | .list ds, _, h => by
    cases h with
    | lst hs a => exact .lst (but_sl hp e hs) (but_dpAll hp e a)
  | .tuple ds, _, h => by
    cases h with
    | tup hs a => exact .tup (but_st hp e hs) (but_dpAll hp e a)
  | .dict _, _, h => by cases h
theorem but_dpAll (hp : Apart H p) (e : ExBut p H H') : ∀ {ds : List PyData} {xs : List V}, DpAll K H xs ds → DpAll K H' xs ds
  | [], _, h => by cases h; exact .nil
  | d :: ds, _, h => by
    cases h with
    | cons a b => exact .cons (but_dp hp e a) (but_dpAll hp e b)
end
end
section
variable {K : PySem.W.Frag} {H : Hp}
theorem dp_nth {α : Type} {f : α → PyData} : ∀ {gs : List α} {xs : List V} {i : Nat} {x : V}, DpAll K H xs (gs.map f) → xs[i]? = some x → ∃ g, gs[i]? = some g ∧ Dp K H x (f g)
  | [], _, i, x, h, e => by cases h; simp at e
  | g :: gs, _, 0, x, h, e => by
    cases h with
    | cons a b =>
      simp at e
      subst e
      exact ⟨g, rfl, a⟩
  | g :: gs, _, i + 1, x, h, e => by
    cases h with
    | cons a b =>
      obtain ⟨g', e1, e2⟩ := dp_nth (i := i) (x := x) b (by simpa using e)
      exact ⟨g', by simpa using e1, e2⟩
theorem dp_len {α : Type} {f : α → PyData} {gs : List α} {xs : List V} (h : DpAll K H xs (gs.map f)) : xs.length = gs.length := by
  rw [dpAll_len h, List.length_map]
end

theorem list_of {K : PySem.W.Frag} {H : Hp} {x : V} {ds : List PyData} (h : Dp K H x (.list ds)) : ∃ b xs, x = .ref b ∧ SqL K H b xs ∧ DpAll K H xs ds := by
  cases h with
  | @lst a xs _ hs ha => exact ⟨a, xs, rfl, hs, ha⟩
end W

set_option Elab.async false
set_option linter.all false
set_option maxRecDepth 100000
set_option maxHeartbeats 8000000
namespace W
open PySem PySem.Spec PyProof.Rows L2 Evl G
/-- a pot stands at p -/
def Pot (H : Hp) (p : Addr) : Prop := ∃ a b : Int, H p = some (.lst [.int a, .int b]) ∧ 0 ≤ a ∧ 0 ≤ b ∧ b < 4294967296
theorem Pot.ex {H H' : Hp} {p : Addr} (h : Pot H p) (e : Ex H H') : Pot H' p := by
  obtain ⟨a, b, h, r⟩ := h
  exact ⟨a, b, e _ _ h, r⟩
def spPot (K : PySem.W.Frag) : Sp := fun vs H Q _ => ∃ (a : Addr) (ns : List Int) (k : Int), vs = [.ref a, .int k] ∧ 0 ≤ k ∧ k ≤ 2 ∧ SqL K H a (ns.map V.int) ∧ ns.length ≤ 1000 ∧ ∀ p H', H p = none → Ex H H' → Pot H' p → Q (.ref p) H'
def spDraw : Sp := fun vs H Q _ => ∃ (p : Addr) (m : Int), vs = [.ref p, .int m] ∧ Pot H p ∧ 0 < m ∧ m ≤ 1000 ∧ ∀ (r : Int) (H' : Hp), 0 ≤ r → r < m → ExBut p H H' → Pot H' p → Q (.int r) H'
def spPickL (K : PySem.W.Frag) : Sp := fun vs H Q _ => ∃ (p l : Addr) (xs : List V), vs = [.ref p, .ref l] ∧ Pot H p ∧ SqL K H l xs ∧ l ≠ p ∧ xs ≠ [] ∧ xs.length ≤ 100 ∧ ∀ v H', v ∈ xs → ExBut p H H' → Pot H' p → Q v H'
section
variable {P : Program} {w : World} {K : PySem.W.Frag} {mg : Str → Option Value} {base : Heap}
theorem scPot : FnScope ["_law_script", "_law_k", "_law_seed"] ["_law_script", "_law_k"] (defScope dPot) := ⟨rfl, rfl, rfl, by decide +kernel, rfl, by decide +kernel, by decide +kernel⟩
theorem okPot {f : Addr} {fd : FuncData} (F : At K mg "_law_pot" dPot ["_law_script", "_law_k"] f fd) (T : Txt K mg) : FnOk P w K mg base CX0 1 f fd ["_law_script", "_law_k"] (spPot K) := by
  refine F.fn.ok scPot (fun vs H Q E h => ?_) (fun cdv A outer s H vs Q E hr h => ?_)
  · obtain ⟨x, d, k, rfl, _⟩ := h
    rfl
  · obtain ⟨a, ns, k, rfl, k0, k2, hs, hl, kk⟩ := h
    have cell : ∀ c : Int, ∀ p, H p = none → Q (.ref p) (upd H p (.lst [.int (if c - 10 ^ (18 : Int).toNat > 0 then c - 10 ^ (18 : Int).toNat else 0), .int ((c % 2147483549 + 5) * (2 * k + 7) ^ (3 : Int).toNat % 2147483477 + 1)])) := by
      intro c p hp
      refine kk p _ hp (Ex.new hp) ⟨_, _, upd_same, ?_, ?_, ?_⟩
      · by_cases q : c - 10 ^ (18 : Int).toNat > 0
        · rw [if_pos q]; omega
        · rw [if_neg q]; omega
      · have := Int.emod_nonneg ((c % 2147483549 + 5) * (2 * k + 7) ^ (3 : Int).toNat) (show (2147483477 : Int) ≠ 0 by decide)
        omega
      · have := Int.emod_lt_of_pos ((c % 2147483549 + 5) * (2 * k + 7) ^ (3 : Int).toNat) (show (0 : Int) < 2147483477 by decide)
        omega
    refine ⟨_, pss_cons (ps_set (i := 2) scPot.nd rfl (Or.inl rfl) (pe_op op_add (pe_op op_mul pe_int (pv 1)) pe_int))
      (pss_cons (ps_if (pt_cmpR op_lt (pv 1) (pe_callB call_len_seq (by rfl) T.len PySem.boot_len (pa_cons (pv 0) pa_nil)) (nomark _))
          (pss_one (ps_set (i := 2) scPot.nd rfl (Or.inl rfl) (pe_callB call_abs (by rfl) T.abs (by decide +kernel) (pa_cons (pe_ix ix_list (pv 0) (pv 1) (fun _ _ => rfl)) pa_nil)))) pss_nil)
      (pss_one (ps_ret (pe_lst (pa_cons (pe_callB (call_max2 rfl) (by rfl) T.max (by decide +kernel) (pa_cons pe_int (pa_cons (pe_op op_sub (pv 2) (pe_op op_pow pe_int pe_int)) pa_nil)))
        (pa_cons (pe_op op_add (pe_op op_mod (pe_callTy call_int1 (by rfl) T.int (by decide +kernel) (pa_cons (pe_op op_mul (pe_callTy call_int1 (by rfl) T.int (by decide +kernel) (pa_cons (pe_op op_add (pe_op op_mod (pe_callTy call_int1 (by rfl) T.int (by decide +kernel) (pa_cons (pv 2) pa_nil)) pe_int) pe_int) pa_nil)) (pe_op op_pow (pe_op op_add (pe_op op_mul pe_int (pv 1)) pe_int) pe_int)) pa_nil)) pe_int) pe_int) pa_nil)))))), ?_⟩
    have pw : (2 * k + 7).natAbs < 2 ^ 64 := by omega
    refine ⟨_, rfl, _, _, rfl, rfl, .inl ⟨by decide, by decide⟩, _, _, rfl, rfl, ?_⟩
    refine ⟨_, rfl, _, rfl, a, _, rfl, .inl hs, _, _, rfl, rfl, _, rfl, ?_⟩
    by_cases c : k < (ns.length : Int)
    · have c1 : decide (k < ((ns.map V.int).length : Int)) = true := decide_eq_true (by rw [List.length_map]; exact c)
      show if decide (k < ((ns.map V.int).length : Int)) = true then _ else _
      rw [c1]
      obtain ⟨j, rfl⟩ : ∃ j : Nat, k = (j : Int) := ⟨k.toNat, by omega⟩
      have hj : j < ns.length := by omega
      have e1 : atI (ns.map V.int) (j : Int) = some (.int ns[j]) := atI_nat (by rw [List.getElem?_map, List.getElem?_eq_getElem hj]; rfl)
      refine iteT ⟨_, rfl, _, rfl, a, _, (j : Int), _, rfl, rfl, hs, e1, ns[j], rfl, ?_⟩
      exact ⟨_, rfl, _, _, rfl, rfl, ⟨by decide, by decide, by decide⟩, _, _, rfl, rfl, _, _, rfl, _, rfl, .inl ⟨_, rfl, _, _, rfl, rfl, (by show (0 : Int) < 2147483549; decide), _, _, rfl, rfl, .inl ⟨_, rfl, _, rfl, _, _, rfl, rfl, .inl ⟨by decide, by decide⟩, _, _, rfl, rfl,
        _, _, rfl, rfl, ⟨by decide, by decide, pw⟩, _, _, rfl, rfl, .inl ⟨by have := Int.emod_nonneg ((if ns[j] < 0 then -ns[j] else ns[j])) (show (2147483549 : Int) ≠ 0 by decide); omega, by have := Int.emod_lt_of_pos ((if ns[j] < 0 then -ns[j] else ns[j])) (show (0 : Int) < 2147483549 by decide); omega⟩,
        .inl ⟨_, rfl, _, _, rfl, rfl, (by show (0 : Int) < 2147483477; decide), _, _, rfl, rfl, (by show 2 ≤ sizeLine; decide), fun p hp => cell _ p hp⟩⟩⟩⟩
    · have c1 : decide (k < ((ns.map V.int).length : Int)) = false := decide_eq_false (by rw [List.length_map]; exact c)
      show if decide (k < ((ns.map V.int).length : Int)) = true then _ else _
      rw [c1]
      refine iteF ?_
      exact ⟨_, rfl, _, _, rfl, rfl, ⟨by decide, by decide, by decide⟩, _, _, rfl, rfl, _, _, rfl, _, rfl, .inl ⟨_, rfl, _, _, rfl, rfl, (by show (0 : Int) < 2147483549; decide), _, _, rfl, rfl, .inl ⟨_, rfl, _, rfl, _, _, rfl, rfl, .inl ⟨by decide, by decide⟩, _, _, rfl, rfl,
        _, _, rfl, rfl, ⟨by decide, by decide, pw⟩, _, _, rfl, rfl, .inl ⟨by have := Int.emod_nonneg (19 * k + 23) (show (2147483549 : Int) ≠ 0 by decide); omega, by have := Int.emod_lt_of_pos (19 * k + 23) (show (0 : Int) < 2147483549 by decide); omega⟩,
        .inl ⟨_, rfl, _, _, rfl, rfl, (by show (0 : Int) < 2147483477; decide), _, _, rfl, rfl, (by show 2 ≤ sizeLine; decide), fun p hp => cell _ p hp⟩⟩⟩⟩
theorem scDraw : FnScope ["_law_pot_here", "_law_faces", "_law_digit"] ["_law_pot_here", "_law_faces"] (defScope dDraw) := ⟨rfl, rfl, rfl, by decide +kernel, rfl, by decide +kernel, by decide +kernel⟩
theorem okDraw {f : Addr} {fd : FuncData} (F : At K mg "_law_draw" dDraw ["_law_pot_here", "_law_faces"] f fd) (T : Txt K mg) : FnOk P w K mg base CX0 1 f fd ["_law_pot_here", "_law_faces"] spDraw := by
  refine F.fn.ok scDraw (fun vs H Q E h => ?_) (fun cdv A outer s H vs Q E hr h => ?_)
  · obtain ⟨x, d, rfl, _⟩ := h
    rfl
  · obtain ⟨p, m, rfl, ⟨a, b, hp, ha, hb, hb2⟩, hm, hm2, k⟩ := h
    refine ⟨_, pss_cons (ps_if (pt_cmpR op_gt (pe_ix ix_list (pv 0) pe_int (fun _ _ => rfl)) pe_int (nomark _))
        (pss_cons (ps_asg (pe_callB call_divmod (by rfl) T.divmod (by decide +kernel) (pa_cons (pe_ix ix_list (pv 0) pe_int (fun _ _ => rfl)) (pa_cons (pv 1) pa_nil)))
            (pg_tup rfl (pgs_cons (pg_sub (pv 0) pe_int set_list) (pgs_cons (pg_name (i := 2) scDraw.nd rfl (.inl rfl)) pgs_nil))))
          (pss_one (ps_ret (pv 2)))) pss_nil)
      (pss_cons (ps_asg (pe_op op_mod (pe_callTy call_int1 (by rfl) T.int (by decide +kernel) (pa_cons (pe_op op_add (pe_op op_mul (pe_ix ix_list (pv 0) pe_int (fun _ _ => rfl)) pe_int) pe_int) pa_nil)) pe_int) (pg_sub (pv 0) pe_int set_list))
      (pss_one (ps_ret (pe_op op_mod (pe_callTy call_int1 (by rfl) T.int (by decide +kernel) (pa_cons (pe_op op_fdiv (pe_op op_mod (pe_callTy call_int1 (by rfl) T.int (by decide +kernel) (pa_cons (pe_op op_mul (pe_ix ix_list (pv 0) pe_int (fun _ _ => rfl)) (pe_ix ix_list (pv 0) pe_int (fun _ _ => rfl))) pa_nil)) pe_int) pe_int) pa_nil)) (pv 1))))), ?_⟩
    have hS : SqL K H p [.int a, .int b] := SqL.of hp
    refine ⟨_, rfl, p, _, _, .int a, rfl, rfl, hS, atI_nat (j := 0) rfl, _, _, rfl, rfl, _, rfl, ?_⟩
    by_cases c : (0 : Int) < a
    · have c1 : decide ((0 : Int) < a) = true := decide_eq_true c
      show if decide ((0 : Int) < a) = true then _ else _
      rw [c1]
      refine iteT ⟨_, rfl, p, _, _, .int a, rfl, rfl, hS, atI_nat (j := 0) rfl, _, rfl, a, m, rfl, ⟨hm, by omega⟩, fun t ht => ?_⟩
      have npt : p ≠ t := ne_of_none hp ht
      have e1 : (upd H t (.tup [.int (a / m), .int (a % m)])) p = some (.lst [.int a, .int b]) := by rw [upd_ne npt]; exact hp
      refine ⟨t, _, rfl, .inl (.inl upd_same), rfl, _, _, rfl, _, rfl, p, _, _, 0, rfl, rfl, e1, rfl, _, _, rfl, rfl, _, rfl, ?_⟩
      refine k (a % m) _ (Int.emod_nonneg _ (by omega)) (Int.emod_lt_of_pos _ hm) (fun x o e n => ?_) ⟨a / m, b, upd_same, ?_, hb, hb2⟩
      · rw [upd_ne n, upd_ne (ne_of_none e ht)]
        exact e
      · exact Int.ediv_nonneg ha (by omega)
    · have c1 : decide ((0 : Int) < a) = false := decide_eq_false c
      show if decide ((0 : Int) < a) = true then _ else _
      rw [c1]
      refine iteF ⟨_, rfl, p, _, _, .int b, rfl, rfl, hS, atI_nat (j := 1) rfl, _, _, rfl, rfl, .inr ⟨by decide, by decide⟩, _, _, rfl, rfl, .inl ⟨_, rfl, _, _, rfl, rfl, (by show (0 : Int) < 2147483579; decide), _, rfl, p, _, _, 1, rfl, rfl, hp, rfl, ?_⟩⟩
      have b0 := Int.emod_nonneg (b * 40009 + 23003) (show (2147483579 : Int) ≠ 0 by decide)
      have b1 := Int.emod_lt_of_pos (b * 40009 + 23003) (show (0 : Int) < 2147483579 by decide)
      have hS2 : SqL K (upd H p (.lst [.int a, .int ((b * 40009 + 23003) % 2147483579)])) p [.int a, .int ((b * 40009 + 23003) % 2147483579)] := SqL.of upd_same
      refine ⟨_, rfl, p, _, _, .int ((b * 40009 + 23003) % 2147483579), rfl, rfl, hS2, atI_nat (j := 1) rfl, _, rfl, p, _, _, .int ((b * 40009 + 23003) % 2147483579), rfl, rfl, hS2, atI_nat (j := 1) rfl, _, _, rfl, rfl, .inl ⟨by omega, by omega⟩,
        .inl ⟨_, rfl, _, _, rfl, rfl, (by show (0 : Int) < 2147483543; decide), _, _, rfl, rfl, ⟨by decide, by decide⟩, .inl ⟨_, rfl, _, rfl, _, _, rfl, rfl, hm, ?_⟩⟩⟩
      exact k _ _ (Int.emod_nonneg _ (by omega)) (Int.emod_lt_of_pos _ hm) ExBut.upd ⟨a, _, upd_same, ha, b0, by omega⟩
theorem scPickL : FnScope ["_law_pot_here", "_law_some"] ["_law_pot_here", "_law_some"] (defScope dPick) := ⟨rfl, rfl, rfl, by decide +kernel, rfl, by decide +kernel, by decide +kernel⟩
theorem but_l {p a : Addr} {H H' : Hp} {xs : List V} (e : ExBut p H H') (n : a ≠ p) (h : SqL K H a xs) : SqL K H' a xs := by
  rcases h with (h | ⟨o, h⟩) | h
  · exact .inl (.inl (e _ _ h n))
  · exact .inl (.inr ⟨o, e _ _ h n⟩)
  · exact .inr h
theorem okPickL {f : Addr} {fd : FuncData} (F : At K mg "_law_pick" dPick ["_law_pot_here", "_law_some"] f fd) (T : Txt K mg) : FnOk P w K mg base CX0 2 f fd ["_law_pot_here", "_law_some"] (spPickL K) := by
  obtain ⟨fB, fdB, FB⟩ := T.draw
  have GB : FnOk P w K mg base CX0 1 fB fdB ["_law_pot_here", "_law_faces"] spDraw := okDraw FB T
  refine F.fn.ok scPickL (fun vs H Q E h => ?_) (fun cdv A outer s H vs Q E hr h => ?_)
  · obtain ⟨p, l, xs, rfl, _⟩ := h
    rfl
  · obtain ⟨p, l, xs, rfl, hp, hl, lp, ne, few, k⟩ := h
    refine ⟨_, pss_one (ps_ret (pe_ix ix_list (pv 1) (pe_call GB hr (by rfl) FB.gl FB.fn.kp FB.bi .nil pass0 (pa_cons (pv 0) (pa_cons (pe_callB call_len_seq (by rfl) T.len PySem.boot_len (pa_cons (pv 1) pa_nil)) pa_nil))) (fun _ _ => rfl))), ?_⟩
    have pos : 0 < xs.length := List.length_pos_iff.mpr ne
    refine ⟨_, rfl, _, rfl, _, rfl, l, _, rfl, .inl hl, p, _, rfl, hp, by omega, by omega, fun r H' r0 r1 e hp' => ?_⟩
    obtain ⟨j, rfl⟩ := Int.eq_ofNat_of_zero_le r0
    have hi : j < xs.length := by omega
    exact ⟨l, xs, (j : Int), xs[j], rfl, rfl, but_l e lp hl, atI_nat (by simp [hi]), k _ H' (List.getElem_mem hi) e hp'⟩
end
/-! ### data that no pot is part of -/
def notI : PyData → Bool | .int _ => false | _ => true
mutual
def npD : PyData → Bool
  | .list ds => ds.all notI && npDs ds
  | .tuple ds => npDs ds
  | _ => true
def npDs : List PyData → Bool
  | [] => true
  | d :: ds => npD d && npDs ds
end
section
variable {K : PySem.W.Frag} {H H' : Hp} {p : Addr}
theorem dpAll_all {q : PyData → Bool} {xs : List V} {ds : List PyData} (h : DpAll K H xs ds) (n : xs.length = 2) (a : ds.all notI = true) (i j : Int) : xs ≠ [.int i, .int j] := by
  rintro rfl
  cases h with
  | cons h1 _ =>
    cases h1
    simp [notI] at a
mutual
theorem p_dp (hp : Pot H p) (e : ExBut p H H') : ∀ {d : PyData} {x : V}, npD d = true → Dp K H x d → Dp K H' x d
  | .none, _, _, h => by cases h; exact .non
  | .bool b, _, _, h => by cases h; exact .bl b
  | .int i, _, _, h => by cases h; exact .int i
  | .str z, _, _, h => by cases h; exact .str z
  | .list ds, _, n, h => by
    cases h with
    | @lst a xs _ hs ha =>
      have n : (ds.all notI && npDs ds) = true := n
      rw [Bool.and_eq_true] at n
      refine .lst ?_ (p_dpAll hp e n.2 ha)
      obtain ⟨i, j, h0, _⟩ := hp
      have ne : ∀ i j : Int, xs ≠ [.int i, .int j] := fun i j q => by
        subst q
        cases ha with
        | cons h1 _ =>
          cases h1
          simp [notI] at n
      rcases hs with (hs | ⟨o, hs⟩) | hs
      · refine .inl (.inl (e _ _ hs fun q => ?_))
        rw [q, h0] at hs
        cases hs
        exact ne i j rfl
      · refine .inl (.inr ⟨o, e _ _ hs fun q => ?_⟩)
        rw [q, h0] at hs
        cases hs
      · exact .inr hs
  | .tuple ds, _, n, h => by
    cases h with
    | @tup a xs _ hs ha =>
      refine .tup ?_ (p_dpAll hp e n ha)
      obtain ⟨i, j, h0, _⟩ := hp
      rcases hs with (hs | ⟨o, hs⟩) | hs
      · refine .inl (.inl (e _ _ hs fun q => ?_))
        rw [q, h0] at hs
        cases hs
      · refine .inl (.inr ⟨o, e _ _ hs fun q => ?_⟩)
        rw [q, h0] at hs
        cases hs
      · exact .inr hs
  | .dict _, _, _, h => by cases h
theorem p_dpAll (hp : Pot H p) (e : ExBut p H H') : ∀ {ds : List PyData} {xs : List V}, npDs ds = true → DpAll K H xs ds → DpAll K H' xs ds
  | [], _, _, h => by cases h; exact .nil
  | d :: ds, _, n, h => by
    have n : (npD d && npDs ds) = true := n
    rw [Bool.and_eq_true] at n
    cases h with
    | cons a b => exact .cons (p_dp hp e n.1 a) (p_dpAll hp e n.2 b)
end
theorem npDs_map {α : Type} {f : α → PyData} (h : ∀ a, npD (f a) = true) : ∀ l : List α, npDs (l.map f) = true
  | [] => rfl
  | a :: l => by
    show (npD (f a) && npDs (l.map f)) = true
    rw [h a, npDs_map h l]
    rfl
theorem all_notI {α : Type} {f : α → PyData} (h : ∀ a, notI (f a) = true) (l : List α) : (l.map f).all notI = true := by
  rw [List.all_map, List.all_eq_true]
  exact fun a _ => h a
theorem np_list {α : Type} {f : α → PyData} (h : ∀ a, notI (f a) = true) (h2 : ∀ a, npD (f a) = true) (l : List α) : npD (.list (l.map f)) = true := by
  show ((l.map f).all notI && npDs (l.map f)) = true
  rw [all_notI h, npDs_map h2]
  rfl
theorem pot_ne {u : HO} {b : Addr} (hp : Pot H p) (h : H b = some u) (n : ∀ xs, u ≠ .lst xs) : b ≠ p := fun q => by
  obtain ⟨i, j, h0, _⟩ := hp
  rw [q, h0] at h
  exact n _ (Option.some.inj h).symm
end
theorem lc_draws {te : TE} {σ : L2.St} {j : Nat} {H : Hp} {D p : Addr} {n : Nat} {A : V → Prop} {Qd : Hp → Prop} (hn : n ≤ 1000) (hp : Pot H p) (nD : H D = none)
    (ht : ∀ (i : Nat) (Hx : Hp) (Q : VK), i < n → ExBut p H Hx → Pot Hx p → (∀ v H', A v → ExBut p Hx H' → Pot H' p → Q v H') → te ((wipe σ [j]).set j (some (.int ((0 : Int) + (i : Int))))) Hx Q)
    (hd : ∀ H' vs, ExBut p H H' → Pot H' p → H' D = some (.lst vs) → vs.length = n → (∀ v ∈ vs, A v) → Qd H') : LcG (Itr 0 n) j te σ H D Qd := by
  have pD : D ≠ p := fun q => by
    obtain ⟨x, y, z, _⟩ := hp
    rw [q, z] at nD
    cases nD
  refine lc_it (g := gName j) (tt := tYes) (te := te) (vs := [j]) (σ := σ) walk_range (fun i Hc => ExBut p H Hc ∧ Pot Hc p ∧ ∃ vs, Hc D = some (.lst vs) ∧ vs.length = i ∧ ∀ v ∈ vs, A v) ⟨ExBut.of (Ex.new nD), hp.ex (Ex.new nD), [], upd_same, rfl, fun v h => by cases h⟩ (fun i Hc _ _ => trivial) (fun i x Ha Hb hi q yy => ?_) (fun Hc q => ?_)
  · obtain ⟨rfl, rfl⟩ := yy
    obtain ⟨e, hpc, vs, hD, lv, av⟩ := q
    refine ⟨wipe_set σ j _, ?_⟩
    refine ht i Hb _ hi e hpc fun v H' hv e2 hp2 => ⟨vs, e2 _ _ hD pD, Nat.lt_of_le_of_lt (show _ ≤ 1000 by omega) (by decide), ?_, ?_, vs ++ [v], upd_same, by rw [List.length_append, lv]; rfl, fun y hy => ?_⟩
    · intro b o hb n
      rw [upd_ne (fun q => by rw [q, nD] at hb; cases hb)]
      exact e2 _ _ (e _ _ hb n) n
    · obtain ⟨x, y, z, w⟩ := hp2
      exact ⟨x, y, by rw [upd_ne (Ne.symm pD)]; exact z, w⟩
    · rcases List.mem_append.mp hy with hy | hy
      · exact av y hy
      · rw [List.mem_singleton.mp hy]
        exact hv
  · obtain ⟨e, hpc, vs, hD, lv, av⟩ := q
    exact hd Hc vs e hpc hD lv av
end W

set_option Elab.async false
set_option linter.all false
set_option maxRecDepth 100000
set_option maxHeartbeats 8000000
/-! Machines as data, and what their maker looks at. -/
namespace W
open PySem PySem.Spec PyProof.Rows L2 Evl G
abbrev Rw := Mm.Rw
def isBt (b : Int) : Prop := b = 0 ∨ b = 1
theorem isBit_of {i : Int} (h : isBt i) : isBit (.int i) = true := by rcases h with rfl | rfl <;> rfl
theorem isCount_nat (n : Nat) : isCount (.int (n : Int)) = true := by
  show decide ((0 : Int) ≤ (n : Int)) = true
  exact decide_eq_true (by omega)
def bitsD (bs : List Int) : PyData := .tuple (bs.map .int)
def goD (g : Mm.Go) : PyData := .tuple [.int (g.1 : Int), bitsD g.2]
def rowL (r : List Mm.Go) : PyData := .list (r.map goD)
def rowT (r : List Mm.Go) : PyData := .tuple (r.map goD)
/-- a goal among n states, with o bits -/
def goOk (n o : Nat) (g : Mm.Go) : Prop := g.1 < n ∧ g.2.length = o ∧ ∀ b ∈ g.2, isBt b
/-- rows of a machine with words of 2 ^ w letters, o bits told -/
structure GoodR (w o : Nat) (rows : Rw) : Prop where
  pos : 0 < rows.length
  few : rows.length ≤ 64
  hw : w ≤ 4
  ho : o ≤ 4
  wide : Mm.Wide rows (2 ^ w)
  go : ∀ r ∈ rows, ∀ g ∈ r, goOk rows.length o g
theorem GoodR.ok {w o : Nat} {rows : Rw} (h : GoodR w o rows) : Mm.Ok rows := ⟨fun s g hg => by
  unfold Mm.rw_ at hg
  rw [List.getD_eq_getElem?_getD] at hg
  cases e : rows[s]? with
  | none => rw [e] at hg; cases hg
  | some r =>
    rw [e] at hg
    exact (h.go r (List.mem_of_getElem? e) g hg).1⟩
section
variable {K : PySem.W.Frag} {H : Hp}
theorem isLetter_bits {bs : List Int} {o : Nat} (h1 : bs.length = o) (h2 : ∀ b ∈ bs, isBt b) : isLetter (bitsD bs) o = true := by
  subst h1
  show (decide ((bs.map PyData.int).length = bs.length) && (bs.map PyData.int).all isBit) = true
  rw [List.length_map, decide_eq_true rfl, Bool.true_and, List.all_map, List.all_eq_true]
  exact fun b hb => isBit_of (h2 b hb)
theorem go_of {x : V} {g : Mm.Go} (h : Dp K H x (goD g)) : ∃ t u, x = .ref t ∧ SqT K H t [.int (g.1 : Int), .ref u] ∧ SqT K H u (g.2.map V.int) := by
  unfold goD bitsD at h
  cases h with
  | @tup t xs _ hs ha =>
    cases ha with
    | cons a b =>
      cases a
      cases b with
      | cons c d =>
        cases d
        cases c with
        | @tup u ys _ hu hy =>
          have : ys = g.2.map V.int := by
            have : ∀ {bs : List Int} {ys : List V}, DpAll K H ys (bs.map .int) → ys = bs.map V.int := by
              intro bs
              induction bs with
              | nil => intro ys q; cases q; rfl
              | cons b bs ih =>
                intro ys q
                cases q with
                | cons q1 q2 => cases q1; rw [ih q2]; rfl
            exact this hy
          subst this
          exact ⟨t, u, rfl, hs, hu⟩
theorem dp_go {t u : Addr} {g : Mm.Go} (h1 : SqT K H t [.int (g.1 : Int), .ref u]) (h2 : SqT K H u (g.2.map V.int)) : Dp K H (.ref t) (goD g) :=
  .tup h1 (.cons (.int _) (.cons (.tup h2 (dpAll_ints _)) .nil))
end
section
variable {P : Program} {w : World} {K : PySem.W.Frag} {mg : Str → Option Value} {base : Heap}
/-! ### widths, numbers -/
def spCWidth (K : PySem.W.Frag) : Sp := fun vs H Q _ => ∃ n : Nat, vs = [.int (n : Int)] ∧ n ≤ 4 ∧ ∀ H', Ex H H' → Q .non H'
theorem scCWidth : FnScope ["width"] ["width"] (defScope dCWidth) := ⟨rfl, rfl, rfl, by decide +kernel, rfl, by decide +kernel, by decide +kernel⟩
theorem okCWidth {f : Addr} {fd : FuncData} (F : At K mg "check_small_width" dCWidth ["width"] f fd) (T : Txt K mg) : FnOk P w K mg base CX0 3 f fd ["width"] (spCWidth K) := by
  obtain ⟨fC, gC, FC⟩ := T.count
  obtain ⟨t, m⟩ := T.gWidth
  have GC : FnOk P w K mg base CX0 2 fC gC ["value"] (spT K isCount) := okCount FC T
  refine F.fn.ok scCWidth (fun vs H Q E h => ?_) (fun cdv A outer s H vs Q E hr h => ?_)
  · obtain ⟨n, rfl, _⟩ := h
    rfl
  · obtain ⟨n, rfl, hn, k⟩ := h
    refine ⟨_, pss_one (ps_if (PW.pt (pw_or (pt_not (pt_val (pe_call GC hr (by rfl) FC.gl FC.fn.kp FC.bi .nil pass0 (pa_cons (pv 0) pa_nil)))) (pw_or1 (pt_cmpR op_gt (pv 0) (pGi rfl m) (nomark _))))) (pss_one ps_never) pss_nil), ?_⟩
    refine rd_t (i := 0) rfl (.dp (.int (n : Int))) fun H1 e1 => ⟨_, rfl, ?_⟩
    rw [isCount_nat]
    refine iteF ⟨_, rfl, _, _, rfl, rfl, _, rfl, ?_⟩
    rw [show decide ((4 : Int) < (n : Int)) = false from decide_eq_false (by omega)]
    exact iteF (k H1 e1)
def spCNumber (K : PySem.W.Frag) : Sp := fun vs H Q _ => ∃ (z : Str) (l : Addr) (xs : List V) (n : Nat), vs = [.str z, .ref l, .int (n : Int)] ∧ SqL K H l xs ∧ xs.length ≤ n ∧ Q .non H
theorem scCNumber : FnScope ["what", "rows", "limit"] ["what", "rows", "limit"] (defScope dCNumber) := ⟨rfl, rfl, rfl, by decide +kernel, rfl, by decide +kernel, by decide +kernel⟩
theorem okCNumber {f : Addr} {fd : FuncData} (F : At K mg "check_number" dCNumber ["what", "rows", "limit"] f fd) (T : Txt K mg) : FnOk P w K mg base CX0 1 f fd ["what", "rows", "limit"] (spCNumber K) := by
  refine F.fn.ok scCNumber (fun vs H Q E h => ?_) (fun cdv A outer s H vs Q E hr h => ?_)
  · obtain ⟨z, l, xs, n, rfl, _⟩ := h
    rfl
  · obtain ⟨z, l, xs, n, rfl, hl, le, k⟩ := h
    refine ⟨_, pss_one (ps_if (pt_cmpR op_gt (pe_callB call_len_seq (by rfl) T.len PySem.boot_len (pa_cons (pv 1) pa_nil)) (pv 2) (nomark _)) (pss_one ps_never) pss_nil), ?_⟩
    refine ⟨_, rfl, l, xs, rfl, .inl hl, _, rfl, _, _, rfl, rfl, _, rfl, ?_⟩
    rw [show decide ((n : Int) < (xs.length : Int)) = false from decide_eq_false (by omega)]
    exact iteF k
/-! ### is_goal -/
def spIsGoal (K : PySem.W.Frag) : Sp := fun vs H Q _ => ∃ (x : V) (g : Mm.Go) (n o : Nat), vs = [x, .int (n : Int), .int (o : Int)] ∧ Dp K H x (goD g) ∧ goOk n o g ∧ o ≤ 4 ∧ ∀ H', Ex H H' → Q (.bl true) H'
abbrev nIsGoal : List Str := ["value", "states", "out_width"]
theorem scIsGoal : FnScope nIsGoal ["value", "states", "out_width"] (defScope dIsGoal) := ⟨rfl, rfl, rfl, by decide +kernel, rfl, by decide +kernel, by decide +kernel⟩
theorem okIsGoal {f : Addr} {fd : FuncData} (F : At K mg "is_goal" dIsGoal ["value", "states", "out_width"] f fd) (T : Txt K mg) : FnOk P w K mg base CX0 4 f fd ["value", "states", "out_width"] (spIsGoal K) := by
  obtain ⟨fC, gC, FC⟩ := T.count
  obtain ⟨fL, gL, FL⟩ := T.letter
  have GC : FnOk P w K mg base CX0 3 fC gC ["value"] (spT K isCount) := (okCount FC T).mono (by decide)
  have GL : FnOk P w K mg base CX0 3 fL gL ["value", "width"] (spW K isLetter) := okLetter FL T
  refine F.fn.ok scIsGoal (fun vs H Q E h => ?_) (fun cdv A outer s H vs Q E hr h => ?_)
  · obtain ⟨x, g, n, o, rfl, _⟩ := h
    rfl
  · obtain ⟨x, g, n, o, rfl, hd, ⟨o1, o2, o3⟩, ho, k⟩ := h
    refine ⟨_, pss_cons (ps_if (PW.pt (pw_or (pt_not (pt_val (pe_callB call_isi (by rfl) T.isinstance (by decide +kernel) (pa_cons (pv 0) (pa_cons (pTy "tuple" (by rfl) T.tuple (by decide +kernel)) pa_nil)))))
        (pw_or1 (pt_cmpR op_ne (pe_callB call_len_seq (by rfl) T.len PySem.boot_len (pa_cons (pv 0) pa_nil)) pe_int (nomark _))))) (pss_one (ps_ret pe_bl)) pss_nil)
      (pss_one (ps_ret (pe_and (pe_call GC hr (by rfl) FC.gl FC.fn.kp FC.bi .nil pass0 (pa_cons (pe_ix ix_tup (pv 0) pe_int (fun _ _ => rfl)) pa_nil))
        (pe_and (pe_cmpR op_lt (pe_ix ix_tup (pv 0) pe_int (fun _ _ => rfl)) (pv 1) (nomark _))
        (pe_one (pe_call GL hr (by rfl) FL.gl FL.fn.kp FL.bi .nil pass0 (pa_cons (pe_ix ix_tup (pv 0) pe_int (fun _ _ => rfl)) (pa_cons (pv 2) pa_nil)))))))), ?_⟩
    obtain ⟨t, u, rfl, ht, hu⟩ := go_of hd
    refine rd_isi (K := K) (i := 0) (T := "tuple") rfl (.dp hd) (kit_T (goD g)) ⟨_, rfl, ?_⟩
    refine iteF ?_
    refine ⟨_, rfl, t, _, rfl, .inr ht, rfl, _, rfl, ?_⟩
    refine iteF ?_
    refine ⟨_, rfl, t, _, 0, .int (g.1 : Int), rfl, rfl, ht, rfl, _, _, rfl, .dp (.int (g.1 : Int)), fun H1 e1 => ⟨_, rfl, ?_⟩⟩
    rw [isCount_nat]
    refine iteT ⟨_, rfl, t, _, 0, .int (g.1 : Int), rfl, rfl, ex_t e1 ht, rfl, _, rfl, _, _, rfl, rfl, _, rfl, ?_⟩
    rw [show decide ((g.1 : Int) < (n : Int)) = true from decide_eq_true (by omega)]
    refine iteT ⟨_, rfl, t, _, 1, .ref u, rfl, rfl, ex_t e1 ht, rfl, _, rfl, _, _, o, rfl, .dp (.tup (ex_t e1 hu) (dpAll_ints g.2)), by omega, fun H2 e2 => ?_⟩
    rw [show isLetter (.tuple (g.2.map .int)) o = true from isLetter_bits o2 o3]
    exact k H2 (e1.trans e2)
end
end W

set_option Elab.async false
set_option linter.all false
set_option maxRecDepth 100000
set_option maxHeartbeats 16000000
namespace W
open PySem PySem.Spec PyProof.Rows L2 Evl G
theorem pi_tupK {X : Cx} {K : PySem.W.Frag} {tg l : Expr} {tl : TE} (hl : PE X l tl) (h : X.K = K := by rfl) : PI X tg l (iTup K tl) := by
  subst h
  exact pi_tup hl
theorem pi_listK {X : Cx} {K : PySem.W.Frag} {tg l : Expr} {tl : TE} (hl : PE X l tl) (h : X.K = K := by rfl) : PI X tg l (iList K tl) := by
  subst h
  exact pi_list hl
theorem pg_tupK {X : Cx} {K : PySem.W.Frag} {es : List Expr} {k : Nat} {t : TGs} {n : Nat} {pos : Pos} (hc : X.calm = true) (h : PGs X es t) (hn : (assignEach es X.env).length = n := by rfl) (hst : (assignEach es X.env).findIdx? (·.1) = none := by rfl) (hK : X.K = K := by rfl) : PG X (.Tuple es k pos) (gTup K n t) := by
  subst hK
  exact pg_tup hc h hn hst
theorem ix_tupK {X : Cx} {K : PySem.W.Frag} (h : X.K = K := by rfl) : IxR X (rIxT K) := by
  subst h
  exact ix_tup
theorem ix_listK {X : Cx} {K : PySem.W.Frag} (h : X.K = K := by rfl) : IxR X (rIxL K) := by
  subst h
  exact ix_list
theorem call_len_seqK {X : Cx} {K : PySem.W.Frag} (h : X.K = K := by rfl) : CallR X (.builtin "len") (fun xs H Q => ∃ p ys, xs = [V.ref p] ∧ (SqL K H p ys ∨ SqT K H p ys) ∧ Q (V.int (ys.length : Nat)) H) := by
  subst h
  exact call_len_seq
/-- the machine of these rows stands at p -/
def fldsM (w o : Nat) (a : Addr) : List (Str × V) := putF "_rows" (.ref a) (putF "_out_width" (.int (o : Int)) (putF "_width" (.int (w : Int)) []))
theorem fldsM_in (w o : Nat) (a : Addr) : (fldsM w o a).lookup ("_width" : Str) = some (.int (w : Int)) ∧ (fldsM w o a).lookup ("_out_width" : Str) = some (.int (o : Int)) ∧ (fldsM w o a).lookup ("_rows" : Str) = some (.ref a) := ⟨rfl, rfl, rfl⟩
def MacAt (K : PySem.W.Frag) (M : Addr) (H : Hp) (p : Addr) (w o : Nat) (rows : Rw) : Prop := ∃ dx a, H p = some (.ins M dx (fldsM w o a)) ∧ Dp K H (.ref a) (.tuple (rows.map rowT)) ∧ GoodR w o rows
theorem MacAt.ex {K : PySem.W.Frag} {M : Addr} {H H' : Hp} {p : Addr} {w o : Nat} {rows : Rw} (h : MacAt K M H p w o rows) (e : Ex H H') : MacAt K M H' p w o rows := by
  obtain ⟨dx, a, h1, h2, h3⟩ := h
  exact ⟨dx, a, e _ _ h1, dp_ex e h2, h3⟩
/-- an item of a list of data -/
theorem dp_item {α : Type} {K : PySem.W.Frag} {H : Hp} {f : α → PyData} {x : V} {gs : List α} (h : Dp K H x (.list (gs.map f))) : ∃ l xs, x = .ref l ∧ SqL K H l xs ∧ xs.length = gs.length ∧ ∀ (i : Nat) (y : V), xs[i]? = some y → ∃ g, gs[i]? = some g ∧ Dp K H y (f g) := by
  obtain ⟨l, xs, rfl, h1, h2⟩ := list_of h
  exact ⟨l, xs, rfl, h1, dp_len h2, fun i y e => dp_nth h2 e⟩
theorem tup_of {α : Type} {K : PySem.W.Frag} {H : Hp} {f : α → PyData} {x : V} {gs : List α} (h : Dp K H x (.tuple (gs.map f))) : ∃ l xs, x = .ref l ∧ SqT K H l xs ∧ DpAll K H xs (gs.map f) := by
  cases h with
  | @tup a xs _ hs ha => exact ⟨a, xs, rfl, hs, ha⟩
theorem all_true (n : Nat) : ((List.range n).map fun _ => true).all id = true := by
  rw [List.all_map, List.all_eq_true]
  exact fun _ _ => rfl
section
variable {P : Program} {w : World} {K : PySem.W.Frag} {mg : Str → Option Value} {base : Heap} {M : Addr}
def spCRows (K : PySem.W.Frag) : Sp := fun vs H Q _ => ∃ (x : V) (n o : Nat) (rows : Rw), vs = [x, .int (n : Int), .int (o : Int)] ∧ Dp K H x (.list (rows.map rowL)) ∧ GoodR n o rows ∧ ∀ H', Ex H H' → Q .non H'
abbrev nCRows : List Str := ["rows", "width", "out_width", "at", "row", "goal"]
theorem scCRows : FnScope nCRows ["rows", "width", "out_width"] (defScope dCRows) := ⟨rfl, rfl, rfl, by decide +kernel, rfl, by decide +kernel, by decide +kernel⟩
theorem okCRows {f : Addr} {fd : FuncData} (F : At K mg "check_machine_rows" dCRows ["rows", "width", "out_width"] f fd) (T : Txt K mg) : FnOk P w K mg base CX0 5 f fd ["rows", "width", "out_width"] (spCRows K) := by
  obtain ⟨fL, gL, FL⟩ := T.lst
  obtain ⟨fG, gG, FG⟩ := T.isGoal
  have GL : FnOk P w K mg base CX0 4 fL gL ["value"] (spT K isList) := (okList FL T).mono (by decide)
  have GG : FnOk P w K mg base CX0 4 fG gG ["value", "states", "out_width"] (spIsGoal K) := okIsGoal FG T
  refine F.fn.ok scCRows (fun vs H Q E h => ?_) (fun cdv A outer s H vs Q E hr h => ?_)
  · obtain ⟨x, n, o, rows, rfl, _⟩ := h
    rfl
  · obtain ⟨x, n, o, rows, rfl, hd, good, k⟩ := h
    have nds := scCRows.nd
    refine ⟨_, pss_cons (ps_if (PW.pt (pw_or (pt_not (pt_val (pe_call GL hr (by rfl) FL.gl FL.fn.kp FL.bi .nil pass0 (pa_cons (pv 0) pa_nil)))) (pw_or1 (pt_cmpR op_eq (pe_callB call_len_seq (by rfl) T.len PySem.boot_len (pa_cons (pv 0) pa_nil)) pe_int (nomark _))))) (pss_one ps_never) pss_nil)
      (pss_one (ps_for PassesOwn.never rfl (pi_enum (by rfl) T.enumerate (pa_cons (pv 0) pa_nil)) (pg_tup rfl (pgs_cons (pg_name (i := 3) nds rfl (Or.inl rfl)) (pgs_cons (pg_name (i := 4) nds rfl (Or.inl rfl)) pgs_nil)))
        (pss_cons (ps_if (PW.pt (pw_or (pt_not (pt_val (pe_call GL hr (by rfl) FL.gl FL.fn.kp FL.bi .nil pass0 (pa_cons (pv 4) pa_nil)))) (pw_or1 (pt_cmpR op_ne (pe_callB call_len_seq (by rfl) T.len PySem.boot_len (pa_cons (pv 4) pa_nil)) (pe_op op_shl pe_int (pv 1)) (nomark _))))) (pss_one ps_never) pss_nil)
        (pss_one (ps_if (pt_not (pt_val (pe_callB (cr_all rfl) (by rfl) T.all (by decide +kernel) (pa_cons (pe_lc (own := [("goal", 5)]) (g := gName 5) (by rfl) nds (pi_list (pv 4)) (blkOk_by (own := [("goal", 5)]) (N := nCRows) (sc := defScope dCRows) (by decide +kernel))
          (fun _ _ _ _ _ => pg_name (i := 5) nds rfl (Or.inl rfl)) (fun _ _ _ _ _ => pts_nil) (fun _ _ _ _ _ => pe_call GG hr (by rfl) FG.gl FG.fn.kp FG.bi .nil pass0 (pa_cons (pv 5) (pa_cons (pe_callB (call_len_seqK (K := K)) (by rfl) T.len PySem.boot_len (pa_cons (pv 0) pa_nil)) (pa_cons (pv 2) pa_nil))))) pa_nil)))) (pss_one ps_never) pss_nil))))), ?_⟩
    refine rd_t (i := 0) rfl (.dp hd) fun H1 e1 => ⟨_, rfl, ?_⟩
    rw [show isList (.list (rows.map rowL)) = true from rfl]
    obtain ⟨l, xs, rfl, hl, len, at_⟩ := dp_item hd
    have pos := good.pos
    have few := good.few
    refine iteF ⟨_, rfl, l, xs, rfl, .inl (ex_l e1 hl), rfl, _, rfl, ?_⟩
    rw [show decide (V.int (xs.length : Int) = V.int 0) = false from decide_eq_false (fun z => by have := V.int.inj z; omega)]
    refine iteF ⟨_, rfl, l, xs, rfl, ex_l e1 hl, for_it walk_enum (fun i σ Hc => (∃ u v z, σ = [some (.ref l), some (.int (n : Int)), some (.int (o : Int)), u, v, z]) ∧ Ex H Hc)
      ⟨⟨_, _, _, rfl⟩, e1⟩ (fun i σ Hc _ p => ex_l p.2 hl) (fun i x σ Ha Hb hi p y => ?_) (fun σ Hc p => k Hc p.2)⟩
    obtain ⟨⟨u, v, z, rfl⟩, eA⟩ := p
    obtain ⟨t, y1, y2, rfl, nt, rfl, z1, z2⟩ := y
    cases z1
    have z2 : xs[i]? = some y2 := z2
    obtain ⟨r, er, dr⟩ := at_ i _ z2
    have eB : Ex Ha (upd Ha t (.tup [.int (i : Nat), y2])) := Ex.new nt
    refine ⟨t, _, rfl, st_of upd_same, rfl, _, _, rfl, _, _, rfl, rfl, ?_⟩
    have dr2 := dp_ex (eA.trans eB) dr
    have hl2 := ex_l (eA.trans eB) hl
    have xx := eA.trans eB
    generalize upd Ha t (.tup [.int (i : Nat), y2]) = Hc at dr2 hl2 xx
    show tSeq _ _ _ [some (.ref l), some (.int (n : Int)), some (.int (o : Int)), some (.int (i : Nat)), some y2, z] _
    refine rd_t (i := 4) rfl (.dp dr2) fun H2 e2 => ⟨_, rfl, ?_⟩
    rw [show isList (rowL r) = true from rfl]
    obtain ⟨l2, xs2, rfl, hl3, len2, at2⟩ := dp_item (f := goD) dr2
    have rin := List.mem_of_getElem? er
    have wide := good.wide r rin
    have hn := good.hw
    have h24 : 2 ^ n ≤ 16 := Nat.pow_le_pow_right (by decide) hn
    refine iteF ⟨_, rfl, l2, xs2, rfl, .inl (ex_l e2 hl3), _, rfl, 1, (n : Int), rfl, rfl, ⟨by omega, by omega, by decide⟩, rfl, _, rfl, ?_⟩
    rw [show decide (V.int (xs2.length : Int) = V.int (1 * 2 ^ ((n : Int)).toNat)) = true from decide_eq_true (by
      rw [len2, wide, Int.toNat_natCast, Int.one_mul, Int.natCast_pow]
      rfl)]
    refine iteF ?_
    refine ⟨_, rfl, l2, rfl, ⟨_, ex_l e2 hl3⟩, fun D new => ?_⟩
    refine lc_pure walk_list (fun _ => .bl true) (by omega) (fun H' e => ex_l (e2.trans e) hl3) (fun i x => xs2[i]? = some x) (fun i Ha x Hb _ _ y => ⟨y.1, y.2⟩) (fun j x hj ex => ?_) new (fun H' e q => ?_)
    · obtain ⟨g, eg, dg⟩ := at2 j x ex
      intro H3 e3 Q1 q1
      refine ⟨x, rfl, _, rfl, l, xs, rfl, .inl (ex_l (e2.trans e3) hl2), _, rfl, x, g, rows.length, o, by rw [len]; rfl, dp_ex (e2.trans e3) dg, good.go r rin g (List.mem_of_getElem? eg), by have := good.ho; omega, q1⟩
    · refine ⟨D, (List.range xs2.length).map fun _ => true, rfl, .inl (.inl (by rw [q, List.map_map]; rfl)), ⟨_, rfl, ?_⟩⟩
      rw [all_true]
      exact iteF ⟨⟨_, _, _, rfl⟩, xx.trans (e2.trans e)⟩
end
end W

set_option Elab.async false
set_option linter.all false
set_option maxRecDepth 100000
set_option maxHeartbeats 16000000
/-! A machine is made. -/
namespace W
open PySem PySem.Spec PyProof.Rows L2 Evl G
/-- tuple(list or tuple) -/
def rTup (K : PySem.W.Frag) : List V → Hp → VK → Prop := fun xs H Q => ∃ p ys, xs = [.ref p] ∧ ((SqL K H p ys ∧ ∀ l, H l = none → Q (.ref l) (upd H l (.tup ys))) ∨ (SqT K H p ys ∧ Q (.ref p) H))
theorem call_tup {Y : Cx} {K : PySem.W.Frag} (h : Y.K = K := by rfl) : CallR Y (.type "tuple") (rTup K) := by
  subst h
  exact call_tuple_of
section
variable {P : Program} {w : World} {K : PySem.W.Frag} {mg : Str → Option Value} {base : Heap} {M : Addr}
def spInit (K : PySem.W.Frag) (M : Addr) : Sp := fun vs H Q _ => ∃ (p dx : Addr) (x : V) (n o : Nat) (rows : Rw), vs = [.ref p, .int (n : Int), .int (o : Int), x] ∧ H p = some (.ins M dx []) ∧ Dp K H x (.list (rows.map rowL)) ∧ GoodR n o rows ∧
  ∀ H', ExBut p H H' → MacAt K M H' p n o rows → Q .non H'
abbrev nInit : List Str := ["self", "width", "out_width", "rows", "row"]
theorem scInit : FnScope nInit ["self", "width", "out_width", "rows"] (defScope (dM 1)) := ⟨rfl, rfl, rfl, by decide +kernel, rfl, by decide +kernel, by decide +kernel⟩
theorem okInit {f : Addr} {fd : FuncData} (F : Fun K "__init__" "Machine.__init__" (dM 1) f fd) (T : Txt K mg) (MT : MacT K mg M) : FnOk P w K mg base CX0 6 f fd ["self", "width", "out_width", "rows"] (spInit K M) := by
  obtain ⟨f1, g1, F1⟩ := T.cWidth
  obtain ⟨f2, g2, F2⟩ := T.cRows
  obtain ⟨f3, g3, F3⟩ := T.cNumber
  obtain ⟨t, hmost⟩ := MT.most
  have G1 : FnOk P w K mg base CX0 5 f1 g1 ["width"] (spCWidth K) := (okCWidth F1 T).mono (by decide)
  have G2 : FnOk P w K mg base CX0 5 f2 g2 ["rows", "width", "out_width"] (spCRows K) := okCRows F2 T
  have G3 : FnOk P w K mg base CX0 5 f3 g3 ["what", "rows", "limit"] (spCNumber K) := (okCNumber F3 T).mono (by decide)
  refine F.ok scInit (fun vs H Q E h => ?_) (fun cdv A outer s H vs Q E hr h => ?_)
  · obtain ⟨p, dx, x, n, o, rows, rfl, _⟩ := h
    rfl
  · obtain ⟨p, dx, x, n, o, rows, rfl, hp, hd, good, k⟩ := h
    have nds := scInit.nd
    refine ⟨_, pss_cons (ps_expr (pe_call G1 hr (by rfl) F1.gl F1.fn.kp F1.bi .nil pass0 (pa_cons (pv 1) pa_nil)))
      (pss_cons (ps_expr (pe_call G1 hr (by rfl) F1.gl F1.fn.kp F1.bi .nil pass0 (pa_cons (pv 2) pa_nil)))
      (pss_cons (ps_expr (pe_call G2 hr (by rfl) F2.gl F2.fn.kp F2.bi .nil pass0 (pa_cons (pv 3) (pa_cons (pv 1) (pa_cons (pv 2) pa_nil)))))
      (pss_cons (ps_expr (pe_call G3 hr (by rfl) F3.gl F3.fn.kp F3.bi .nil pass0 (pa_cons pe_str (pa_cons (pv 3) (pa_cons (ClX.pe_cval (pe_glob (v := .ref M) (by rfl) MT.gl rfl) rfl) pa_nil)))))
      (pss_cons (ps_fld (pv 0) (pv 1) rfl)
      (pss_cons (ps_fld (pv 0) (pv 2) rfl)
      (pss_one (ps_fld (pv 0) (pe_callTy call_tup (by rfl) T.tuple (by decide +kernel) (pa_cons (pe_lc (own := [("row", 4)]) (g := gName 4) (by rfl) nds (pi_list (pv 3)) (blkOk_by (own := [("row", 4)]) (N := nInit) (sc := defScope (dM 1)) (by decide +kernel))
          (fun _ _ _ _ _ => pg_name (i := 4) nds rfl (Or.inl rfl)) (fun _ _ _ _ _ => pts_nil) (fun _ _ _ _ _ => pe_callTy (call_tup (K := K)) (by rfl) T.tuple (by decide +kernel) (pa_cons (pv 4) pa_nil))) pa_nil)) rfl))))))), ?_⟩
    have hn := good.hw
    have ho := good.ho
    obtain ⟨l, xs, rfl, hl, len, at_⟩ := dp_item hd
    have few := good.few
    refine ⟨_, rfl, n, rfl, by omega, fun H1 e1 => ?_⟩
    refine ⟨_, rfl, o, rfl, by omega, fun H2 e2 => ?_⟩
    have x2 := e1.trans e2
    refine ⟨_, rfl, _, rfl, _, rfl, .ref l, n, o, rows, rfl, dp_ex x2 hd, good, fun H3 e3 => ?_⟩
    have x3 := x2.trans e3
    refine ⟨_, rfl, M, _, _, _, rfl, MT.rd, hmost, "states", l, xs, 64, rfl, ex_l x3 hl, by omega, ?_⟩
    have hp3 := x3 _ _ hp
    refine ⟨_, rfl, _, rfl, p, M, dx, _, rfl, hp3, MT.cl, MT.n_width, (by show 0 < 1000; decide), ?_⟩
    have b4 : ExBut p H3 (upd H3 p (.ins M dx (putF "_width" (.int (n : Int)) []))) := ExBut.upd
    have hp4 : (upd H3 p (.ins M dx (putF "_width" (.int (n : Int)) []))) p = some (.ins M dx (putF "_width" (.int (n : Int)) [])) := upd_same
    generalize upd H3 p (.ins M dx (putF "_width" (.int (n : Int)) [])) = H4 at b4 hp4
    refine ⟨_, rfl, _, rfl, p, M, dx, _, rfl, hp4, MT.cl, MT.n_out_width, (by show 1 < 1000; decide), ?_⟩
    have b5 : ExBut p H4 (upd H4 p (.ins M dx (putF "_out_width" (.int (o : Int)) (putF "_width" (.int (n : Int)) [])))) := ExBut.upd
    have hp5 : (upd H4 p (.ins M dx (putF "_out_width" (.int (o : Int)) (putF "_width" (.int (n : Int)) [])))) p = some (.ins M dx (putF "_out_width" (.int (o : Int)) (putF "_width" (.int (n : Int)) []))) := upd_same
    generalize upd H4 p (.ins M dx (putF "_out_width" (.int (o : Int)) (putF "_width" (.int (n : Int)) []))) = H5 at b5 hp5
    have b05 := (ExBut.of x3).trans (b4.trans b5)
    have d5 := but_dp (apart_ins hp) b05 hd
    obtain ⟨l', xs', el, hl5, len5, at5⟩ := dp_item d5
    cases el
    refine ⟨_, rfl, l, rfl, ⟨_, hl5⟩, fun D new => ?_⟩
    -- the rows, each a tuple
    refine lc_it (g := gName 4) (tt := tYes) (vs := [4]) walk_list (fun i Hc => Ex H5 Hc ∧ ∃ ys, Hc D = some (.lst ys) ∧ DpAll K (hid D Hc) ys ((rows.take i).map rowT)) ⟨Ex.new new, [], upd_same, .nil⟩ (fun i Hc _ p => ex_l p.1 hl5) (fun i x Ha Hb hi p yy => ?_) (fun Hc q => ?_)
    · obtain ⟨rfl, ex⟩ := yy
      obtain ⟨eA, ys, hD, dys⟩ := p
      obtain ⟨r, er, dr⟩ := at5 i x ex
      refine ⟨wipe_set _ 4 _, ?_⟩
      obtain ⟨l2, xs2, rfl, hl2, dx2⟩ := list_of dr
      refine ⟨_, rfl, l2, _, rfl, .inl ⟨ex_l eA hl2, fun t nt => ?_⟩⟩
      have tD : t ≠ D := fun z => by rw [z, hD] at nt; cases nt
      have ly : ys.length = i := by
        rw [dp_len dys, List.length_take]
        have := (List.getElem?_eq_some_iff.mp er).1
        omega
      have eT : Ex Hb (upd Hb t (.tup xs2)) := Ex.new nt
      refine ⟨ys, eT _ _ hD, Nat.lt_of_le_of_lt (show _ ≤ 1000 by omega) (by decide), ?_, ys ++ [.ref t], upd_same, ?_⟩
      · exact (eA.trans eT).mut new
      · rw [take_more er, List.map_append]
        have eh : Ex (hid D Hb) (hid D (upd (upd Hb t (.tup xs2)) D (.lst (ys ++ [.ref t])))) := fun b u hb => by
          obtain ⟨n1, n2⟩ := hid_some.mp hb
          exact hid_some.mpr ⟨n1, by rw [upd_ne n1]; exact eT _ _ n2⟩
        refine dpAll_appG (dpAll_ex eh dys) (.cons (.tup (st_of (hid_some.mpr ⟨tD, by rw [upd_ne tD, upd_same]⟩)) ?_) .nil)
        have dxr := dpAll_ex (H' := hid D Hb) (fun b u hb => hid_some.mpr ⟨fun z => (by rw [z, new] at hb; cases hb), eA _ _ hb⟩) dx2
        exact dpAll_ex eh dxr
    · obtain ⟨eC, ys, hD, dys⟩ := q
      refine ⟨D, ys, rfl, .inl ⟨SqL.of hD, fun a na => ?_⟩⟩
      have hpC := eC _ _ hp5
      have eN : Ex Hc (upd Hc a (.tup ys)) := Ex.new na
      refine ⟨_, rfl, p, M, dx, _, rfl, eN _ _ hpC, MT.cl, MT.n_rows, (by show 2 < 1000; decide), ?_⟩
      have b6 : ExBut p H (upd (upd Hc a (.tup ys)) p (.ins M dx (fldsM n o a))) := b05.trans ((ExBut.of (eC.trans eN)).trans ExBut.upd)
      refine k _ b6 ⟨dx, a, upd_same, ?_, good⟩
      have ap : a ≠ p := fun z => by rw [z, hpC] at na; cases na
      have dD : Dp K (upd Hc a (.tup ys)) (.ref a) (.tuple (rows.map rowT)) := .tup (st_of upd_same) (dpAll_ex (fun b u hb => eN _ _ (hid_some.mp hb).2) (by
        have := dys
        rw [List.take_of_length_le (by omega)] at this
        exact this))
      exact but_dp (apart_ins (eN _ _ hpC)) ExBut.upd dD
end
end W

set_option Elab.async false
set_option linter.all false
set_option maxRecDepth 100000
set_option maxHeartbeats 8000000
namespace W
open PySem PySem.Spec PyProof.Rows L2 Evl G
/-! ### data of tuples, texts, numbers alone -/
mutual
def noL : PyData → Bool
  | .tuple ds => noLs ds
  | .list _ => false
  | .dict _ => false
  | _ => true
def noLs : List PyData → Bool
  | [] => true
  | d :: ds => noL d && noLs ds
end
/-- only lists change from H to H' -/
def ExT (H H' : Hp) : Prop := ∀ b o, H b = some o → (∀ xs, o ≠ .lst xs) → H' b = some o
theorem ExT.of {H H' : Hp} (e : Ex H H') : ExT H H' := fun b o h _ => e b o h
theorem ExT.upd {H : Hp} {L : Addr} {xs : List V} {o : HO} (h : H L = some (.lst xs)) : ExT H (upd H L o) := fun b u hb n => by
  rw [upd_ne fun z => by rw [z, h] at hb; cases hb; exact n _ rfl]
  exact hb
section
variable {K : PySem.W.Frag} {H H' : Hp}
theorem t_st (e : ExT H H') {a : Addr} {xs : List V} (h : SqT K H a xs) : SqT K H' a xs := by
  rcases h with (h | ⟨q, h⟩) | h
  · exact .inl (.inl (e _ _ h fun _ z => by cases z))
  · exact .inl (.inr ⟨q, e _ _ h fun _ z => by cases z⟩)
  · exact .inr h
mutual
theorem t_dp (e : ExT H H') : ∀ {d : PyData} {x : V}, noL d = true → Dp K H x d → Dp K H' x d
  | .none, _, _, h => by cases h; exact .non
  | .bool b, _, _, h => by cases h; exact .bl b
  | .int i, _, _, h => by cases h; exact .int i
  | .str z, _, _, h => by cases h; exact .str z
  | .list ds, _, n, h => by cases n
  | .tuple ds, _, n, h => by
    cases h with
    | tup hs a => exact .tup (t_st e hs) (t_dpAll e n a)
  | .dict _, _, _, h => by cases h
theorem t_dpAll (e : ExT H H') : ∀ {ds : List PyData} {xs : List V}, noLs ds = true → DpAll K H xs ds → DpAll K H' xs ds
  | [], _, _, h => by cases h; exact .nil
  | d :: ds, _, n, h => by
    cases h with
    | cons a b =>
      have n : (noL d && noLs ds) = true := n
      rw [Bool.and_eq_true] at n
      exact .cons (t_dp e n.1 a) (t_dpAll e n.2 b)
end
theorem noLs_map {α : Type} {f : α → PyData} (h : ∀ a, noL (f a) = true) : ∀ l : List α, noLs (l.map f) = true
  | [] => rfl
  | a :: l => by
    show (noL (f a) && noLs (l.map f)) = true
    rw [h a, noLs_map h l]
    rfl
theorem dpAll_snoc : ∀ {xs : List V} {ds : List PyData} {x : V} {d : PyData}, DpAll K H xs ds → Dp K H x d → DpAll K H (xs ++ [x]) (ds ++ [d])
  | _, _, _, _, .nil, h => .cons h .nil
  | _, _, _, _, .cons a b, h => .cons a (dpAll_snoc b h)
end
theorem noL_bits (bs : List Int) : noL (bitsD bs) = true := noLs_map (fun _ => rfl) bs
theorem noL_go (g : Mm.Go) : noL (goD g) = true := by
  show (noL (.int (g.1 : Int)) && (noL (bitsD g.2) && true)) = true
  rw [noL_bits]
  rfl
theorem noLs_go (gs : List Mm.Go) : noLs (gs.map goD) = true := noLs_map noL_go gs
theorem Ex.freshW {H H' : Hp} {D : Addr} (e : Ex H H') (h : H' D = none) : H D = none := by
  cases q : H D with
  | none => rfl
  | some o => rw [e _ _ q] at h; cases h
end W

set_option Elab.async false
set_option linter.all false
set_option maxRecDepth 100000
set_option maxHeartbeats 16000000
/-! Words; what a machine says along them. -/
namespace W
open PySem PySem.Spec PyProof.Rows L2 Evl G
def ltr (w j : Nat) : List Int := (bitsL w).getD j []
theorem ltr_all : ∀ w : Fin 5, ∀ j : Fin 16, j.1 < 2 ^ w.1 → (ltr w j).length = w ∧ (ltr w j).all (fun b => b == 0 || b == 1) = true ∧ num (ltr w j) = (j.1 : Int) ∧ (bitsL w)[j.1]? = some (ltr w j) := by decide +kernel
theorem ltr_ok {w j : Nat} (hw : w ≤ 4) (hj : j < 2 ^ w) : (ltr w j).length = w ∧ (∀ b ∈ ltr w j, isBt b) ∧ num (ltr w j) = (j : Int) ∧ (bitsL w)[j]? = some (ltr w j) := by
  have h4 : 2 ^ w ≤ 16 := Nat.pow_le_pow_right (by decide) hw
  obtain ⟨a, b, c, d⟩ := ltr_all ⟨w, by omega⟩ ⟨j, by omega⟩ hj
  refine ⟨a, fun x hx => ?_, c, d⟩
  have := List.all_eq_true.mp b x hx
  simp only [Bool.or_eq_true, beq_iff_eq] at this
  exact this
def wdL (w : Nat) (js : List Nat) : List PyData := js.map fun j => bitsD (ltr w j)
def Ltrs (w : Nat) (js : List Nat) : Prop := (∀ j ∈ js, j < 2 ^ w) ∧ js.length ≤ 100
/-- a word of these letters -/
def IsWd (K : PySem.W.Frag) (H : Hp) (x : V) (w : Nat) (js : List Nat) : Prop := (Dp K H x (.list (wdL w js)) ∨ Dp K H x (.tuple (wdL w js))) ∧ Ltrs w js
theorem IsWd.ex {K : PySem.W.Frag} {H H' : Hp} {x : V} {w : Nat} {js : List Nat} (h : IsWd K H x w js) (e : Ex H H') : IsWd K H' x w js := ⟨h.1.imp (dp_ex e) (dp_ex e), h.2⟩
theorem IsWd.of {K : PySem.W.Frag} {H : Hp} {x : V} {w : Nat} {js : List Nat} (h : IsWd K H x w js) : ∃ a xs, x = .ref a ∧ (SqL K H a xs ∨ SqT K H a xs) ∧ DpAll K H xs (wdL w js) := by
  rcases h.1 with h | h
  · cases h with
    | @lst a xs _ hs ha => exact ⟨a, xs, rfl, .inl hs, ha⟩
  · cases h with
    | @tup a xs _ hs ha => exact ⟨a, xs, rfl, .inr hs, ha⟩
theorem isWord_wd {w : Nat} {js : List Nat} (hw : w ≤ 4) (h : ∀ j ∈ js, j < 2 ^ w) : (wdL w js).all (fun d => isLetter d w) = true := by
  rw [List.all_eq_true]
  intro d hd
  obtain ⟨j, hj, rfl⟩ := List.mem_map.mp hd
  obtain ⟨a, b, _⟩ := ltr_ok hw (h j hj)
  exact isLetter_bits a b
theorem atI_last {α : Type} (xs : List α) (y : α) : atI (xs ++ [y]) (-1) = some y := by
  unfold atI ixN
  have e : (xs ++ [y]).length = xs.length + 1 := by simp
  rw [e]
  rw [if_neg (by decide)]
  by_cases h : -((xs.length + 1 : Nat) : Int) ≤ -1
  · simp only [h, if_true, Option.bind_some]
    have : ((-1 : Int) + ((xs.length + 1 : Nat) : Int)).toNat = xs.length := by omega
    rw [this]
    simp
  · omega
theorem row_at {K : PySem.W.Frag} {H : Hp} {a : Addr} {rows : Rw} {s : Nat} (h : Dp K H (.ref a) (.tuple (rows.map rowT))) (hs : s < rows.length) : ∃ xs b ys, SqT K H a xs ∧ atI xs (s : Int) = some (.ref b) ∧ SqT K H b ys ∧ DpAll K H ys ((Mm.rw_ rows s).map goD) := by
  obtain ⟨l, xs, e, h1, h2⟩ := tup_of h
  cases e
  have hx : s < xs.length := by rw [dp_len h2]; exact hs
  obtain ⟨r, er, dr⟩ := dp_nth h2 (List.getElem?_eq_getElem hx)
  rw [Mm.rw_at hs] at er
  cases er
  obtain ⟨b, ys, e2, h3, h4⟩ := tup_of dr
  exact ⟨xs, b, ys, h1, by rw [atI_nat (j := s) (List.getElem?_eq_getElem hx), e2], h3, h4⟩
theorem goal_at {K : PySem.W.Frag} {H : Hp} {rows : Rw} {n s j : Nat} {ys : List V} (h : DpAll K H ys ((Mm.rw_ rows s).map goD)) (wd : Mm.Wide rows n) (hs : s < rows.length) (hj : j < n) : ∃ y, atI ys (j : Int) = some y ∧ Dp K H y (goD (Mm.go rows s j)) := by
  have e := Mm.go_at wd hs hj
  have hx : j < ys.length := by rw [dp_len h, Mm.rw_len wd hs]; exact hj
  obtain ⟨g, eg, dg⟩ := dp_nth h (List.getElem?_eq_getElem hx)
  rw [e] at eg
  cases eg
  exact ⟨_, atI_nat (j := j) (List.getElem?_eq_getElem hx), dg⟩
section
variable {P : Program} {w : World} {K : PySem.W.Frag} {mg : Str → Option Value} {base : Heap} {M : Addr}
def spCourse (K : PySem.W.Frag) (M : Addr) : Sp := fun vs H Q _ => ∃ (p : Addr) (x : V) (n o : Nat) (rows : Rw) (js : List Nat), vs = [.ref p, x] ∧ MacAt K M H p n o rows ∧ IsWd K H x n js ∧
  ∀ l xs H', Ex H H' → H l = none → H' l = some (.lst xs) → DpAll K H' xs ((Mm.along rows 0 js).map goD) → Q (.ref l) H'
abbrev nCourse : List Str := ["self", "word", "state", "told", "letter"]
theorem scCourse : FnScope nCourse ["self", "word"] (defScope (dM 8)) := ⟨rfl, rfl, rfl, by decide +kernel, rfl, by decide +kernel, by decide +kernel⟩
theorem okCourse {f : Addr} {fd : FuncData} (F : MthT K M "course" "Machine.course" (dM 8) ["self", "word"] f fd) (T : Txt K mg) (MT : MacT K mg M) : FnOk P w K mg base CX0 5 f fd ["self", "word"] (spCourse K M) := by
  obtain ⟨fW, gW, FW⟩ := T.word
  obtain ⟨fN, gN, FN⟩ := T.numberOf
  have GW : FnOk P w K mg base CX0 4 fW gW ["value", "width"] (spWs K isWord) := okWord FW T
  have GN : FnOk P w K mg base CX0 4 fN gN ["bits"] (spNumberOf K) := (okNumberOf FN).mono (by decide)
  refine F.fn.ok scCourse (fun vs H Q E h => ?_) (fun cdv A outer s H vs Q E hr h => ?_)
  · obtain ⟨p, x, n, o, rows, js, rfl, _⟩ := h
    rfl
  · obtain ⟨p, x, n, o, rows, js, rfl, hm, hx, k⟩ := h
    have nds := scCourse.nd
    refine ⟨_, pss_cons (ps_if (pt_not (pt_val (pe_call GW hr (by rfl) FW.gl FW.fn.kp FW.bi .nil pass0 (pa_cons (pv 1) (pa_cons (pe_fld (pv 0) rfl) pa_nil))))) (pss_one ps_never) pss_nil)
      (pss_cons (ps_set (i := 2) nds rfl (Or.inl rfl) pe_int)
      (pss_cons (ps_set (i := 3) nds rfl (Or.inl rfl) (pe_lst pa_nil))
      (pss_cons (ps_for PassesOwn.never rfl (pi_sq rfl (pv 1)) (pg_name (i := 4) nds rfl (Or.inl rfl))
        (pss_cons (ps_expr (pe_bm PySem.F.plainAttrs_list PySem.F.slot_list_append PySem.F.type_list_append mt_append (pv 3) (pa_cons (pe_ix ix_tup (pe_ix ix_tup (pe_fld (pv 0) rfl) (pv 2) (fun _ _ => rfl)) (pe_call GN hr (by rfl) FN.gl FN.fn.kp FN.bi .nil pass0 (pa_cons (pv 4) pa_nil)) (fun _ _ => rfl)) pa_nil)))
        (pss_one (ps_set (i := 2) nds rfl (Or.inl rfl) (pe_ix ix_tup (pe_ix ix_list (pv 3) (pe_un un_neg pe_int) (fun _ _ => rfl)) pe_int (fun _ _ => rfl))))))
      (pss_one (ps_ret (pv 3)))))), ?_⟩
    obtain ⟨dx, a, hp, da, good⟩ := id hm
    obtain ⟨wa, xs, rfl, hxs, dxs⟩ := hx.of
    have lx := dp_len dxs
    have fw := good.hw
    have pos := good.pos
    obtain ⟨lt, few⟩ := hx.2
    refine ⟨_, rfl, _, rfl, p, M, dx, _, _, rfl, hp, MT.cl, MT.n_width, (fldsM_in n o a).1, ?_⟩
    have hsz : js.length ≤ 1000 := by omega
    have goOn : ∀ H', Ex H H' → (fun (c : Bool) (H1 : Hp) => c = true) true H' := fun _ _ => rfl
    have step : ∀ d, (d = .list (wdL n js) ∨ d = .tuple (wdL n js)) → Dp K H (.ref wa) d → isWord d n = true ∧ szD d ≤ 1000 := by
      rintro d (rfl | rfl) _
      · exact ⟨isWord_wd fw lt, by show (wdL n js).length ≤ 1000; unfold wdL; rw [List.length_map]; omega⟩
      · exact ⟨isWord_wd fw lt, by show (wdL n js).length ≤ 1000; unfold wdL; rw [List.length_map]; omega⟩
    obtain ⟨d, hd1, hd2⟩ : ∃ d, (d = .list (wdL n js) ∨ d = .tuple (wdL n js)) ∧ Dp K H (.ref wa) d := hx.1.elim (fun z => ⟨_, .inl rfl, z⟩) fun z => ⟨_, .inr rfl, z⟩
    obtain ⟨s1, s2⟩ := step d hd1 hd2
    refine ⟨.ref wa, d, n, rfl, .dp hd2, by omega, s2, fun H1 e1 => ⟨_, rfl, ?_⟩⟩
    rw [s1]
    refine iteF ⟨(by show 0 ≤ sizeLine; decide), fun L nL => ?_⟩
    have e2 : Ex H1 (upd H1 L (.lst [])) := Ex.new nL
    have hL : (upd H1 L (.lst [])) L = some (.lst []) := upd_same
    have nL0 := Ex.freshW e1 nL
    generalize upd H1 L (.lst []) = H2 at e2 hL
    have x2 := e1.trans e2
    refine for_sq (K := K) (a := wa) (xs := xs) (H0 := H) rfl hxs x2 (fun i σ Hc => (∃ u, σ = [some (.ref p), some (.ref wa), some (.int ((Mm.end_ rows 0 (js.take i) : Nat) : Int)), some (.ref L), u]) ∧ Ex H Hc ∧ ∃ ys, Hc L = some (.lst ys) ∧ DpAll K Hc ys ((Mm.along rows 0 (js.take i)).map goD))
      ⟨⟨_, rfl⟩, x2, [], hL, .nil⟩ (fun i σ Hc q => q.2.1) (fun i x σ Hc ex q => ?_) (fun σ Hc q => ?_)
    · obtain ⟨⟨u, rfl⟩, e, ys, hLc, dys⟩ := q
      obtain ⟨j, ej, dj⟩ := dp_nth dxs ex
      have hj := lt j (List.mem_of_getElem? ej)
      have hi := (List.getElem?_eq_some_iff.mp ej).1
      have hs := Mm.end_lt good.ok good.wide (js.take i) (fun q hq => lt q (List.mem_of_mem_take hq)) (s := 0) pos
      obtain ⟨l1, l2, l3, _⟩ := ltr_ok fw hj
      obtain ⟨xr, b, yr, h1, h2, h3, h4⟩ := row_at (dp_ex e da) hs
      obtain ⟨y, h5, h6⟩ := goal_at h4 good.wide hs hj
      have tk := take_more ej
      have ly : ys.length = i := by rw [dp_len dys, Mm.along_len, List.length_take]; omega
      refine ⟨_, rfl, .inl ⟨rfl, _, SqL.of hLc⟩, _, rfl, p, M, dx, _, _, rfl, e _ _ hp, MT.cl, MT.n_rows, (fldsM_in n o a).2.2, _, rfl, a, xr, _, _, rfl, rfl, h1, h2, x, rfl, x, ltr n j, rfl, .inr (dp_ex e dj), ?_⟩
      refine ⟨b, yr, num (ltr n j), y, rfl, rfl, h3, by rw [l3]; exact h5, ?_⟩
      refine ⟨L, ys, y, rfl, rfl, hLc, Nat.lt_of_le_of_lt (show _ ≤ 1000 by omega) (by decide), ?_⟩
      have e5 : ExBut L Hc (upd Hc L (.lst (ys ++ [y]))) := ExBut.upd
      have eH : Ex H (upd Hc L (.lst (ys ++ [y]))) := e.mut nL0
      obtain ⟨t, u2, rfl, g1, g2⟩ := go_of h6
      have keep : ∀ {dd : PyData} {v : V}, Dp K Hc v dd → noL dd = true → Dp K (upd Hc L (.lst (ys ++ [.ref t]))) v dd := fun z zz => t_dp (ExT.upd hLc) zz z
      have dys2 : DpAll K (upd Hc L (.lst (ys ++ [.ref t]))) (ys ++ [.ref t]) ((Mm.along rows 0 (js.take (i + 1))).map goD) := by
        rw [tk, Mm.along_snoc, List.map_append]
        exact dpAll_appG (t_dpAll (ExT.upd hLc) (noLs_go _) dys) (.cons (keep h6 (noL_go _)) .nil)
      have g1' := t_dp (H' := upd Hc L (.lst (ys ++ [.ref t]))) (ExT.upd hLc) (noL_go _) h6
      obtain ⟨t', u3, e3, q1, _⟩ := go_of g1'
      cases e3
      refine ⟨_, rfl, 1, rfl, L, ys ++ [.ref t], -1, .ref t, rfl, rfl, SqL.of upd_same, atI_last _ _, t, _, 0, _, rfl, rfl, q1, rfl, ⟨some x, ?_⟩, eH, ys ++ [.ref t], upd_same, dys2⟩
      rw [tk, Mm.end_snoc]
      rfl
    · obtain ⟨⟨u, rfl⟩, e, ys, hLc, dys⟩ := q
      rw [List.take_of_length_le (by omega)] at dys
      exact ⟨_, rfl, k L ys Hc e nL0 hLc dys⟩
end
end W

set_option Elab.async false
set_option linter.all false
set_option maxRecDepth 100000
set_option maxHeartbeats 16000000
/-! What a machine tells of itself. -/
namespace W
open PySem PySem.Spec PyProof.Rows L2 Evl G
def LcX (J : It) (g : TG) (te : TE) (vs : List Nat) (σ : L2.St) (H : Hp) (D : Addr) (Qd : Hp → Prop) : Prop :=
  ∃ W : Nat → Nat → Hp → Prop, (∃ m, W 0 m (upd H D (.lst []))) ∧
    ∀ i m Hx, W i m Hx → (J.stop i Hx ∧ Qd Hx) ∨
      (J.go i Hx ∧ ∃ Nx : Hp → Prop, (∀ H', Nx H' → ∃ m', m' < m ∧ W (i + 1) m' H') ∧
        ∀ x H', J.yld i Hx x H' → g x (wipe σ vs) H' fun σ2 H2 =>
          wipe σ2 vs = wipe σ vs ∧ tYes σ2 H2 fun b H3 =>
            if b = true then te σ2 H3 fun y H4 => ∃ acc, H4 D = some (.lst acc) ∧ acc.length < sizeLine ∧
              Nx (upd H4 D (.lst (acc ++ [y]))) else Nx H3)
/-- a list of data without lists, made item by item -/
theorem lc_noL {K : PySem.W.Frag} {J : It} {xs : List V} {Gd : Hp → Prop} (W : Walk J xs.length Gd (YAt xs)) {α : Type} (as : List α) (f : α → PyData) (hf : ∀ a, noL (f a) = true) {g : TG} {te : TE} {vs : List Nat} {σ : L2.St} {H : Hp} {D : Addr} {Qd : Hp → Prop}
    (hl : xs.length = as.length) (few : as.length ≤ 1000) (hG : ∀ H', Ex H H' → Gd H')
    (he : ∀ (i : Nat) (x : V) (a : α) (Ha : Hp) (R : VK), xs[i]? = some x → as[i]? = some a → Ex H Ha → (∀ y H', Ex Ha H' → Dp K H' y (f a) → R y H') → g x (wipe σ vs) Ha fun σ2 H2 => wipe σ2 vs = wipe σ vs ∧ te σ2 H2 R)
    (nD : H D = none) (hd : ∀ H' ys, Ex H H' → H' D = some (.lst ys) → DpAll K H' ys (as.map f) → Qd H') : LcX J g te vs σ H D Qd := by
  refine lc_it (g := g) (tt := tYes) (te := te) (vs := vs) (σ := σ) W (fun i Hc => Ex H Hc ∧ ∃ ys, Hc D = some (.lst ys) ∧ DpAll K Hc ys ((as.take i).map f)) ⟨Ex.new nD, [], upd_same, .nil⟩ (fun i Hc _ p => hG Hc p.1) (fun i x Ha Hb hi p y => ?_) (fun Hc q => ?_)
  · obtain ⟨rfl, ex⟩ := y
    obtain ⟨e, ys, hD, dys⟩ := p
    have hi' : i < as.length := by omega
    have ea : as[i]? = some as[i] := List.getElem?_eq_getElem hi'
    refine he i x as[i] Hb _ ex ea e fun y H' e2 dy => ⟨ys, e2 _ _ hD, ?_, ?_, ys ++ [y], upd_same, ?_⟩
    · have : ys.length = i := by rw [dp_len dys, List.length_take]; omega
      exact Nat.lt_of_le_of_lt (show _ ≤ 1000 by omega) (by decide)
    · exact (e.trans e2).mut nD
    · rw [take_more ea, List.map_append]
      exact dpAll_appG (t_dpAll (ExT.upd (e2 _ _ hD)) (noLs_map hf _) (dpAll_ex e2 dys)) (.cons (t_dp (ExT.upd (e2 _ _ hD)) (hf _) dy) .nil)
  · obtain ⟨e, ys, hD, dys⟩ := q
    rw [List.take_of_length_le (by omega)] at dys
    exact hd Hc ys e hD dys
theorem dpAll_cut {K : PySem.W.Frag} {H : Hp} : ∀ {ds es : List PyData} {xs : List V}, DpAll K H xs (ds ++ es) → ∃ ys zs, xs = ys ++ zs ∧ DpAll K H ys ds ∧ DpAll K H zs es
  | [], _, xs, h => ⟨[], xs, rfl, .nil, h⟩
  | d :: ds, es, _, h => by
    cases h with
    | cons a b =>
      obtain ⟨ys, zs, rfl, h1, h2⟩ := dpAll_cut (ds := ds) b
      exact ⟨_ :: ys, zs, rfl, .cons a h1, h2⟩
section
variable {P : Program} {w : World} {K : PySem.W.Frag} {mg : Str → Option Value} {base : Heap} {M : Addr}
/-! ### answer, behind -/
def spAns (K : PySem.W.Frag) (M : Addr) : Sp := fun vs H Q _ => ∃ (p : Addr) (x : V) (n o : Nat) (rows : Rw) (js : List Nat), vs = [.ref p, x] ∧ MacAt K M H p n o rows ∧ IsWd K H x n js ∧
  ∀ l xs H', Ex H H' → H l = none → H' l = some (.lst xs) → DpAll K H' xs ((Mm.outs rows 0 js).map bitsD) → Q (.ref l) H'
abbrev nAns : List Str := ["self", "word", "_", "out"]
theorem scAns : FnScope nAns ["self", "word"] (defScope (dM 9)) := ⟨rfl, rfl, rfl, by decide +kernel, rfl, by decide +kernel, by decide +kernel⟩
theorem okAns {f : Addr} {fd : FuncData} (F : MthT K M "answer" "Machine.answer" (dM 9) ["self", "word"] f fd) (T : Txt K mg) (MT : MacT K mg M) : FnOk P w K mg base CX0 6 f fd ["self", "word"] (spAns K M) := by
  obtain ⟨fC, gC, FC⟩ := MT.course
  have GC : FnOk P w K mg base CX0 5 fC gC ["self", "word"] (spCourse K M) := okCourse FC T MT
  refine F.fn.ok scAns (fun vs H Q E h => ?_) (fun cdv A outer s H vs Q E hr h => ?_)
  · obtain ⟨p, x, n, o, rows, js, rfl, _⟩ := h
    rfl
  · obtain ⟨p, x, n, o, rows, js, rfl, hm, hx, k⟩ := h
    have nds := scAns.nd
    refine ⟨_, pss_one (ps_ret (pe_lc (own := [("_", 2), ("out", 3)]) (g := gTup K 2 (gCons (gName 2) (gCons (gName 3) gNil))) (by rfl) nds (pi_list (pe_meth (pv 0) MT.cl FC.me GC hr FC.bi .nil pass0 (pa_cons (pv 1) pa_nil))) (blkOk_by (own := [("_", 2), ("out", 3)]) (N := nAns) (sc := defScope (dM 9)) (by decide +kernel))
        (fun _ _ _ _ _ => pg_tupK rfl (pgs_cons (pg_name (i := 2) nds rfl (Or.inl rfl)) (pgs_cons (pg_name (i := 3) nds rfl (Or.inl rfl)) pgs_nil))) (fun _ _ _ _ _ => pts_nil) (fun _ _ _ _ _ => pv 3))), ?_⟩
    obtain ⟨dx, a, hp, da, good⟩ := id hm
    have few := hx.2.2
    refine ⟨_, rfl, p, dx, _, rfl, hp, rfl, _, rfl, p, x, n, o, rows, js, rfl, hm, hx, fun l xs H1 e1 nl hl dl => ?_⟩
    refine ⟨l, rfl, ⟨_, SqL.of hl⟩, fun D nD => ?_⟩
    have ll := dp_len dl
    refine lc_noL (K := K) (walk_list (K := K) (a := l) (xs := xs)) (Mm.along rows 0 js) (fun g => bitsD g.2) (fun g => noL_bits _) ll (by rw [Mm.along_len]; omega) (fun H' e => SqL.of (e _ _ hl)) (fun i y g Ha R ey eg e r => ?_) nD (fun H' ys e hD dys => ?_)
    · obtain ⟨g', eg', dg⟩ := dp_nth dl ey
      rw [eg] at eg'
      cases eg'
      obtain ⟨t, u, rfl, ht, hu⟩ := go_of (dp_ex e dg)
      exact ⟨t, _, rfl, ht, rfl, _, _, rfl, _, _, rfl, rfl, rfl, _, rfl, r _ _ (Ex.refl Ha) (.tup hu (dpAll_ints _))⟩
    · refine k D ys H' (e1.trans e) (Ex.freshW e1 nD) hD ?_
      rw [← Mm.along_outs, List.map_map]
      exact dys
theorem along_end (rows : Rw) (js : List Nat) (j : Nat) : Mm.along rows 0 (js ++ [j]) = Mm.along rows 0 js ++ [Mm.go rows (Mm.end_ rows 0 js) j] := Mm.along_snoc rows 0 js j
end
end W

set_option Elab.async false
set_option linter.all false
namespace Mm
def stp (q : List Nat × List Nat) (g : Go) : List Nat × List Nat := if g.1 ∈ q.1 then q else (q.1 ++ [g.1], q.2 ++ [g.1])
def stps (q : List Nat × List Nat) (gs : List Go) : List Nat × List Nat := gs.foldl stp q
theorem stps_snoc (q : List Nat × List Nat) (gs : List Go) (g : Go) : stps q (gs ++ [g]) = stp (stps q gs) g := by
  unfold stps
  rw [List.foldl_append]
  rfl
theorem stps_add : ∀ (gs : List Go) (ks ts : List Nat), ks.Nodup → ∃ add, stps (ks, ts) gs = (ks ++ add, ts ++ add) ∧ (ks ++ add).Nodup ∧ (∀ x ∈ add, ∃ g ∈ gs, g.1 = x) ∧ ∀ g ∈ gs, g.1 ∈ ks ++ add
  | [], ks, ts, nd => ⟨[], by simp [stps], by simpa using nd, (fun _ h => by cases h), (fun _ h => by cases h)⟩
  | g :: gs, ks, ts, nd => by
    show ∃ add, stps (stp (ks, ts) g) gs = _ ∧ _
    by_cases h : g.1 ∈ ks
    · have e : stp (ks, ts) g = (ks, ts) := if_pos h
      obtain ⟨add, a1, a2, a3, a4⟩ := stps_add gs ks ts nd
      refine ⟨add, by rw [e]; exact a1, a2, fun x hx => ?_, fun y hy => ?_⟩
      · obtain ⟨q, hq, e⟩ := a3 x hx
        exact ⟨q, List.mem_cons_of_mem _ hq, e⟩
      · rcases List.mem_cons.mp hy with rfl | hy
        · exact List.mem_append_left _ h
        · exact a4 y hy
    · have e : stp (ks, ts) g = (ks ++ [g.1], ts ++ [g.1]) := if_neg h
      have nd2 : (ks ++ [g.1]).Nodup := List.nodup_append.mpr ⟨nd, by simp, fun a ha b hb => by
        simp at hb; subst hb; exact fun z => h (z ▸ ha)⟩
      obtain ⟨add, a1, a2, a3, a4⟩ := stps_add gs _ (ts ++ [g.1]) nd2
      refine ⟨g.1 :: add, by rw [e, a1]; simp, by simpa using a2, fun x hx => ?_, fun y hy => ?_⟩
      · rcases List.mem_cons.mp hx with rfl | hx
        · exact ⟨g, List.mem_cons_self, rfl⟩
        · obtain ⟨q, hq, e⟩ := a3 x hx
          exact ⟨q, List.mem_cons_of_mem _ hq, e⟩
      · rcases List.mem_cons.mp hy with rfl | hy
        · simp
        · have := a4 y hy
          simpa using this
structure Dfs (rows : Rw) (ks ts : List Nat) : Prop where
  nd : ks.Nodup
  sub : ∀ t ∈ ts, t ∈ ks
  inm : ∀ x ∈ ks, x ∈ met rows 0
  done : ∀ x ∈ ks, x ∈ ts ∨ ∀ g ∈ rw_ rows x, g.1 ∈ ks
  zero : 0 ∈ ks
theorem Dfs.start (rows : Rw) : Dfs rows [0] [0] := ⟨by simp, fun _ h => h, fun x h => by
  simp at h; subst h; exact List.mem_of_getElem? met_zero, fun x h => .inl h, by simp⟩
theorem Dfs.turn {rows : Rw} {ks ts : List Nat} {x : Nat} (ok : Ok rows) (pos : 0 < rows.length) (d : Dfs rows ks (ts ++ [x])) :
    ∃ ks' ts', stps (ks, ts) (rw_ rows x) = (ks', ts') ∧ Dfs rows ks' ts' ∧ ks'.length ≤ rows.length ∧ 2 * (rows.length - ks'.length) + ts'.length < 2 * (rows.length - ks.length) + (ts ++ [x]).length := by
  obtain ⟨add, a1, a2, a3, a4⟩ := stps_add (rw_ rows x) ks ts d.nd
  have hx : x ∈ ks := d.sub x (by simp)
  have inm : ∀ y ∈ ks ++ add, y ∈ met rows 0 := fun y hy => by
    rcases List.mem_append.mp hy with hy | hy
    · exact d.inm y hy
    · obtain ⟨g, hg, rfl⟩ := a3 y hy
      exact met_closed ok pos x (d.inm x hx) g hg
  have len := nd_len a2 fun y hy => met_lt ok pos y (inm y hy)
  refine ⟨ks ++ add, ts ++ add, a1, ⟨a2, fun t ht => ?_, inm, fun y hy => ?_, List.mem_append_left _ d.zero⟩, len, ?_⟩
  · rcases List.mem_append.mp ht with ht | ht
    · exact List.mem_append_left _ (d.sub t (List.mem_append_left _ ht))
    · exact List.mem_append_right _ ht
  · rcases List.mem_append.mp hy with hy | hy
    · rcases d.done y hy with h | h
      · rcases List.mem_append.mp h with h | h
        · exact .inl (List.mem_append_left _ h)
        · simp at h
          subst h
          exact .inr a4
      · exact .inr fun g hg => List.mem_append_left _ (h g hg)
    · exact .inl (List.mem_append_right _ hy)
  · simp only [List.length_append, List.length_singleton] at len ⊢
    omega
theorem Dfs.len {rows : Rw} {ks ts : List Nat} (ok : Ok rows) (pos : 0 < rows.length) (d : Dfs rows ks ts) : ks.length ≤ rows.length := nd_len d.nd fun y hy => met_lt ok pos y (d.inm y hy)
theorem perm_nd : ∀ {a b : List Nat}, a.Nodup → b.Nodup → (∀ x, x ∈ a ↔ x ∈ b) → a.Perm b := fun {a b} ha hb h => (List.perm_ext_iff_of_nodup ha hb).mpr h
theorem Dfs.fin {rows : Rw} {ks : List Nat} (ok : Ok rows) (pos : 0 < rows.length) (d : Dfs rows ks []) : ks.Perm (met rows 0) := by
  refine perm_nd d.nd met_nd fun x => ⟨d.inm x, fun h => met_in (rows := rows) (s := 0) (S := fun q => q ∈ ks) d.zero (fun q hq g hg => ?_) x h⟩
  rcases d.done q hq with z | z
  · cases z
  · exact z g hg
/-- two rising lists of the same are one -/
theorem rising_one : ∀ {a b : List Int}, a.Pairwise (· ≤ ·) → b.Pairwise (· ≤ ·) → a.Perm b → a = b
  | [], b, _, _, p => by
    have := p.length_eq
    cases b with
    | nil => rfl
    | cons _ _ => simp at this
  | x :: a, [], _, _, p => by
    have := p.length_eq
    simp at this
  | x :: a, y :: b, ha, hb, p => by
    have h1 : x ≤ y := by
      have : y ∈ x :: a := p.mem_iff.mpr List.mem_cons_self
      rcases List.mem_cons.mp this with rfl | h
      · exact Int.le_refl _
      · exact (List.pairwise_cons.mp ha).1 y h
    have h2 : y ≤ x := by
      have : x ∈ y :: b := p.mem_iff.mp List.mem_cons_self
      rcases List.mem_cons.mp this with rfl | h
      · exact Int.le_refl _
      · exact (List.pairwise_cons.mp hb).1 x h
    obtain rfl : x = y := by omega
    rw [rising_one (List.pairwise_cons.mp ha).2 (List.pairwise_cons.mp hb).2 ((List.perm_cons x).mp p)]
end Mm

set_option Elab.async false
set_option linter.all false
set_option maxRecDepth 100000
set_option maxHeartbeats 8000000
/-! len of own instances whose class has an own __len__. -/
namespace G
open PySem PySem.Spec PyProof.Rows L2 Evl
def rLenO (C : Addr) (sp : Sp) (E : XK) : List V → Hp → VK → Prop := fun xs H Q => ∃ (a dx : Addr) (fs : List (Str × V)) (n : Int), xs = [.ref a] ∧ H a = some (.ins C dx fs) ∧ 0 ≤ n ∧ n < 2 ^ 63 ∧ sp [.ref a] H (fun v H' => v = .int n ∧ Q (.int n) H') E
section
variable {X : Cx} {CX : CXT} {k : Nat} {C f : Addr} {fd : FuncData} {ps : List Str} {sp : Sp} {E : XK}
theorem call_lenO (F : FnOk X.prog X.w X.K X.mg X.base CX k f fd ps sp) (hs : PySem.W.findIn X.K (.ref C) "__len__" = some (some (.ref f))) (hf : PySem.W.isFn X.K (.ref f) = true) (hb : Binds X.K fd ps []) (hx : Passes CX X E) (hr : Room (k + 1) X.A) : CallR X (.builtin "len") (rLenO C sp E) := by
  intro pins s σ H xs us Q I r h
  obtain ⟨a, dx, fs, n, rfl, ha, h0, h1, hsp⟩ := h
  cases r with
  | cons r0 rn =>
    cases rn
    cases r0
    obtain ⟨mA, J, _⟩ := ins_get I.hok ha
    obtain ⟨od, J, _⟩ := J.look
    obtain ⟨m, hF⟩ := I.fr
    refine PySem.W.len_K hF I.ok.mod.kin J hs hf ?_
    have hl := F.len _ _ _ _ hsp
    have r2 : Vals [V.ref a] [Value.ref a] := .cons rfl .nil
    refine wpAny_call (codeAny_mono (F.run X.A.in1 X.stack s H ⟨[.ref a], []⟩ [.ref a] [.ref a] _ E hr.in1 I.env0.in1 (by
      have := hb s [.ref a] I.kIn (by simpa using hl)
      simpa using this) r2 hsp) fun r s' hq => ?_)
    cases r with
    | error e => exact hx pins σ H s e s' I hq
    | ok fl =>
      cases fl with
      | ret w =>
        obtain ⟨z, H', I', rz, ez, q⟩ := I.after hq
        subst ez
        obtain ⟨t, rfl⟩ := rz
        exact ⟨⟨h0, h1⟩, .int n, H', I'.tok _, ⟨_, rfl⟩, q⟩
      | next => exact False.elim hq
      | brk => exact False.elim hq
      | cont => exact False.elim hq
end
end G

set_option Elab.async false
set_option linter.all false
set_option maxRecDepth 100000
set_option maxHeartbeats 16000000
namespace W
open PySem PySem.Spec PyProof.Rows L2 Evl G
section
variable {P : Program} {w : World} {K : PySem.W.Frag} {mg : Str → Option Value} {base : Heap} {M : Addr}
/-! ### widths, length, == -/
def spWid (K : PySem.W.Frag) (M : Addr) (f : Nat → Nat → Nat) : Sp := fun vs H Q _ => ∃ (p : Addr) (n o : Nat) (rows : Rw), vs = [.ref p] ∧ MacAt K M H p n o rows ∧ Q (.int ((f n o : Nat) : Int)) H
theorem scWid : FnScope ["self"] ["self"] (defScope (dM 3)) := ⟨rfl, rfl, rfl, by decide +kernel, rfl, by decide +kernel, by decide +kernel⟩
theorem okWid {p0 f : Addr} {fd : FuncData} (F : PrpT K M "width" "Machine.width" (dM 3) p0 f fd) (MT : MacT K mg M) : FnOk P w K mg base CX0 1 f fd ["self"] (spWid K M fun n _ => n) := by
  refine F.fn.ok scWid (fun vs H Q E h => ?_) (fun cdv A outer s H vs Q E hr h => ?_)
  · obtain ⟨p, n, o, rows, rfl, _⟩ := h
    rfl
  · obtain ⟨p, n, o, rows, rfl, ⟨dx, a, hp, da, good⟩, k⟩ := h
    refine ⟨_, pss_one (ps_ret (pe_fld (pv 0) rfl)), ?_⟩
    exact ⟨_, rfl, p, M, dx, _, _, rfl, hp, MT.cl, MT.n_width, (fldsM_in n o a).1, k⟩
theorem scOWid : FnScope ["self"] ["self"] (defScope (dM 4)) := ⟨rfl, rfl, rfl, by decide +kernel, rfl, by decide +kernel, by decide +kernel⟩
theorem okOWid {p0 f : Addr} {fd : FuncData} (F : PrpT K M "out_width" "Machine.out_width" (dM 4) p0 f fd) (MT : MacT K mg M) : FnOk P w K mg base CX0 1 f fd ["self"] (spWid K M fun _ o => o) := by
  refine F.fn.ok scOWid (fun vs H Q E h => ?_) (fun cdv A outer s H vs Q E hr h => ?_)
  · obtain ⟨p, n, o, rows, rfl, _⟩ := h
    rfl
  · obtain ⟨p, n, o, rows, rfl, ⟨dx, a, hp, da, good⟩, k⟩ := h
    refine ⟨_, pss_one (ps_ret (pe_fld (pv 0) rfl)), ?_⟩
    exact ⟨_, rfl, p, M, dx, _, _, rfl, hp, MT.cl, MT.n_out_width, (fldsM_in n o a).2.1, k⟩
def spLen (K : PySem.W.Frag) (M : Addr) : Sp := fun vs H Q _ => ∃ (p : Addr) (n o : Nat) (rows : Rw), vs = [.ref p] ∧ MacAt K M H p n o rows ∧ Q (.int ((rows.length : Nat) : Int)) H
theorem scLen : FnScope ["self"] ["self"] (defScope (dM 14)) := ⟨rfl, rfl, rfl, by decide +kernel, rfl, by decide +kernel, by decide +kernel⟩
theorem okLen {f : Addr} {fd : FuncData} (F : MthT K M "__len__" "Machine.__len__" (dM 14) ["self"] f fd) (T : Txt K mg) (MT : MacT K mg M) : FnOk P w K mg base CX0 1 f fd ["self"] (spLen K M) := by
  refine F.fn.ok scLen (fun vs H Q E h => ?_) (fun cdv A outer s H vs Q E hr h => ?_)
  · obtain ⟨p, n, o, rows, rfl, _⟩ := h
    rfl
  · obtain ⟨p, n, o, rows, rfl, ⟨dx, a, hp, da, good⟩, k⟩ := h
    refine ⟨_, pss_one (ps_ret (pe_callB call_len_seq (by rfl) T.len PySem.boot_len (pa_cons (pe_fld (pv 0) rfl) pa_nil))), ?_⟩
    obtain ⟨l, xs, e, h1, h2⟩ := tup_of da
    cases e
    refine ⟨_, rfl, p, M, dx, _, _, rfl, hp, MT.cl, MT.n_rows, (fldsM_in n o a).2.2, a, xs, rfl, .inr h1, ?_⟩
    rw [dp_len h2]
    exact k
theorem shaped_rows {w o : Nat} {rows : Rw} (g : GoodR w o rows) : SeqAt.shaped (.tuple (rows.map rowT)) = true := by
  have lay : ∀ (r : List Mm.Go), PyData.canLayAll0 (r.map goD) = true := by
    intro r
    induction r with
    | nil => rfl
    | cons x r ih =>
      have bs : ∀ l : List Int, PyData.canLayAll0 (l.map .int) = true := by
        intro l
        induction l with
        | nil => rfl
        | cons b l ih => simp [PyData.canLayAll0, PyData.canLay0, ih]
      simp [PyData.canLayAll0, goD, bitsD, PyData.canLay0, bs, ih]
  have dep : ∀ (r : List Mm.Go), PyData.depthAll (r.map goD) ≤ 2 := by
    intro r
    induction r with
    | nil => exact Nat.zero_le _
    | cons x r ih =>
      have bs : ∀ l : List Int, PyData.depthAll (l.map .int) = 0 := by
        intro l
        induction l with
        | nil => rfl
        | cons b l ih => simp [PyData.depthAll, PyData.depth, ih]
      simp only [List.map_cons, PyData.depthAll, goD, bitsD, PyData.depth, bs]
      omega
  have lay2 : ∀ l : Rw, PyData.canLayAll0 (l.map rowT) = true := by
    intro l
    induction l with
    | nil => rfl
    | cons x l ih => simp [PyData.canLayAll0, rowT, PyData.canLay0, lay, ih]
  have dep2 : ∀ l : Rw, PyData.depthAll (l.map rowT) ≤ 3 := by
    intro l
    induction l with
    | nil => exact Nat.zero_le _
    | cons x l ih =>
      have := dep x
      simp only [List.map_cons, PyData.depthAll, rowT, PyData.depth]
      omega
  unfold SeqAt.shaped
  rw [Bool.and_eq_true]
  refine ⟨?_, decide_eq_true ?_⟩
  · simpa [PyData.canLay0] using lay2 rows
  · have := dep2 rows
    simp only [PyData.depth]
    omega
/-! ### a state -/
end
end W

set_option Elab.async false
set_option linter.all false
set_option maxRecDepth 100000
set_option maxHeartbeats 16000000
namespace W
open PySem PySem.Spec PyProof.Rows L2 Evl G
def kT (ks : List Nat) : List (Key × V) := ks.map fun (k : Nat) => (Sum.inl (k : Int), V.bl true)
theorem valV_map {α : Type} (f : α → Key) (g : α → V) : ∀ (l : List α) (k : Key), valV (l.map fun a => (f a, g a)) k = none ↔ ∀ a ∈ l, f a ≠ k
  | [], k => by simp [valV_nil]
  | a :: l, k => by
    have ih := valV_map f g l k
    by_cases e : f a = k
    · rw [List.map_cons, valV_pos e]
      simp [e]
    · have h1 : valV ((a :: l).map fun a => (f a, g a)) k = valV (l.map fun a => (f a, g a)) k := by
        unfold valV
        rw [List.map_cons, List.find?_cons_of_neg]
        simpa using e
      rw [h1, ih]
      simp [e]
theorem valV_hit {α : Type} (f : α → Key) (g : α → V) : ∀ (l : List α) (a : α), a ∈ l → (∀ b ∈ l, f b = f a → b = a) → valV (l.map fun a => (f a, g a)) (f a) = some (g a)
  | [], a, h, _ => by cases h
  | b :: l, a, h, u => by
    by_cases e : f b = f a
    · have := u b List.mem_cons_self e
      subst this
      rw [List.map_cons, valV_pos rfl]
    · have h1 : valV ((b :: l).map fun a => (f a, g a)) (f a) = valV (l.map fun a => (f a, g a)) (f a) := by
        unfold valV
        rw [List.map_cons, List.find?_cons_of_neg]
        simpa using e
      rw [h1]
      rcases List.mem_cons.mp h with h | h
      · subst h
        exact absurd rfl e
      · exact valV_hit f g l a h fun c hc => u c (List.mem_cons_of_mem _ hc)
theorem putK_new {kvs : List (Key × V)} {k : Key} {v : V} (h : valV kvs k = none) : putK kvs k v = kvs ++ [(k, v)] := by
  unfold putK
  rw [if_neg]
  intro c
  obtain ⟨q, hq, e⟩ := List.any_eq_true.mp c
  unfold valV at h
  rw [Option.map_eq_none_iff, List.find?_eq_none] at h
  exact h q hq e
theorem key_inj {a b : Nat} (h : (Sum.inl (a : Int) : Key) = Sum.inl (b : Int)) : a = b := by
  have := Sum.inl.inj h
  omega
theorem kT_none {ks : List Nat} {x : Nat} (h : x ∉ ks) : valV (kT ks) (Sum.inl (x : Int)) = none := (valV_map _ _ _ _).mpr fun a ha e => h (key_inj e ▸ ha)
theorem kT_hit {ks : List Nat} {x : Nat} (h : x ∈ ks) : valV (kT ks) (Sum.inl (x : Int)) = some (.bl true) := valV_hit (fun k : Nat => (Sum.inl (k : Int) : Key)) (fun _ => V.bl true) ks x h fun b _ e => key_inj e
theorem kT_put {ks : List Nat} {x : Nat} (h : x ∉ ks) : putK (kT ks) (Sum.inl (x : Int)) (.bl true) = kT (ks ++ [x]) := by
  rw [putK_new (kT_none h)]
  simp [kT]
def intsN (ts : List Nat) : List V := ts.map fun (t : Nat) => V.int (t : Int)
def sortN (l : List Nat) (ys : List Int) : Prop := ys.Perm (l.map fun (x : Nat) => (x : Int)) ∧ ys.Pairwise (· ≤ ·)
end W

set_option Elab.async false
set_option linter.all false
set_option maxRecDepth 100000
set_option maxHeartbeats 16000000
namespace W
open PySem PySem.Spec PyProof.Rows L2 Evl G
theorem call_listK {X : Cx} {K : PySem.W.Frag} (h : X.K = K := by rfl) : CallR X (.type "list") (fun xs H Q => ∃ p ys, xs = [.ref p] ∧ (SqL K H p ys ∨ SqT K H p ys) ∧ ∀ l, H l = none → Q (.ref l) (upd H l (.lst ys))) := by
  subst h
  exact call_list_of
/-- the heap without some objects -/
def hidL (S : List Addr) (H : Hp) : Hp := fun b => if b ∈ S then none else H b
section
variable {S : List Addr} {H H' H0 : Hp} {a b : Addr} {o : HO}
theorem hidL_some : hidL S H b = some o ↔ b ∉ S ∧ H b = some o := by
  unfold hidL
  by_cases h : b ∈ S
  · rw [if_pos h]; simp [h]
  · rw [if_neg h]; simp [h]
theorem hidL_ex : Ex (hidL S H) H := fun b o h => (hidL_some.mp h).2
theorem hidL_upd (h : a ∈ S) : hidL S (upd H a o) = hidL S H := by
  funext b
  unfold hidL
  by_cases z : b ∈ S
  · rw [if_pos z, if_pos z]
  · rw [if_neg z, if_neg z, upd_ne (fun (e : b = a) => z (by rw [e]; exact h))]
theorem hidL_mono (e : Ex H H') : Ex (hidL S H) (hidL S H') := fun b o h => by
  obtain ⟨h1, h2⟩ := hidL_some.mp h
  exact hidL_some.mpr ⟨h1, e _ _ h2⟩
theorem hidL_of (e : Ex H0 H) (n : ∀ a ∈ S, H0 a = none) : Ex H0 (hidL S H) := fun b o h => hidL_some.mpr ⟨(fun z => by rw [n b z] at h; cases h), e _ _ h⟩
/-- one more is hidden that was not there -/
theorem hidL_more (e : Ex H H') (n : H a = none) : Ex (hidL S H) (hidL (a :: S) H') := fun b o h => by
  obtain ⟨h1, h2⟩ := hidL_some.mp h
  refine hidL_some.mpr ⟨fun z => ?_, e _ _ h2⟩
  rcases List.mem_cons.mp z with z | z
  · rw [z, n] at h2; cases h2
  · exact h1 z
theorem hidL_less : Ex (hidL (a :: S) H) (hidL S H) := fun b o h => by
  obtain ⟨h1, h2⟩ := hidL_some.mp h
  exact hidL_some.mpr ⟨fun z => h1 (List.mem_cons_of_mem _ z), h2⟩
end
def kvN (f : List Nat) : List (Key × V) := f.map fun (x : Nat) => (Sum.inl (x : Int), V.int (f.idxOf x : Nat))
theorem kvN_none {f : List Nat} {x : Nat} (h : x ∉ f) : valV (kvN f) (Sum.inl (x : Int)) = none := (valV_map _ _ _ _).mpr fun a ha e => h (key_inj e ▸ ha)
theorem kvN_hit {f : List Nat} {x : Nat} (h : x ∈ f) : valV (kvN f) (Sum.inl (x : Int)) = some (.int (f.idxOf x : Nat)) := valV_hit (fun k : Nat => (Sum.inl (k : Int) : Key)) (fun k => V.int (f.idxOf k : Nat)) f x h fun b _ e => key_inj e
theorem kvN_put {f : List Nat} {x : Nat} (h : x ∉ f) : putK (kvN f) (Sum.inl (x : Int)) (.int (f.length : Nat)) = kvN (f ++ [x]) := by
  rw [putK_new (kvN_none h)]
  unfold kvN
  rw [List.map_append]
  congr 1
  · refine List.map_congr_left fun y hy => ?_
    rw [List.idxOf_append, if_pos hy]
  · simp [List.idxOf_append, h]
theorem pre_idx {f g : List Nat} (h : f <+: g) {x : Nat} (hx : x ∈ f) : g.idxOf x = f.idxOf x := by
  obtain ⟨t, rfl⟩ := h
  rw [List.idxOf_append, if_pos hx]
/-- a new list of new lists of goals stands at l -/
def NewRows (K : PySem.W.Frag) (H' : Hp) (l : Addr) (rows : Rw) : Prop := ∃ xs, H' l = some (.lst xs) ∧ DpAll K (hidL [l] H') xs (rows.map rowL)
theorem NewRows.dp {K : PySem.W.Frag} {H' : Hp} {l : Addr} {rows : Rw} (h : NewRows K H' l rows) : Dp K H' (.ref l) (.list (rows.map rowL)) := by
  obtain ⟨xs, h1, h2⟩ := h
  exact .lst (SqL.of h1) (dpAll_ex hidL_ex h2)
section
variable {P : Program} {w : World} {K : PySem.W.Frag} {mg : Str → Option Value} {base : Heap} {M : Addr}
def spRowsM (K : PySem.W.Frag) (M : Addr) : Sp := fun vs H Q _ => ∃ (p : Addr) (n o : Nat) (rows : Rw), vs = [.ref p] ∧ MacAt K M H p n o rows ∧ ∀ l H', Ex H H' → H l = none → NewRows K H' l rows → Q (.ref l) H'
theorem scRowsM : FnScope ["self", "row"] ["self"] (defScope (dM 6)) := ⟨rfl, rfl, rfl, by decide +kernel, rfl, by decide +kernel, by decide +kernel⟩
theorem okRowsM {f : Addr} {fd : FuncData} (F : MthT K M "rows" "Machine.rows" (dM 6) ["self"] f fd) (T : Txt K mg) (MT : MacT K mg M) : FnOk P w K mg base CX0 1 f fd ["self"] (spRowsM K M) := by
  refine F.fn.ok scRowsM (fun vs H Q E h => ?_) (fun cdv A outer s H vs Q E hr h => ?_)
  · obtain ⟨p, n, o, rows, rfl, _⟩ := h
    rfl
  · obtain ⟨p, n, o, rows, rfl, ⟨dx, a, hp, da, good⟩, k⟩ := h
    refine ⟨_, pss_one (ps_ret (pe_lc (own := [("row", 1)]) (g := gName 1) (by rfl) scRowsM.nd (pi_tup (pe_fld (pv 0) rfl)) (blkOk_by (own := [("row", 1)]) (N := ["self", "row"]) (sc := defScope (dM 6)) (by decide +kernel))
          (fun _ _ _ _ _ => pg_name (i := 1) scRowsM.nd rfl (Or.inl rfl)) (fun _ _ _ _ _ => pts_nil) (fun _ _ _ _ _ => pe_callTy (call_listK (K := K)) (by rfl) T.list (by decide +kernel) (pa_cons (pv 1) pa_nil)))), ?_⟩
    obtain ⟨a', xs, e, h1, h2⟩ := tup_of da
    cases e
    have len := dp_len h2
    have few := good.few
    refine ⟨_, rfl, p, M, dx, _, _, rfl, hp, MT.cl, MT.n_rows, (fldsM_in n o a).2.2, a, rfl, ⟨_, h1⟩, fun D nD => ?_⟩
    refine lc_it (g := gName 1) (tt := tYes) (vs := [1]) walk_tup (fun i Hc => Ex H Hc ∧ ∃ ys, Hc D = some (.lst ys) ∧ DpAll K (hidL [D] Hc) ys ((rows.take i).map rowL)) ⟨Ex.new nD, [], upd_same, .nil⟩ (fun i Hc _ q => ex_t q.1 h1) (fun i x Ha Hb hi q yy => ?_) (fun Hc q => ?_)
    · obtain ⟨rfl, ex⟩ := yy
      obtain ⟨e, ys, hD, dys⟩ := q
      obtain ⟨r, er, dr⟩ := dp_nth h2 ex
      obtain ⟨b, zs, rfl, hb, dz⟩ := tup_of dr
      refine ⟨wipe_set _ 1 _, ?_⟩
      refine ⟨_, rfl, b, zs, rfl, .inr (ex_t e hb), fun t nt => ?_⟩
      have tD : t ≠ D := fun z => by rw [z, hD] at nt; cases nt
      have ly : ys.length = i := by
        rw [dp_len dys, List.length_take]
        have := (List.getElem?_eq_some_iff.mp er).1
        omega
      have eT : Ex Hb (upd Hb t (.lst zs)) := Ex.new nt
      refine ⟨ys, eT _ _ hD, Nat.lt_of_le_of_lt (show _ ≤ 1000 by omega) (by decide), (e.trans eT).mut nD, ys ++ [.ref t], upd_same, ?_⟩
      rw [hidL_upd (by simp), take_more er, List.map_append]
      refine dpAll_appG (dpAll_ex (hidL_mono eT) dys) (.cons (.lst (SqL.of (hidL_some.mpr ⟨by simpa using tD, upd_same⟩)) ?_) .nil)
      exact dpAll_ex (hidL_of (e.trans eT) fun z hz => by rw [List.mem_singleton.mp hz]; exact nD) dz
    · obtain ⟨e, ys, hD, dys⟩ := q
      rw [List.take_of_length_le (by omega)] at dys
      exact k D Hc e nD ⟨ys, hD, dys⟩
end
end W

set_option Elab.async false
set_option linter.all false
set_option maxRecDepth 100000
set_option maxHeartbeats 32000000
namespace W
open PySem PySem.Spec PyProof.Rows L2 Evl G
def kI (k : Nat) : List (Key × V) := (List.range k).map fun (x : Nat) => (Sum.inl (x : Int), V.int (x : Nat))
theorem kI_none {k : Nat} : valV (kI k) (Sum.inl (k : Int)) = none := (valV_map _ _ _ _).mpr fun a ha e => by
  have := key_inj e
  have := List.mem_range.mp ha
  omega
theorem kI_hit {k x : Nat} (h : x < k) : valV (kI k) (Sum.inl (x : Int)) = some (.int (x : Nat)) := valV_hit (fun k : Nat => (Sum.inl (k : Int) : Key)) (fun k => V.int (k : Nat)) _ x (List.mem_range.mpr h) fun b _ e => key_inj e
theorem kI_put {k : Nat} : putK (kI k) (Sum.inl (k : Int)) (.int (k : Nat)) = kI (k + 1) := by
  rw [putK_new kI_none]
  unfold kI
  rw [List.range_succ, List.map_append]
  rfl
def rowOf (rows : Rw) (s : Nat) (i : Nat) : List Mm.Go := Mm.renum (Mm.met rows s) (Mm.rw_ rows ((Mm.met rows s).getD i 0))
theorem rowOf_all (rows : Rw) (s : Nat) : (List.range (Mm.met rows s).length).map (rowOf rows s) = Mm.begun rows s := by
  unfold Mm.begun rowOf
  refine List.ext_getElem? fun i => ?_
  rw [List.getElem?_map, List.getElem?_map]
  cases e : (Mm.met rows s)[i]? with
  | none => rw [List.getElem?_eq_none (by simpa using List.getElem?_eq_none_iff.mp e)]; rfl
  | some q =>
    rw [List.getElem?_range (List.getElem?_eq_some_iff.mp e).1]
    show some (Mm.renum (Mm.met rows s) (Mm.rw_ rows ((Mm.met rows s).getD i 0))) = _
    rw [List.getD_eq_getElem?_getD, e]
    rfl
section
variable {P : Program} {w : World} {K : PySem.W.Frag} {mg : Str → Option Value} {base : Heap} {M : Addr}
theorem intsN_at {l : List Nat} {i x : Nat} (h : l[i]? = some x) : atI (intsN l) (i : Int) = some (.int (x : Nat)) := atI_nat (j := i) (by unfold intsN; rw [List.getElem?_map, h]; rfl)
end
end W

set_option Elab.async false
set_option linter.all false
set_option maxRecDepth 100000
set_option maxHeartbeats 32000000
/-! A machine begun elsewhere; late ones. -/
namespace W
open PySem PySem.Spec PyProof.Rows L2 Evl G
theorem GoodR.begun {n o : Nat} {rows : Rw} {s : Nat} (g : GoodR n o rows) (hs : s < rows.length) : GoodR n o (Mm.begun rows s) := by
  refine ⟨?_, ?_, g.hw, g.ho, Mm.begun_wide g.ok g.wide hs, fun r hr x hx => ?_⟩
  · rw [Mm.begun_len]; exact Mm.met_pos
  · rw [Mm.begun_len]; have := Mm.met_len g.ok hs; have := g.few; omega
  · obtain ⟨q, hq, rfl⟩ := List.mem_map.mp hr
    obtain ⟨y, hy, rfl⟩ := List.mem_map.mp hx
    have hqn := Mm.met_lt g.ok hs q hq
    have hin : Mm.rw_ rows q ∈ rows := List.mem_of_getElem? (Mm.rw_at hqn)
    obtain ⟨a, b, c⟩ := g.go _ hin y hy
    exact ⟨by rw [Mm.begun_len]; exact Mm.idx_lt (Mm.met_closed g.ok hs q hq y hy), b, c⟩
section
variable {P : Program} {w : World} {K : PySem.W.Frag} {mg : Str → Option Value} {base : Heap} {M : Addr}
theorem rgV_range (n : Nat) : rgV 0 (n : Int) = intsN (List.range n) := by
  unfold rgV intsN
  rw [show ((n : Int) - 0).toNat = n by omega]
  refine List.map_congr_left fun i _ => ?_
  show V.int (0 + (i : Nat)) = V.int (i : Nat)
  rw [Int.zero_add]
end
end W

set_option Elab.async false
set_option linter.all false
set_option maxRecDepth 100000
set_option maxHeartbeats 32000000
/-! New lists of new data, item by item. -/
namespace W
open PySem PySem.Spec PyProof.Rows L2 Evl G
section
variable {S : List Addr} {H H' : Hp} {a b D p : Addr} {o : HO}
theorem hidL_mem (h : b ∈ S) : hidL S H b = none := by
  unfold hidL
  rw [if_pos h]
theorem hidL_not (h : b ∉ S) : hidL S H b = H b := by
  unfold hidL
  rw [if_neg h]
theorem hidL_ex2 (e : Ex H H') : Ex (hidL S H) (hidL S H') := hidL_mono e
theorem hidL_but (h : p ∈ S) (e : ExBut p H H') : Ex (hidL S H) (hidL S H') := fun b o hb => by
  obtain ⟨h1, h2⟩ := hidL_some.mp hb
  exact hidL_some.mpr ⟨h1, e _ _ h2 fun z => h1 (z ▸ h)⟩
end
/-- a new list of data, item by item; S: what else may change -/
theorem lc_gen {K : PySem.W.Frag} {J : It} {m : Nat} {Gd : Hp → Prop} {Y : Nat → Hp → V → Hp → Prop} (W : Walk J m Gd Y) (S : List Addr) (A : Nat → PyData → Prop) (I : Hp → Prop) {g : TG} {te : TE} {vs : List Nat} {σ : L2.St} {H : Hp} {D : Addr} {Qd : Hp → Prop}
    (few : m ≤ 1000) (hI0 : I (upd H D (.lst []))) (hIu : ∀ Hc ys xs, I Hc → Hc D = some (.lst ys) → I (upd Hc D (.lst xs))) (hG : ∀ Hc, I Hc → Gd Hc)
    (he : ∀ (i : Nat) (x : V) (Ha Hb : Hp) (R : VK) (ys : List V), i < m → I Ha → Ha D = some (.lst ys) → Y i Ha x Hb → (∀ y H' d, A i d → I H' → Ex (hidL (D :: S) Ha) (hidL (D :: S) H') → H' D = some (.lst ys) → Dp K (hidL (D :: S) H') y d → R y H') →
      g x (wipe σ vs) Hb fun σ2 H2 => wipe σ2 vs = wipe σ vs ∧ te σ2 H2 R)
    (hd : ∀ H' ys ds, I H' → H' D = some (.lst ys) → ds.length = m → (∀ i d, ds[i]? = some d → A i d) → DpAll K (hidL (D :: S) H') ys ds → Qd H') : LcX J g te vs σ H D Qd := by
  refine lc_it (g := g) (tt := tYes) (te := te) (vs := vs) (σ := σ) W (fun i Hc => I Hc ∧ ∃ ys ds, Hc D = some (.lst ys) ∧ ds.length = i ∧ (∀ (i : Nat) d, ds[i]? = some d → A i d) ∧ DpAll K (hidL (D :: S) Hc) ys ds) ⟨hI0, [], [], upd_same, rfl, fun i d h => by simp at h, .nil⟩ (fun i Hc _ p => hG Hc p.1) (fun i x Ha Hb hi p y => ?_) (fun Hc q => ?_)
  · obtain ⟨iA, ys, ds, hD, ld, ad, dys⟩ := p
    refine he i x Ha Hb _ ys hi iA hD y fun y H' d hA iH e hD2 dy => ⟨ys, hD2, ?_, ?_, ys ++ [y], ds ++ [d], upd_same, by simp [ld], fun j d' hj => ?_, ?_⟩
    · have : ys.length = i := by rw [dpAll_len dys, ld]
      exact Nat.lt_of_le_of_lt (show _ ≤ 1000 by omega) (by decide)
    · exact hIu _ _ _ iH hD2
    · by_cases c : j < ds.length
      · rw [List.getElem?_append_left c] at hj
        exact ad j d' hj
      · rw [List.getElem?_append_right (by omega)] at hj
        have hj2 := (List.getElem?_eq_some_iff.mp hj).1
        have : j = i := by simp at hj2; omega
        subst this
        rw [ld, Nat.sub_self] at hj
        cases hj
        exact hA
    · rw [hidL_upd (by simp)]
      exact dpAll_snoc (dpAll_ex e dys) dy
  · obtain ⟨iC, ys, ds, hD, ld, ad, dys⟩ := q
    exact hd Hc ys ds iC hD ld ad dys
/-- the same, what the items are is known -/
theorem lc_new {K : PySem.W.Frag} {J : It} {m : Nat} {Gd : Hp → Prop} {Y : Nat → Hp → V → Hp → Prop} (W : Walk J m Gd Y) (S : List Addr) {α : Type} (as : List α) (f : α → PyData) {g : TG} {te : TE} {vs : List Nat} {σ : L2.St} {H : Hp} {D : Addr} {Qd : Hp → Prop}
    (hl : m = as.length) (few : as.length ≤ 1000) (hG : ∀ H', Ex H H' → Gd H')
    (he : ∀ (i : Nat) (x : V) (a : α) (Ha Hb : Hp) (R : VK) (ys : List V), as[i]? = some a → Ex H Ha → Ha D = some (.lst ys) → Y i Ha x Hb → (∀ y H', Ex Ha H' → Dp K (hidL (D :: S) H') y (f a) → R y H') → g x (wipe σ vs) Hb fun σ2 H2 => wipe σ2 vs = wipe σ vs ∧ te σ2 H2 R)
    (nD : H D = none) (hd : ∀ H' ys, Ex H H' → H' D = some (.lst ys) → DpAll K (hidL (D :: S) H') ys (as.map f) → Qd H') : LcX J g te vs σ H D Qd := by
  refine lc_gen (K := K) W S (fun i d => ∃ a, as[i]? = some a ∧ d = f a) (Ex H) (by omega) (Ex.new nD) (fun Hc ys xs e hD => e.mut nD) hG (fun i x Ha Hb R ys hi eA hD y r => ?_) (fun H' ys ds e hD ld ad dys => ?_)
  · have hi' : i < as.length := by omega
    have ea : as[i]? = some as[i] := List.getElem?_eq_getElem hi'
    exact he i x as[i] Ha Hb _ ys ea eA hD y fun y H' e dy => r y H' _ ⟨_, ea, rfl⟩ (eA.trans e) (hidL_mono e) (e _ _ hD) dy
  · have : ds = as.map f := by
      refine List.ext_getElem? fun i => ?_
      rw [List.getElem?_map]
      cases e : ds[i]? with
      | none => rw [List.getElem?_eq_none (by have := List.getElem?_eq_none_iff.mp e; omega)]; rfl
      | some d =>
        obtain ⟨a, h1, rfl⟩ := ad i d e
        rw [h1]
        rfl
    subst this
    exact hd H' ys e hD dys
/-- a new tuple of data -/
theorem dp_newT {K : PySem.W.Frag} {H : Hp} {t : Addr} {xs : List V} {ds : List PyData} {S : List Addr} (h : H t = some (.tup xs)) (n : t ∉ S) (d : DpAll K (hidL S H) xs ds) : Dp K (hidL S H) (.ref t) (.tuple ds) := .tup (st_of (hidL_some.mpr ⟨n, h⟩)) d
theorem dp_newL {K : PySem.W.Frag} {H : Hp} {t : Addr} {xs : List V} {ds : List PyData} {S : List Addr} (h : H t = some (.lst xs)) (n : t ∉ S) (d : DpAll K (hidL S H) xs ds) : Dp K (hidL S H) (.ref t) (.list ds) := .lst (SqL.of (hidL_some.mpr ⟨n, h⟩)) d
end W

set_option Elab.async false
set_option linter.all false
set_option maxRecDepth 100000
set_option maxHeartbeats 32000000
namespace W
open PySem PySem.Spec PyProof.Rows L2 Evl G
theorem pi_rangeK {X : Cx} {tg a : Expr} {ta : TA} {p pos : Pos} (hg : Gl X "range") (hm : X.mg "range" = none) (ha : PA X [a] ta) (hs : starEach [a] X.env = [(false, eval a X.env)] := by rfl) : PI X tg (.Call (.Name "range" p) [a] [] pos) (iRng1 ta) := pi_range1 hg hm ha hs
theorem bits_ltr {n : Nat} (hn : n ≤ 4) : bitsL n = (List.range (2 ^ n)).map (ltr n) := by
  refine List.ext_getElem? fun i => ?_
  rw [List.getElem?_map]
  by_cases h : i < 2 ^ n
  · rw [List.getElem?_range h, (ltr_ok hn h).2.2.2]
    rfl
  · rw [List.getElem?_eq_none (by rw [bitsL_len]; omega), List.getElem?_eq_none (by rw [List.length_range]; omega)]
    rfl
theorem rows_ltr {n : Nat} (hn : n ≤ 4) : rowsD (bitsL n) = (List.range (2 ^ n)).map fun j => bitsD (ltr n j) := by
  rw [bits_ltr hn]
  unfold rowsD
  rw [List.map_map]
  rfl
end W

set_option Elab.async false
set_option linter.all false
set_option maxRecDepth 100000
set_option maxHeartbeats 16000000
/-! The law's letters. -/
namespace W
open PySem PySem.Spec PyProof.Rows L2 Evl G
theorem stepR_snoc (rs : List (List Int)) (r : List Int) : stepR (rs ++ [r]) = stepR rs ++ [r ++ [0], r ++ [1]] := by
  unfold stepR
  rw [List.flatMap_append]
  simp
theorem noLs_rows (rs : List (List Int)) : noLs (rowsD rs) = true := noLs_map (f := rowD) (fun r => noLs_map (f := PyData.int) (fun _ => rfl) r) rs
theorem bits_len (n : Nat) : ∀ r ∈ bitsL n, r.length = n := bits_short n
section
variable {P : Program} {w : World} {K : PySem.W.Frag} {mg : Str → Option Value} {base : Heap} {M : Addr}
def spLLetters (K : PySem.W.Frag) : Sp := fun vs H Q _ => ∃ n : Nat, vs = [.int (n : Int)] ∧ n ≤ 4 ∧ ∀ l xs H', H l = none → Ex H H' → H' l = some (.lst xs) → DpAll K H' xs ((List.range (2 ^ n)).map fun j => bitsD (ltr n j)) → Q (.ref l) H'
abbrev nLLetters : List Str := ["_law_width", "_law_found", "_law_turn", "_law_longer", "_law_letter"]
theorem scLLetters : FnScope nLLetters ["_law_width"] (defScope dLLetters) := ⟨rfl, rfl, rfl, by decide +kernel, rfl, by decide +kernel, by decide +kernel⟩
theorem okLLetters {f : Addr} {fd : FuncData} (F : At K mg "_law_letters" dLLetters ["_law_width"] f fd) (T : Txt K mg) : FnOk P w K mg base CX0 1 f fd ["_law_width"] (spLLetters K) := by
  refine F.fn.ok scLLetters (fun vs H Q E h => ?_) (fun cdv A outer s H vs Q E hr h => ?_)
  · obtain ⟨n, rfl, _⟩ := h
    rfl
  · obtain ⟨n, rfl, hn, k⟩ := h
    have nds := scLLetters.nd
    refine ⟨_, pss_cons (ps_set (i := 1) nds rfl (Or.inl rfl) (pe_lst (pa_cons (pe_tup pa_nil) pa_nil)))
      (pss_cons (ps_for PassesOwn.never rfl (pi_range1 (by rfl) T.range (pa_cons (pv 0) pa_nil)) (pg_name (i := 2) nds rfl (Or.inl rfl))
        (pss_cons (ps_set (i := 3) nds rfl (Or.inl rfl) (pe_lst pa_nil))
        (pss_cons (ps_for PassesOwn.never rfl (pi_list (pv 1)) (pg_name (i := 4) nds rfl (Or.inl rfl))
          (pss_one (ps_expr (pe_bm PySem.F.plainAttrs_list PySem.F.slot_list_extend PySem.F.type_list_extend mt_extend (pv 3) (pa_cons (pe_lst (pa_cons (pe_op (op_catK (K := K)) (pv 4) (pe_tup (pa_cons pe_int pa_nil))) (pa_cons (pe_op (op_catK (K := K)) (pv 4) (pe_tup (pa_cons pe_int pa_nil))) pa_nil))) pa_nil)))))
        (pss_one (ps_set (i := 1) nds rfl (Or.inl rfl) (pv 3))))))
      (pss_one (ps_ret (pv 1)))), ?_⟩
    refine ⟨Nat.zero_le _, fun t nt => ⟨(by show 1 ≤ sizeLine; decide), fun l nl => ?_⟩⟩
    have e1 : Ex H (upd (upd H t (.tup [])) l (.lst [.ref t])) := (Ex.new nt).trans (Ex.new nl)
    have nl0 : H l = none := Ex.freshW (Ex.new nt) nl
    have h0 : DpAll K (upd (upd H t (.tup [])) l (.lst [.ref t])) [.ref t] (rowsD (bitsL 0)) := .cons (.tup (st_of (Ex.new nl _ _ upd_same)) .nil) .nil
    have hl1 : (upd (upd H t (.tup [])) l (.lst [.ref t])) l = some (.lst [.ref t]) := upd_same
    generalize upd (upd H t (.tup [])) l (.lst [.ref t]) = H1 at e1 h0 hl1
    refine ⟨_, rfl, (n : Int), rfl, by omega, by omega, for_range (lo := 0) (n := (n : Int).toNat) (fun i σ Hc => ∃ (a : Addr) (xs : List V) (v2 v3 v4 : Option V), σ = [some (.int (n : Int)), some (.ref a), v2, v3, v4] ∧ H a = none ∧ Ex H Hc ∧ Hc a = some (.lst xs) ∧ DpAll K Hc xs (rowsD (bitsL i)))
      ⟨l, _, none, none, none, rfl, nl0, e1, hl1, h0⟩ (fun i σ Hc hi inv => ?_) (fun σ Hc inv => ?_)⟩
    · obtain ⟨a, xs, v2, v3, v4, rfl, na, e, ha, hx⟩ := inv
      have hi : i < n := by omega
      refine ⟨Nat.zero_le _, fun L nL => ?_⟩
      have eL : Ex Hc (upd Hc L (.lst [])) := Ex.new nL
      have hL0 : (upd Hc L (.lst [])) L = some (.lst []) := upd_same
      have nL0 := Ex.freshW e nL
      generalize upd Hc L (.lst []) = H2 at eL hL0
      have lx : xs.length = 2 ^ i := by
        have := dpAll_len hx
        simpa only [rowsD, List.length_map, bitsL_len] using this
      have h4 : 2 ^ i ≤ 2 ^ 3 := Nat.pow_le_pow_right (j := 3) (by decide) (by omega)
      have aL : a ≠ L := fun z => by rw [z, nL] at ha; cases ha
      refine ⟨_, rfl, a, rfl, ⟨xs, SqL.of (eL _ _ ha)⟩, for_list (K := K) (a := a) (xs := xs) (fun j σ Hd => ∃ (ys : List V) (v4 : Option V), σ = [some (.int (n : Int)), some (.ref a), some (.int ((0 : Int) + (i : Int))), some (.ref L), v4] ∧ Ex H Hd ∧ Hd a = some (.lst xs) ∧ DpAll K Hd xs (rowsD (bitsL i)) ∧ Hd L = some (.lst ys) ∧ DpAll K Hd ys (rowsD (stepR ((bitsL i).take j))))
        ⟨[], v4, rfl, e.trans eL, eL _ _ ha, dpAll_ex eL hx, hL0, .nil⟩ (fun j σ Hd _ q => ?_) (fun j x σ Hd ex q => ?_) (fun σ Hd q => ?_)⟩
      · obtain ⟨ys, v4, rfl, eD, haD, _⟩ := q
        exact SqL.of haD
      · obtain ⟨ys, v4, rfl, eD, haD, hxD, hLD, hyD⟩ := q
        obtain ⟨r, hr1, dr⟩ := dp_nth hxD ex
        have hrl : r.length ≤ 100 := by
          have := bits_len i r (List.mem_of_getElem? hr1)
          omega
        have hjl : j < xs.length := (List.getElem?_eq_some_iff.mp ex).1
        refine ⟨_, rfl, .inl ⟨rfl, ys, SqL.of hLD⟩, ?_⟩
        refine rd_more (K := K) (i := 4) (r := r) (c := 0) rfl dr hrl rfl fun v1 G1 x1 d1 => ?_
        refine rd_more (K := K) (i := 4) (r := r) (c := 1) rfl (dp_ex x1 dr) hrl rfl fun v2 G2 x2 d2 => ?_
        refine ⟨(by show 2 ≤ sizeLine; decide), fun b hb => ?_⟩
        have x3 : Ex G2 (upd G2 b (.lst [v1, v2])) := Ex.new hb
        have X := (x1.trans x2).trans x3
        have d1' := dp_ex (x2.trans x3) (dp_ex (show Ex (nw Hd G1) G1 from nw_out) d1)
        have d2' := dp_ex x3 (dp_ex (show Ex (nw G1 G2) G2 from nw_out) d2)
        have hbb : (upd G2 b (.lst [v1, v2])) b = some (.lst [v1, v2]) := upd_same
        generalize upd G2 b (.lst [v1, v2]) = G3 at X d1' d2' hbb
        have hyl : ys.length = 2 * j := by
          have := dpAll_len hyD
          simp only [rowsD, List.length_map, stepR_len, List.length_take, bitsL_len] at this
          omega
        have hLG := X _ _ hLD
        have eT : ExT G3 (upd G3 L (.lst (ys ++ [v1, v2]))) := ExT.upd hLG
        refine ⟨L, b, ys, [v1, v2], rfl, rfl, hLG, hbb, Nat.le_trans (show ys.length + 2 ≤ 1000 by omega) (by decide), ?_⟩
        refine ⟨ys ++ [v1, v2], _, rfl, (eD.trans X).mut nL0, ?_, ?_, upd_same, ?_⟩
        · rw [upd_ne aL]
          exact X _ _ haD
        · exact t_dpAll eT (noLs_rows _) (dpAll_ex X hxD)
        · rw [take_more hr1, stepR_snoc]
          have q1 : rowsD (stepR ((bitsL i).take j) ++ [r ++ [0], r ++ [1]]) = rowsD (stepR ((bitsL i).take j)) ++ [.tuple (r.map .int ++ [.int 0]), .tuple (r.map .int ++ [.int 1])] := by
            simp [rowsD, rowD]
          have nb : ∀ c : Int, noL (.tuple (r.map .int ++ [.int c])) = true := fun c => by
            have := noLs_map (f := PyData.int) (fun _ => rfl) (r ++ [c])
            rw [List.map_append] at this
            exact this
          rw [q1]
          exact dpAll_appG (t_dpAll eT (noLs_rows _) (dpAll_ex X hyD)) (.cons (t_dp eT (nb 0) d1') (.cons (t_dp eT (nb 1) d2') .nil))
      · obtain ⟨ys, v4, rfl, eD, haD, hxD, hLD, hyD⟩ := q
        refine ⟨_, rfl, L, ys, _, _, _, rfl, nL0, eD, hLD, ?_⟩
        rw [List.take_of_length_le (by rw [bitsL_len]; omega)] at hyD
        exact hyD
    · obtain ⟨a, xs, v2, v3, v4, rfl, na, e, ha, hx⟩ := inv
      have hx : DpAll K Hc xs (rowsD (bitsL n)) := by simpa using hx
      rw [rows_ltr hn] at hx
      exact ⟨_, rfl, k a xs Hc na e ha hx⟩
end
end W

set_option Elab.async false
set_option linter.all false
set_option maxRecDepth 100000
set_option maxHeartbeats 16000000
/-! Machines as the law holds them; words played on them. -/
namespace W
open PySem PySem.Spec PyProof.Rows L2 Evl G
def kvM (n o : Nat) (l : Addr) : List (Key × V) := [(.inr "width", .int (n : Int)), (.inr "outs", .int (o : Int)), (.inr "rows", .ref l)]
/-- the law's machine stands at m -/
def ModAt (K : PySem.W.Frag) (H : Hp) (m : Addr) (n o : Nat) (rows : Rw) : Prop := ∃ l, H m = some (.dK (kvM n o l)) ∧ Dp K H (.ref l) (.list (rows.map rowL)) ∧ GoodR n o rows
theorem ModAt.ex {K : PySem.W.Frag} {H H' : Hp} {m : Addr} {n o : Nat} {rows : Rw} (h : ModAt K H m n o rows) (e : Ex H H') : ModAt K H' m n o rows := by
  obtain ⟨l, h1, h2, h3⟩ := h
  exact ⟨l, e _ _ h1, dp_ex e h2, h3⟩
section
variable {n o : Nat} {l m : Addr} {H : Hp}
theorem kvM_w (h : H m = some (.dK (kvM n o l))) : DGet H m (.str "width") (some (.int (n : Int))) := DGet.k (k := .inr "width") h
theorem kvM_o (h : H m = some (.dK (kvM n o l))) : DGet H m (.str "outs") (some (.int (o : Int))) := by
  have := DGet.k (k := .inr "outs") h
  exact this
theorem kvM_r (h : H m = some (.dK (kvM n o l))) : DGet H m (.str "rows") (some (.ref l)) := by
  have := DGet.k (k := .inr "rows") h
  exact this
end
/-- the row of a state, in the law's machine -/
theorem rowL_at {K : PySem.W.Frag} {H : Hp} {l : Addr} {rows : Rw} {s : Nat} (h : Dp K H (.ref l) (.list (rows.map rowL))) (hs : s < rows.length) : ∃ xs b ys, SqL K H l xs ∧ atI xs (s : Int) = some (.ref b) ∧ SqL K H b ys ∧ DpAll K H ys ((Mm.rw_ rows s).map goD) := by
  obtain ⟨l', xs, e, h1, h2⟩ := list_of h
  cases e
  have hx : s < xs.length := by rw [dp_len h2]; exact hs
  obtain ⟨r, er, dr⟩ := dp_nth h2 (List.getElem?_eq_getElem hx)
  rw [Mm.rw_at hs] at er
  cases er
  obtain ⟨b, ys, e2, h3, h4⟩ := list_of dr
  exact ⟨xs, b, ys, h1, by rw [atI_nat (j := s) (List.getElem?_eq_getElem hx), e2], h3, h4⟩
/-- a letter's place among the letters -/
theorem ltr_ne : ∀ n : Fin 5, ∀ i : Fin 16, ∀ j : Fin 16, i.1 < 2 ^ n.1 → j.1 < 2 ^ n.1 → i.1 ≠ j.1 → PyData.eqv (bitsD (ltr n.1 i.1)) (bitsD (ltr n.1 j.1)) = false := by decide +kernel
theorem ltr_eq : ∀ n : Fin 5, ∀ i : Fin 16, i.1 < 2 ^ n.1 → PyData.eqv (bitsD (ltr n.1 i.1)) (bitsD (ltr n.1 i.1)) = true ∧ SeqAt.shaped (bitsD (ltr n.1 i.1)) = true := by decide +kernel
theorem ltrs_sh : ∀ n : Fin 5, SeqAt.shaped (.list ((List.range (2 ^ n.1)).map fun j => bitsD (ltr n.1 j))) = true := by decide +kernel
abbrev ltD (n : Nat) : List PyData := (List.range (2 ^ n)).map fun j => bitsD (ltr n j)
theorem idx_facts {n j : Nat} (hn : n ≤ 4) (hj : j < 2 ^ n) : SeqAt.shaped (.list (ltD n)) = true ∧ SeqAt.shaped (bitsD (ltr n j)) = true ∧ (ltD n)[j]? = some (bitsD (ltr n j)) ∧ PyData.eqv (bitsD (ltr n j)) (bitsD (ltr n j)) = true ∧
    ∀ (m : Nat) (z : PyData), m < j → (ltD n)[m]? = some z → PyData.eqv z (bitsD (ltr n j)) = false := by
  have h4 : 2 ^ n ≤ 16 := Nat.pow_le_pow_right (by decide) hn
  refine ⟨ltrs_sh ⟨n, by omega⟩, (ltr_eq ⟨n, by omega⟩ ⟨j, by omega⟩ hj).2, ?_, (ltr_eq ⟨n, by omega⟩ ⟨j, by omega⟩ hj).1, fun m z hm hz => ?_⟩
  · rw [List.getElem?_map, List.getElem?_range hj]
    rfl
  · rw [List.getElem?_map, List.getElem?_range (by omega)] at hz
    cases hz
    exact ltr_ne ⟨n, by omega⟩ ⟨m, by omega⟩ ⟨j, by omega⟩ (by show m < 2 ^ n; omega) hj (by show m ≠ j; omega)
theorem hu65 {k : Nat} {A : Around} (r : Room k A) : A.units + 65 < cLine := by have := r.un; omega
section
variable {P : Program} {w : World} {K : PySem.W.Frag} {mg : Str → Option Value} {base : Heap} {M : Addr}
def spPlayed (K : PySem.W.Frag) : Sp := fun vs H Q _ => ∃ (m : Addr) (s : Nat) (x : V) (n o : Nat) (rows : Rw) (js : List Nat), vs = [.ref m, .int (s : Int), x] ∧ ModAt K H m n o rows ∧ s < rows.length ∧ IsWd K H x n js ∧
  ∀ t l xs H', Ex H H' → H' t = some (.tup [.ref l, .int ((Mm.end_ rows s js : Nat) : Int)]) → H l = none → H' l = some (.lst xs) → DpAll K H' xs ((Mm.outs rows s js).map bitsD) → Q (.ref t) H'
abbrev nPlayed : List Str := ["_law_model", "_law_state", "_law_word_here", "_law_letters_here", "_law_told", "_law_letter", "_law_output"]
theorem scPlayed : FnScope nPlayed ["_law_model", "_law_state", "_law_word_here"] (defScope dPlayed) := ⟨rfl, rfl, rfl, by decide +kernel, rfl, by decide +kernel, by decide +kernel⟩
theorem okPlayed {f : Addr} {fd : FuncData} (F : At K mg "_law_played" dPlayed ["_law_model", "_law_state", "_law_word_here"] f fd) (T : Txt K mg) : FnOk P w K mg base CX0 2 f fd ["_law_model", "_law_state", "_law_word_here"] (spPlayed K) := by
  obtain ⟨fL, gL, FL⟩ := T.lLetters
  have GL : FnOk P w K mg base CX0 1 fL gL ["_law_width"] (spLLetters K) := okLLetters FL T
  refine F.fn.ok scPlayed (fun vs H Q E h => ?_) (fun cdv A outer s H vs Q E hr h => ?_)
  · obtain ⟨m, s, x, n, o, rows, js, rfl, _⟩ := h
    rfl
  · obtain ⟨m, st, x, n, o, rows, js, rfl, hm, hst, hx, k⟩ := h
    have nds := scPlayed.nd
    have hu := hu_of hr
    have hu5 := hu65 hr
    refine ⟨_, pss_cons (ps_par (i := 3) (j := 4) rfl nds rfl rfl (by decide) (by rfl) (by rfl) (pa_cons (pe_call GL hr (by rfl) FL.gl FL.fn.kp FL.bi .nil pass0 (pa_cons (pe_dget hu (pv 0) pe_str (fun _ _ => rfl)) pa_nil)) (pa_cons (pe_lst pa_nil) pa_nil)) (by rfl))
      (pss_cons (ps_for PassesOwn.never rfl (pi_sq rfl (pv 2)) (pg_name (i := 5) nds rfl (Or.inl rfl))
        (pss_cons (ps_asg (pe_ix ix_list (pe_ix ix_list (pe_dget hu (pv 0) pe_str (fun _ _ => rfl)) (pv 1) (fun _ _ => rfl)) (pe_bm PySem.F.plainAttrs_list PySem.F.slot_list_index PySem.F.type_list_index (mt_indexD hu5) (pv 3) (pa_cons (pv 5) pa_nil)) (fun _ _ => rfl)) (pg_tup rfl (pgs_cons (pg_name (i := 1) nds rfl (Or.inl rfl)) (pgs_cons (pg_name (i := 6) nds rfl (Or.inl rfl)) pgs_nil))))
        (pss_one (ps_expr (pe_bm PySem.F.plainAttrs_list PySem.F.slot_list_append PySem.F.type_list_append mt_append (pv 4) (pa_cons (pv 6) pa_nil))))))
      (pss_one (ps_ret (pe_tup (pa_cons (pv 4) (pa_cons (pv 1) pa_nil)))))), ?_⟩
    obtain ⟨ml, hml, dml, good⟩ := id hm
    obtain ⟨wa, xs, rfl, hxs, dxs⟩ := hx.of
    have lx := dp_len dxs
    have fw := good.hw
    obtain ⟨lt, few⟩ := hx.2
    refine ⟨_, rfl, m, _, rfl, kvM_w hml, n, rfl, fw, fun L ls H1 nL e1 hL dL => ⟨Nat.zero_le _, fun Td nT => ?_⟩⟩
    have nT0 := Ex.freshW e1 nT
    have e2 : Ex H1 (upd H1 Td (.lst [])) := Ex.new nT
    have hT : (upd H1 Td (.lst [])) Td = some (.lst []) := upd_same
    have hL2 := e2 _ _ hL
    have dL2 := dpAll_ex e2 dL
    have LT : L ≠ Td := fun z => by rw [← z, hL] at nT; cases nT
    generalize upd H1 Td (.lst []) = H2 at e2 hT hL2 dL2
    have x2 := e1.trans e2
    refine ⟨_, _, rfl, for_sq (K := K) (a := wa) (xs := xs) (H0 := H) rfl hxs x2 (fun i σ Hc => (∃ u v, σ = [some (.ref m), some (.int ((Mm.end_ rows st (js.take i) : Nat) : Int)), some (.ref wa), some (.ref L), some (.ref Td), u, v]) ∧ Ex H Hc ∧ Hc L = some (.lst ls) ∧ DpAll K Hc ls ((List.range (2 ^ n)).map fun j => bitsD (ltr n j)) ∧ ∃ ys, Hc Td = some (.lst ys) ∧ DpAll K Hc ys ((Mm.outs rows st (js.take i)).map bitsD))
      ⟨⟨_, _, rfl⟩, x2, hL2, dL2, [], hT, .nil⟩ (fun i σ Hc q => q.2.1) (fun i x σ Hc ex q => ?_) (fun σ Hc q => ?_)⟩
    · obtain ⟨⟨u, v, rfl⟩, e, hLc, dLc, ys, hTc, dys⟩ := q
      obtain ⟨j, ej, dj⟩ := dp_nth dxs ex
      have hj := lt j (List.mem_of_getElem? ej)
      have hi := (List.getElem?_eq_some_iff.mp ej).1
      have hs := Mm.end_lt good.ok good.wide (js.take i) (fun q hq => lt q (List.mem_of_mem_take hq)) (s := st) hst
      obtain ⟨xr, b, yr, h1, h2, h3, h4⟩ := rowL_at (dp_ex e dml) hs
      obtain ⟨y, h5, h6⟩ := goal_at h4 good.wide hs hj
      have tk := take_more ej
      obtain ⟨i1, i2, i3, i4, i5⟩ := idx_facts fw hj
      have ly : ys.length = i := by rw [dp_len dys, Mm.outs_len, List.length_take]; omega
      obtain ⟨t, u2, rfl, g1, g2⟩ := go_of h6
      refine ⟨_, rfl, m, _, rfl, kvM_r (e _ _ hml), _, rfl, ml, xr, _, _, rfl, rfl, h1, h2, _, rfl, .inl ⟨rfl, _, SqL.of hLc⟩, _, rfl, L, x, bitsD (ltr n j), ltD n, j, bitsD (ltr n j), rfl, rfl, .lst (SqL.of hLc) dLc, dp_ex e dj, i1, i2, i3, i4, i5, ?_⟩
      refine ⟨b, yr, _, .ref t, rfl, rfl, h3, h5, t, _, rfl, g1, rfl, _, _, rfl, _, _, rfl, rfl, ?_⟩
      refine ⟨_, rfl, .inl ⟨rfl, _, SqL.of hTc⟩, _, rfl, Td, ys, _, rfl, rfl, hTc, Nat.lt_of_le_of_lt (show _ ≤ 1000 by omega) (by decide), ?_⟩
      have eT : ExT Hc (upd Hc Td (.lst (ys ++ [.ref u2]))) := ExT.upd hTc
      refine ⟨⟨some x, some (.ref u2), ?_⟩, e.mut nT0, by rw [upd_ne LT]; exact hLc, t_dpAll eT (noLs_map (fun j => noL_bits _) _) dLc, ys ++ [.ref u2], upd_same, ?_⟩
      · rw [tk, Mm.end_snoc]
        rfl
      · rw [tk, Mm.outs_app, List.map_append]
        exact dpAll_appG (t_dpAll eT (noLs_map noL_bits _) dys) (.cons (t_dp eT (noL_bits _) (.tup g2 (dpAll_ints _))) .nil)
    · obtain ⟨⟨u, v, rfl⟩, e, hLc, dLc, ys, hTc, dys⟩ := q
      rw [List.take_of_length_le (by omega)] at dys ⊢
      refine ⟨_, rfl, _, rfl, (by show 2 ≤ sizeLine; decide), fun t nt => ?_⟩
      have et : Ex Hc (upd Hc t (.tup [.ref Td, .int ((Mm.end_ rows st js : Nat) : Int)])) := Ex.new nt
      exact k t Td ys _ (e.trans et) upd_same nT0 (et _ _ hTc) (dpAll_ex et dys)
end
end W

set_option Elab.async false
set_option linter.all false
set_option maxRecDepth 100000
set_option maxHeartbeats 16000000
/-! What the law meets from a state. -/
namespace W
open PySem PySem.Spec PyProof.Rows L2 Evl G
theorem flat_ints (f : List Nat) : (intsN f).all flatV = true := by
  rw [List.all_eq_true]
  intro x hx
  obtain ⟨y, _, rfl⟩ := List.mem_map.mp hx
  rfl
theorem inV_ints (g : Nat) (f : List Nat) : inV (.int (g : Int)) (intsN f) = decide (g ∈ f) := by
  unfold inV intsN
  induction f with
  | nil => rfl
  | cons x f ih =>
    rw [List.map_cons, List.any_cons, ih]
    by_cases c : g = x
    · subst c
      have : eqV (.int (g : Int)) (.int (g : Int)) = true := by simp [eqV]
      rw [this]
      simp
    · have : eqV (.int (x : Int)) (.int (g : Int)) = false := by
        simp only [eqV]
        simp
        omega
      rw [this]
      simp [c]
section
variable {P : Program} {w : World} {K : PySem.W.Frag} {mg : Str → Option Value} {base : Heap} {M : Addr}
end
end W

set_option Elab.async false
set_option linter.all false
set_option maxRecDepth 100000
set_option maxHeartbeats 16000000
/-! The law's machine begun elsewhere, and made. -/
namespace W
open PySem PySem.Spec PyProof.Rows L2 Evl G
theorem mt_indexK {Y : Cx} {K : PySem.W.Frag} (h : Y.K = K := by rfl) : MtR Y "list.index" (rIndex K) := by
  subst h
  exact mt_index
theorem pe_bmK {X : Cx} {K : PySem.W.Frag} {o e : Expr} {es : List Expr} {to : TE} {t : TA} {name : Str} {apos cpos : Pos} {T id : String} {r : V → List V → Hp → VK → Prop} (pa : PlainAttrs T) (slot : Slot T name id) (hty : typeOf (.builtin id) = pure (.type "method_descriptor")) (hm : MtR X id r) (ho : PE X o to) (ha : PA X (e :: es) t) (hK : X.K = K := by rfl)
    (hbase : attributeBase o name X.env (eval o X.env) = eval o X.env := by rfl)
    (hfew : ((backTo cpos (starEach (e :: es) X.env)).all (fun x => !x.1) && (backToKw cpos (keywordEach [] X.env)).all (fun x => x.1.isSome)
      && decide ((e :: es).length + ([] : List Keyword).length + (if ([] : List Keyword).isEmpty then 0 else 1) < 30)) = true := by rfl)
    (hline : (apos.endLine == cpos.line) = true := by rfl) (hs : starEach (e :: es) X.env = (false, eval e X.env) :: starEach es X.env := by rfl) (hplain : (backTo cpos (starEach es X.env)).any (·.1) = false := by rfl) :
    PE X (.Call (.Attribute o name apos) (e :: es) [] cpos) (tBM K T r to t) := by
  subst hK
  exact pe_bm pa slot hty hm ho ha hbase hfew hline hs hplain
theorem eqV_ints (x y : Nat) : eqV (.int (x : Int)) (.int (y : Int)) = decide (x = y) := by
  simp only [eqV]
  by_cases c : x = y
  · subst c
    simp
  · rw [decide_eq_false c]
    simp
    omega
theorem idxN {f : List Nat} {x : Nat} (h : x ∈ f) : (intsN f)[f.idxOf x]? = some (.int (x : Int)) ∧ ∀ (m : Nat) (z : V), m < f.idxOf x → (intsN f)[m]? = some z → eqV z (.int (x : Int)) = false := by
  refine ⟨?_, fun m z hm hz => ?_⟩
  · unfold intsN
    rw [List.getElem?_map, Mm.idx_get h]
    rfl
  · unfold intsN at hz
    rw [List.getElem?_map] at hz
    cases e : f[m]? with
    | none => rw [e] at hz; cases hz
    | some y =>
      rw [e] at hz
      cases hz
      rw [eqV_ints]
      refine decide_eq_false fun c => ?_
      subst c
      have := (List.getElem?_eq_some_iff.mp e).1
      have h2 := List.not_of_lt_findIdx (p := fun z => z == y) (xs := f) (i := m) (by exact hm)
      have h3 : f[m] = y := (List.getElem?_eq_some_iff.mp e).2
      simp [h3] at h2
section
variable {P : Program} {w : World} {K : PySem.W.Frag} {mg : Str → Option Value} {base : Heap} {M : Addr}
end
end W

set_option Elab.async false
set_option linter.all false
set_option maxRecDepth 100000
set_option maxHeartbeats 16000000
/-! The law's machine made; words that are drawn. -/
namespace W
open PySem PySem.Spec PyProof.Rows L2 Evl G
theorem list_ex {α β : Type} {f : α → β} {p : α → Prop} : ∀ {ds : List β}, (∀ d ∈ ds, ∃ a, p a ∧ d = f a) → ∃ as : List α, ds = as.map f ∧ ∀ a ∈ as, p a
  | [], _ => ⟨[], rfl, fun _ h => by cases h⟩
  | d :: ds, h => by
    obtain ⟨a, ha, rfl⟩ := h d List.mem_cons_self
    obtain ⟨as, rfl, has⟩ := list_ex (ds := ds) fun d hd => h d (List.mem_cons_of_mem _ hd)
    exact ⟨a :: as, rfl, fun x hx => by
      rcases List.mem_cons.mp hx with rfl | hx
      · exact ha
      · exact has x hx⟩
theorem at_mem {β : Type} {ds : List β} {p : β → Prop} (h : ∀ (i : Nat) d, ds[i]? = some d → p d) : ∀ d ∈ ds, p d := fun d hd => by
  obtain ⟨i, hi⟩ := List.getElem?_of_mem hd
  exact h i d hi
/-- lists out of sight -/
theorem t_hid {S : List Addr} {H : Hp} (h : ∀ a ∈ S, ∃ xs, H a = some (.lst xs)) : ExT H (hidL S H) := fun b o hb n => hidL_some.mpr ⟨fun z => by
  obtain ⟨xs, hx⟩ := h b z
  rw [hb] at hx
  exact n xs (Option.some.inj hx), hb⟩
theorem Pot.lst {H : Hp} {p : Addr} (h : Pot H p) : ∃ xs, H p = some (.lst xs) := by
  obtain ⟨a, b, h, _⟩ := h
  exact ⟨_, h⟩
theorem Pot.upd {H : Hp} {p D : Addr} {o : HO} (h : Pot H p) (n : p ≠ D) : Pot (L2.upd H D o) p := by
  obtain ⟨a, b, h, r⟩ := h
  exact ⟨a, b, by rw [upd_ne n]; exact h, r⟩
theorem ExBut.free {p b : Addr} {H H' : Hp} (e : ExBut p H H') (hp : Pot H' p) (hp0 : Pot H p) (h : H' b = none) : H b = none := by
  refine e.fresh h fun z => ?_
  obtain ⟨xs, hx⟩ := hp.lst
  rw [z, hx] at h
  cases h
section
variable {P : Program} {w : World} {K : PySem.W.Frag} {mg : Str → Option Value} {base : Heap} {M : Addr}
def spMade (K : PySem.W.Frag) (M : Addr) : Sp := fun vs H Q _ => ∃ (m : Addr) (n o : Nat) (rows : Rw), vs = [.ref m] ∧ ModAt K H m n o rows ∧ ∀ q H', Ex H H' → H q = none → MacAt K M H' q n o rows → Q (.ref q) H'
theorem scMade : FnScope ["_law_model"] ["_law_model"] (defScope dMade) := ⟨rfl, rfl, rfl, by decide +kernel, rfl, by decide +kernel, by decide +kernel⟩
theorem okMade {f : Addr} {fd : FuncData} (F : At K mg "_law_made" dMade ["_law_model"] f fd) (T : Txt K mg) (MT : MacT K mg M) : FnOk P w K mg base CX0 8 f fd ["_law_model"] (spMade K M) := by
  obtain ⟨fI, gI, FI, hI1, hI2, bI⟩ := MT.init
  have GI : FnOk P w K mg base CX0 6 fI gI ["self", "width", "out_width", "rows"] (spInit K M) := okInit FI T MT
  refine F.fn.ok scMade (fun vs H Q E h => ?_) (fun cdv A outer s H vs Q E hr h => ?_)
  · obtain ⟨m, n, o, rows, rfl, _⟩ := h
    rfl
  · obtain ⟨m, n, o, rows, rfl, hm, k⟩ := h
    have hu := hu_of hr
    refine ⟨_, pss_one (ps_ret (pe_make ⟨MT.makes, hI1, hI2, MT.kp⟩ GI hr (by rfl) MT.gl bI .nil pass0 (pa_cons (pe_dget hu (pv 0) pe_str (fun _ _ => rfl)) (pa_cons (pe_dget hu (pv 0) pe_str (fun _ _ => rfl)) (pa_cons (pe_dget hu (pv 0) pe_str (fun _ _ => rfl)) pa_nil))))), ?_⟩
    obtain ⟨ml, hml, dml, good⟩ := id hm
    refine ⟨_, rfl, m, _, rfl, kvM_w hml, _, rfl, m, _, rfl, kvM_o hml, _, rfl, m, _, rfl, kvM_r hml, ?_⟩
    refine fun q dx nq ndx dq => ?_
    have e4 : Ex H (upd (upd H dx (.own q)) q (.ins M dx [])) := by
      intro b u hb
      rw [upd_ne (fun z => by rw [z, nq] at hb; cases hb), upd_ne (fun z => by rw [z, ndx] at hb; cases hb)]
      exact hb
    refine ⟨q, dx, .ref ml, n, o, rows, rfl, upd_same, dp_ex e4 dml, good, fun H5 b5 mac => ⟨rfl, ?_⟩⟩
    exact k q H5 (fun b u hb => b5 _ _ (e4 _ _ hb) (fun z => by rw [z, nq] at hb; cases hb)) nq mac
/-- a new word stands at l -/
def WdAt (K : PySem.W.Frag) (H : Hp) (l : Addr) (n : Nat) (js : List Nat) : Prop := ∃ xs, H l = some (.lst xs) ∧ DpAll K H xs (wdL n js) ∧ Ltrs n js
theorem WdAt.wd {K : PySem.W.Frag} {H : Hp} {l : Addr} {n : Nat} {js : List Nat} (h : WdAt K H l n js) : IsWd K H (.ref l) n js := by
  obtain ⟨xs, h1, h2, h3⟩ := h
  exact ⟨.inl (.lst (SqL.of h1) h2), h3⟩
theorem WdAt.ex {K : PySem.W.Frag} {H H' : Hp} {l : Addr} {n : Nat} {js : List Nat} (h : WdAt K H l n js) (e : Ex H H') : WdAt K H' l n js := by
  obtain ⟨xs, h1, h2, h3⟩ := h
  exact ⟨xs, e _ _ h1, dpAll_ex e h2, h3⟩
def spLWord (K : PySem.W.Frag) : Sp := fun vs H Q _ => ∃ (p : Addr) (n t : Nat), vs = [.ref p, .int (n : Int), .int (t : Int)] ∧ Pot H p ∧ n ≤ 4 ∧ t ≤ 50 ∧
  ∀ l js H', ExBut p H H' → Pot H' p → H l = none → WdAt K H' l n js → js.length ≤ t → Q (.ref l) H'
abbrev nLWord : List Str := ["_law_pot_here", "_law_width", "_law_most", "_law_place"]
theorem scLWord : FnScope nLWord ["_law_pot_here", "_law_width", "_law_most"] (defScope dLWord) := ⟨rfl, rfl, rfl, by decide +kernel, rfl, by decide +kernel, by decide +kernel⟩
theorem okLWord {f : Addr} {fd : FuncData} (F : At K mg "_law_word" dLWord ["_law_pot_here", "_law_width", "_law_most"] f fd) (T : Txt K mg) : FnOk P w K mg base CX0 3 f fd ["_law_pot_here", "_law_width", "_law_most"] (spLWord K) := by
  obtain ⟨fD, gD, FD⟩ := T.draw
  obtain ⟨fP, gP, FP⟩ := T.pick
  obtain ⟨fL, gL, FL⟩ := T.lLetters
  have GD : FnOk P w K mg base CX0 2 fD gD ["_law_pot_here", "_law_faces"] spDraw := (okDraw FD T).mono (by decide)
  have GP : FnOk P w K mg base CX0 2 fP gP ["_law_pot_here", "_law_some"] (spPickL K) := okPickL FP T
  have GL : FnOk P w K mg base CX0 2 fL gL ["_law_width"] (spLLetters K) := (okLLetters FL T).mono (by decide)
  refine F.fn.ok scLWord (fun vs H Q E h => ?_) (fun cdv A outer s H vs Q E hr h => ?_)
  · obtain ⟨p, n, t, rfl, _⟩ := h
    rfl
  · obtain ⟨p, n, t, rfl, hp, hn, ht, k⟩ := h
    have nds := scLWord.nd
    refine ⟨_, pss_one (ps_ret (pe_lc (own := [("_law_place", 3)]) (g := gName 3) (by rfl) nds (pi_rangeK (by rfl) T.range (pa_cons (pe_call GD hr (by rfl) FD.gl FD.fn.kp FD.bi .nil pass0 (pa_cons (pv 0) (pa_cons (pe_op op_add (pv 2) pe_int) pa_nil))) pa_nil)) (blkOk_by (own := [("_law_place", 3)]) (N := nLWord) (sc := defScope dLWord) (by decide +kernel))
        (fun _ _ _ _ _ => pg_name (i := 3) nds rfl (Or.inl rfl)) (fun _ _ _ _ _ => pts_nil) (fun _ _ _ _ _ => pe_call GP hr (by rfl) FP.gl FP.fn.kp FP.bi .nil pass0 (pa_cons (pv 0) (pa_cons (pe_call GL hr (by rfl) FL.gl FL.fn.kp FL.bi .nil pass0 (pa_cons (pv 1) pa_nil)) pa_nil))))), ?_⟩
    refine ⟨_, rfl, _, rfl, _, _, rfl, rfl, p, _, rfl, hp, by omega, by omega, fun r H1 r0 r1 e1 hp1 => ?_⟩
    obtain ⟨q, rfl⟩ := Int.eq_ofNat_of_zero_le r0
    refine ⟨_, rfl, by omega, by omega, fun D nD => ?_⟩
    have Dp' : p ≠ D := fun z => by
      obtain ⟨xs, hx⟩ := hp1.lst
      rw [z, nD] at hx
      cases hx
    have h4 : 2 ^ n ≤ 16 := Nat.pow_le_pow_right (by decide) hn
    have h1 : 0 < 2 ^ n := Nat.pos_of_ne_zero (by simp)
    refine lc_gen (K := K) (g := gName 3) (vs := [3]) walk_range [p] (fun i d => ∃ j, j < 2 ^ n ∧ d = bitsD (ltr n j)) (fun Hc => ExBut p H1 Hc ∧ Pot Hc p) (by omega) ⟨ExBut.of (Ex.new nD), hp1.upd Dp'⟩ (fun Hc ys xs i hD => ⟨fun b o hb nb => by
        rw [upd_ne (fun z => by rw [z, nD] at hb; cases hb)]
        exact i.1 _ _ hb nb, i.2.upd Dp'⟩) (fun Hc _ => trivial) (fun i x Ha Hb R ys hi iA hD y r => ?_) (fun H' ys ds iC hD ld ad dys => ?_)
    · obtain ⟨rfl, rfl⟩ := y
      refine ⟨wipe_set _ 3 _, ?_⟩
      obtain ⟨eA, hpA⟩ := iA
      refine ⟨_, rfl, _, rfl, n, rfl, hn, fun l xs H2 nl e2 hl dl => ?_⟩
      have hp2 := hpA.ex e2
      have lp : l ≠ p := fun z => by
        obtain ⟨zs, hz⟩ := hpA.lst
        rw [← z, nl] at hz
        cases hz
      have lx := dp_len dl
      rw [List.length_range] at lx
      refine ⟨p, l, xs, rfl, hp2, SqL.of hl, lp, fun z => by rw [z] at lx; simp at lx; omega, by omega, fun v H3 hv e3 hp3 => ?_⟩
      obtain ⟨j0, hj0⟩ := List.getElem?_of_mem hv
      obtain ⟨j, hj, dj⟩ := dp_nth dl hj0
      have jl : j < 2 ^ n := List.mem_range.mp (List.mem_of_getElem? hj)
      have hD3 : H3 D = some (.lst ys) := e3 _ _ (e2 _ _ hD) (Ne.symm Dp')
      have dv := p_dp hp2 e3 (d := bitsD (ltr n j)) (npDs_map (fun _ => rfl) _) dj
      refine r v H3 _ ⟨j, jl, rfl⟩ ⟨eA.trans ((ExBut.of e2).trans e3), hp3⟩ ?_ hD3 (t_dp (t_hid fun a ha => ?_) (noL_bits _) dv)
      · exact (hidL_mono e2).trans (hidL_but (by simp) e3)
      · simp only [List.mem_cons, List.not_mem_nil, or_false] at ha
        rcases ha with rfl | rfl
        · exact ⟨_, hD3⟩
        · exact hp3.lst
    · obtain ⟨eC, hpC⟩ := iC
      obtain ⟨js, rfl, hjs⟩ := list_ex (f := fun j => bitsD (ltr n j)) (p := fun j => j < 2 ^ n) (at_mem ad)
      rw [List.length_map] at ld
      refine k D js H' (e1.trans eC) hpC (ExBut.free e1 hp1 hp nD) ⟨ys, hD, dpAll_ex hidL_ex dys, hjs, by omega⟩ (by omega)
end
end W

set_option Elab.async false
set_option linter.all false
set_option maxRecDepth 100000
set_option maxHeartbeats 16000000
/-! The law's machine drawn. -/
namespace W
open PySem PySem.Spec PyProof.Rows L2 Evl G
section
variable {P : Program} {w : World} {K : PySem.W.Frag} {mg : Str → Option Value} {base : Heap} {M : Addr}
def spMach (K : PySem.W.Frag) : Sp := fun vs H Q _ => ∃ (p : Addr) (t n o : Nat), vs = [.ref p, .int (t : Int), .int (n : Int), .int (o : Int)] ∧ Pot H p ∧ 0 < t ∧ t ≤ 8 ∧ n ≤ 4 ∧ o ≤ 4 ∧
  ∀ m rows H', ExBut p H H' → Pot H' p → H m = none → ModAt K H' m n o rows → rows.length ≤ t → Q (.ref m) H'
abbrev nMach : List Str := ["_law_pot_here", "_law_most", "_law_width", "_law_outs", "_law_size", "_law_rows", "_law_state", "_law_letter", "_law_goals", "_law_goal", "_law_place"]
theorem scMach : FnScope nMach ["_law_pot_here", "_law_most", "_law_width", "_law_outs"] (defScope dMachine) := ⟨rfl, rfl, rfl, by decide +kernel, rfl, by decide +kernel, by decide +kernel⟩
theorem okMach {f : Addr} {fd : FuncData} (F : At K mg "_law_machine" dMachine ["_law_pot_here", "_law_most", "_law_width", "_law_outs"] f fd) (T : Txt K mg) : FnOk P w K mg base CX0 2 f fd ["_law_pot_here", "_law_most", "_law_width", "_law_outs"] (spMach K) := by
  obtain ⟨fD, gD, FD⟩ := T.draw
  have GD : FnOk P w K mg base CX0 1 fD gD ["_law_pot_here", "_law_faces"] spDraw := okDraw FD T
  refine F.fn.ok scMach (fun vs H Q E h => ?_) (fun cdv A outer s H vs Q E hr h => ?_)
  · obtain ⟨p, t, n, o, rfl, _⟩ := h
    rfl
  · obtain ⟨p, t, n, o, rfl, hp, ht0, ht, hn, ho, k⟩ := h
    have nds := scMach.nd
    refine ⟨_, pss_cons (ps_asg (pe_tup (pa_cons (pe_op op_add pe_int (pe_call GD hr (by rfl) FD.gl FD.fn.kp FD.bi .nil pass0 (pa_cons (pv 0) (pa_cons (pv 1) pa_nil)))) (pa_cons (pe_lst pa_nil) pa_nil))) (pg_tup rfl (pgs_cons (pg_name (i := 4) nds rfl (Or.inr rfl)) (pgs_cons (pg_name (i := 5) nds rfl (Or.inl rfl)) pgs_nil))))
      (pss_cons (ps_for PassesOwn.never rfl (pi_range1 (by rfl) T.range (pa_cons (pv 4) pa_nil)) (pg_name (i := 6) nds rfl (Or.inl rfl))
        (pss_cons (ps_setLc (i := 8) (own := [("_law_letter", 7)]) (g := gName 7) (by rfl) nds rfl rfl (sw_true rfl rfl rfl (by decide +kernel)) (pi_range1 (by rfl) T.range (pa_cons (pe_op op_shl pe_int (pv 2)) pa_nil)) (blkOk_by (own := [("_law_letter", 7)]) (N := nMach) (sc := defScope dMachine) (by decide +kernel))
            (fun _ _ _ _ _ => pg_name (i := 7) nds rfl (Or.inl rfl)) (fun _ _ _ _ _ => pts_nil) (fun _ _ _ _ _ => pe_call GD hr (by rfl) FD.gl FD.fn.kp FD.bi .nil pass0 (pa_cons (pv 0) (pa_cons (pv 4) pa_nil))))
        (pss_one (ps_expr (pe_bm PySem.F.plainAttrs_list PySem.F.slot_list_append PySem.F.type_list_append mt_append (pv 5) (pa_cons (pe_lc (own := [("_law_goal", 9)]) (g := gName 9) (by rfl) nds (pi_list (pv 8)) (blkOk_by (own := [("_law_goal", 9)]) (N := nMach) (sc := defScope dMachine) (by decide +kernel))
            (fun _ _ _ _ _ => pg_name (i := 9) nds rfl (Or.inl rfl)) (fun _ _ _ _ _ => pts_nil) (fun _ _ _ _ _ => pe_tup (pa_cons (pv 9) (pa_cons (pe_callTy (call_tup (K := K)) (by rfl) T.tuple (by decide +kernel) (pa_cons (pe_lc (own := [("_law_place", 10)]) (g := gName 10) (by rfl) nds (pi_rangeK (by rfl) T.range (pa_cons (pv 3) pa_nil)) (blkOk_by (own := [("_law_place", 10)]) (N := nMach) (by rfl))
              (fun _ _ _ _ _ => pg_name (i := 10) nds rfl (Or.inl rfl)) (fun _ _ _ _ _ => pts_nil) (fun _ _ _ _ _ => pe_call GD hr (by rfl) FD.gl FD.fn.kp FD.bi .nil pass0 (pa_cons (pv 0) (pa_cons pe_int pa_nil)))) pa_nil)) pa_nil)))) pa_nil))))))
      (pss_one (ps_ret (pe_disp (pps_cons pe_str (pv 2) (pps_cons pe_str (pv 3) (pps_cons pe_str (pv 5) pps_nil))) (by rfl) (by rfl) (by simp) (by decide))))), ?_⟩
    refine ⟨_, rfl, _, rfl, p, _, rfl, hp, by omega, by omega, fun r H1 r0 r1 e1 hp1 => ?_⟩
    obtain ⟨q, rfl⟩ := Int.eq_ofNat_of_zero_le r0
    refine ⟨_, _, rfl, rfl, Nat.zero_le _, fun R nR => ⟨(by show 2 ≤ sizeLine; decide), fun t2 nt2 => ?_⟩⟩
    obtain ⟨z, hzq⟩ : ∃ z : Nat, (1 : Int) + (q : Int) = (z : Int) := ⟨1 + q, by omega⟩
    have hz : z ≤ 8 := by omega
    have hz0 : 0 < z := by omega
    have eR : Ex H1 (upd H1 R (.lst [])) := Ex.new nR
    have e2 : Ex H1 (upd (upd H1 R (.lst [])) t2 (.tup [.int ((1 : Int) + (q : Int)), .ref R])) := eR.trans (Ex.new nt2)
    have tR : R ≠ t2 := fun x => by rw [← x, upd_same] at nt2; cases nt2
    have hR2 : (upd (upd H1 R (.lst [])) t2 (.tup [.int ((1 : Int) + (q : Int)), .ref R])) R = some (.lst []) := by rw [upd_ne tR, upd_same]
    have ht2 : (upd (upd H1 R (.lst [])) t2 (.tup [.int ((1 : Int) + (q : Int)), .ref R])) t2 = some (.tup [.int ((1 : Int) + (q : Int)), .ref R]) := upd_same
    have nR0 : H R = none := ExBut.free e1 hp1 hp nR
    generalize upd (upd H1 R (.lst [])) t2 (.tup [.int ((1 : Int) + (q : Int)), .ref R]) = H2 at e2 hR2 ht2
    have hp2 := hp1.ex e2
    have b2 : ExBut p H H2 := e1.trans (ExBut.of e2)
    have Rp : p ≠ R := fun x => by
      obtain ⟨xs, hx⟩ := hp.lst
      rw [x, nR0] at hx
      cases hx
    have h4 : 2 ^ n ≤ 16 := Nat.pow_le_pow_right (by decide) hn
    have hsh : (1 * 2 ^ ((n : Int).toNat) : Int) = ((2 ^ n : Nat) : Int) := by
      rw [Int.toNat_natCast, Int.one_mul, Int.natCast_pow]
      rfl
    have lo1 : -(2 ^ 62) ≤ (1 * 2 ^ ((n : Int).toNat) : Int) := by rw [hsh]; exact Int.le_trans (by decide) (Int.natCast_nonneg _)
    have lo2 : (1 * 2 ^ ((n : Int).toNat) : Int) < 2 ^ 62 := by rw [hsh]; exact Int.lt_of_le_of_lt (Int.ofNat_le.mpr h4) (by decide)
    refine ⟨t2, _, rfl, st_of ht2, rfl, _, _, rfl, _, _, rfl, rfl, ?_⟩
    refine ⟨_, rfl, (1 : Int) + (q : Int), rfl, by omega, by omega, for_range (lo := 0) (n := ((1 : Int) + (q : Int)).toNat) (fun i σ Hc => (∃ u6 u8, σ = [some (.ref p), some (.int (t : Int)), some (.int (n : Int)), some (.int (o : Int)), some (.int ((1 : Int) + (q : Int))), some (.ref R), u6, none, u8, none, none]) ∧ ExBut p H Hc ∧ Pot Hc p ∧
        ∃ xs rs, Hc R = some (.lst xs) ∧ rs.length = i ∧ DpAll K (hidL [R, p] Hc) xs (rs.map rowL) ∧ Mm.Wide rs (2 ^ n) ∧ ∀ r ∈ rs, ∀ g ∈ r, goOk z o g)
      ⟨⟨_, _, rfl⟩, b2, hp2, [], [], hR2, rfl, .nil, (fun r h => by cases h), (fun r h => by cases h)⟩ (fun i σ Hc hi inv => ?_) (fun σ Hc inv => ?_)⟩
    · obtain ⟨⟨u6, u8, rfl⟩, eC, hpC, xs, rs, hRc, lrs, dxs, wd, gok⟩ := inv
      have hi : i < z := by omega
      refine ⟨_, rfl, 1, (n : Int), rfl, rfl, ⟨by omega, by omega, by decide⟩, _, rfl, lo1, lo2, fun G0 nG => ?_⟩
      rw [hsh]
      refine lc_draws (j := 7) (n := ((2 ^ n : Nat) : Int).toNat) (A := fun v => ∃ g : Nat, g < z ∧ v = .int (g : Int)) (by omega) hpC nG (fun j Hx R3 hj ex hpx r => ?_) (fun H3 gs e3 hp3 hG lg ag => ?_)
      · refine ⟨_, rfl, _, rfl, p, _, rfl, hpx, by omega, by omega, fun r' H' r0 r1 e hp' => r _ H' ?_ e hp'⟩
        obtain ⟨g, rfl⟩ := Int.eq_ofNat_of_zero_le r0
        exact ⟨g, by omega, rfl⟩
      · have pG : p ≠ G0 := fun x => by
          obtain ⟨zs, hx⟩ := hpC.lst
          rw [x, nG] at hx
          cases hx
        have hR3 := e3 _ _ hRc (Ne.symm Rp)
        refine ⟨_, rfl, .inl ⟨rfl, _, SqL.of hR3⟩, _, rfl, G0, rfl, ⟨_, SqL.of hG⟩, fun D nD => ?_⟩
        have pD : p ≠ D := fun x => by
          obtain ⟨zs, hx⟩ := hp3.lst
          rw [x, nD] at hx
          cases hx
        have DR : D ≠ R := fun x => by rw [x, hR3] at nD; cases nD
        have lgs : gs.length ≤ 16 := by omega
        refine lc_gen (K := K) (g := gName 9) (vs := [9]) (walk_list (K := K) (a := G0) (xs := gs)) [R, p] (fun i d => ∃ g : Mm.Go, goOk z o g ∧ d = goD g) (fun Hx => ExBut p H3 Hx ∧ Pot Hx p) (by omega) ⟨ExBut.of (Ex.new nD), hp3.upd pD⟩ (fun Hx ys xs i hD => ⟨fun b u hb nb => by
            rw [upd_ne (fun z => by rw [z, nD] at hb; cases hb)]
            exact i.1 _ _ hb nb, i.2.upd pD⟩) (fun Hx i => SqL.of (i.1 _ _ hG (Ne.symm pG))) (fun i' x Ha Hb R2 ys hi' iA hD y r => ?_) (fun H' ys ds iC hD ld ad dys => ?_)
        · obtain ⟨rfl, ex⟩ := y
          obtain ⟨g, gz, rfl⟩ := ag x (List.mem_of_getElem? ex)
          obtain ⟨eA, hpA⟩ := iA
          refine ⟨wipe_set _ 9 _, ?_⟩
          refine ⟨_, rfl, _, rfl, (o : Int), rfl, by omega, by omega, fun D2 nD2 => ?_⟩
          refine lc_draws (j := 10) (n := (o : Int).toNat) (A := fun v => ∃ b : Int, isBt b ∧ v = .int b) (by omega) hpA nD2 (fun j Hx R3 hj ex hpx r => ?_) (fun H4 bs e4 hp4 hD2 lb ab => ?_)
          · refine ⟨_, rfl, p, _, rfl, hpx, by decide, by decide, fun r' H' r0 r1 e hp' => r _ H' ⟨r', ?_, rfl⟩ e hp'⟩
            unfold isBt
            omega
          · obtain ⟨cs, rfl, hcs⟩ := list_ex (f := V.int) (p := isBt) ab
            rw [List.length_map] at lb
            refine ⟨D2, _, rfl, .inl ⟨SqL.of hD2, fun l nl => ⟨(by show 2 ≤ sizeLine; decide), fun t3 nt3 => ?_⟩⟩⟩
            have pD2 : p ≠ D2 := fun x => by
              obtain ⟨zs, hx⟩ := hpA.lst
              rw [x, nD2] at hx
              cases hx
            have e5 : Ex H4 (upd (upd H4 l (.tup (cs.map V.int))) t3 (.tup [.int (g : Int), .ref l])) := (Ex.new nl).trans (Ex.new nt3)
            have hD4 := e4 _ _ hD (Ne.symm pD)
            have hR4 := e4 _ _ (eA _ _ hR3 (Ne.symm Rp)) (Ne.symm Rp)
            obtain ⟨zp, hzp⟩ := hp4.lst
            have nS : ∀ {b : Addr}, H4 b = none → b ∉ [D, R, p] := fun {b} nb z => by
              simp only [List.mem_cons, List.not_mem_nil, or_false] at z
              rcases z with rfl | rfl | rfl
              · rw [nb] at hD4; cases hD4
              · rw [nb] at hR4; cases hR4
              · rw [nb] at hzp; cases hzp
            have nt4 : H4 t3 = none := Ex.freshW (Ex.new nl) nt3
            have lt : l ≠ t3 := fun x => by rw [← x, upd_same] at nt3; cases nt3
            have e45 := e4.trans (ExBut.of e5)
            refine r (.ref t3) _ (goD (g, cs)) ⟨(g, cs), ⟨gz, lb.trans (Int.toNat_natCast o), hcs⟩, rfl⟩ ⟨eA.trans e45, hp4.ex e5⟩ (hidL_but (by simp) e45) (e5 _ _ hD4) (dp_newT upd_same (nS nt4) (.cons (.int _) (.cons (dp_newT (by rw [upd_ne lt, upd_same]) (nS nl) (dpAll_ints _)) .nil)))
        · obtain ⟨eD, hpD⟩ := iC
          obtain ⟨row, rfl, hrow⟩ := list_ex (f := goD) (p := goOk z o) (at_mem ad)
          rw [List.length_map] at ld
          have hR' := eD _ _ hR3 (Ne.symm Rp)
          have lxs : xs.length = i := by rw [dp_len dxs, lrs]
          refine ⟨R, xs, .ref D, rfl, rfl, hR', Nat.lt_of_le_of_lt (show _ ≤ 1000 by omega) (by decide), ?_⟩
          have eE := e3.trans eD
          refine ⟨⟨_, _, rfl⟩, fun b u hb nb => ?_, hpD.upd Rp, xs ++ [.ref D], rs ++ [row], upd_same, by simp [lrs], ?_, fun r hr => ?_, fun r hr => ?_⟩
          · rw [upd_ne (fun z => by rw [z, nR0] at hb; cases hb)]
            exact eE _ _ (eC _ _ hb nb) nb
          · rw [hidL_upd (by simp), List.map_append]
            refine dpAll_appG (dpAll_ex (hidL_but (by simp) eE) dxs) (.cons (dp_newL hD (by simp [DR, Ne.symm pD]) (dpAll_ex hidL_less dys)) .nil)
          · rcases List.mem_append.mp hr with hr | hr
            · exact wd r hr
            · rw [List.mem_singleton.mp hr, ld, lg]
              rfl
          · rcases List.mem_append.mp hr with hr | hr
            · exact gok r hr
            · rw [List.mem_singleton.mp hr]
              exact hrow
    · obtain ⟨⟨u6, u8, rfl⟩, eC, hpC, xs, rs, hRc, lrs, dxs, wd, gok⟩ := inv
      have lz : rs.length = z := by omega
      refine fun m nm => ?_
      have em : Ex Hc (upd Hc m (.dK [])) := Ex.new nm
      refine ⟨_, rfl, _, rfl, _, rfl, upd_same, [(.inr "width", .int (n : Int)), (.inr "outs", .int (o : Int)), (.inr "rows", .ref R)], rfl, by show 3 ≤ 15; decide, ?_⟩
      have e3 : Ex Hc (upd (upd Hc m (.dK [])) m (.dK (mergeK [] [(.inr "width", .int (n : Int)), (.inr "outs", .int (o : Int)), (.inr "rows", .ref R)]))) := em.mut nm
      have hq : mergeK [] [((.inr "width" : Key), V.int (n : Int)), (.inr "outs", .int (o : Int)), (.inr "rows", .ref R)] = kvM n o R := rfl
      rw [hq] at e3 ⊢
      have dR : Dp K Hc (.ref R) (.list (rs.map rowL)) := .lst (SqL.of hRc) (dpAll_ex hidL_ex dxs)
      refine k m rs _ (eC.trans (ExBut.of e3)) (hpC.ex e3) (ExBut.free eC hpC hp nm) ⟨R, upd_same, dp_ex e3 dR, by omega, by omega, hn, ho, wd, fun r hr g hg => ?_⟩ (by omega)
      rw [lz]
      exact gok r hr g hg
end
end W

set_option Elab.async false
set_option linter.all false
set_option maxRecDepth 100000
set_option maxHeartbeats 8000000
/-! What is told: small data; what draws leave. -/
namespace W
open PySem PySem.Spec PyProof.Rows L2 Evl G
theorem shownAll_sum {c : Nat} : ∀ ds : List PyData, (∀ d ∈ ds, d.shown.length ≤ c) → ((PyData.shownAll ds).map (·.length)).sum ≤ ds.length * c
  | [], _ => by simp [PyData.shownAll]
  | d :: ds, h => by
    have ih := shownAll_sum ds fun x hx => h x (List.mem_cons_of_mem _ hx)
    have h1 := h d List.mem_cons_self
    simp only [PyData.shownAll, List.map_cons, List.sum_cons, List.length_cons]
    rw [Nat.add_mul]
    omega
theorem shownAll_len : ∀ ds : List PyData, (PyData.shownAll ds).length = ds.length
  | [] => rfl
  | d :: ds => by simp [PyData.shownAll, shownAll_len ds]
/-- a told letter -/
def Tl (b : List Int) : Prop := b.length ≤ 4 ∧ ∀ x ∈ b, isBt x
def tlB (b : List Int) : Bool := decide ((bitsD b).shown.length ≤ 14) && (bitsD b).showable && !(bitsD b).hasDict && decide ((bitsD b).depth ≤ 1) && (bitsD b).canLay0
theorem tl_ok {b : List Int} (h : Tl b) : tlB b = true := by
  obtain ⟨h1, h2⟩ := h
  match b, h1, h2 with
  | [], _, _ => decide +kernel
  | [x], _, h2 =>
    rcases h2 x (by simp) with rfl | rfl <;> decide +kernel
  | [x, y], _, h2 =>
    rcases h2 x (by simp) with rfl | rfl <;> rcases h2 y (by simp) with rfl | rfl <;> decide +kernel
  | [x, y, z], _, h2 =>
    rcases h2 x (by simp) with rfl | rfl <;> rcases h2 y (by simp) with rfl | rfl <;> rcases h2 z (by simp) with rfl | rfl <;> decide +kernel
  | [x, y, z, u], _, h2 =>
    rcases h2 x (by simp) with rfl | rfl <;> rcases h2 y (by simp) with rfl | rfl <;> rcases h2 z (by simp) with rfl | rfl <;> rcases h2 u (by simp) with rfl | rfl <;> decide +kernel
theorem tl_facts {b : List Int} (h : Tl b) : (bitsD b).shown.length ≤ 14 ∧ (bitsD b).showable = true ∧ (bitsD b).hasDict = false ∧ (bitsD b).depth ≤ 1 ∧ (bitsD b).canLay0 = true := by
  have := tl_ok h
  unfold tlB at this
  simp only [Bool.and_eq_true, decide_eq_true_eq, Bool.not_eq_true'] at this
  obtain ⟨⟨⟨⟨a, b⟩, c⟩, d⟩, e⟩ := this
  exact ⟨a, b, c, d, e⟩
/-- a list of told letters -/
structure TlL (d : PyData) : Prop where
  sh : d.shown.length ≤ 100000
  sa : d.showable = true
  hd : d.hasDict = false
  dp : d.depth ≤ 40
  sp : SeqAt.shaped d = true
theorem TlL.eqv {d : PyData} (h : TlL d) : PyData.eqv d d = true := SeqAt.eqv_refl _ (SeqAt.canLay_of_shaped h.sp)
theorem tls_all {l : List (List Int)} (h : ∀ b ∈ l, Tl b) : PyData.showableAll (l.map bitsD) = true ∧ PyData.hasDictAll (l.map bitsD) = false ∧ PyData.depthAll (l.map bitsD) ≤ 1 ∧ PyData.canLayAll0 (l.map bitsD) = true := by
  induction l with
  | nil => exact ⟨rfl, rfl, Nat.zero_le _, rfl⟩
  | cons b l ih =>
    obtain ⟨a1, a2, a3, a4⟩ := ih fun x hx => h x (List.mem_cons_of_mem _ hx)
    obtain ⟨b1, b2, b3, b4, b5⟩ := tl_facts (h b List.mem_cons_self)
    refine ⟨?_, ?_, ?_, ?_⟩
    · simp [PyData.showableAll, a1, b2]
    · simp [PyData.hasDictAll, a2, b3]
    · simp only [List.map_cons, PyData.depthAll]
      omega
    · simp [PyData.canLayAll0, a4, b5]
theorem tll_list {l : List (List Int)} (h : ∀ b ∈ l, Tl b) (few : l.length ≤ 100) : TlL (.list (l.map bitsD)) := by
  obtain ⟨a1, a2, a3, a4⟩ := tls_all h
  have b := shownAll_sum (c := 14) (l.map bitsD) fun d hd => by
    obtain ⟨x, hx, rfl⟩ := List.mem_map.mp hd
    exact (tl_facts (h x hx)).1
  have a := listText_len_le (PyData.shownAll (l.map bitsD))
  rw [shownAll_len] at a
  rw [List.length_map] at a b
  refine ⟨?_, a1, a2, ?_, ?_⟩
  · show (listText (PyData.shownAll (l.map bitsD))).length ≤ _
    omega
  · show PyData.depthAll (l.map bitsD) + 1 ≤ _
    omega
  · unfold SeqAt.shaped
    rw [Bool.and_eq_true]
    refine ⟨a4, decide_eq_true ?_⟩
    show PyData.depthAll (l.map bitsD) + 1 ≤ _
    omega
theorem tl_ltr {n j : Nat} (hn : n ≤ 4) (hj : j < 2 ^ n) : Tl (ltr n j) := by
  obtain ⟨a, b, _⟩ := ltr_ok hn hj
  exact ⟨by omega, b⟩
theorem tll_word {n : Nat} {js : List Nat} (hn : n ≤ 4) (h : Ltrs n js) : TlL (.list (wdL n js)) := by
  have e : wdL n js = (js.map (ltr n)).map bitsD := by
    unfold wdL
    rw [List.map_map]
    rfl
  rw [e]
  exact tll_list (fun b hb => by
    obtain ⟨j, hj, rfl⟩ := List.mem_map.mp hb
    exact tl_ltr hn (h.1 j hj)) (by rw [List.length_map]; exact h.2)
theorem GoodR.outs {n o : Nat} {rows : Rw} (g : GoodR n o rows) : ∀ {s : Nat} (js : List Nat), s < rows.length → (∀ j ∈ js, j < 2 ^ n) → ∀ b ∈ Mm.outs rows s js, Tl b
  | s, [], _, _, b, hb => by cases hb
  | s, j :: js, hs, hj, b, hb => by
    have e := Mm.go_at g.wide hs (hj j List.mem_cons_self)
    have gin : Mm.go rows s j ∈ Mm.rw_ rows s := List.mem_of_getElem? e
    have rin : Mm.rw_ rows s ∈ rows := List.mem_of_getElem? (Mm.rw_at hs)
    obtain ⟨a, c, d⟩ := g.go _ rin _ gin
    rcases List.mem_cons.mp hb with rfl | hb
    · exact ⟨by have := g.ho; omega, d⟩
    · exact g.outs js a (fun x hx => hj x (List.mem_cons_of_mem _ hx)) b hb
theorem GoodR.tll {n o : Nat} {rows : Rw} (g : GoodR n o rows) {s : Nat} {js : List Nat} (hs : s < rows.length) (hj : Ltrs n js) : TlL (.list ((Mm.outs rows s js).map bitsD)) :=
  tll_list (g.outs js hs hj.1) (by rw [Mm.outs_len]; exact hj.2)
/-! ### draws -/
section
variable {K : PySem.W.Frag} {H H' : Hp} {p q l : Addr} {n o : Nat} {rows : Rw} {M : Addr} {js : List Nat}
theorem np_bits (b : List Int) : npD (bitsD b) = true := npDs_map (f := PyData.int) (fun _ => rfl) b
theorem np_go (g : Mm.Go) : npD (goD g) = true := by
  show (npD (.int (g.1 : Int)) && (npDs (g.2.map .int) && true)) = true
  rw [npDs_map (fun _ => rfl)]
  rfl
theorem np_rowsL (rows : Rw) : npD (.list (rows.map rowL)) = true := np_list (f := rowL) (fun _ => rfl) (fun r => np_list (f := goD) (fun _ => rfl) np_go r) rows
theorem np_rowsT (rows : Rw) : npD (.tuple (rows.map rowT)) = true := npDs_map (f := rowT) (fun r => npDs_map (f := goD) np_go r) rows
theorem np_wdL (n : Nat) (js : List Nat) : npD (.list (wdL n js)) = true := np_list (f := fun j => bitsD (ltr n j)) (fun _ => rfl) (fun j => np_bits _) js
theorem np_outs (l : List (List Int)) : npD (.list (l.map bitsD)) = true := np_list (f := bitsD) (fun _ => rfl) np_bits l
theorem ModAt.pot (h : ModAt K H q n o rows) (hp : Pot H p) (e : ExBut p H H') : ModAt K H' q n o rows := by
  obtain ⟨l, h1, h2, h3⟩ := h
  exact ⟨l, e _ _ h1 (pot_ne hp h1 fun xs z => by cases z), p_dp hp e (np_rowsL rows) h2, h3⟩
theorem MacAt.pot (h : MacAt K M H q n o rows) (hp : Pot H p) (e : ExBut p H H') : MacAt K M H' q n o rows := by
  obtain ⟨dx, a, h1, h2, h3⟩ := h
  exact ⟨dx, a, e _ _ h1 (pot_ne hp h1 fun xs z => by cases z), p_dp hp e (np_rowsT rows) h2, h3⟩
theorem WdAt.pot (h : WdAt K H l n js) (n1 : l ≠ p) (e : ExBut p H H') (hp : Pot H p) : WdAt K H' l n js := by
  obtain ⟨xs, h1, h2, h3⟩ := h
  exact ⟨xs, e _ _ h1 n1, p_dpAll hp e (npDs_map (f := fun j => bitsD (ltr n j)) (fun j => np_bits _) js) h2, h3⟩
end
theorem cutV_from {xs : List V} {n : Nat} (h : n ≤ xs.length) : cutV xs (some (n : Int)) none = xs.drop n := by
  unfold cutV HT.sIx
  have h1 : ¬ ((n : Int) < 0) := by omega
  simp only [h1, if_false, Int.toNat_natCast, Nat.min_eq_left h]
  exact List.take_of_length_le (by rw [List.length_drop]; omega)
theorem cutV_to {xs : List V} {n : Nat} (h : n ≤ xs.length) : cutV xs none (some (n : Int)) = xs.take n := by
  unfold cutV HT.sIx
  have h1 : ¬ ((n : Int) < 0) := by omega
  simp only [h1, if_false, Int.toNat_natCast, Nat.min_eq_left h, Nat.sub_zero, List.drop_zero]
theorem dpAll_takeN {K : PySem.W.Frag} {H : Hp} : ∀ {ds : List PyData} {xs : List V} (i : Nat), DpAll K H xs ds → DpAll K H (xs.take i) (ds.take i)
  | _, _, 0, _ => .nil
  | [], _, i + 1, h => by cases h; exact .nil
  | d :: ds, _, i + 1, h => by
    cases h with
    | cons a b => exact .cons a (dpAll_takeN i b)
theorem dpAll_dropN {K : PySem.W.Frag} {H : Hp} : ∀ {ds : List PyData} {xs : List V} (i : Nat), DpAll K H xs ds → DpAll K H (xs.drop i) (ds.drop i)
  | _, _, 0, h => h
  | [], _, i + 1, h => by cases h; exact .nil
  | d :: ds, _, i + 1, h => by
    cases h with
    | cons a b => exact dpAll_dropN i b
theorem Ltrs.take {n : Nat} {js : List Nat} (h : Ltrs n js) (i : Nat) : Ltrs n (js.take i) := ⟨fun j hj => h.1 j (List.mem_of_mem_take hj), by rw [List.length_take]; have := h.2; omega⟩
theorem Ltrs.drop {n : Nat} {js : List Nat} (h : Ltrs n js) (i : Nat) : Ltrs n (js.drop i) := ⟨fun j hj => h.1 j (List.mem_of_mem_drop hj), by rw [List.length_drop]; have := h.2; omega⟩
end W

set_option Elab.async false
set_option linter.all false
set_option maxRecDepth 100000
set_option maxHeartbeats 16000000
/-! A machine's letters, a step. -/
namespace W
open PySem PySem.Spec PyProof.Rows L2 Evl G
section
variable {P : Program} {w : World} {K : PySem.W.Frag} {mg : Str → Option Value} {base : Heap} {M : Addr}
def spLettersM (K : PySem.W.Frag) (M : Addr) : Sp := fun vs H Q _ => ∃ (p : Addr) (n o : Nat) (rows : Rw), vs = [.ref p] ∧ MacAt K M H p n o rows ∧ ∀ l xs H', Ex H H' → H l = none → H' l = some (.lst xs) → DpAll K H' xs (ltD n) → Q (.ref l) H'
theorem scLettersM : FnScope ["self"] ["self"] (defScope (dM 5)) := ⟨rfl, rfl, rfl, by decide +kernel, rfl, by decide +kernel, by decide +kernel⟩
theorem okLettersM {f : Addr} {fd : FuncData} (F : MthT K M "letters" "Machine.letters" (dM 5) ["self"] f fd) (T : Txt K mg) (MT : MacT K mg M) : FnOk P w K mg base CX0 2 f fd ["self"] (spLettersM K M) := by
  obtain ⟨f2, g2, F2⟩ := T.allBits
  have G2 : FnOk P w K mg base CX0 1 f2 g2 ["width"] (spRows K) := okAllBits F2 T
  refine F.fn.ok scLettersM (fun vs H Q E h => ?_) (fun cdv A outer s H vs Q E hr h => ?_)
  · obtain ⟨p, n, o, rows, rfl, _⟩ := h
    rfl
  · obtain ⟨p, n, o, rows, rfl, hm, k⟩ := h
    refine ⟨_, pss_one (ps_ret (pe_call G2 hr (by rfl) F2.gl F2.fn.kp F2.bi .nil pass0 (pa_cons (pe_fld (pv 0) rfl) pa_nil))), ?_⟩
    obtain ⟨dx, a, hp, da, good⟩ := id hm
    have hw := good.hw
    refine ⟨_, rfl, p, M, dx, _, _, rfl, hp, MT.cl, MT.n_width, (fldsM_in n o a).1, n, rfl, by omega, fun l xs H' nl e hl dl => ?_⟩
    rw [rows_ltr hw] at dl
    exact k l xs H' e nl hl (dpAll_ex hid_out dl)
end
end W

set_option Elab.async false
set_option linter.all false
set_option maxRecDepth 100000
set_option maxHeartbeats 4000000
/-! Functions made within functions, as values: their captured cells stand in the heap, locked, while their maker does not run. -/
namespace Clo
open PySem PySem.Spec PyProof.Rows L2 LamX NdefX G Evl
/-- the cell at c holds v -/
def CellO (c : Addr) (v : V) : HO := .ext fun h => ∃ u, L2.RelV v u ∧ h.IsCell c (some u)
def CellT (H : Hp) (c : Addr) (v : V) : Prop := ∃ o, H c = some (.frz o (CellO c v))
structure CloT (H : Hp) (cl : List (Str × Addr)) (fr : List Str) (ws : List V) : Prop where
  len : ws.length = fr.length
  inj : ∀ x y c, cl.lookup x = some c → cl.lookup y = some c → x = y
  all : ∀ y c, (y, c) ∈ cl → ∃ v, CellT H c v
  has : ∀ (i : Nat) (y : Str), fr[i]? = some y → ∃ c v, cl.lookup y = some c ∧ ws[i]? = some v ∧ CellT H c v
abbrev cellsOf (cl : List (Str × Addr)) : List Addr := cl.map (·.2)
def less (H : Hp) (cs : List Addr) : Hp := fun b => if b ∈ cs then none else H b
def back (H H' : Hp) (cs : List Addr) : Hp := fun b => if b ∈ cs then H b else H' b
section
variable {H H' H1 : Hp} {cs : List Addr} {b : Addr} {cl : List (Str × Addr)} {fr : List Str} {ws : List V} {o : HO}
theorem less_in (h : b ∈ cs) : less H cs b = none := if_pos h
theorem less_out (h : b ∉ cs) : less H cs b = H b := if_neg h
theorem back_in (h : b ∈ cs) : back H H' cs b = H b := if_pos h
theorem back_out (h : b ∉ cs) : back H H' cs b = H' b := if_neg h
theorem less_some (h : less H cs b = some o) : b ∉ cs ∧ H b = some o := by
  unfold less at h
  split at h
  · cases h
  · rename_i z
    exact ⟨z, h⟩
theorem less_ex (e : Ex H H') : Ex (less H cs) (less H' cs) := fun b o h => by
  obtain ⟨n, q⟩ := less_some h
  rw [less_out n]
  exact e _ _ q
theorem less_sub : Ex (less H cs) H := fun b o h => (less_some h).2
theorem back_ex (e : Ex (less H cs) H') : Ex H (back H H' cs) := fun b o h => by
  by_cases n : b ∈ cs
  · rw [back_in n]; exact h
  · rw [back_out n]
    exact e _ _ (by rw [less_out n]; exact h)
theorem back_exR (n : ∀ b ∈ cs, H' b = none) : Ex H' (back H H' cs) := fun b o h => by
  rw [back_out (fun m => by rw [n b m] at h; cases h)]
  exact h
theorem CellT.ex {c : Addr} {v : V} (h : CellT H c v) (e : Ex H H') : CellT H' c v := let ⟨o, q⟩ := h; ⟨o, e _ _ q⟩
theorem CloT.ex (h : CloT H cl fr ws) (e : Ex H H') : CloT H' cl fr ws :=
  ⟨h.len, h.inj, fun y c m => let ⟨v, q⟩ := h.all y c m; ⟨v, q.ex e⟩, fun i y m => let ⟨c, v, a, b, q⟩ := h.has i y m; ⟨c, v, a, b, q.ex e⟩⟩
theorem CloT.exN (h : CloT H cl fr ws) (e : LamX.ExtN H H') : CloT H' cl fr ws := by
  have k : ∀ {c v}, CellT H c v → CellT H' c v := fun {c v} ⟨o, q⟩ => ⟨o, e _ _ q (fun ps z => by cases z)⟩
  exact ⟨h.len, h.inj, fun y c m => let ⟨v, q⟩ := h.all y c m; ⟨v, k q⟩, fun i y m => let ⟨c, v, a, b, q⟩ := h.has i y m; ⟨c, v, a, b, k q⟩⟩
theorem CloT.upd {d : Addr} {u : HO} (h : CloT H cl fr ws) (hd : H d = some o) (n : ∀ u v, o ≠ .frz u v) : CloT (L2.upd H d u) cl fr ws := by
  have k : ∀ {c v}, CellT H c v → CellT (L2.upd H d u) c v := fun {c v} ⟨o', q⟩ => ⟨o', by rw [upd_ne (fun z => by rw [z, hd] at q; exact n _ _ (Option.some.inj q))]; exact q⟩
  exact ⟨h.len, h.inj, fun y c m => let ⟨v, q⟩ := h.all y c m; ⟨v, k q⟩, fun i y m => let ⟨c, v, a, b, q⟩ := h.has i y m; ⟨c, v, a, b, k q⟩⟩
theorem CloT.cell (h : CloT H cl fr ws) (m : b ∈ cellsOf cl) : ∃ v, CellT H b v := by
  obtain ⟨⟨y, c⟩, m2, rfl⟩ := List.mem_map.mp m
  exact h.all y c m2
theorem CloT.ne (h : CloT H cl fr ws) (q : H b = some o) (n : ∀ u v, o ≠ .frz u v) : b ∉ cellsOf cl := fun m => by
  obtain ⟨v, u, z⟩ := h.cell m
  rw [z] at q
  exact n _ _ (Option.some.inj q).symm
end
/-- another look at the same heap -/
theorem hok_sub {P : Program} {w : World} {H H2 : Hp} {h : Heap} (x : HOk P w H h) (sub : ∀ b o, H2 b = some o → H b = some o ∨ ObjOk P w H2 h b o)
    (own : ∀ b a, H b = some (.own a) → H2 b = some (.own a)) (tup : ∀ b xs, H b = some (.tup xs) → H2 b = some (.tup xs)) : HOk P w H2 h := fun a o e => by
  rcases sub a o e with q | q
  · exact (x a o q).stay (fun b u _ z => z) (fun b z => own b a z) tup
  · exact q
theorem codeO_frz {c : Addr} {q : Str} (u : Obj) (v : HO) : CodeO c q ≠ .frz u v := fun z => by unfold CodeO at z; cases z
theorem fnO_frz {f : Addr} {F : NF} (u : Obj) (v : HO) : FnO f F ≠ .frz u v := fun z => by unfold FnO at z; cases z
section
variable {X : Cx} {pins : List (Addr × Obj)} {σ : L2.St} {H : Hp} {s : Shared} {E : XK} {Q : VK} {f : Addr} {F : NF} {us : List Value} {vs : List V} {ps fr : List Str} {k j : Nat} {ws : List V} {sp : List (Option V) → Sp}
theorem less_hok {P : Program} {w : World} {h : Heap} {cl : List (Str × Addr)} (x : HOk P w H h) (C : ∀ b ∈ cellsOf cl, ∃ o v, H b = some (.frz o v)) : HOk P w (less H (cellsOf cl)) h :=
  hok_sub x (fun b o e => .inl (less_some e).2) (fun b a e => by
    rw [less_out (fun m => by obtain ⟨o, v, z⟩ := C b m; rw [z] at e; cases e)]
    exact e) (fun b xs e => by
    rw [less_out (fun m => by obtain ⟨o, v, z⟩ := C b m; rw [z] at e; cases e)]
    exact e)
/-- what a locked cell holds -/
theorem cell_at {P : Program} {w : World} {h : Heap} {c : Addr} {v : V} (x : HOk P w H h) (t : CellT H c v) : ∃ u, L2.RelV v u ∧ h.IsCell c (some u) := by
  obtain ⟨o, q⟩ := t
  obtain ⟨_, z, _⟩ := x c _ q
  exact z
/-- a function that another one made is called -/
theorem run_clo (Fn : NOk X.prog X.w X.K X.mg X.base CX0 k f F ps fr sp) (hr : Room j X.A) (hk : k ≤ j) (I : Inv X pins σ H s) (hf : H f = some (FnO f F)) (hc : H F.c = some (CodeO F.c F.qual)) (C : CloT H F.cl fr ws) (r : Vals vs us)
    (q : sp (ws.map some) vs (less H (cellsOf F.cl)) (fun v H2 => (∀ b ∈ cellsOf F.cl, H2 b = none) → Q v (back H H2 (cellsOf F.cl))) E) : wpAny (model X.prog X.w) X.A (call (.ref f) us) (EP X pins σ Q) X.xe s := by
  have cz : ∀ b ∈ cellsOf F.cl, ∃ o v, H b = some (.frz o v) := fun b m => let ⟨v, o, z⟩ := C.cell m; ⟨o, _, z⟩
  have nf := C.ne hf fnO_frz
  have nc := C.ne hc codeO_frz
  have e0 : Env0 X.prog X.w X.K X.mg X.base X.A X.stack s (less H (cellsOf F.cl)) := by
    have e := I.env0
    refine ⟨e.frames, e.mod, fun b o z => ⟨(e.bs b o z).1, ?_⟩, e.bsz, e.funs, fun b m => ?_, less_hok e.hok cz, e.bare⟩
    · unfold less
      split
      · rfl
      · exact (e.bs b o z).2
    · unfold less
      split
      · rfl
      · exact e.frf b m
  have CA : CellsAt F.cl fr (ws.map some) s.heap (less H (cellsOf F.cl)) := by
    refine ⟨by rw [List.length_map]; exact C.len, fun y c e => ⟨less_in (List.mem_map.mpr ⟨(y, c), PySem.mem_of_lookup e, rfl⟩), ?_⟩, C.inj, fun i y e => ?_⟩
    · obtain ⟨v, t⟩ := C.all y c (PySem.mem_of_lookup e)
      obtain ⟨u, _, z⟩ := cell_at I.hok t
      exact ⟨_, z⟩
    · obtain ⟨c, v, a, b, t⟩ := C.has i y e
      refine ⟨c, a, fun v' ev => ?_⟩
      rw [List.getElem?_map, b] at ev
      cases ev
      exact cell_at I.hok t
  refine wpAny_call (codeAny_mono (Fn.run X.A X.stack s (less H (cellsOf F.cl)) us vs _ _ E (hr.mono hk) e0 (by rw [less_out nf]; exact hf) (by rw [less_out nc]; exact hc) CA r q) fun r s' hq => ?_)
  cases r with
  | error e => exact hq.elim
  | ok fl =>
    cases fl with
    | ret u =>
      obtain ⟨v, H2, os, bare, un, hok, rv, q2⟩ := hq
      have cellK : ∀ b ∈ cellsOf F.cl, ∀ o, s.heap.get? b = some o → ∃ o', s'.heap.get? b = some o' ∧ (b ∉ frs X.stack → o' = o) ∧ o'.data = o.data := fun b m o ho => by
        by_cases hb : b ∈ frs X.stack
        · obtain ⟨sl, z⟩ := un.slot b o ho (less_in m) hb (by simp)
          exact ⟨_, z, fun n => absurd hb n, rfl⟩
        · exact ⟨o, un.keep b o ho (less_in m) hb (by simp), fun _ => rfl, rfl⟩
      have nfr : ∀ b ∈ cellsOf F.cl, b ∉ frs X.stack := fun b m hb => by
        obtain ⟨o, v, z⟩ := cz b m
        rw [I.stkFree b hb] at z
        cases z
      refine I.after ⟨v, back H H2 (cellsOf F.cl), os, bare, ⟨fun b o e n h1 h2 => ?_, fun b o e n h1 h2 => ?_, fun b o e n h1 => ?_, un.there, fun b xs e => ?_, fun b o u e => ?_, fun b ps e => ?_⟩, ?_, rv, q2 fun b m => ?_⟩
      · exact un.keep b o e (by unfold less; split <;> first | rfl | exact n) h1 h2
      · exact un.slot b o e (by unfold less; split <;> first | rfl | exact n) h1 h2
      · by_cases m : b ∈ cellsOf F.cl
        · rw [back_in m]; exact n
        · rw [back_out m]
          exact un.free b o e (by rw [less_out m]; exact n) h1
      · have m := C.ne e (fun u v z => by cases z)
        rw [back_out m]
        exact un.tups b xs (by rw [less_out m]; exact e)
      · by_cases m : b ∈ cellsOf F.cl
        · rw [back_in m]; exact e
        · rw [back_out m]
          exact un.frzs b o u (by rw [less_out m]; exact e)
      · have m := C.ne e (fun u v z => by cases z)
        rw [back_out m]
        exact un.tbls b ps (by rw [less_out m]; exact e)
      · refine hok_sub hok (fun b o e => ?_) (fun b a e => ?_) (fun b xs e => ?_)
        · by_cases m : b ∈ cellsOf F.cl
          · rw [back_in m] at e
            obtain ⟨v2, o2, z⟩ := C.cell m
            rw [z] at e
            cases e
            have old := I.hok b _ z
            obtain ⟨ho, hφ, _, st⟩ := old
            obtain ⟨o', h1, h2, _⟩ := cellK b m o2 ho
            have := h2 (nfr b m)
            subst this
            exact .inr ⟨h1, st _ _ hφ (fun o h => by rw [ho] at h; cases h; exact h1), ⟨_, h1⟩, st⟩
          · rw [back_out m] at e
            exact .inl e
        · have m : b ∉ cellsOf F.cl := fun m => by
            have z : less H (cellsOf F.cl) b = none := less_in m
            obtain ⟨v2, o2, z2⟩ := C.cell m
            obtain ⟨ho, _⟩ := I.hok b _ z2
            have := un.free b o2 ho z (by simp)
            rw [this] at e
            cases e
          rw [back_out m]
          exact e
        · have m : b ∉ cellsOf F.cl := fun m => by
            have z : less H (cellsOf F.cl) b = none := less_in m
            obtain ⟨v2, o2, z2⟩ := C.cell m
            obtain ⟨ho, _⟩ := I.hok b _ z2
            have := un.free b o2 ho z (by simp)
            rw [this] at e
            cases e
          rw [back_out m]
          exact e
      · obtain ⟨v2, o2, z2⟩ := C.cell m
        obtain ⟨ho, _⟩ := I.hok b _ z2
        exact un.free b o2 ho (less_in m) (by simp)
    | next => exact False.elim hq
    | brk => exact False.elim hq
    | cont => exact False.elim hq
end
/-- f(..), f a name that holds a function that another one made -/
def tClo (i : Nat) (f : Addr) (F : NF) (fr : List Str) (ws : List V) (sp : List (Option V) → Sp) (E : XK) (t : TA) : TE := fun σ H Q => σ[i]? = some (some (.ref f)) ∧ H f = some (FnO f F) ∧
  t σ H fun vs H1 => H1 f = some (FnO f F) ∧ H1 F.c = some (CodeO F.c F.qual) ∧ CloT H1 F.cl fr ws ∧ sp (ws.map some) vs (less H1 (cellsOf F.cl)) (fun v H2 => (∀ b ∈ cellsOf F.cl, H2 b = none) → Q v (back H1 H2 (cellsOf F.cl))) E
section
variable {X : Cx} {E : XK} {f : Addr} {F : NF} {ps fr : List Str} {i k j : Nat} {x : Str} {ws : List V} {sp : List (Option V) → Sp} {t : TA} {e : Expr} {es : List Expr} {p pos : Pos}
theorem pe_clo (Fn : NOk X.prog X.w X.K X.mg X.base CX0 k f F ps fr sp) (hr : Room j X.A) (hk : k ≤ j) (hN : X.N[i]? = some x) (hv : Vis X.env.scope x) (ha : PA X (e :: es) t)
    (hd : (x == ("__debug__" : Str)) = false := by decide) (hcd : (x == ("__classdict__" : Str)) = false := by decide)
    (he : starEach (e :: es) X.env = (false, eval e X.env) :: starEach es X.env := by rfl) (hpl : (backTo pos (starEach es X.env)).any (·.1) = false := by rfl) :
    PE X (.Call (.Name x p) (e :: es) [] pos) (tClo i f F fr ws sp E t) := by
  refine ⟨fun pins s σ H Q I h => ?_⟩
  obtain ⟨hs, hf, ht⟩ := h
  refine wpAny_Call_Name_kw (thn ((pe_var (pos := p) hN hv hd hcd).run pins s σ H (fun v H1 => v = .ref f ∧ H1 = H) I ⟨.ref f, hs, rfl, rfl⟩) fun u s1 ⟨v, H1, I1, r1, q1⟩ => ?_)
  obtain ⟨ev, eH⟩ := q1
  subst ev
  rw [eH] at I1
  obtain rfl : u = Value.ref f := r1
  refine PySem.W.callWith_F (first := []) (fnAt_of I1 hf) (thn (ha.run pos pins s1 σ H _ I1 ht) fun us s2 ⟨vs, H2, I2, r, h1, h2, C, q⟩ => ⟨fnAt_of I2 h1, ?_⟩) he hpl
  exact run_clo Fn hr hk I2 h1 h2 C r q
end
/-! ### the cells of the running frame, for one that is called -/
section
variable {X : Cx} {pins : List (Addr × Obj)} {σ : L2.St} {H : Hp} {s : Shared} {cl : List (Str × Addr)} {fr : List Str} {ws : List V}
def ClOk (cl : List (Str × Addr)) (fr : List Str) : Prop := fr.Nodup ∧ ∀ y c, (y, c) ∈ cl → ∃ i : Nat, fr[i]? = some y ∧ cl.lookup y = some c
open Classical in
theorem add_cells {P : Program} {w : World} {h : Heap} (ok : HOk P w H h) (C : CellsAt cl fr (ws.map some) h H) (hcl : ClOk cl fr) : ∃ Hc : Hp, (∀ b, b ∉ cellsOf cl → Hc b = H b) ∧ (∀ b ∈ cellsOf cl, ∃ o v, h.get? b = some o ∧ Hc b = some (.frz o v)) ∧
    (∀ b ∈ cellsOf cl, H b = none) ∧ CloT Hc cl fr ws ∧ HOk P w Hc h := by
  obtain ⟨nd, hcl⟩ := hcl
  have fnd : ∀ b, b ∈ cellsOf cl → ∃ z : Obj × V, (∃ i y, fr[i]? = some y ∧ cl.lookup y = some b ∧ ws[i]? = some z.2) ∧ h.get? b = some z.1 ∧ ∃ u, L2.RelV z.2 u ∧ z.1.data = .cell (some u) := fun b m => by
    obtain ⟨⟨y, c⟩, m2, rfl⟩ := List.mem_map.mp m
    obtain ⟨i, e1, e2⟩ := hcl y c m2
    obtain ⟨c', e3, e4⟩ := C.has i y e1
    rw [e2] at e3
    cases e3
    have hl : i < ws.length := by
      have := C.len
      rw [List.length_map] at this
      rw [this]
      exact (List.getElem?_eq_some_iff.mp e1).1
    obtain ⟨v, hv⟩ : ∃ v, ws[i]? = some v := ⟨_, List.getElem?_eq_getElem hl⟩
    obtain ⟨u, ru, o, ho, hd⟩ := e4 v (by rw [List.getElem?_map, hv]; rfl)
    exact ⟨(o, v), ⟨i, y, e1, e2, hv⟩, ho, u, ru, hd⟩
  have none_ : ∀ b ∈ cellsOf cl, H b = none := fun b m => by
    obtain ⟨⟨y, c⟩, m2, rfl⟩ := List.mem_map.mp m
    obtain ⟨i, e1, e2⟩ := hcl y c m2
    exact (C.all y c e2).1
  let Hc : Hp := fun b => if m : b ∈ cellsOf cl then some (.frz (fnd b m).choose.1 (CellO b (fnd b m).choose.2)) else H b
  have hin : ∀ b (m : b ∈ cellsOf cl), Hc b = some (.frz (fnd b m).choose.1 (CellO b (fnd b m).choose.2)) := fun b m => dif_pos m
  have hout : ∀ b, b ∉ cellsOf cl → Hc b = H b := fun b m => dif_neg m
  have fwd : ∀ b o, H b = some o → Hc b = some o := fun b o e => by
    rw [hout b (fun m => by rw [none_ b m] at e; cases e)]
    exact e
  refine ⟨Hc, hout, fun b m => ⟨_, _, (fnd b m).choose_spec.2.1, hin b m⟩, none_, ⟨?_, C.inj, fun y c m => ?_, fun i y e => ?_⟩, ?_⟩
  · have := C.len
    rw [List.length_map] at this
    exact this
  · have m2 : c ∈ cellsOf cl := List.mem_map.mpr ⟨(y, c), m, rfl⟩
    exact ⟨_, _, hin c m2⟩
  · obtain ⟨c, e2, _⟩ := C.has i y e
    have m2 : c ∈ cellsOf cl := List.mem_map.mpr ⟨(y, c), PySem.mem_of_lookup e2, rfl⟩
    obtain ⟨⟨i', y', e3, e4, e5⟩, _, _⟩ := (fnd c m2).choose_spec
    have ey := C.inj _ _ _ e4 e2
    subst ey
    have hi : i' = i := (List.getElem?_inj (List.getElem?_eq_some_iff.mp e3).1 nd).mp (e3.trans e.symm)
    subst hi
    exact ⟨c, _, e2, e5, _, hin c m2⟩
  · refine hok_sub ok (fun b o e => ?_) (fun b a e => fwd _ _ e) (fun b xs e => fwd _ _ e)
    by_cases m : b ∈ cellsOf cl
    · rw [hin b m] at e
      cases e
      obtain ⟨_, h1, u, ru, hd⟩ := (fnd b m).choose_spec
      exact .inr ⟨h1, ⟨u, ru, _, h1, hd⟩, ⟨_, h1⟩, fun g1 g2 ⟨u, r, o, ho, hd⟩ k => ⟨u, r, o, k o ho, hd⟩⟩
    · rw [hout b m] at e
      exact .inl e
/-- the closure that a nested def's scope gives -/
theorem clOk_of {cells : List (Str × Addr)} {N ps : List Str} {sc : Scope} (S : NScope N ps fr sc) (hf : ∀ y ∈ sc.names, y.2 = .free → ∃ c, cells.lookup y.1 = some c) : ClOk (cloFrom cells sc.names []) fr := by
  refine ⟨?_, fun y c m => ?_⟩
  · have q := S.nd.sublist (List.take_sublist (ps.length + fr.length) N)
    rw [S.pre] at q
    exact (List.nodup_append.mp q).2.1
  · rcases cloFrom_mem m with z | ⟨h1, h2⟩
    · cases z
    · obtain ⟨i, hi⟩ := List.mem_iff_getElem?.mp (S.free _ h1 rfl)
      obtain ⟨c1, hc⟩ := hf _ h1 rfl
      have hc' : cells.lookup y = some c1 := hc
      have e : c = c1 := by rw [h2, hc']; rfl
      subst e
      exact ⟨i, hi, clo_has hf h1 hc'⟩
end
/-! F(.., f): a def is called while it may call the functions of the running frame -/
section
variable {X : Cx} {n : Nat} {fa : Addr} {fd : FuncData} {pars : List Str} {pro : Sp} {EE : XK} {x : Str} {p q0 : Pos} {e1 : Expr} {er : List Expr} {ta : TA} {cl : List (Str × Addr)} {fr : List Str} {js : List Nat}
theorem run_own {pins : List (Addr × Obj)} {σ : L2.St} {H : Hp} {s : Shared} {Q : VK} {ys : List Value} {xs ws : List V} (F : FnOk X.prog X.w X.K X.mg X.base CX0 n fa fd pars pro) (hr : Room n X.A) (hb : Binds X.K fd pars []) (I : Inv X pins σ H s) (r : Vals xs ys)
    (C : CellsAt cl fr (ws.map some) s.heap H) (hcl : ClOk cl fr) (hnew : ∀ b ∈ cellsOf cl, X.s_0.heap.objs.size ≤ b ∧ b ≠ X.env.locals)
    (h : ∀ Hc, (∀ b, b ∉ cellsOf cl → Hc b = H b) → (∀ b ∈ cellsOf cl, H b = none) → CloT Hc cl fr ws → pro xs Hc (fun v H2 => Q v (less H2 (cellsOf cl))) EE) : wpAny (model X.prog X.w) X.A (call (.ref fa) ys) (EP X pins σ Q) X.xe s := by
  obtain ⟨Hc, hout, hin, hnone, hC, hok⟩ := add_cells I.hok C hcl
  have hp := h Hc hout hnone hC
  have many : ys.length = pars.length := r.length.symm.trans (F.len _ _ _ _ hp)
  have fwd : ∀ b o, H b = some o → Hc b = some o := fun b o e => by
    rw [hout b (fun m => by rw [hnone b m] at e; cases e)]
    exact e
  have e0 : Env0 X.prog X.w X.K X.mg X.base X.A X.stack s Hc := by
    have e := I.env0
    refine ⟨e.frames, e.mod, fun b o z => ⟨(e.bs b o z).1, ?_⟩, e.bsz, e.funs, fun b m => ?_, hok, e.bare⟩
    · rw [hout b (fun m => ?_)]
      · exact (e.bs b o z).2
      · exact absurd (Heap.lt_size z) (Nat.not_lt.mpr (Nat.le_trans I.ok.bsz (hnew b m).1))
    · rw [hout b (fun m2 => ?_)]
      · exact e.frf b m
      · rcases List.mem_cons.mp (I.stkSub b m) with z | z
        · exact (hnew b m2).2 z
        · obtain ⟨_, o, ho, _⟩ := I.ok.funs.mem z
          exact absurd (Heap.lt_size ho) (Nat.not_lt.mpr (hnew b m2).1)
  refine wpAny_call (codeAny_mono (F.run X.A X.stack s Hc ⟨ys, []⟩ ys xs _ EE hr e0 (by
    have := hb s ys I.kIn (by simpa using many)
    simpa using this) r hp) fun r s' hq => ?_)
  cases r with
  | error e => exact hq.elim
  | ok fl =>
    cases fl with
    | ret u =>
      obtain ⟨v, H2, os, bare, un, hok2, rv, q2⟩ := hq
      have cfrz : ∀ b ∈ cellsOf cl, ∀ o, s.heap.get? b = some o → ∃ v, H2 b = some (.frz o v) := fun b m o ho => by
        obtain ⟨o2, v2, h1, h2⟩ := hin b m
        rw [h1] at ho
        cases ho
        exact ⟨v2, un.frzs b _ _ h2⟩
      refine I.after ⟨v, less H2 (cellsOf cl), os, bare, ⟨fun b o e n h1 h2 => ?_, fun b o e n h1 h2 => ?_, fun b o e n h1 => ?_, un.there, fun b xs e => ?_, fun b o u e => ?_, fun b ps e => ?_⟩, ?_, rv, q2⟩
      · by_cases m : b ∈ cellsOf cl
        · obtain ⟨v2, z⟩ := cfrz b m o e
          obtain ⟨z2, _⟩ := hok2 b _ z
          exact z2
        · exact un.keep b o e (by rw [hout b m]; exact n) h1 h2
      · by_cases m : b ∈ cellsOf cl
        · obtain ⟨v2, z⟩ := cfrz b m o e
          obtain ⟨z2, _⟩ := hok2 b _ z
          exact ⟨_, z2⟩
        · exact un.slot b o e (by rw [hout b m]; exact n) h1 h2
      · by_cases m : b ∈ cellsOf cl
        · exact less_in m
        · rw [less_out m]
          exact un.free b o e (by rw [hout b m]; exact n) h1
      · have m : b ∉ cellsOf cl := fun m => by rw [hnone b m] at e; cases e
        rw [less_out m]
        exact un.tups b xs (fwd _ _ e)
      · have m : b ∉ cellsOf cl := fun m => by rw [hnone b m] at e; cases e
        rw [less_out m]
        exact un.frzs b o u (fwd _ _ e)
      · have m : b ∉ cellsOf cl := fun m => by rw [hnone b m] at e; cases e
        rw [less_out m]
        exact un.tbls b ps (fwd _ _ e)
      · exact less_hok hok2 fun b m => by
          obtain ⟨o2, v2, h1, h2⟩ := hin b m
          exact ⟨_, _, un.frzs b _ _ h2⟩
    | next => exact False.elim hq
    | brk => exact False.elim hq
    | cont => exact False.elim hq
/-- F(.., f): the reading -/
def tOwn (cl : List (Str × Addr)) (fr : List Str) (js : List Nat) (pro : Sp) (EE : XK) (t : TA) : TE := fun σ H Q => t σ H fun vs H1 => ∃ ws : List V, js.map (slotAt σ) = ws.map some ∧
  ∀ Hc, (∀ b, b ∉ cellsOf cl → Hc b = H1 b) → (∀ b ∈ cellsOf cl, H1 b = none) → CloT Hc cl fr ws → pro vs Hc (fun v H2 => Q v (less H2 (cellsOf cl))) EE
theorem pe_own (F : FnOk X.prog X.w X.K X.mg X.base CX0 n fa fd pars pro) (hr : Room n X.A) (cp : X.Ok → Caps X cl fr js ∧ ClOk cl fr) (hn : ∀ y, X.fn y = true) (hg : Gl X x) (hm : X.mg x = some (.ref fa)) (hk : PySem.W.keepIn X.K (.ref fa) = true) (hb : Binds X.K fd pars [])
    (ha : PA X (e1 :: er) ta) (hdb : (x == ("__debug__" : Str)) = false := by decide) (hs : starEach (e1 :: er) X.env = (false, eval e1 X.env) :: starEach er X.env := by rfl)
    (hp : (backTo q0 (starEach er X.env)).any (·.1) = false := by rfl) : PE X (.Call (.Name x p) (e1 :: er) [] q0) (tOwn cl fr js pro EE ta) := by
  refine ⟨fun pins st σ HH QQ I h => wpAny_Call_Name_kw (ld_glob I hg hm (PySem.W.callWith_K (h₀ := X.base) I.ok.mod.kin hk
    (thn (ha.run q0 pins st σ HH _ I h) fun _ _ ⟨vs, H1, I1, r, ws, ew, w⟩ => ⟨I1.kIn, ?_⟩) hs hp) hdb)⟩
  obtain ⟨cp, co⟩ := cp I1.ok
  have C := cells_of I1 cp
  rw [ew] at C
  refine run_own F hr hb I1 r C co (fun b m => ?_) w
  obtain ⟨⟨y, c⟩, m2, rfl⟩ := List.mem_map.mp m
  obtain ⟨i, _, e2⟩ := co.2 y c m2
  have e3 := cp.sub _ _ e2
  exact ⟨I1.ok.cab y c (hn y) e3, I1.cne y c e3⟩
end
/-! ### a def that hands out a function of its own -/
/-- a block that ends with «return f», f in slot i -/
structure PSc (X : Cx) (i : Nat) (st : List Stmt) (t : (L2.St → Hp → Prop) → L2.St → Hp → Prop) : Prop where
  run : ∀ (pins : List (Addr × Obj)) (s : Shared) (σ : L2.St) (H : Hp) (R : L2.St → Hp → Prop), Inv X pins σ H s → t R σ H →
    wpAny (model X.prog X.w) X.A (execs st X.env) (fun fl s' => ∃ (f : Addr) (σ' : L2.St) (H' : Hp), fl = .ret (.ref f) ∧ Inv X pins σ' H' s' ∧ σ'[i]? = some (some (.ref f)) ∧ R σ' H') X.xe s
theorem psc_cons {X : Cx} {i : Nat} {st : Stmt} {rest : List Stmt} {t : TS} {u : (L2.St → Hp → Prop) → L2.St → Hp → Prop} (h1 : PS X st t) (h2 : PSc X i rest u) : PSc X i (st :: rest) (fun R σ H => t { nx := u R, rt := fun _ _ => False } σ H) := by
  refine ⟨fun pins s σ H R I h => ?_⟩
  refine wpAny_execs_cons (thn (h1.run pins s σ H _ I h) fun f s1 q => ?_)
  cases f with
  | next =>
    obtain ⟨σ', H', I', q⟩ := q
    exact h2.run pins s1 σ' H' R I' q
  | ret v => obtain ⟨_, _, _, _, _, q⟩ := q; exact False.elim q
  | brk => obtain ⟨_, _, _, q⟩ := q; exact False.elim q
  | cont => obtain ⟨_, _, _, q⟩ := q; exact False.elim q
theorem psc_ret {X : Cx} {i : Nat} {x : Str} {p p2 : Pos} (hN : X.N[i]? = some x) (hv : Vis X.env.scope x) (hd : (x == ("__debug__" : Str)) = false := by decide) (hcd : (x == ("__classdict__" : Str)) = false := by decide) :
    PSc X i [.Return (some (.Name x p)) p2] (fun R σ H => ∃ f, σ[i]? = some (some (.ref f)) ∧ R σ H) := by
  refine ⟨fun pins s σ H R I h => ?_⟩
  obtain ⟨f, hs, hR⟩ := h
  refine wpAny_execs_cons (wpAny_Return_some (thn ((pe_var (pos := p) hN hv hd hcd).run pins s σ H (fun v H1 => v = .ref f ∧ H1 = H) I ⟨.ref f, hs, rfl, rfl⟩) fun u s1 ⟨v, H1, I1, r1, q1⟩ => ?_))
  obtain ⟨ev, eH⟩ := q1
  subst ev
  rw [eH] at I1
  obtain rfl : u = Value.ref f := r1
  exact ⟨f, σ, H, rfl, I1, hs, hR⟩
section
variable {pr : Program} {wo : World} {KK : PySem.W.Frag} {mm : Str → Option Value} {ba : Heap} {n : Nat} {fa : Addr} {fd : FuncData} {pars : List Str} {pro : Sp}
theorem okClo {x qual : Str} {de : Stmt} {NN : List Str} {i : Nat} {fr : List Str} {js : List Nat} (F : Fun KK x qual de fa fd) (S : FnScope NN pars (defScope de)) (ar : ∀ xs HH QQ EE, pro xs HH QQ EE → xs.length = pars.length)
    (body : ∀ (cdv : Value) (B : Around) (out : List Env) (st : Shared) (HH : Hp) (xs : List V) (QQ : VK) (EE : XK), fd.code = cdv → Room n (B.deeper (envOfC qual (defScope de) st.heap.objs.size fa cdv)) → pro xs HH QQ EE →
      ∃ t cl, PSc (cxOf CX0 pr wo KK mm ba NN qual (defScope de) fa cdv B out st HH EE).nox i (defBody de) t ∧
        ((cxOf CX0 pr wo KK mm ba NN qual (defScope de) fa cdv B out st HH EE).Ok → Caps (cxOf CX0 pr wo KK mm ba NN qual (defScope de) fa cdv B out st HH EE) cl fr js ∧ ClOk cl fr) ∧
        t (fun σ H' => ∃ f ws, σ[i]? = some (some (.ref f)) ∧ js.map (slotAt σ) = ws.map some ∧ ∀ Hc, (∀ b, b ∉ cellsOf cl → Hc b = H' b) → (∀ b ∈ cellsOf cl, H' b = none ∧ HH b = none) → CloT Hc cl fr ws → QQ (.ref f) Hc) (L2.start NN xs) HH) :
    FnOk pr wo KK mm ba CX0 (n + 1) fa fd pars pro := by
  obtain ⟨oc, od, kV, doc, pm, an, cdv, ct, osl, rfl, lk, hcd⟩ := F.ex
  refine ⟨ar, fun A outer s H args us vs Q E hr e0 hb r hsp => ?_⟩
  have hl := ar _ _ _ _ hsp
  have KX : KK.In s.heap := e0.mod.kin.keeps fun b o e => (e0.bs b o e).1
  have lim : s.heap.NoLimit := e0.mod.nolimit.keeps fun b o e => (e0.bs b o e).1
  have hkind : ∀ y ∈ pars.zip us, (defScope de).names.lookup y.1 = some .local ∨ ((defScope de).names.lookup y.1 = some .cell ∧ ((cellsFrom (s.heap.objs.size + 1) (defScope de).names []).lookup y.1).isSome = true) := fun ⟨n, v⟩ hy => by
    rcases S.par n (List.of_mem_zip hy).1 with q | q
    · exact .inl q
    · exact .inr ⟨q, PySem.W.cellsFrom_some _ _ _ (.inl q)⟩
  refine codeAny_call_function hr.depth (KX _ _ lk) rfl S.co S.gen rfl (PySem.W.codeRec_of KX hcd) (hb _ _ _ _ ?_)
  refine wpAny_newFunctionEnv_cells S.kind hkind fun env he s1 x => ?_
  subst he
  refine ⟨lim.keeps x.toInCall.keep, codeAny_func ?_⟩
  obtain ⟨t, cl, ht, hcp, hq⟩ := body cdv A outer s H vs Q E rfl (hr.deeper _) hsp
  have I : Inv (cxOf CX0 pr wo KK mm ba NN qual (defScope de) fa cdv A outer s H E) [] (L2.start NN vs) H s1 := inv_start S hr.hd e0 hl r x
  refine wpAny_mono (ht.run [] s1 (L2.start NN vs) H _ (I.wish _) hq) (fun fl s' hs => ?_) fun e s' hs => False.elim hs
  obtain ⟨f0, σ', H', rfl, J, hs0, f, ws, hs, ew, q⟩ := hs
  have J := J.unwish
  rw [hs0] at hs
  cases hs
  obtain ⟨cp, co⟩ := hcp J.ok
  have C := cells_of J cp
  rw [ew] at C
  obtain ⟨Hc, hout, hin, hnone, hC, hok⟩ := add_cells J.hok C co
  have hnew : ∀ b ∈ cellsOf cl, s.heap.objs.size ≤ b := fun b m => by
    obtain ⟨⟨y, c⟩, m2, rfl⟩ := List.mem_map.mp m
    obtain ⟨i, _, e2⟩ := co.2 y c m2
    exact J.ok.cab y c rfl (cp.sub _ _ e2)
  have old : ∀ b o, s.heap.get? b = some o → b ∉ cellsOf cl := fun b o e m => absurd (Heap.lt_size e) (Nat.not_lt.mpr (hnew b m))
  have fwd : ∀ b o, H' b = some o → Hc b = some o := fun b o e => by
    rw [hout b (fun m => by rw [hnone b m] at e; cases e)]
    exact e
  have un : Un (frs outer) [] H H' s.heap s'.heap := J.base
  refine ⟨.ref f0, Hc, J.os, J.bare, ⟨un.keep, un.slot, fun b o e n h1 => ?_, un.there, fun b xs e => fwd _ _ (un.tups b xs e), fun b o u e => fwd _ _ (un.frzs b o u e), fun b ps e => ?_⟩, hok, rfl, q Hc hout (fun b m => ⟨hnone b m, ?_⟩) hC⟩
  · rw [hout b (old b o e)]
    exact un.free b o e n h1
  · obtain ⟨more, z⟩ := un.tbls b ps e
    exact ⟨more, fwd _ _ z⟩
  · exact e0.hok.fresh (hnew b m)
end
/-- a nested def that lets no exception out -/
theorem nok_ofN {P : Program} {w : World} {K : PySem.W.Frag} {mg : Str → Option Value} {base : Heap} {N ps fr : List Str} {F : NF} {f : Addr} {k : Nat} {sp : List (Option V) → Sp} (S : NScope N ps fr F.scope)
    (hb : ∀ (doc pm ctv : Value) (us : List Value), us.length = ps.length → bindArgs (F.fd doc pm ctv) ⟨us, []⟩ = pure (ps.zip us)) (len : ∀ ws vs H Q E, sp ws vs H Q E → vs.length = ps.length)
    (hbody : ∀ (A : Around) (outer : List Env) (s : Shared) (H : Hp) (vs : List V) (ws : List (Option V)) (Q : VK) (E : XK), Room k (A.deeper (envF F f s.heap.objs.size)) → H f = some (FnO f F) → H F.c = some (CodeO F.c F.qual) → ws.length = fr.length → sp ws vs H Q E →
      ∃ t, PSs (ncx CX0 P w K mg base N F f A outer s H E).nox F.body t ∧ t { nx := fun _ H' => Q .non H', rt := Q } (startF N vs ws) H) : NOk P w K mg base CX0 (k + 1) f F ps fr sp :=
  nok_of S hb len fun A outer s H vs ws Q E hr hf hc hl h => by
    obtain ⟨t, a, b⟩ := hbody A outer s H vs ws Q E hr hf hc hl h
    exact ⟨t, a.nox, b⟩
end Clo

set_option Elab.async false
set_option linter.all false
set_option maxRecDepth 100000
set_option maxHeartbeats 4000000
/-! Data with dicts at any depth, dicts with tuples as keys among them: their repr, their types. -/
namespace G
open PySem PySem.Spec PyProof.Rows L2 Evl
mutual
inductive RdD (h : Heap) : Value → PyData → List Addr → Prop
  | none : RdD h .none .none []
  | bool (b) : RdD h (.bool b) (.bool b) []
  | int (i t) : RdD h (.int i t) (.int i) []
  | str (x t) : RdD h (.str x t) (.str x) []
  | list {a o vs n xs as} : h.get? a = some o → o.cls = .type "list" → o.data = .seq vs n → RdDs h vs.toList xs as → RdD h (.ref a) (.list xs) (a :: as)
  | tuple {a o vs n xs as} : h.get? a = some o → o.cls = .type "tuple" → o.data = .seq vs n → RdDs h vs.toList xs as → RdD h (.ref a) (.tuple xs) as
  | dict {a o es n kvs as bs} : h.get? a = some o → o.cls = .type "dict" → o.data = .dict es n → (a == sysModules) = false → RdDs h (es.toList.map (·.key)) (kvs.map (·.1)) as →
      RdDs h (es.toList.map (·.val)) (kvs.map (·.2)) bs → RdD h (.ref a) (.dict kvs) (a :: as ++ bs)
inductive RdDs (h : Heap) : List Value → List PyData → List Addr → Prop
  | nil : RdDs h [] [] []
  | cons {v vs d ds as bs} : RdD h v d as → RdDs h vs ds bs → RdDs h (v :: vs) (d :: ds) (as ++ bs)
end
section
variable {h : Heap}
mutual
theorem RdD.to : ∀ {v : Value} {d : PyData} {as : List Addr}, RdD h v d as → Reads h v d as
  | _, _, _, .none => .none
  | _, _, _, .bool b => .bool b
  | _, _, _, .int i t => .int i t
  | _, _, _, .str x t => .str x t
  | _, _, _, .list a b c d => .list a b c d.to
  | _, _, _, .tuple a b c d => .tuple a b c d.to
  | _, _, _, .dict a b c _ d e => .dict a b c d.to e.to
theorem RdDs.to : ∀ {v : List Value} {d : List PyData} {as : List Addr}, RdDs h v d as → ReadsAll h v d as
  | _, _, _, .nil => .nil
  | _, _, _, .cons a b => .cons a.to b.to
end
mutual
theorem RdD.of : ∀ {v : Value} {d : PyData} {as : List Addr}, Reads h v d as → d.hasDict = false → RdD h v d as
  | _, _, _, .none, _ => .none
  | _, _, _, .bool b, _ => .bool b
  | _, _, _, .int i t, _ => .int i t
  | _, _, _, .str x t, _ => .str x t
  | _, _, _, .list a b c d, n => .list a b c (RdDs.of d n)
  | _, _, _, .tuple a b c d, n => .tuple a b c (RdDs.of d n)
  | _, _, _, .dict a b c d e, n => by cases n
theorem RdDs.of : ∀ {v : List Value} {d : List PyData} {as : List Addr}, ReadsAll h v d as → PyData.hasDictAll d = false → RdDs h v d as
  | _, _, _, .nil, _ => .nil
  | _, _, _, .cons (d := d) (ds := ds) a b, n => by
    have n' : (d.hasDict || PyData.hasDictAll ds) = false := n
    rw [Bool.or_eq_false_iff] at n'
    exact .cons (RdD.of a n'.1) (RdDs.of b n'.2)
end
end
section
variable {prog : Program} {w : World} {h₀ : Heap}
mutual
theorem reprK_rd : ∀ {v : Value} {d : PyData} {as : List Addr}, RdD h₀ v d as → d.showable = true → d.shown.length ≤ sizeLine → ∃ bs, ReadAtMost h₀ d.depth bs ∧ ReprK prog w bs h₀ d.depth v d.shown
  | _, _, _, .none, _, _ => ⟨[], (fun _ h => nomatch h), by simp only [PyData.shown]; exact .of_is ReprIs.none _ _ _⟩
  | _, _, _, .bool b, _, _ => ⟨[], (fun _ h => nomatch h), by simp only [PyData.shown]; exact .of_is (ReprIs.bool b) _ _ _⟩
  | _, _, _, .int i t, hs, _ => ⟨[], (fun _ h => nomatch h), by simp only [PyData.shown]; exact .of_is (ReprIs.int t (by simpa [PyData.showable] using hs)) _ _ _⟩
  | _, _, _, .str x t, _, hz => ⟨[], (fun _ h => nomatch h), by simp only [PyData.shown]; exact .of_is (ReprIs.str x t (by simpa only [PyData.shown] using hz)) _ _ _⟩
  | _, _, _, .list (a := a) (vs := vs) (xs := xs) h1 h2 h3 h4, hs, hz => by
    have hz' : (listText (PyData.shownAll xs)).length ≤ sizeLine := by simpa only [PyData.shown] using hz
    obtain ⟨bs, hb, hk⟩ := reprAllK_rd h4 (by simpa [PyData.showable] using hs) (fun t ht => Nat.le_trans (listText_mem_le ht) hz')
    have r : Reads h₀ (.ref a) (.list xs) _ := .list h1 h2 h3 h4.to
    have hna : a ∉ bs := not_mem_of_deeper r (by simp only [PyData.depth]; omega) hb
    refine ⟨a :: bs, ReadAtMost.cons r (by simp only [PyData.depth]; omega) hb, ?_⟩
    simp only [PyData.depth, PyData.shown]
    obtain ⟨l⟩ := vs
    cases l with
    | nil =>
      have h4' : RdDs h₀ [] xs _ := h4
      cases h4'
      simp only [PyData.shownAll, listText_nil]
      exact ReprK.listEmpty h1 h2 h3
    | cons x l => exact ReprK.list h1 h2 h3 hna (by simpa using hk.length_eq) (fun i y e => hk.item i y (by simpa using e))
  | _, _, _, .tuple (a := a) (xs := xs) h1 h2 h3 h4, hs, hz => by
    have hz' : (tupleText (PyData.shownAll xs)).length ≤ sizeLine := by simpa only [PyData.shown] using hz
    obtain ⟨bs, hb, hk⟩ := reprAllK_rd h4 (by simpa [PyData.showable] using hs) (fun t ht => Nat.le_trans (tupleText_mem_le ht) hz')
    have r : Reads h₀ (.ref a) (.tuple xs) _ := .tuple h1 h2 h3 h4.to
    have hna : a ∉ bs := not_mem_of_deeper r (by simp only [PyData.depth]; omega) hb
    refine ⟨a :: bs, ReadAtMost.cons r (by simp only [PyData.depth]; omega) hb, ?_⟩
    simp only [PyData.depth, PyData.shown]
    exact ReprK.tuple h1 h2 h3 hna hk
  | _, _, _, .dict (a := a) (es := es) (kvs := kvs) h1 h2 h3 hsys h4 h5, hs, hz => by
    have hz' : (dictText (PyData.shownKv kvs)).length ≤ sizeLine := by simpa only [PyData.shown] using hz
    obtain ⟨hs1, hs2⟩ := PyData.showableKv_split kvs (by simpa [PyData.showable] using hs)
    obtain ⟨b1, hb1, k1⟩ := reprAllK_rd h4 hs1 (fun t ht => let ⟨p, hp, hl⟩ := PyData.shownKv_key_le kvs t ht; Nat.le_trans hl (Nat.le_trans (dictText_mem_le hp) hz'))
    obtain ⟨b2, hb2, k2⟩ := reprAllK_rd h5 hs2 (fun t ht => let ⟨p, hp, hl⟩ := PyData.shownKv_val_le kvs t ht; Nat.le_trans hl (Nat.le_trans (dictText_mem_le hp) hz'))
    have r : Reads h₀ (.ref a) (.dict kvs) _ := .dict h1 h2 h3 h4.to h5.to
    have hb : ReadAtMost h₀ (PyData.depthKv kvs) (b1 ++ b2) := (hb1.mono (PyData.depthAll_keys_le kvs)).append (hb2.mono (PyData.depthAll_vals_le kvs))
    have hna : a ∉ b1 ++ b2 := not_mem_of_deeper r (by simp only [PyData.depth]; omega) hb
    refine ⟨a :: (b1 ++ b2), ReadAtMost.cons r (by simp only [PyData.depth]; omega) hb, ?_⟩
    simp only [PyData.depth, PyData.shown, PyData.shownKv_eq]
    exact ReprK.dict h1 h2 h3 hsys hna (ReprEntriesK.of_two es.toList _ _
      (k1.more_le (fun b hb => List.mem_append_left _ hb) (PyData.depthAll_keys_le kvs)) (k2.more_le (fun b hb => List.mem_append_right _ hb) (PyData.depthAll_vals_le kvs)))
theorem reprAllK_rd : ∀ {vs : List Value} {ds : List PyData} {as : List Addr}, RdDs h₀ vs ds as → PyData.showableAll ds = true → (∀ t ∈ PyData.shownAll ds, t.length ≤ sizeLine) →
    ∃ bs, ReadAtMost h₀ (PyData.depthAll ds) bs ∧ ReprAllK prog w bs h₀ (PyData.depthAll ds) vs (PyData.shownAll ds)
  | _, _, _, .nil, _, _ => ⟨[], (fun _ h => nomatch h), by simp only [PyData.shownAll]; exact .nil⟩
  | _, _, _, .cons (d := d) (ds := ds) r rs, hs, hz => by
    have hs' : d.showable = true ∧ PyData.showableAll ds = true := by simpa [PyData.showableAll] using hs
    obtain ⟨b1, hb1, k1⟩ := reprK_rd r hs'.1 (hz _ (by simp only [PyData.shownAll]; exact List.mem_cons_self ..))
    obtain ⟨b2, hb2, k2⟩ := reprAllK_rd rs hs'.2 (fun t ht => hz t (by simp only [PyData.shownAll]; exact List.mem_cons_of_mem _ ht))
    refine ⟨b1 ++ b2, ?_, ?_⟩
    · intro b hm
      simp only [PyData.depthAll]
      rcases List.mem_append.mp hm with hm | hm
      · obtain ⟨d', as', r', hd'⟩ := hb1 b hm
        exact ⟨d', as', r', Nat.le_trans hd' (Nat.le_max_left _ _)⟩
      · obtain ⟨d', as', r', hd'⟩ := hb2 b hm
        exact ⟨d', as', r', Nat.le_trans hd' (Nat.le_max_right _ _)⟩
    · simp only [PyData.depthAll, PyData.shownAll]
      exact .cons ((k1.more fun b hb => List.mem_append_left _ hb).level_le (Nat.le_max_left _ _)) (k2.more_le (fun b hb => List.mem_append_right _ hb) (Nat.le_max_right _ _))
end
theorem shows_rd {a : Addr} {d : PyData} {as : List Addr} (r : RdD h₀ (.ref a) d as) (hs : d.showable = true) (hsz : d.shown.length ≤ sizeLine) : ∃ T idr, ShowsBy prog w h₀ a d T idr := by
  cases r with
  | list h1 h2 h3 h4 =>
    rename_i o vs n xs bs₀
    have hz' : (listText (PyData.shownAll xs)).length ≤ sizeLine := by simpa only [PyData.shown] using hsz
    obtain ⟨bs, hb, hk⟩ := reprAllK_rd (prog := prog) (w := w) h4 (by simpa [PyData.showable] using hs) (fun t ht => Nat.le_trans (listText_mem_le ht) hz')
    have hna : a ∉ bs := not_mem_of_deeper (.list h1 h2 h3 h4.to) (by simp only [PyData.depth]; omega) hb
    refine ⟨"list", "list.__repr__", PySem.F.slot_list_repr.toG, PySem.F.slot_list_str, PySem.F.slot_list_format, fun s hk0 => ⟨o, hk0 _ _ h1, h2⟩, fun A E s Q hg hu hk0 hQ => ?_⟩
    simp only [PyData.depth] at hu
    simp only [PyData.shown] at hQ
    obtain ⟨l⟩ := vs
    cases l with
    | nil =>
      have h4' : RdDs h₀ [] xs _ := h4
      cases h4'
      simp only [PyData.shownAll, listText_nil] at hQ
      exact call_list_repr_empty ⟨o, hk0 _ _ h1, h2⟩ (hk0 _ _ h1) h3 (hQ s.heap _ _ fun _ _ e => e)
    | cons x l =>
      exact call_list_reprK h1 h2 h3 hna (by simpa using hk.length_eq) (fun i y e => hk.item i y (by simpa using e)) hg (fun b _ => Clear.nil b) hu hk0 hQ hz'
  | tuple h1 h2 h3 h4 =>
    rename_i o vs n xs
    have hz' : (tupleText (PyData.shownAll xs)).length ≤ sizeLine := by simpa only [PyData.shown] using hsz
    obtain ⟨bs, hb, hk⟩ := reprAllK_rd (prog := prog) (w := w) h4 (by simpa [PyData.showable] using hs) (fun t ht => Nat.le_trans (tupleText_mem_le ht) hz')
    have hna : a ∉ bs := not_mem_of_deeper (.tuple h1 h2 h3 h4.to) (by simp only [PyData.depth]; omega) hb
    refine ⟨"tuple", "tuple.__repr__", PySem.F.slot_tuple_repr, PySem.F.slot_tuple_str, PySem.F.slot_tuple_format, fun s hk0 => ⟨o, hk0 _ _ h1, h2⟩, fun A E s Q hg hu hk0 hQ => ?_⟩
    simp only [PyData.depth] at hu
    simp only [PyData.shown] at hQ
    exact call_tuple_reprK h1 h2 h3 hna hk hg (fun b _ => Clear.nil b) hu hk0 hQ hz'
  | dict h1 h2 h3 hsys h4 h5 =>
    rename_i o es n kvs as₁ bs₁
    have hz' : (dictText (PyData.shownKv kvs)).length ≤ sizeLine := by simpa only [PyData.shown] using hsz
    obtain ⟨hs1, hs2⟩ := PyData.showableKv_split kvs (by simpa [PyData.showable] using hs)
    obtain ⟨b1, hb1, k1⟩ := reprAllK_rd (prog := prog) (w := w) h4 hs1 (fun t ht => let ⟨p, hp, hl⟩ := PyData.shownKv_key_le kvs t ht; Nat.le_trans hl (Nat.le_trans (dictText_mem_le hp) hz'))
    obtain ⟨b2, hb2, k2⟩ := reprAllK_rd (prog := prog) (w := w) h5 hs2 (fun t ht => let ⟨p, hp, hl⟩ := PyData.shownKv_val_le kvs t ht; Nat.le_trans hl (Nat.le_trans (dictText_mem_le hp) hz'))
    have hb : ReadAtMost h₀ (PyData.depthKv kvs) (b1 ++ b2) := (hb1.mono (PyData.depthAll_keys_le kvs)).append (hb2.mono (PyData.depthAll_vals_le kvs))
    have hna : a ∉ b1 ++ b2 := not_mem_of_deeper (.dict h1 h2 h3 h4.to h5.to) (by simp only [PyData.depth]; omega) hb
    refine ⟨"dict", "dict.__repr__", PySem.F.slot_dict_repr, PySem.F.slot_dict_str, PySem.F.slot_dict_format, fun s hk0 => ⟨o, hk0 _ _ h1, h2⟩, fun A E s Q hg hu hk0 hQ => ?_⟩
    simp only [PyData.depth] at hu
    simp only [PyData.shown, PyData.shownKv_eq] at hQ
    exact call_dict_reprK h1 h2 h3 hsys hna (ReprEntriesK.of_two es.toList _ _
      (k1.more_le (fun b hb => List.mem_append_left _ hb) (PyData.depthAll_keys_le kvs)) (k2.more_le (fun b hb => List.mem_append_right _ hb) (PyData.depthAll_vals_le kvs))) hg (fun b _ => Clear.nil b) hu hk0 hQ (by rw [← PyData.shownKv_eq]; exact hz')
end
/-! ### in the tracked heap -/
def keysD (k : List Key) : PyData := .tuple (k.map keyD)
mutual
inductive Dq (K : PySem.W.Frag) (H : Hp) : V → PyData → Prop
  | non : Dq K H .non .none
  | bl (b : Bool) : Dq K H (.bl b) (.bool b)
  | int (i : Int) : Dq K H (.int i) (.int i)
  | str (x : Str) : Dq K H (.str x) (.str x)
  | lst {a : Addr} {xs : List V} {ds : List PyData} : SqL K H a xs → DqAll K H xs ds → Dq K H (.ref a) (.list ds)
  | tup {a : Addr} {xs : List V} {ds : List PyData} : SqT K H a xs → DqAll K H xs ds → Dq K H (.ref a) (.tuple ds)
  | dK {a : Addr} {kvs : List (Key × V)} {ds : List PyData} : H a = some (.dK kvs) → DqAll K H (kvs.map (·.2)) ds → Dq K H (.ref a) (.dict ((kvs.map fun p => keyD p.1).zip ds))
  | dT {a : Addr} {kvs : List (List Key × V)} {ds : List PyData} : H a = some (.dT kvs) → DqAll K H (kvs.map (·.2)) ds → Dq K H (.ref a) (.dict ((kvs.map fun p => keysD p.1).zip ds))
inductive DqAll (K : PySem.W.Frag) (H : Hp) : List V → List PyData → Prop
  | nil : DqAll K H [] []
  | cons {v : V} {vs : List V} {d : PyData} {ds : List PyData} : Dq K H v d → DqAll K H vs ds → DqAll K H (v :: vs) (d :: ds)
end
section
variable {K : PySem.W.Frag} {H H' : Hp}
theorem DqAll.len : ∀ {xs : List V} {ds : List PyData}, DqAll K H xs ds → xs.length = ds.length
  | _, _, .nil => rfl
  | _, _, .cons _ b => by simp [DqAll.len b]
mutual
theorem dq_of : ∀ {x : V} {d : PyData}, Dp K H x d → Dq K H x d
  | _, _, .non => .non
  | _, _, .bl b => .bl b
  | _, _, .int i => .int i
  | _, _, .str x => .str x
  | _, _, .lst a b => .lst a (dqs_of b)
  | _, _, .tup a b => .tup a (dqs_of b)
theorem dqs_of : ∀ {x : List V} {d : List PyData}, DpAll K H x d → DqAll K H x d
  | _, _, .nil => .nil
  | _, _, .cons a b => .cons (dq_of a) (dqs_of b)
end
theorem rd_ex (e : Ex H H') {a : Addr} {o : HO} (h : Rd H a o) : Rd H' a o := h.elim (fun z => .inl (e _ _ z)) fun ⟨u, z⟩ => .inr ⟨u, e _ _ z⟩
theorem sl_exQ (e : Ex H H') {a : Addr} {xs : List V} (h : SqL K H a xs) : SqL K H' a xs := by
  rcases h with (z | ⟨o, z⟩) | z
  · exact .inl (.inl (e _ _ z))
  · exact .inl (.inr ⟨o, e _ _ z⟩)
  · exact .inr z
theorem st_exQ (e : Ex H H') {a : Addr} {xs : List V} (h : SqT K H a xs) : SqT K H' a xs := by
  rcases h with (z | ⟨o, z⟩) | z
  · exact .inl (.inl (e _ _ z))
  · exact .inl (.inr ⟨o, e _ _ z⟩)
  · exact .inr z
mutual
theorem Dq.ex (e : Ex H H') : ∀ {x : V} {d : PyData}, Dq K H x d → Dq K H' x d
  | _, _, .non => .non
  | _, _, .bl b => .bl b
  | _, _, .int i => .int i
  | _, _, .str x => .str x
  | _, _, .lst a b => .lst (sl_exQ e a) (b.ex e)
  | _, _, .tup a b => .tup (st_exQ e a) (b.ex e)
  | _, _, .dK a b => .dK (e _ _ a) (b.ex e)
  | _, _, .dT a b => .dT (e _ _ a) (b.ex e)
theorem DqAll.ex (e : Ex H H') : ∀ {x : List V} {d : List PyData}, DqAll K H x d → DqAll K H' x d
  | _, _, .nil => .nil
  | _, _, .cons a b => .cons (a.ex e) (b.ex e)
end
theorem Dq.ty {x : V} {d : PyData} (h : Dq K H x d) : TyX K H x (.type (tyD d)) := by
  cases h with
  | non => exact Dd.ty (.dp .non)
  | bl b => exact Dd.ty (.dp (.bl b))
  | int i => exact Dd.ty (.dp (.int i))
  | str z => exact Dd.ty (.dp (.str z))
  | lst hs b =>
    rcases hs with (z | ⟨o, z⟩) | ⟨o, _, _, z, c, _⟩
    · exact .base (.lst z)
    · exact .base (.frz z)
    · exact .kList z c
  | tup hs b =>
    rcases hs with (z | ⟨o, z⟩) | ⟨o, _, _, z, c, _⟩
    · exact .base (.tup z)
    · exact .fTuple z
    · exact .kTuple z c
  | dK a b => exact .base (.dK a)
  | dT a b => exact .base (.dT a)
end
section
variable {X : Cx} {pins : List (Addr × Obj)} {σ : L2.St} {H : Hp} {s : Shared}
theorem RdDs.len {h : Heap} : ∀ {v : List Value} {d : List PyData} {as : List Addr}, RdDs h v d as → v.length = d.length
  | _, _, _, .nil => rfl
  | _, _, _, .cons _ b => by simp [b.len]
theorem zipQ_fst {α β : Type} : ∀ {a : List α} {b : List β}, a.length = b.length → (a.zip b).map (·.1) = a
  | [], [], _ => rfl
  | x :: a, y :: b, h => by simp [zipQ_fst (a := a) (b := b) (by simpa using h)]
  | [], _ :: _, h => by simp at h
  | _ :: _, [], h => by simp at h
theorem zipQ_snd {α β : Type} : ∀ {a : List α} {b : List β}, a.length = b.length → (a.zip b).map (·.2) = b
  | [], [], _ => rfl
  | x :: a, y :: b, h => by simp [zipQ_snd (a := a) (b := b) (by simpa using h)]
  | [], _ :: _, h => by simp at h
  | _ :: _, [], h => by simp at h
theorem keys_rd {pr : Program} {w : World} {h : Heap} : ∀ {kvs : List (Key × V)} {vs : List (Key × Value)} {es : List DictEntry}, KV kvs vs → Pairs (mixKind pr w) es vs →
    RdDs h (es.map (·.key)) (kvs.map fun p => keyD p.1) [] ∧ Vals (kvs.map (·.2)) (es.map (·.val))
  | _, _, _, .nil, p => by
    cases p
    exact ⟨.nil, .nil⟩
  | _, _, _, .cons r1 r2, p => by
    cases p with
    | cons p1 p2 p3 =>
      obtain ⟨a, b⟩ := keys_rd (h := h) r2 p3
      have r0 : RelV _ _ := r1.2
      refine ⟨?_, .cons (by rw [← p2] at r0; exact r0) b⟩
      have q : keyIs _ _ = true := p1
      rw [← r1.1] at q
      exact RdDs.cons (as := []) (bs := []) (by
        rcases keyIs_shape q with ⟨i, t, e, e2⟩ | ⟨x, t, e, e2⟩
        · show RdD h (DictEntry.key _) (keyD (Prod.fst _)) []
          rw [e, e2]; exact .int _ _
        · show RdD h (DictEntry.key _) (keyD (Prod.fst _)) []
          rw [e, e2]; exact .str _ _) a
theorem keyDs_rd (I : Inv X pins σ H s) : ∀ {ks : List Key} {its : List Value}, Vals (ks.map kV) its → RdDs s.heap its (ks.map keyD) []
  | [], _, r => by cases r; exact .nil
  | k :: ks, _, r => by
    cases r with
    | cons r1 r2 =>
      refine RdDs.cons (as := []) (bs := []) ?_ (keyDs_rd I r2)
      cases k with
      | inl i => obtain ⟨t, rfl⟩ := (show ∃ t, _ = Value.int i t from r1); exact .int _ _
      | inr x => obtain ⟨t, rfl⟩ := (show ∃ t, _ = Value.str x t from r1); exact .str _ _
theorem keysT_rd (I : Inv X pins σ H s) : ∀ {kvs : List (List Key × V)} {xs : List (List Key × Addr × Value)}, Paired (fun (p : List Key × V) (q : List Key × Addr × Value) => p.1 = q.1 ∧ H q.2.1 = some (.tup (p.1.map kV)) ∧ RelV p.2 q.2.2) kvs xs →
    RdDs s.heap (xs.map fun x => Value.ref x.2.1) (kvs.map fun p => keysD p.1) [] ∧ Vals (kvs.map (·.2)) (xs.map fun x => x.2.2)
  | _, _, .nil => ⟨.nil, .nil⟩
  | _, _, .cons r1 r2 => by
    obtain ⟨a, b⟩ := keysT_rd I r2
    refine ⟨RdDs.cons (as := []) (bs := []) ?_ a, .cons r1.2.2 b⟩
    obtain ⟨_, its, rv, o, ho, hc, n, hd⟩ := (show ObjOk X.prog X.w H s.heap _ (.tup _) from I.hok _ _ r1.2.1)
    exact .tuple ho hc hd (keyDs_rd I rv)
mutual
theorem Dq.rd (I : Inv X pins σ H s) : ∀ {d : PyData} {v : V} {u : Value}, Dq X.K H v d → RelV v u → ∃ as, RdD s.heap u d as
  | _, _, _, .non, r => by cases r; exact ⟨_, .none⟩
  | _, _, _, .bl b, r => by cases r; exact ⟨_, .bool b⟩
  | _, _, _, .int i, r => by obtain ⟨t, rfl⟩ := r; exact ⟨_, .int i t⟩
  | _, _, _, .str x, r => by obtain ⟨t, rfl⟩ := r; exact ⟨_, .str x t⟩
  | _, _, _, .lst hs ha, r => by
    cases r
    obtain ⟨its, rv, ⟨o, n, ho, hc, _, hd⟩, _⟩ := I.list hs
    obtain ⟨as, hr⟩ := DqAll.rd I ha rv
    exact ⟨_, .list ho hc hd hr⟩
  | _, _, _, .tup hs ha, r => by
    cases r
    obtain ⟨its, rv, ⟨o, ho, hc, n, hd⟩, _⟩ := I.tuple hs
    obtain ⟨as, hr⟩ := DqAll.rd I ha rv
    exact ⟨_, .tuple ho hc hd hr⟩
  | _, _, _, .dK (kvs := kvs) (ds := ds) hs ha, r => by
    cases r
    have hl := ha.len
    rw [List.length_map] at hl
    obtain ⟨_, hsys, vs, rv, o, es, ep, e1, e2, e3, _, e5, _⟩ := (show ObjOk X.prog X.w H s.heap _ (.dK _) from I.hok _ _ hs)
    obtain ⟨k1, k2⟩ := keys_rd (h := s.heap) rv e5
    obtain ⟨as, hr⟩ := DqAll.rd I ha k2
    exact ⟨_, .dict e1 e2.1 e3 hsys (by rw [zipQ_fst (by rw [List.length_map]; exact hl)]; exact k1) (by rw [zipQ_snd (by rw [List.length_map]; exact hl)]; exact hr)⟩
  | _, _, _, .dT (kvs := kvs) (ds := ds) hs ha, r => by
    cases r
    have hl := ha.len
    rw [List.length_map] at hl
    obtain ⟨_, hsys, xs, rv, o, es, ep, e1, e2, e3, e5, _⟩ := (show ObjOk X.prog X.w H s.heap _ (.dT _) from I.hok _ _ hs)
    obtain ⟨k1, k2⟩ := keysT_rd I rv
    obtain ⟨as, hr⟩ := DqAll.rd I ha k2
    refine ⟨_, .dict (as := []) (bs := as) e1 e2.1 e3 hsys ?_ ?_⟩
    · rw [e5, List.map_map, zipQ_fst (by rw [List.length_map]; exact hl)]; exact k1
    · rw [e5, List.map_map, zipQ_snd (by rw [List.length_map]; exact hl)]; exact hr
theorem DqAll.rd (I : Inv X pins σ H s) : ∀ {ds : List PyData} {vs : List V} {us : List Value}, DqAll X.K H vs ds → Vals vs us → ∃ as, RdDs s.heap us ds as
  | _, _, _, .nil, r => by cases r; exact ⟨_, .nil⟩
  | _, _, _, .cons h1 h2, r => by
    cases r with
    | cons r1 r2 =>
      obtain ⟨as, q1⟩ := Dq.rd I h1 r1
      obtain ⟨bs, q2⟩ := DqAll.rd I h2 r2
      exact ⟨_, .cons q1 q2⟩
end
/-- repr(x) -/
def rRq (K : PySem.W.Frag) : List V → Hp → VK → Prop := fun xs H Q => ∃ x d, xs = [x] ∧ Dq K H x d ∧ Showy d ∧ Q (.str d.shown) H
theorem call_rq {X : Cx} {n : Nat} (q : Rm n X.A) : CallR X (.builtin "repr") (rRq X.K) := by
  intro pins s σ H xs us Q I r h
  obtain ⟨x, d, rfl, hd, ⟨h1, h3, h4⟩, k⟩ := h
  have hz := showsz h4
  have hu := q.rm.units
  obtain ⟨u, rfl, rx⟩ : ∃ u, us = [u] ∧ RelV x u := by
    cases r with
    | cons a b => cases b; exact ⟨_, rfl, a⟩
  have go : ∀ (a : Addr), u = .ref a → wpAny (model X.prog X.w) X.A (call (.builtin "repr") [u]) (EP X pins σ Q) X.xe s := fun a e => by
    subst e
    obtain ⟨as, rd⟩ := hd.rd I rx
    obtain ⟨T, idr, S⟩ := shows_rd (prog := X.prog) (w := X.w) rd h1 hz
    exact call_repr_slot (by omega) (S.typeIs s fun _ _ e => e) S.slotRepr (S.call X.A.in1 X.xe s _ q.gd (by show X.A.units + 1 + _ < cLine; omega) (fun _ _ e => e) fun h' u tk kp => ⟨_, _, rfl, ⟨.str _, H, I.kept kp, ⟨_, rfl⟩, k⟩⟩)
  cases hd with
  | non => exact call_rp q pins s σ H _ [u] Q I (.cons rx .nil) ⟨_, _, rfl, .non, h1, rfl, h3, h4, k⟩
  | bl b => exact call_rp q pins s σ H _ [u] Q I (.cons rx .nil) ⟨_, _, rfl, .bl b, h1, rfl, h3, h4, k⟩
  | int i => exact call_rp q pins s σ H _ [u] Q I (.cons rx .nil) ⟨_, _, rfl, .int i, h1, rfl, h3, h4, k⟩
  | str z => exact call_rp q pins s σ H _ [u] Q I (.cons rx .nil) ⟨_, _, rfl, .str z, h1, rfl, h3, h4, k⟩
  | lst a b => exact go _ rx
  | tup a b => exact go _ rx
  | dK a b => exact go _ rx
  | dT a b => exact go _ rx
theorem call_rqK {X : Cx} {K : PySem.W.Frag} {n : Nat} (q : Rm n X.A) (h : X.K = K := by rfl) : CallR X (.builtin "repr") (rRq K) := by
  subst h
  exact call_rq q
end
end G

set_option Elab.async false
set_option linter.all false
set_option maxRecDepth 100000
set_option maxHeartbeats 8000000
/-! Rows that are unlike; what is closed: with tests and moves handed in. -/
namespace W
open PySem PySem.Spec PyProof.Rows L2 Evl G NdefX LamX Clo
/-- a test of a datum -/
def spTq (K : PySem.W.Frag) (g : PyData → Bool) : Sp := fun vs H Q _ => ∃ x d, vs = [x] ∧ Dq K H x d ∧ ∀ H', Ex H H' → Q (.bl (g d)) H'
/-- a function made elsewhere, over what stands at B -/
structure CloIn (P : Program) (w : World) (K : PySem.W.Frag) (mg : Str → Option Value) (base : Heap) (kk : Nat) (f : Addr) (F : NF) (ps fr : List Str) (ws : List V) (sp : List (Option V) → Sp) (H B : Hp) : Prop where
  ok : NOk P w K mg base CX0 kk f F ps fr sp
  fn : H f = some (FnO f F)
  cd : H F.c = some (CodeO F.c F.qual)
  clo : CloT H F.cl fr ws
  up : Ex B (less H (cellsOf F.cl))
def kvR (keys : List (List Key)) : List (List Key × V) := keys.map fun k => (k, .bl true)
section
variable {P : Program} {w : World} {K : PySem.W.Frag} {mg : Str → Option Value} {base : Heap} {kk : Nat} {f : Addr} {F : NF} {ps fr : List Str} {ws : List V} {sp : List (Option V) → Sp} {H H' B : Hp}
theorem CloIn.ex (c : CloIn P w K mg base kk f F ps fr ws sp H B) (e : Ex H H') : CloIn P w K mg base kk f F ps fr ws sp H' B :=
  ⟨c.ok, e _ _ c.fn, e _ _ c.cd, c.clo.ex e, fun b o h => less_ex e _ _ (c.up _ _ h)⟩
theorem CloIn.upd {d : Addr} {o u : HO} (c : CloIn P w K mg base kk f F ps fr ws sp H B) (hd : H d = some o) (n : ∀ u v, o ≠ .frz u v) (nx : ∀ φ, o ≠ .ext φ) (nB : B d = none) : CloIn P w K mg base kk f F ps fr ws sp (L2.upd H d u) B := by
  have nd := c.clo.ne hd n
  refine ⟨c.ok, by rw [upd_ne (ne_of c.fn hd fun z => nx _ z.symm)]; exact c.fn, by rw [upd_ne (ne_of c.cd hd fun z => nx _ z.symm)]; exact c.cd, c.clo.upd hd n, fun b o h => ?_⟩
  obtain ⟨m, q⟩ := less_some (c.up _ _ h)
  rw [less_out m, upd_ne (fun z => by rw [z, nB] at h; cases h)]
  exact q
theorem CloIn.sub (c : CloIn P w K mg base kk f F ps fr ws sp H B) : Ex B H := fun b o h => less_sub _ _ (c.up _ _ h)
theorem kvR_none {keys : List (List Key)} {k : List Key} (h : k ∉ keys) : valV (kvR keys) k = none := by
  induction keys with
  | nil => rfl
  | cons a r ih =>
    rw [List.mem_cons, not_or] at h
    show valV ((a, V.bl true) :: kvR r) k = none
    rw [valV_neg (fun e => h.1 e.symm)]
    exact ih h.2
theorem kvR_some {keys : List (List Key)} {k : List Key} (h : k ∈ keys) : valV (kvR keys) k = some (.bl true) := by
  induction keys with
  | nil => cases h
  | cons a r ih =>
    show valV ((a, V.bl true) :: kvR r) k = some (.bl true)
    by_cases e : a = k
    · rw [valV_pos e]
    · rw [valV_neg e]
      exact ih ((List.mem_cons.mp h).resolve_left fun z => e z.symm)
def memB (keys : List (List Key)) (k : List Key) : Bool := (valV (kvR keys) k).isSome
theorem memB_iff {keys : List (List Key)} {k : List Key} : memB keys k = true ↔ k ∈ keys := by
  unfold memB
  by_cases h : k ∈ keys
  · rw [kvR_some h]; simp [h]
  · rw [kvR_none h]; simp [h]
theorem memB_not {keys : List (List Key)} {k : List Key} (h : k ∉ keys) : memB keys k = false := by
  cases e : memB keys k with
  | false => rfl
  | true => exact absurd (memB_iff.mp e) h
theorem kvR_is {keys : List (List Key)} {k : List Key} : (valV (kvR keys) k).isSome = memB keys k := rfl
theorem putT_new {kvs : List (List Key × V)} {k : List Key} {v : V} (h : valV kvs k = none) : putK kvs k v = kvs ++ [(k, v)] := by
  unfold putK
  rw [if_neg]
  intro c
  obtain ⟨q, hq, e⟩ := List.any_eq_true.mp c
  unfold valV at h
  rw [Option.map_eq_none_iff, List.find?_eq_none] at h
  exact h q hq e
theorem kvR_put {keys : List (List Key)} {k : List Key} (h : k ∉ keys) : putK (kvR keys) k (.bl true) = kvR (keys ++ [k]) := by
  rw [putT_new (kvR_none h)]
  simp [kvR]
/-- unlike_rows(value, is_row); ks: the keys of the items, none where the test refuses one -/
def spUnlike (P : Program) (w : World) (K : PySem.W.Frag) (mg : Str → Option Value) (base : Heap) (kk : Nat) : Sp := fun vs H Q _ => ∃ (x : V) (d : PyData) (f : Addr) (F : NF) (p0 : Str) (fr : List Str) (ws : List V) (sp : List (Option V) → Sp) (B : Hp),
  vs = [x, .ref f] ∧ Dq K H x d ∧ CloIn P w K mg base kk f F [p0] fr ws sp H B ∧ ((isList d = false ∧ ∀ H', Ex H H' → Q .non H') ∨ (isList d = true ∧ ∃ (a : Addr) (xs : List V) (ks : List (Option (List Key))), x = .ref a ∧ (SqL K H a xs ∨ SqT K H a xs) ∧ xs.length = ks.length ∧ xs.length ≤ 1000 ∧
    (∀ (i : Nat) (y : V) (k : Option (List Key)), xs[i]? = some y → ks[i]? = some k → (∀ H Q E, Ex B H → (∀ H', Ex H H' → Q (.bl k.isSome) H') → sp (ws.map some) [y] H Q E) ∧ ∀ key, k = some key → ∃ t, y = .ref t ∧ B t = some (.tup (key.map kV))) ∧
    (∀ keys : List (List Key), ks = keys.map some → keys.Nodup → ∀ L H', Ex H H' → H L = none → H' L = some (.dT (kvR keys)) → Q (.ref L) H') ∧ ((¬ ∃ keys : List (List Key), ks = keys.map some ∧ keys.Nodup) → ∀ H', Ex H H' → Q .non H')))
abbrev nUnlike : List Str := ["value", "is_row", "rows", "each"]
theorem scUnlike : FnScope nUnlike ["value", "is_row"] (defScope dUnlikeRows) := ⟨rfl, rfl, rfl, by decide +kernel, rfl, by decide +kernel, by decide +kernel⟩
theorem scList2 : FnScope ["value"] ["value"] (defScope dList) := ⟨rfl, rfl, rfl, by decide +kernel, rfl, by decide +kernel, by decide +kernel⟩
theorem okListQ {f : Addr} {fd : FuncData} (F : At K mg "is_list" dList ["value"] f fd) (T : Txt K mg) : FnOk P w K mg base CX0 1 f fd ["value"] (spTq K isList) := by
  refine F.fn.ok scList2 (fun vs H Q E h => ?_) (fun cdv A outer s H vs Q E hr h => ?_)
  · obtain ⟨x, d, rfl, _⟩ := h
    rfl
  · obtain ⟨x, d, rfl, hd, k⟩ := h
    refine ⟨_, pss_one (ps_ret (pe_callB call_isiT (by rfl) T.isinstance (by decide +kernel) (pa_cons (pv 0) (pa_cons (pe_tup (pa_cons (pTy "list" (by rfl) T.list (by decide +kernel)) (pa_cons (pTy "tuple" (by rfl) T.tuple (by decide +kernel)) pa_nil))) pa_nil)))), ?_⟩
    refine ⟨_, rfl, (by show 2 ≤ sizeLine; decide), fun p hp => ?_⟩
    have e1 : Ex H (upd H p (.tup [.ty "list", .ty "tuple"])) := Ex.new hp
    refine ⟨x, p, _, _, [.type "list", .type "tuple"], isList d, rfl, upd_same, .cons (.ty _) (.cons (.ty _) .nil), (hd.ex e1).ty, ?_, k _ e1⟩
    refine kitAny_cons (kit_ty (kit_L d)) (fun e => kitAny_cons (kit_ty (kit_T d)) (fun e2 => ?_) (fun e2 => ?_)) (fun e => ?_)
    · have z : isList d = false := by unfold isList; rw [e, e2]; rfl
      rw [z]
      exact kitAny_nil
    · unfold isList
      rw [e2]
      simp
    · unfold isList
      rw [e]
      rfl
theorem some_inj {α : Type} : ∀ {a b : List α}, a.map some = b.map some → a = b
  | [], [], _ => rfl
  | _ :: _, [], h => by cases h
  | [], _ :: _, h => by cases h
  | x :: a, y :: b, h => by
    simp only [List.map_cons, List.cons.injEq, Option.some.injEq] at h
    rw [h.1, some_inj h.2]
theorem map_some_take {α : Type} {ks : List (Option α)} {i : Nat} {keys : List α} {k : α} (h : ks.take i = keys.map some) (e : ks[i]? = some (some k)) : ks.take (i + 1) = (keys ++ [k]).map some := by
  rw [take_more e, h, List.map_append]
  rfl
theorem okUnlike {f : Addr} {fd : FuncData} (F : At K mg "unlike_rows" dUnlikeRows ["value", "is_row"] f fd) (T : Txt K mg) (kk : Nat) : FnOk P w K mg base CX0 (kk + 2) f fd ["value", "is_row"] (spUnlike P w K mg base kk) := by
  obtain ⟨fL, gL, FL⟩ := T.lst
  have GL : FnOk P w K mg base CX0 (kk + 1) fL gL ["value"] (spTq K isList) := (okListQ FL T).mono (by omega)
  refine F.fn.ok scUnlike (fun vs H Q E h => ?_) (fun cdv A outer s H vs Q E hr h => ?_)
  · obtain ⟨x, d, f, F, p0, fr, ws, sp, B, rfl, _⟩ := h
    rfl
  · obtain ⟨x, d, f, F, p0, fr, ws, sp, B, rfl, hd, CI, h⟩ := h
    have nds := scUnlike.nd
    have hu := hu_of hr
    have hrk : Room kk _ := hr.mono (by omega)
    refine ⟨_, (pss_cons (ps_if (pt_not (pt_val (pe_call GL hr (by rfl) FL.gl FL.fn.kp FL.bi .nil pass0 (pa_cons (pv 0) pa_nil))))
        (pss_one (ps_ret pe_non)) pss_nil)
      (pss_cons (ps_set (i := 2) nds rfl (Or.inl rfl) pe_dnewT)
      (pss_cons (ps_for PassesOwn.never rfl (pi_sq rfl (pv 0)) (pg_name (i := 3) nds rfl (Or.inl rfl))
        (pss_cons (ps_if (PW.pt (pw_or (pt_not (pt_val (pe_clo (i := 1) (ws := ws) (E := E) CI.ok hr (Nat.le_succ _) rfl (Or.inl rfl) (pa_cons (pv 3) pa_nil)))) (pw_or1 (pt_cmp (pc_din hu (pv 3) (pv 2))))))
        (pss_one (ps_ret pe_non)) pss_nil)
      (pss_one (ps_dput hu (pv 2) (pv 3) pe_bl rfl))))
      (pss_one (ps_ret (pv 2)))))), ?_⟩
    refine ⟨_, rfl, x, d, rfl, hd, fun H1 e1 => ⟨_, rfl, ?_⟩⟩
    rcases h with ⟨hl, k⟩ | ⟨hl, a, xs, ks, rfl, hxs, len, few, its, good, bad⟩
    · rw [hl]
      exact iteT (k H1 e1)
    rw [hl]
    refine iteF fun L nL => ?_
    have e2 : Ex H1 (upd H1 L (.dT [])) := Ex.new nL
    have hL : (upd H1 L (.dT [])) L = some (.dT (kvR [])) := upd_same
    have nL0 := Ex.freshW e1 nL
    generalize upd H1 L (.dT []) = H2 at e2 hL
    have x2 := e1.trans e2
    refine for_sq (K := K) (a := a) (xs := xs) (H0 := H) rfl hxs x2 (fun i σ Hc => (∃ u, σ = [some (.ref a), some (.ref f), some (.ref L), u]) ∧ Ex H Hc ∧ ∃ keys : List (List Key), ks.take i = keys.map some ∧ keys.Nodup ∧ Hc L = some (.dT (kvR keys)))
      ⟨⟨_, rfl⟩, x2, [], rfl, List.nodup_nil, hL⟩ (fun i σ Hc q => q.2.1) (fun i y σ Hc ey q => ?_) (fun σ Hc q => ?_)
    · obtain ⟨⟨u, rfl⟩, e, keys, tk, nd, hLc⟩ := q
      have hi := (List.getElem?_eq_some_iff.mp ey).1
      obtain ⟨k, ek⟩ : ∃ k, ks[i]? = some k := ⟨_, List.getElem?_eq_getElem (by omega)⟩
      obtain ⟨ct, key⟩ := its i y k ey ek
      have C1 := CI.ex e
      refine ⟨rfl, C1.fn, _, rfl, C1.fn, C1.cd, C1.clo, ct _ _ _ C1.up fun H' e' _ => ?_⟩
      have eb := back_ex e'
      generalize back Hc H' (cellsOf F.cl) = Hd at eb
      refine ⟨_, rfl, ?_⟩
      cases k with
      | none =>
        refine iteT (bad (fun ⟨ky, q, _⟩ => ?_) Hd (e.trans eb))
        rw [q, List.getElem?_map] at ek
        cases hk : ky[i]? with
        | none => rw [hk] at ek; cases ek
        | some z => rw [hk] at ek; cases ek
      | some ky =>
        obtain ⟨t, rfl, ht⟩ := key ky rfl
        have ht2 : Hd t = some (.tup (ky.map kV)) := eb _ _ (C1.sub _ _ ht)
        refine iteF ⟨_, rfl, _, rfl, L, _, rfl, DGet.t (eb _ _ hLc) ht2, _, rfl, ?_⟩
        rw [kvR_is]
        by_cases hm : ky ∈ keys
        · rw [memB_iff.mpr hm]
          refine iteT (bad (fun ⟨ky2, q, nd2⟩ => ?_) Hd (e.trans eb))
          rw [q] at tk ek
          have t2 : ky2.take i = keys := by
            rw [← List.map_take] at tk
            exact some_inj tk
          rw [List.getElem?_map] at ek
          have e3 : ky2[i]? = some ky := by
            cases hk : ky2[i]? with
            | none => rw [hk] at ek; cases ek
            | some z => rw [hk] at ek; cases ek; rfl
          rw [← t2] at hm
          obtain ⟨j, hj⟩ := List.mem_iff_getElem?.mp hm
          have hlt : j < i := by
            have := (List.getElem?_eq_some_iff.mp hj).1
            rw [List.length_take] at this
            omega
          rw [List.getElem?_take_of_lt hlt] at hj
          have := (List.getElem?_inj (List.getElem?_eq_some_iff.mp hj).1 nd2).mp (hj.trans e3.symm)
          omega
        · rw [memB_not hm]
          have hlen : (kvR keys).length ≤ 1000 := by
            have := congrArg List.length tk
            rw [List.length_take, List.length_map] at this
            unfold kvR
            rw [List.length_map]
            omega
          refine iteF ⟨_, rfl, _, rfl, L, _, rfl, DPut.t (eb _ _ hLc) ht2 (Nat.lt_of_le_of_lt hlen (by decide)), ?_⟩
          rw [kvR_put hm]
          exact ⟨⟨_, rfl⟩, ((e.trans eb).mut nL0), keys ++ [ky], map_some_take tk ek, List.nodup_append.mpr ⟨nd, by simp, fun a ha b hb => by
            simp at hb; subst hb; exact fun z => hm (z ▸ ha)⟩, upd_same⟩
    · obtain ⟨⟨u, rfl⟩, e, keys, tk, nd, hLc⟩ := q
      rw [List.take_of_length_le (by omega)] at tk
      exact ⟨_, rfl, good keys tk nd L Hc e nL0 hLc⟩
/-- what one place leads to -/
structure Mvs (H : Hp) (xs : List V) (ths : List (Option (List Key))) : Prop where
  len : xs.length = ths.length
  at_ : ∀ (i : Nat) (x : V) (th : Option (List Key)), xs[i]? = some x → ths[i]? = some th → ∃ t y z, x = .ref t ∧ H t = some (.tup [y, z]) ∧ (th = none → z = .non) ∧ ∀ key, th = some key → ∃ q, z = .ref q ∧ H q = some (.tup (key.map kV))
def thB (keys : List (List Key)) : Option (List Key) → Bool
  | none => false
  | some z => memB keys z
def closedB (keys : List (List Key)) (key0 : List Key) (mv : List Key → List (Option (List Key))) : Bool := memB keys key0 && keys.all fun k => (mv k).all (thB keys)
def spClosed (P : Program) (w : World) (K : PySem.W.Frag) (mg : Str → Option Value) (base : Heap) (kk : Nat) : Sp := fun vs H Q _ => ∃ (r : V) (s0 f : Addr) (key0 : List Key) (F : NF) (p0 : Str) (fr : List Str) (ws : List V) (sp : List (Option V) → Sp) (B : Hp),
  vs = [r, .ref s0, .ref f] ∧ H s0 = some (.tup (key0.map kV)) ∧ CloIn P w K mg base kk f F [p0] fr ws sp H B ∧ ((r = .non ∧ ∀ H', Ex H H' → Q (.bl false) H') ∨ (∃ (d : Addr) (keys : List (List Key)) (mv : List Key → List (Option (List Key))), r = .ref d ∧ H d = some (.dT (kvR keys)) ∧ B d = none ∧
    (∀ k ∈ keys, ∀ H Q E q, Ex B H → H q = some (.tup (k.map kV)) → (∀ H' l xs, Ex H H' → H' l = some (.lst xs) → Mvs H' xs (mv k) → Q (.ref l) H') → sp (ws.map some) [.ref q] H Q E) ∧
    ∀ H', Ex H H' → Q (.bl (closedB keys key0 mv)) H'))
abbrev nClosed : List Str := ["rows", "start", "moves", "here", "_", "there"]
theorem scClosed : FnScope nClosed ["rows", "start", "moves"] (defScope dIsClosed) := ⟨rfl, rfl, rfl, by decide +kernel, rfl, by decide +kernel, by decide +kernel⟩
theorem okClosed {f : Addr} {fd : FuncData} (F : At K mg "is_closed" dIsClosed ["rows", "start", "moves"] f fd) (T : Txt K mg) (kk : Nat) : FnOk P w K mg base CX0 (kk + 1) f fd ["rows", "start", "moves"] (spClosed P w K mg base kk) := by
  refine F.fn.ok scClosed (fun vs H Q E h => ?_) (fun cdv A outer s H vs Q E hr h => ?_)
  · obtain ⟨r, s0, f, key0, F, p0, fr, ws, sp, B, rfl, _⟩ := h
    rfl
  · obtain ⟨r, s0, f, key0, F, p0, fr, ws, sp, B, rfl, hs0, CI, h⟩ := h
    have nds := scClosed.nd
    have hu := hu_of hr
    refine ⟨_, (pss_cons (ps_if (PW.pt (pw_or (pt_cmp (pc_isN (pv 0))) (pw_or1 (pt_cmp (pc_dnotin hu (pv 1) (pv 0))))))
        (pss_one (ps_ret pe_bl)) pss_nil)
      (pss_cons (ps_lock (ps_for PassesOwn.never rfl (pi_keys (pv 0)) (pg_name (i := 3) nds rfl (Or.inl rfl))
        (pss_one (ps_for PassesOwn.never rfl (pi_list (pe_clo (i := 2) (ws := ws) (E := E) CI.ok hr (Nat.le_refl _) rfl (Or.inl rfl) (pa_cons (pv 3) pa_nil))) (pg_tup rfl (pgs_cons (pg_name (i := 4) nds rfl (Or.inl rfl)) (pgs_cons (pg_name (i := 5) nds rfl (Or.inl rfl)) pgs_nil)))
        (pss_one (ps_if (PW.pt (pw_or (pt_cmp (pc_isN (pv 5))) (pw_or1 (pt_cmp (pc_dnotin hu (pv 5) (pv 0))))))
        (pss_one (ps_ret pe_bl)) pss_nil))))))
      (pss_one (ps_ret pe_bl)))), ?_⟩
    rcases h with ⟨rfl, k⟩ | ⟨d, keys, mv, rfl, hd, nB, ct, k⟩
    · exact ⟨_, rfl, _, rfl, iteT (k H (Ex.refl H))⟩
    refine ⟨_, rfl, _, rfl, iteF ⟨_, rfl, _, rfl, d, _, rfl, DGet.t hd hs0, _, rfl, ?_⟩⟩
    rw [kvR_is]
    cases hm : memB keys key0 with
    | false =>
      have z : closedB keys key0 mv = false := by unfold closedB; rw [hm]; rfl
      rw [z] at k
      exact iteT (k H (Ex.refl H))
    | true =>
      refine iteF ⟨d, _, hd, True.intro, fun od => ?_⟩
      have CL : CloIn P w K mg base kk f F [p0] fr ws sp (upd H d (.frz od (.dT (kvR keys)))) B := CI.upd hd (fun _ _ z => by cases z) (fun _ z => by cases z) nB
      have hL : (upd H d (.frz od (.dT (kvR keys)))) d = some (.frz od (.dT (kvR keys))) := upd_same
      have fin : ∀ H', Ex (upd H d (.frz od (.dT (kvR keys)))) H' → Ex H (upd H' d (.dT (kvR keys))) := fun H' e b o hb => by
        by_cases z : b = d
        · rw [z] at hb ⊢
          rw [hd] at hb
          rw [upd_same]
          exact hb
        · rw [upd_ne z]
          exact e _ _ (by rw [upd_ne z]; exact hb)
      generalize upd H d (.frz od (.dT (kvR keys))) = HL at CL hL fin
      refine ⟨_, rfl, d, od, rfl, .inr ⟨_, hL, for_it walk_keysT (fun i σ Hc => (∃ u v w, σ = [some (.ref d), some (.ref s0), some (.ref f), u, v, w]) ∧ Ex HL Hc ∧ (keys.take i).all (fun k => (mv k).all (thB keys)) = true)
        ⟨⟨_, _, _, rfl⟩, Ex.refl _, rfl⟩ (fun i σ Hc _ q => q.2.1 _ _ hL) (fun i x σ Hc Hb hi q yy => ?_) (fun σ Hc q => ?_)⟩⟩
      · obtain ⟨rfl, ky, vv, q0, ek, rfl, hq⟩ := yy
        obtain ⟨⟨u, v, w1, rfl⟩, e, al⟩ := q
        have ek2 : keys[i]? = some ky := by
          unfold kvR at ek
          rw [List.getElem?_map] at ek
          cases z : keys[i]? with
          | none => rw [z] at ek; cases ek
          | some y => rw [z] at ek; cases ek; rfl
        have C1 := CL.ex e
        refine ⟨rfl, C1.fn, _, rfl, C1.fn, C1.cd, C1.clo, ct ky (List.mem_of_getElem? ek2) _ _ _ q0 C1.up ?_ fun H' l xs e' hl mvs nn => ?_⟩
        · rw [less_out (C1.clo.ne hq fun _ _ z => by cases z)]
          exact hq
        have eb := back_ex e'
        have er := back_exR (H := Hb) nn
        have hl2 := er _ _ hl
        have mv2 : ∀ (j : Nat) (x : V) (th : Option (List Key)), xs[j]? = some x → (mv ky)[j]? = some th → ∃ t y z, x = .ref t ∧ (back Hb H' (cellsOf F.cl)) t = some (.tup [y, z]) ∧ (th = none → z = .non) ∧ ∀ key, th = some key → ∃ q, z = .ref q ∧ (back Hb H' (cellsOf F.cl)) q = some (.tup (key.map kV)) := fun j x th h1 h2 => by
          obtain ⟨t, y, z, a1, a2, a3, a4⟩ := mvs.at_ j x th h1 h2
          exact ⟨t, y, z, a1, er _ _ a2, a3, fun key hk => let ⟨q, b1, b2⟩ := a4 key hk; ⟨q, b1, er _ _ b2⟩⟩
        have len := mvs.len
        generalize back Hb H' (cellsOf F.cl) = Hd at eb hl2 mv2
        refine ⟨l, rfl, ⟨_, SqL.of hl2⟩, for_it walk_list (fun j σ He => (∃ v w, σ = [some (.ref d), some (.ref s0), some (.ref f), some (.ref q0), v, w]) ∧ Ex Hd He ∧ ((mv ky).take j).all (thB keys) = true)
          ⟨⟨_, _, rfl⟩, Ex.refl _, rfl⟩ (fun j σ He _ q => SqL.of (q.2.1 _ _ hl2)) (fun j x σ He Hf hj q yy => ?_) (fun σ He q => ?_)⟩
        · obtain ⟨rfl, ex⟩ := yy
          obtain ⟨⟨v, w2, rfl⟩, e2, al2⟩ := q
          obtain ⟨th, eth⟩ : ∃ th, (mv ky)[j]? = some th := ⟨_, List.getElem?_eq_getElem (by omega)⟩
          obtain ⟨t, y, z, rfl, ht, zn, zs⟩ := mv2 j x th ex eth
          refine ⟨t, [y, z], rfl, .inl (.inl (e2 _ _ ht)), rfl, _, _, rfl, _, _, rfl, rfl, ?_⟩
          have stop : ∀ He, Ex HL He → closedB keys key0 mv = false → He d = some (.frz od (.dT (kvR keys))) ∧ Q (.bl false) (upd He d (.dT (kvR keys))) := fun He e z => ⟨e _ _ hL, by rw [z] at k; exact k _ (fin He e)⟩
          have eA : Ex HL Hf := (e.trans eb).trans e2
          have bad : thB keys th = false → closedB keys key0 mv = false := fun hb => by
            cases cb : closedB keys key0 mv with
            | false => rfl
            | true =>
              unfold closedB at cb
              rw [Bool.and_eq_true, List.all_eq_true] at cb
              have c2 := cb.2 ky (List.mem_of_getElem? ek2)
              rw [List.all_eq_true] at c2
              have c3 := c2 th (List.mem_of_getElem? eth)
              rw [hb] at c3
              cases c3
          cases th with
          | none =>
            have := zn rfl
            subst this
            exact ⟨_, rfl, _, rfl, iteT (stop _ eA (bad rfl))⟩
          | some key =>
            obtain ⟨q2, rfl, hq2⟩ := zs key rfl
            refine ⟨_, rfl, _, rfl, iteF ⟨_, rfl, _, rfl, d, _, rfl, .inr ⟨_, key, q2, .inr ⟨od, eA _ _ hL⟩, rfl, e2 _ _ hq2, rfl⟩, _, rfl, ?_⟩⟩
            rw [kvR_is]
            cases hk : memB keys key with
            | false => exact iteT (stop _ eA (bad hk))
            | true =>
              refine iteF ⟨⟨_, _, rfl⟩, e2, ?_⟩
              rw [take_more eth, List.all_append, al2]
              show (true && (memB keys key && true)) = true
              rw [hk]
              rfl
        · obtain ⟨⟨v, w2, rfl⟩, e2, al2⟩ := q
          refine ⟨⟨_, _, _, rfl⟩, (e.trans eb).trans e2, ?_⟩
          rw [take_more ek2, List.all_append, al]
          rw [List.take_of_length_le (by omega)] at al2
          show (true && ((mv ky).all (thB keys) && true)) = true
          rw [al2]
          rfl
      · obtain ⟨⟨u, v, w1, rfl⟩, e, al⟩ := q
        refine ⟨e _ _ hL, ?_⟩
        have z : closedB keys key0 mv = true := by
          unfold closedB
          rw [hm]
          rw [List.take_of_length_le (by unfold kvR; rw [List.length_map]; omega)] at al
          rw [al]
          rfl
        rw [z] at k
        exact k _ (fin Hc e)
end
end W

set_option Elab.async false
set_option linter.all false
set_option maxRecDepth 100000
set_option maxHeartbeats 4000000
/-! for .. in zip(a, b, c) over three lists. -/
namespace G
open PySem PySem.Spec PyProof.Rows L2 Evl
/-- the lists at a, b, c as they stand at each turn, the items in new triples -/
def Itz3 (K : PySem.W.Frag) (a b c : Addr) : It :=
  ⟨fun i H => ∃ (xs ys zs : List V) (x y z : V), SqL K H a xs ∧ SqL K H b ys ∧ SqL K H c zs ∧ xs[i]? = some x ∧ ys[i]? = some y ∧ zs[i]? = some z,
    fun i H v H' => ∃ T x y z, v = .ref T ∧ H T = none ∧ H' = upd H T (.tup [x, y, z]) ∧ (∀ xs, SqL K H a xs → xs[i]? = some x) ∧ (∀ ys, SqL K H b ys → ys[i]? = some y) ∧ ∀ zs, SqL K H c zs → zs[i]? = some z,
    fun i H => ∃ xs ys zs : List V, SqL K H a xs ∧ SqL K H b ys ∧ SqL K H c zs ∧ i = xs.length ∧ i = ys.length ∧ i = zs.length⟩
theorem turn_zip3 {P : Program} {w : World} {K : PySem.W.Frag} {elts : List Expr} {kk : Nat} {tpos : Pos} {a b c z TI TO i1 i2 i3 : Addr} (D : ZipSep3 z TI TO i1 i2 i3 [i1, a] [i2, b] [i3, c]) (na : a ≠ i1) (nb : b ≠ i2) (nc : c ≠ i3) :
    Turn P w K (.Tuple elts kk tpos) (Itz3 K a b c) [z, TI, TO, i1, i2, i3] z (fun i h => IsZip h z TI TO .none ∧ IsTupOf3 h TI (.ref i1) (.ref i2) (.ref i3) ∧ (∃ x y w, IsTupOf3 h TO x y w) ∧ h.IsListIter i1 a i ∧ h.IsListIter i2 b i ∧ h.IsListIter i3 c i) where
  mem := by simp
  obj := fun i h st d hc => by
    obtain ⟨hz, hTI, ⟨x, y, w, hTO⟩, ⟨o1, e1, _, d1⟩, ⟨o2, e2, _, d2⟩, ⟨o3, e3, _, d3⟩⟩ := st
    have e' : d = z ∨ d = TI ∨ d = TO ∨ d = i1 ∨ d = i2 ∨ d = i3 := by simpa using hc
    rcases e' with q | q | q | q | q | q
    · rw [q]; exact ⟨_, hz, fun v q => nomatch q⟩
    · rw [q]; exact ⟨_, hTI, fun v q => nomatch q⟩
    · rw [q]; exact ⟨_, hTO, fun v q => nomatch q⟩
    · rw [q]; exact ⟨o1, e1, fun v q => by rw [d1] at q; cases q⟩
    · rw [q]; exact ⟨o2, e2, fun v q => by rw [d2] at q; cases q⟩
    · rw [q]; exact ⟨o3, e3, fun v q => by rw [d3] at q; cases q⟩
  keep := fun i h h' st k => by
    obtain ⟨hz, hTI, ⟨x, y, w, hTO⟩, h1, h2, h3⟩ := st
    exact ⟨k z (by simp) _ hz, k TI (by simp) _ hTI, ⟨x, y, w, k TO (by simp) _ hTO⟩, h1.at fun o q => k i1 (by simp) o q, h2.at fun o q => k i2 (by simp) o q, h3.at fun o q => k i3 (by simp) o q⟩
  item := by
    intro X hP hw hK hc i pins s σ H E I hf st hg
    subst hP hw hK
    obtain ⟨hz, hTI, ⟨x0, y0, w0, hTO⟩, h1, h2, h3⟩ := st
    obtain ⟨xs, ys, zs, x, y, w, hqx, hqy, hqz, hx, hy, hw⟩ := hg
    obtain ⟨its, rv, p, _⟩ := I.list hqx
    obtain ⟨its2, rv2, p2, _⟩ := I.list hqy
    obtain ⟨its3, rv3, p3, _⟩ := I.list hqz
    obtain ⟨u, hu, ru⟩ := rv.get hx
    obtain ⟨u2, hu2, ru2⟩ := rv2.get hy
    obtain ⟨u3, hu3, ru3⟩ := rv3.get hw
    have hzl : z < s.heap.objs.size := Heap.lt_size hz
    have hh : X.A.in1.handled = none := I.ok.hd hc
    refine wpAny_pyNext_zipD3_item D (Draws.list hh i1 a na its.toArray) (Draws.list hh i2 b nb its2.toArray) (Draws.list hh i3 c nc its3.toArray) hz hTI hTO ⟨h1, p.isList⟩ ⟨h2, p2.isList⟩ ⟨h3, p3.isList⟩
      (by have := (List.getElem?_eq_some_iff.mp hu).1; simpa using this) (by have := (List.getElem?_eq_some_iff.mp hu2).1; simpa using this) (by have := (List.getElem?_eq_some_iff.mp hu3).1; simpa using this) fun x1 x2 x3 h' tk e1 e2 e3 z' TO' h1' h2' h3' hT hsz hk => ?_
    obtain rfl : u = x1 := by rw [show its.toArray[i]? = some u by simpa using hu] at e1; exact Option.some.inj e1
    obtain rfl : u2 = x2 := by rw [show its2.toArray[i]? = some u2 by simpa using hu2] at e2; exact Option.some.inj e2
    obtain rfl : u3 = x3 := by rw [show its3.toArray[i]? = some u3 by simpa using hu3] at e3; exact Option.some.inj e3
    refine ⟨_, rfl, wpAny_letOwnedTupleGo_zip (s := { s with heap := h', toks := tk }) z' fun h'' z'' sb => ?_⟩
    have hT2 : h''.get? s.heap.objs.size = some { cls := .type "tuple", data := .seq #[u, u2, u3] } := (sb.2 _ (Nat.ne_of_gt hzl)).trans hT
    have new : ObjOk X.prog X.w (upd H s.heap.objs.size (.tup [x, y, w])) h'' s.heap.objs.size (.tup [x, y, w]) :=
      ⟨by show 3 ≤ sizeLine; decide, [u, u2, u3], .cons ru (.cons ru2 (.cons ru3 .nil)), ⟨_, hT2, rfl, _, rfl⟩⟩
    have I1 : Inv X pins σ (upd H s.heap.objs.size (.tup [x, y, w])) { s with heap := h'', toks := tk } :=
      I.turnedNew (t' := tk) (ch := [z, TI, TO, i1, i2, i3]) (fun c o hb q => (sb.2 c (fun q' => hb (by simp [q']))).trans (hk c o (fun q' => hb (by simp [q'])) (fun q' => hb (by simp [q'])) (fun q' => hb (by simp [q'])) (fun q' => hb (by simp [q'])) (fun q' => hb (by simp [q'])) q)) hf (Nat.le_refl _) new
    refine ⟨.ref s.heap.objs.size, _, I1, rfl, ⟨_, x, y, w, rfl, I.hok.fresh (Nat.le_refl _), rfl, fun l hl => by rw [I.list_inj hl hqx]; exact hx, fun l hl => by rw [I.list_inj hl hqy]; exact hy, fun l hl => by rw [I.list_inj hl hqz]; exact hw⟩, ⟨z'', ?_, ⟨u, u2, u3, ?_⟩, ?_, ?_, ?_⟩, fun c hcm => ?_⟩
    · exact (sb.2 _ D.TIz).trans (hk _ _ D.TIz D.TITO D.TIi1 D.TIi2 D.TIi3 hTI)
    · exact (sb.2 _ D.TOz).trans TO'
    · exact h1'.1.at fun o q => (sb.2 _ (Ne.symm D.zi1)).trans q
    · exact h2'.1.at fun o q => (sb.2 _ (Ne.symm D.zi2)).trans q
    · exact h3'.1.at fun o q => (sb.2 _ (Ne.symm D.zi3)).trans q
    · have hlt : c < s.heap.objs.size := by
        have e' : c = z ∨ c = TI ∨ c = TO ∨ c = i1 ∨ c = i2 ∨ c = i3 := by simpa using hcm
        rcases e' with q | q | q | q | q | q
        · rw [q]; exact hzl
        · rw [q]; exact Heap.lt_size hTI
        · rw [q]; exact Heap.lt_size hTO
        · rw [q]; obtain ⟨_, e1, _⟩ := h1; exact Heap.lt_size e1
        · rw [q]; obtain ⟨_, e2, _⟩ := h2; exact Heap.lt_size e2
        · rw [q]; obtain ⟨_, e3, _⟩ := h3; exact Heap.lt_size e3
      rw [upd_ne (Nat.ne_of_lt hlt)]
      exact (hf c hcm).1
  done := by
    intro X hP hw hK hc i pins s σ H E I hf st hg
    subst hP hw hK
    obtain ⟨hz, hTI, ⟨x0, y0, w0, hTO⟩, h1, h2, h3⟩ := st
    obtain ⟨xs, ys, zs, hqx, hqy, hqz, l1, l2, l3⟩ := hg
    obtain ⟨its, rv, p, _⟩ := I.list hqx
    obtain ⟨its2, rv2, p2, _⟩ := I.list hqy
    obtain ⟨its3, rv3, p3, _⟩ := I.list hqz
    have l1' := rv.length
    have l2' := rv2.length
    have l3' := rv3.length
    have hh : X.A.in1.handled = none := I.ok.hd hc
    exact wpAny_pyNext_zipD3_end D (Draws.list hh i1 a na its.toArray) (Draws.list hh i2 b nb its2.toArray) (Draws.list hh i3 c nc its3.toArray) hz hTI hTO ⟨h1, p.isList⟩ ⟨h2, p2.isList⟩ ⟨h3, p3.isList⟩
      (by simp; omega) (by simp; omega) (by simp; omega) (.inl (by simp; omega)) fun h' tk hk => ⟨rfl, I.turnedL (t' := tk) (ch := [z, TI, TO, i1, i2, i3]) (fun c o hb q =>
      hk c o (fun q' => hb (by simp [q'])) (fun q' => hb (by simp [q'])) (fun q' => hb (by simp [q'])) (fun q' => hb (by simp [q'])) (fun q' => hb (by simp [q'])) q) hf⟩
  self := fun A i s Q E st h => wpAny_pyIter_zip st.1 h
theorem zip3_apart {n a b c : Nat} (la : a < n) (lb : b < n) (lc : c < n) : ZipSep3 (n + 5) (n + 3) (n + 4) n (n + 1) (n + 2) [n, a] [n + 1, b] [n + 2, c] := by
  constructor <;> first | (show (_ : Nat) ≠ _; omega) | (show (_ : Nat) ∈ _; simp) | (simp only [List.mem_cons, List.not_mem_nil, or_false]; show ¬ ((_ : Nat) = _ ∨ (_ : Nat) = _); omega)
def iZip3 (K : PySem.W.Frag) (ta : TA) : TI := fun σ H R => ta σ H fun vs H1 => ∃ a b c xs ys zs, vs = [.ref a, .ref b, .ref c] ∧ SqL K H1 a xs ∧ SqL K H1 b ys ∧ SqL K H1 c zs ∧ R (Itz3 K a b c) H1
theorem pi_zip3 {X : Cx} {e e2 e3 : Expr} {ta : TA} {p pos tpos : Pos} {elts : List Expr} {kk : Nat} {K : PySem.W.Frag} (hK : X.K = K) (hg : Gl X "zip") (hm : X.mg "zip" = none) (ha : PA X [e, e2, e3] ta)
    (hs : starEach [e, e2, e3] X.env = (false, eval e X.env) :: starEach [e2, e3] X.env := by rfl) (hpl : (backTo pos (starEach [e2, e3] X.env)).any (·.1) = false := by rfl) :
    PI X (.Tuple elts kk tpos) (.Call (.Name "zip" p) [e, e2, e3] [] pos) (iZip3 K ta) := by
  subst hK
  refine ⟨fun pins s σ H R I h => ?_⟩
  refine Call_ (ld_blt I hg hm PyProof.Rows.boot_zip (PyProof.Rows.callWith_type1 (thn (ha.run pos pins s σ H _ I h) fun us s1 ⟨vs, H1, I1, r1, q1⟩ => ?_) hs hpl))
  obtain ⟨a, b, c, xs, ys, zs, ex, hqx, hqy, hqz, q⟩ := q1
  subst ex
  cases r1 with
  | cons r rr =>
    cases rr with
    | cons r' rr =>
      cases rr with
      | cons r2 rr =>
        cases rr
        cases r
        cases r'
        cases r2
        obtain ⟨its, rv, p1, _⟩ := I1.list hqx
        obtain ⟨its2, rv2, p2, _⟩ := I1.list hqy
        obtain ⟨its3, rv3, p3, _⟩ := I1.list hqz
        have la : a < s1.heap.objs.size := p1.lt
        have lb : b < s1.heap.objs.size := p2.lt
        have lc : c < s1.heap.objs.size := p3.lt
        refine zip_begins3 (begins_list a its.toArray) (begins_list b its2.toArray) (begins_list c its3.toArray) p1.isList p2.isList p3.isList fun h' hz hTI hTO h1 h2 h3 hsz hk => wpAny_pyIter_zip hz ?_
        have I2 : Inv X pins σ H1 { s1 with heap := h' } := I1.kept (t' := s1.toks) hk
        refine ⟨s1.heap.objs.size + 5, [s1.heap.objs.size + 5, s1.heap.objs.size + 3, s1.heap.objs.size + 4, s1.heap.objs.size, s1.heap.objs.size + 1, s1.heap.objs.size + 2], _, _, H1, rfl, I2, turn_zip3 (zip3_apart la lb lc) (Nat.ne_of_lt la) (Nat.ne_of_lt (Nat.lt_succ_of_lt lb)) (Nat.ne_of_lt (Nat.lt_succ_of_lt (Nat.lt_succ_of_lt lc))), ⟨hz, hTI, ⟨_, _, _, hTO⟩, ⟨_, h1, rfl, rfl⟩, ⟨_, h2, rfl, rfl⟩, ⟨_, h3, rfl, rfl⟩⟩, fun c hcm => ?_, q⟩
        · have e' : c = s1.heap.objs.size + 5 ∨ c = s1.heap.objs.size + 3 ∨ c = s1.heap.objs.size + 4 ∨ c = s1.heap.objs.size ∨ c = s1.heap.objs.size + 1 ∨ c = s1.heap.objs.size + 2 := by simpa using hcm
          have hle : s1.heap.objs.size ≤ c := by
            rcases e' with z | z | z | z | z | z
            · rw [z]; exact Nat.le_add_right _ _
            · rw [z]; exact Nat.le_add_right _ _
            · rw [z]; exact Nat.le_add_right _ _
            · rw [z]; exact Nat.le_refl _
            · rw [z]; exact Nat.le_add_right _ _
            · rw [z]; exact Nat.le_add_right _ _
          exact I1.fpOk hle (I1.hok.fresh hle)
/-- one of three -/
def YTri (xs ys zs : Nat → Option V) : Nat → Hp → V → Hp → Prop := fun i H v H' => ∃ T x y z, v = .ref T ∧ H T = none ∧ H' = upd H T (.tup [x, y, z]) ∧ xs i = some x ∧ ys i = some y ∧ zs i = some z
theorem walk_zip3 {K : PySem.W.Frag} {a b c : Addr} {xs ys zs : List V} {n : Nat} (h1 : xs.length = n) (h2 : ys.length = n) (h3 : zs.length = n) :
    Walk (Itz3 K a b c) n (fun H => SqL K H a xs ∧ SqL K H b ys ∧ SqL K H c zs) (YTri (fun i => xs[i]?) (fun i => ys[i]?) (fun i => zs[i]?)) := by
  refine ⟨fun i _ hi q => ?_, fun _ q => ⟨xs, ys, zs, q.1, q.2.1, q.2.2, h1.symm, h2.symm, h3.symm⟩, fun i H v H' _ q y => ?_⟩
  · have l1 : i < xs.length := by omega
    have l2 : i < ys.length := by omega
    have l3 : i < zs.length := by omega
    exact ⟨xs, ys, zs, xs[i], ys[i], zs[i], q.1, q.2.1, q.2.2, by simp [l1], by simp [l2], by simp [l3]⟩
  · obtain ⟨T, x, z, u, h1, h2, h3, h4, h5, h6⟩ := y
    exact ⟨T, x, z, u, h1, h2, h3, h4 xs q.1, h5 ys q.2.1, h6 zs q.2.2⟩
end G

set_option Elab.async false
set_option linter.all false
set_option maxRecDepth 100000
set_option maxHeartbeats 8000000
/-! == of an own instance and anything. -/
namespace G
open PySem PySem.Spec PyProof.Rows L2 Evl
/-- x == y, x an own instance with an own ==, which tells b -/
def rEqO (K : PySem.W.Frag) (C : Addr) (sp : Sp) (E : XK) : R2 := fun x y H Q => ∃ (a dx : Addr) (fs : List (Str × V)) (tb : Value), x = .ref a ∧ H a = some (.ins C dx fs) ∧ TyX K H y tb ∧ PySem.W.notFirst K C tb = true ∧ sp [x, y] H (fun v H' => ∃ b, v = .bl b ∧ Q (.bl b) H') E
theorem op_eqO {X : Cx} {K : PySem.W.Frag} {n : Nat} {CX : CXT} {C f : Addr} {fd : FuncData} {ps : List Str} {sp : Sp} {E : XK} (F : FnOk X.prog X.w X.K X.mg X.base CX n f fd ps sp)
    (hs : PySem.W.findIn X.K (.ref C) "__eq__" = some (some (.ref f))) (hf : PySem.W.isFn X.K (.ref f) = true) (hb : Binds X.K fd ps []) (hx : Passes CX X E) (hr : Room n X.A) (hK : X.K = K := by rfl) : OpR X (compareOp .Eq) (rEqO K C sp E) := by
  subst hK
  intro pins s σ H x y v u Q I rx ry hq
  obtain ⟨a, dx, fs, tb, rfl, ha, ty, nf, hsp⟩ := hq
  cases rx
  obtain ⟨mA, J, _⟩ := ins_get I.hok ha
  obtain ⟨od, J, _⟩ := J.look
  obtain ⟨Pk, kx, pk, _⟩ := kit_of I ry ty
  obtain ⟨m, hF⟩ := I.fr
  show wpAny (model X.prog X.w) X.A (richCompare .Eq (.ref a) u) (EP X pins σ Q) X.xe s
  refine PySem.W.cmp_K (op := .Eq) (tb := tb) (by have := hr.units; omega) hF I.ok.mod.kin J (kx.ty _ _ I.kIn pk) nf hs hf ?_
  have hl := F.len _ _ _ _ hsp
  have r2 : Vals [V.ref a, y] [Value.ref a, u] := .cons rfl (.cons ry .nil)
  refine wpAny_call (codeAny_mono (F.run X.A X.stack s H ⟨[.ref a, u], []⟩ [.ref a, u] [.ref a, y] _ E hr I.env0 (by
    have := hb s [.ref a, u] I.kIn (by simpa using hl)
    simpa using this) r2 hsp) fun r s' hq => ?_)
  cases r with
  | error e => exact hx pins σ H s e s' I hq
  | ok fl =>
    cases fl with
    | ret w =>
      obtain ⟨z, H', I', rz, b, ez, q⟩ := I.after hq
      subst ez
      cases rz
      exact ⟨.bl b, H', I', rfl, q⟩
    | next => exact False.elim hq
    | brk => exact False.elim hq
    | cont => exact False.elim hq
/-! no truth values, no dicts -/
mutual
def plD : PyData → Bool
  | .bool _ => false
  | .dict _ => false
  | .list ds => plDs ds
  | .tuple ds => plDs ds
  | _ => true
def plDs : List PyData → Bool
  | [] => true
  | d :: ds => plD d && plDs ds
end
mutual
theorem eqv_pl : ∀ {d e : PyData}, plD d = true → plD e = true → (PyData.eqv d e = true ↔ d = e)
  | .none, .none, _, _ => by simp [PyData.eqv]
  | .int i, .int j, _, _ => by simp [PyData.eqv]
  | .str x, .str y, _, _ => by simp [PyData.eqv]
  | .list xs, .list ys, h1, h2 => by
    have := eqv_pls (xs := xs) (ys := ys) h1 h2
    simp [PyData.eqv, this]
  | .tuple xs, .tuple ys, h1, h2 => by
    have := eqv_pls (xs := xs) (ys := ys) h1 h2
    simp [PyData.eqv, this]
  | .bool _, _, h, _ => by cases h
  | .dict _, _, h, _ => by cases h
  | _, .bool _, _, h => by cases h
  | _, .dict _, _, h => by cases h
  | .none, .int _, _, _ => by simp [PyData.eqv]
  | .none, .str _, _, _ => by simp [PyData.eqv]
  | .none, .list _, _, _ => by simp [PyData.eqv]
  | .none, .tuple _, _, _ => by simp [PyData.eqv]
  | .int _, .none, _, _ => by simp [PyData.eqv]
  | .int _, .str _, _, _ => by simp [PyData.eqv]
  | .int _, .list _, _, _ => by simp [PyData.eqv]
  | .int _, .tuple _, _, _ => by simp [PyData.eqv]
  | .str _, .none, _, _ => by simp [PyData.eqv]
  | .str _, .int _, _, _ => by simp [PyData.eqv]
  | .str _, .list _, _, _ => by simp [PyData.eqv]
  | .str _, .tuple _, _, _ => by simp [PyData.eqv]
  | .list _, .none, _, _ => by simp [PyData.eqv]
  | .list _, .int _, _, _ => by simp [PyData.eqv]
  | .list _, .str _, _, _ => by simp [PyData.eqv]
  | .list _, .tuple _, _, _ => by simp [PyData.eqv]
  | .tuple _, .none, _, _ => by simp [PyData.eqv]
  | .tuple _, .int _, _, _ => by simp [PyData.eqv]
  | .tuple _, .str _, _, _ => by simp [PyData.eqv]
  | .tuple _, .list _, _, _ => by simp [PyData.eqv]
theorem eqv_pls : ∀ {xs ys : List PyData}, plDs xs = true → plDs ys = true → (PyData.eqvAll xs ys = true ↔ xs = ys)
  | [], [], _, _ => by simp [PyData.eqvAll]
  | [], _ :: _, _, _ => by simp [PyData.eqvAll]
  | _ :: _, [], _, _ => by simp [PyData.eqvAll]
  | x :: xs, y :: ys, h1, h2 => by
    have h1 : (plD x && plDs xs) = true := h1
    have h2 : (plD y && plDs ys) = true := h2
    rw [Bool.and_eq_true] at h1 h2
    have a := eqv_pl (d := x) (e := y) h1.1 h2.1
    have b := eqv_pls (xs := xs) (ys := ys) h1.2 h2.2
    simp [PyData.eqvAll, a, b]
end
theorem plDs_map {α : Type} {f : α → PyData} (h : ∀ a, plD (f a) = true) : ∀ l : List α, plDs (l.map f) = true
  | [] => rfl
  | a :: l => by
    show (plD (f a) && plDs (l.map f)) = true
    rw [h a, plDs_map h l]
    rfl
theorem map_inj {α β : Type} {f : α → β} (h : ∀ a b, f a = f b → a = b) : ∀ {l m : List α}, l.map f = m.map f → l = m
  | [], [], _ => rfl
  | [], _ :: _, e => by cases e
  | _ :: _, [], e => by cases e
  | a :: l, b :: m, e => by
    simp only [List.map_cons, List.cons.injEq] at e
    rw [h _ _ e.1, map_inj h e.2]
end G

set_option Elab.async false
set_option linter.all false
set_option maxRecDepth 100000
set_option maxHeartbeats 8000000
/-! The test of a pair, the moves of two machines. -/
namespace W
open PySem PySem.Spec PyProof.Rows L2 Evl G NdefX LamX Clo
abbrev dIsPairN : Stmt := (defBody dIsRelation).getD 1 (.Pass ⟨0, 0, 0, 0⟩)
abbrev dMovesN : Stmt := (defBody dPairMoves).getD 1 (.Pass ⟨0, 0, 0, 0⟩)
abbrev nPair : List Str := ["row", "one", "other"]
abbrev nMoves : List Str := ["pair", "letters", "ours", "theirs", "told", "letter", "goal", "out", "twin", "said"]
abbrev frPair : List Str := ["one", "other"]
abbrev frMoves : List Str := ["letters", "ours", "theirs"]
theorem scPairN : NScope nPair ["row"] frPair (C8.fnScope dIsPairN) := nscope_by (by decide +kernel)
theorem scMovesN : NScope nMoves ["pair"] frMoves (C8.fnScope dMovesN) := nscope_by (by decide +kernel)
def isStateD (m : Nat) : PyData → Bool
  | .int i => decide (0 ≤ i) && decide (i < (m : Int))
  | _ => false
def isPairD (m k : Nat) : PyData → Bool
  | .tuple [a, b] => isStateD m a && isStateD k b
  | _ => false
section
variable {P : Program} {w : World} {K : PySem.W.Frag} {mg : Str → Option Value} {base : Heap} {M : Addr} {H H' : Hp}
theorem rd_tq {σ : L2.St} {Q : VK} {g : PyData → Bool} {x : V} {d : PyData} {i : Nat} {E : XK} (hs : σ[i]? = some (some x)) (hd : Dq K H x d) (h : ∀ H', Ex H H' → Q (.bl (g d)) H') : tCall (spTq K g) [] E (tCons (tVar i) tNil) σ H Q := ⟨x, hs, x, d, rfl, hd, h⟩
theorem okIntegerQ {f : Addr} {fd : FuncData} (F : At K mg "is_integer" dInteger ["value"] f fd) (T : Txt K mg) : FnOk P w K mg base CX0 1 f fd ["value"] (spTq K isInteger) := by
  refine F.fn.ok scInteger (fun vs H Q E h => ?_) (fun cdv A outer s H vs Q E hr h => ?_)
  · obtain ⟨x, d, rfl, _⟩ := h
    rfl
  · obtain ⟨x, d, rfl, hd, k⟩ := h
    refine ⟨_, pss_one (ps_ret (pe_and (pe_callB call_isi (by rfl) T.isinstance (by decide +kernel) (pa_cons (pv 0) (pa_cons (pTy "int" (by rfl) T.int (by decide +kernel)) pa_nil)))
      (pe_one (pe_not (pe_callB call_isi (by rfl) T.isinstance (by decide +kernel) (pa_cons (pv 0) (pa_cons (pTy "bool" (by rfl) T.bool (by decide +kernel)) pa_nil))))))), ?_⟩
    refine ⟨_, rfl, x, _, _, _, _, rfl, .ty _, hd.ty, kit_ty (kit_I d), _, rfl, ?_⟩
    cases e : isI d with
    | false =>
      refine iteF ?_
      have e2 : isInteger d = false := by unfold isInteger; rw [e]; rfl
      have q := k H (Ex.refl H)
      rw [e2] at q
      exact q
    | true =>
      refine iteT ?_
      refine ⟨_, rfl, x, _, _, _, _, rfl, .ty _, hd.ty, kit_ty (kit_B d), _, rfl, ?_⟩
      have e2 : isInteger d = !isB d := by unfold isInteger; rw [e]; rfl
      have q := k H (Ex.refl H)
      rw [e2] at q
      exact q
theorem okCountQ {f : Addr} {fd : FuncData} (F : At K mg "is_count" dCount ["value"] f fd) (T : Txt K mg) : FnOk P w K mg base CX0 2 f fd ["value"] (spTq K isCount) := by
  obtain ⟨fI, fdI, FI⟩ := T.integer
  have GI : FnOk P w K mg base CX0 1 fI fdI ["value"] (spTq K isInteger) := okIntegerQ FI T
  refine F.fn.ok scCount (fun vs H Q E h => ?_) (fun cdv A outer s H vs Q E hr h => ?_)
  · obtain ⟨x, d, rfl, _⟩ := h
    rfl
  · obtain ⟨x, d, rfl, hd, k⟩ := h
    refine ⟨_, pss_one (ps_ret (pe_and (pe_call GI hr (by rfl) FI.gl FI.fn.kp FI.bi .nil pass0 (pa_cons (pv 0) pa_nil)) (pe_one (pe_cmpR op_ge (pv 0) pe_int (nomark _))))), ?_⟩
    refine rd_tq rfl hd fun H1 e1 => ⟨_, rfl, ?_⟩
    have kk := k H1 e1
    cases e : isInteger d with
    | false =>
      have e2 : isCount d = false := by cases d <;> first | rfl | (simp [isInteger, isI, isB] at e)
      rw [e2] at kk
      exact iteF kk
    | true =>
      refine iteT ?_
      obtain ⟨i, rfl⟩ : ∃ i, d = .int i := by cases d <;> first | exact ⟨_, rfl⟩ | (simp [isInteger, isI, isB] at e)
      cases hd
      exact ⟨_, rfl, _, _, rfl, rfl, kk⟩
def spState (K : PySem.W.Frag) (M : Addr) : Sp := fun vs H Q _ => ∃ (p : Addr) (x : V) (d : PyData) (n o : Nat) (rows : Rw), vs = [.ref p, x] ∧ MacAt K M H p n o rows ∧ Dq K H x d ∧ ∀ H', Ex H H' → Q (.bl (isStateD rows.length d)) H'
theorem scState : FnScope ["machine", "value"] ["machine", "value"] (defScope dIsState) := ⟨rfl, rfl, rfl, by decide +kernel, rfl, by decide +kernel, by decide +kernel⟩
theorem okState {f : Addr} {fd : FuncData} (F : At K mg "is_state" dIsState ["machine", "value"] f fd) (T : Txt K mg) (MT : MacT K mg M) : FnOk P w K mg base CX0 3 f fd ["machine", "value"] (spState K M) := by
  obtain ⟨fC, gC, FC⟩ := T.count
  obtain ⟨fN, gN, FN⟩ := MT.len
  have GC : FnOk P w K mg base CX0 2 fC gC ["value"] (spTq K isCount) := okCountQ FC T
  have GN : FnOk P w K mg base CX0 1 fN gN ["self"] (spLen K M) := okLen FN T MT
  refine F.fn.ok scState (fun vs H Q E h => ?_) (fun cdv A outer s H vs Q E hr h => ?_)
  · obtain ⟨p, x, d, n, o, rows, rfl, _⟩ := h
    rfl
  · obtain ⟨p, x, d, n, o, rows, rfl, hm, hd, k⟩ := h
    refine ⟨_, (pss_one (ps_ret (pe_and (pe_call GC hr (by rfl) FC.gl FC.fn.kp FC.bi .nil pass0 (pa_cons (pv 1) pa_nil)) (pe_one (pe_cmpR op_lt (pv 1) (pe_callB (call_lenO GN FN.me.at_ FN.me.fn FN.bi pass0 hr) (by rfl) T.len PySem.boot_len (pa_cons (pv 0) pa_nil)) (nomark _)))))), ?_⟩
    obtain ⟨dx, a, hp, da, good⟩ := id hm
    refine ⟨_, rfl, x, d, rfl, hd, fun H1 e1 => ⟨_, rfl, ?_⟩⟩
    have few := good.few
    cases e : isCount d with
    | false =>
      have z : isStateD rows.length d = false := by
        cases d <;> first | rfl | skip
        rename_i i
        have e : decide (0 ≤ i) = false := e
        show (decide (0 ≤ i) && _) = false
        rw [e]
        rfl
      rw [z] at k
      exact iteF (k H1 e1)
    | true =>
      obtain ⟨i, rfl⟩ : ∃ i, d = .int i := by cases d <;> first | exact ⟨_, rfl⟩ | cases e
      cases hd
      have e : decide (0 ≤ i) = true := e
      refine iteT ⟨_, rfl, _, rfl, p, dx, _, (rows.length : Int), rfl, e1 _ _ hp, by omega, by omega, p, n, o, rows, rfl, hm.ex e1, rfl, _, _, rfl, rfl, ?_⟩
      have z : isStateD rows.length (.int i) = decide (i < (rows.length : Int)) := by
        show (decide (0 ≤ i) && _) = _
        rw [e]
        rfl
      rw [z] at k
      exact k H1 e1
/-! ### a pair -/
def spPairN (K : PySem.W.Frag) (M : Addr) : List (Option V) → Sp := fun ws vs H Q _ => ∃ (p q : Addr) (x : V) (d : PyData) (n o n2 o2 : Nat) (r1 r2 : Rw), ws = [some (.ref p), some (.ref q)] ∧ vs = [x] ∧ MacAt K M H p n o r1 ∧ MacAt K M H q n2 o2 r2 ∧ Dq K H x d ∧
  ∀ H', Ex H H' → Q (.bl (isPairD r1.length r2.length d)) H'
theorem okPairN (T : Txt K mg) (MT : MacT K mg M) {f : Addr} {qual : Str} {cl : List (Str × Addr)} {c : Addr} : NOk P w K mg base CX0 4 f (NF.of dIsPairN "is_pair" qual cl c) ["row"] frPair (spPairN K M) := by
  obtain ⟨fS, gS, FS⟩ := T.isState
  have GS : FnOk P w K mg base CX0 3 fS gS ["machine", "value"] (spState K M) := okState FS T MT
  refine nok_ofN scPairN (fun doc pm ctv us hl => match us, hl with | [_], _ => rfl) (fun ws vs H Q E h => ?_) (fun A outer s H vs ws Q E hr hf hc hl h => ?_)
  · obtain ⟨p, q, x, d, n, o, n2, o2, r1, r2, rfl, rfl, _⟩ := h
    rfl
  · obtain ⟨p, q, x, d, n, o, n2, o2, r1, r2, rfl, rfl, h1, h2, hd, k⟩ := h
    refine ⟨_, (pss_one (ps_ret (pe_and (pe_callB call_isi (by rfl) T.isinstance (by decide +kernel) (pa_cons (pv 0) (pa_cons (pTy "tuple" (by rfl) T.tuple (by decide +kernel)) pa_nil))) (pe_and (pe_cmpR op_eq (pe_callB call_len_seq (by rfl) T.len PySem.boot_len (pa_cons (pv 0) pa_nil)) pe_int (nomark _)) (pe_and (pe_call GS hr (by rfl) FS.gl FS.fn.kp FS.bi .nil pass0 (pa_cons (pv 1) (pa_cons (pe_ix ix_tup (pv 0) pe_int (fun _ _ => rfl)) pa_nil))) (pe_one (pe_call GS hr (by rfl) FS.gl FS.fn.kp FS.bi .nil pass0 (pa_cons (pv 2) (pa_cons (pe_ix ix_tup (pv 0) pe_int (fun _ _ => rfl)) pa_nil))))))))), ?_⟩
    refine ⟨_, rfl, x, _, _, _, _, rfl, .ty _, hd.ty, kit_ty (kit_T d), _, rfl, ?_⟩
    cases hd with
    | tup hs ha =>
      rename_i a xs ds
      refine iteT ⟨_, rfl, a, xs, rfl, .inr hs, rfl, _, rfl, ?_⟩
      have len := ha.len
      by_cases hl2 : xs.length = 2
      · rw [decide_eq_true (show V.int (xs.length : Nat) = V.int 2 by rw [hl2]; rfl)]
        obtain ⟨x1, x2, rfl⟩ : ∃ x1 x2, xs = [x1, x2] := by
          match xs, hl2 with
          | [a, b], _ => exact ⟨a, b, rfl⟩
        cases ha with
        | cons a1 ar =>
          cases ar with
          | cons a2 an =>
            cases an
            rename_i d1 d2
            refine iteT ⟨_, rfl, _, rfl, a, _, 0, x1, rfl, rfl, hs, rfl, p, x1, d1, n, o, r1, rfl, h1, a1, fun H1 e1 => ⟨_, rfl, ?_⟩⟩
            have z : isPairD r1.length r2.length (.tuple [d1, d2]) = (isStateD r1.length d1 && isStateD r2.length d2) := rfl
            rw [z] at k
            cases e : isStateD r1.length d1 with
            | false => rw [e] at k; exact iteF (k H1 e1)
            | true =>
              rw [e] at k
              exact iteT ⟨_, rfl, _, rfl, a, _, 1, x2, rfl, rfl, st_exQ e1 hs, rfl, q, x2, d2, n2, o2, r2, rfl, h2.ex e1, a2.ex e1, fun H2 e2 => k H2 (e1.trans e2)⟩
      · rw [decide_eq_false (show ¬ V.int (xs.length : Nat) = V.int 2 from fun z => by injection z with z; omega)]
        have z : isPairD r1.length r2.length (.tuple ds) = false := by
          match ds, len with
          | [], _ => rfl
          | [_], _ => rfl
          | [_, _], len => exact absurd len hl2
          | _ :: _ :: _ :: _, _ => rfl
        rw [z] at k
        exact iteF (k H (Ex.refl H))
    | _ => exact iteF (k H (Ex.refl H))
/-! ### moves -/
theorem bitsD_inj {a b : List Int} (h : bitsD a = bitsD b) : a = b := by
  unfold bitsD at h
  injection h with h
  exact map_inj (fun i j e => by injection e) h
theorem pl_bits (b : List Int) : plD (bitsD b) = true := plDs_map (f := PyData.int) (fun _ => rfl) b
theorem eqv_bits (a b : List Int) : PyData.eqv (bitsD a) (bitsD b) = decide (a = b) := by
  have h := eqv_pl (pl_bits a) (pl_bits b)
  by_cases e : a = b
  · subst e
    rw [decide_eq_true rfl]
    exact h.mpr rfl
  · rw [decide_eq_false e]
    cases z : PyData.eqv (bitsD a) (bitsD b) with
    | false => rfl
    | true => exact absurd (bitsD_inj (h.mp z)) e
def pairK (s u : Nat) : List Key := [.inl (s : Int), .inl (u : Int)]
def mvOf (r1 r2 : Rw) (s u j : Nat) : Option (List Key) := if (Mm.go r1 s j).2 = (Mm.go r2 u j).2 then some (pairK (Mm.go r1 s j).1 (Mm.go r2 u j).1) else none
def mvs (n : Nat) (r1 r2 : Rw) (s u : Nat) : List (Option (List Key)) := (List.range (2 ^ n)).map (mvOf r1 r2 s u)
theorem Mvs.ex {xs : List V} {ths : List (Option (List Key))} (h : Mvs H xs ths) (e : Ex H H') : Mvs H' xs ths :=
  ⟨h.len, fun i x th h1 h2 => let ⟨t, y, z, a1, a2, a3, a4⟩ := h.at_ i x th h1 h2; ⟨t, y, z, a1, e _ _ a2, a3, fun key hk => let ⟨q, b1, b2⟩ := a4 key hk; ⟨q, b1, e _ _ b2⟩⟩⟩
theorem Mvs.upd {xs ys : List V} {ths : List (Option (List Key))} {L : Addr} {o : HO} (h : Mvs H xs ths) (hL : H L = some (.lst ys)) : Mvs (L2.upd H L o) xs ths := by
  have k : ∀ {b zs}, H b = some (.tup zs) → (L2.upd H L o) b = some (.tup zs) := fun {b zs} q => by
    rw [upd_ne (ne_of q hL fun z => by cases z)]
    exact q
  exact ⟨h.len, fun i x th h1 h2 => let ⟨t, y, z, a1, a2, a3, a4⟩ := h.at_ i x th h1 h2; ⟨t, y, z, a1, k a2, a3, fun key hk => let ⟨q, b1, b2⟩ := a4 key hk; ⟨q, b1, k b2⟩⟩⟩
theorem Mvs.snoc {xs : List V} {ths : List (Option (List Key))} {t : Addr} {y z : V} {th : Option (List Key)} (h : Mvs H xs ths) (ht : H t = some (.tup [y, z])) (n : th = none → z = .non) (s : ∀ key, th = some key → ∃ q, z = .ref q ∧ H q = some (.tup (key.map kV))) :
    Mvs H (xs ++ [.ref t]) (ths ++ [th]) := by
  refine ⟨by rw [List.length_append, List.length_append, h.len]; rfl, fun i x th' h1 h2 => ?_⟩
  have len := h.len
  rcases Nat.lt_or_ge i xs.length with c | c
  · rw [List.getElem?_append_left c] at h1
    rw [List.getElem?_append_left (by omega)] at h2
    exact h.at_ i x th' h1 h2
  · rw [List.getElem?_append_right c] at h1
    rw [List.getElem?_append_right (by omega)] at h2
    have i0 : i - xs.length = 0 := by
      rcases Nat.eq_zero_or_pos (i - xs.length) with e | e
      · exact e
      · rw [List.getElem?_eq_none (by rw [List.length_singleton]; omega)] at h1
        cases h1
    rw [show i - ths.length = 0 by omega] at h2
    rw [i0] at h1
    cases h1
    cases h2
    exact ⟨t, y, z, rfl, ht, n, s⟩
def spMovesN (K : PySem.W.Frag) : List (Option V) → Sp := fun ws vs H Q _ => ∃ (l a b t : Addr) (n o s u : Nat) (r1 r2 : Rw), ws = [some (.ref l), some (.ref a), some (.ref b)] ∧ vs = [.ref t] ∧ Dp K H (.ref l) (.list (ltD n)) ∧ Dp K H (.ref a) (.list (r1.map rowL)) ∧ Dp K H (.ref b) (.list (r2.map rowL)) ∧
  GoodR n o r1 ∧ GoodR n o r2 ∧ s < r1.length ∧ u < r2.length ∧ H t = some (.tup ((pairK s u).map kV)) ∧ ∀ H' L xs, Ex H H' → H' L = some (.lst xs) → Mvs H' xs (mvs n r1 r2 s u) → Q (.ref L) H'
theorem okMovesN (T : Txt K mg) {f : Addr} {qual : Str} {cl : List (Str × Addr)} {c : Addr} : NOk P w K mg base CX0 4 f (NF.of dMovesN "moves" qual cl c) ["pair"] frMoves (spMovesN K) := by
  refine nok_ofN scMovesN (fun doc pm ctv us hl => match us, hl with | [_], _ => rfl) (fun ws vs H Q E h => ?_) (fun A outer s0 H vs ws Q E hr hf hc hl h => ?_)
  · obtain ⟨l, a, b, t, n, o, s, u, r1, r2, rfl, rfl, _⟩ := h
    rfl
  · obtain ⟨l, a, b, t, n, o, s, u, r1, r2, rfl, rfl, dl, da, db, g1, g2, hs, hu', ht, k⟩ := h
    have nds := scMovesN.nd
    have hu64 := hr.units
    refine ⟨_, (pss_cons (ps_set (i := 4) nds rfl (Or.inl rfl) (pe_lst pa_nil))
      (pss_cons (ps_for PassesOwn.never rfl (pi_zip3 rfl (by rfl) T.zip (pa_cons (pv 1) (pa_cons (pe_ix ix_list (pv 2) (pe_ix ix_tup (pv 0) pe_int (fun _ _ => rfl)) (fun _ _ => rfl)) (pa_cons (pe_ix ix_list (pv 3) (pe_ix ix_tup (pv 0) pe_int (fun _ _ => rfl)) (fun _ _ => rfl)) pa_nil)))) (pg_tup rfl (pgs_cons (pg_name (i := 5) nds rfl (Or.inl rfl)) (pgs_cons (pg_tup rfl (pgs_cons (pg_name (i := 6) nds rfl (Or.inl rfl)) (pgs_cons (pg_name (i := 7) nds rfl (Or.inl rfl)) pgs_nil))) (pgs_cons (pg_tup rfl (pgs_cons (pg_name (i := 8) nds rfl (Or.inl rfl)) (pgs_cons (pg_name (i := 9) nds rfl (Or.inl rfl)) pgs_nil))) pgs_nil))))
        (pss_one (ps_expr (pe_bm PySem.F.plainAttrs_list PySem.F.slot_list_append PySem.F.type_list_append mt_append (pv 4) (pa_cons (pe_tup (pa_cons (pv 5) (pa_cons (pe_ifExp (pt_cmpR (op_eqD hu64) (pv 7) (pv 9) (nomark _)) (pe_tup (pa_cons (pv 6) (pa_cons (pv 8) pa_nil))) pe_non) pa_nil))) pa_nil)))))
      (pss_one (ps_ret (pv 4))))), ?_⟩
    refine ⟨(by show 0 ≤ sizeLine; decide), fun L nL => ?_⟩
    have e1 : Ex H (upd H L (.lst [])) := Ex.new nL
    have hL : (upd H L (.lst [])) L = some (.lst []) := upd_same
    generalize upd H L (.lst []) = H1 at e1 hL
    obtain ⟨_, xl, e, hl1, dxl⟩ := list_of dl
    cases e
    obtain ⟨x1, b1, y1, s1, i1, t1, d1⟩ := rowL_at da hs
    obtain ⟨x2, b2, y2, s2, i2, t2, d2⟩ := rowL_at db hu'
    have ll : xl.length = 2 ^ n := by rw [dp_len dxl, List.length_range]
    have l1 : y1.length = 2 ^ n := by rw [dp_len d1, Mm.rw_len g1.wide hs]
    have l2 : y2.length = 2 ^ n := by rw [dp_len d2, Mm.rw_len g2.wide hu']
    have w16 : 2 ^ n ≤ 16 := Nat.pow_le_pow_right (by decide) g1.hw
    refine ⟨_, rfl, _, rfl, _, rfl, t, _, 0, _, rfl, rfl, .inl (.inl (e1 _ _ ht)), rfl, a, x1, s, .ref b1, rfl, rfl, ex_l e1 s1, i1,
      _, rfl, _, rfl, t, _, 1, _, rfl, rfl, .inl (.inl (e1 _ _ ht)), rfl, b, x2, u, .ref b2, rfl, rfl, ex_l e1 s2, i2, l, b1, b2, xl, y1, y2, rfl, ex_l e1 hl1, ex_l e1 t1, ex_l e1 t2,
      for_it (walk_zip3 ll l1 l2) (fun i σ Hc => (∃ v5 v6 v7 v8 v9, σ = [some (.ref t), some (.ref l), some (.ref a), some (.ref b), some (.ref L), v5, v6, v7, v8, v9]) ∧ Ex H Hc ∧ ∃ xs, Hc L = some (.lst xs) ∧ Mvs Hc xs ((mvs n r1 r2 s u).take i))
        ⟨⟨_, _, _, _, _, rfl⟩, e1, [], hL, ⟨rfl, fun i x th h1 _ => by cases h1⟩⟩ (fun i σ Hc _ q => ⟨ex_l q.2.1 hl1, ex_l q.2.1 t1, ex_l q.2.1 t2⟩) (fun i x σ Hc Hb hi q yy => ?_) (fun σ Hc q => ?_)⟩
    · obtain ⟨⟨v5, v6, v7, v8, v9, rfl⟩, e, xs, hLc, mv⟩ := q
      obtain ⟨T0, x, y, z, rfl, nT, rfl, ex, ey, ez⟩ := yy
      have eT : Ex Hc (upd Hc T0 (.tup [x, y, z])) := Ex.new nT
      have hT : (upd Hc T0 (.tup [x, y, z])) T0 = some (.tup [x, y, z]) := upd_same
      have hL2 := eT _ _ hLc
      have mv2 := mv.ex eT
      generalize upd Hc T0 (.tup [x, y, z]) = Hd at eT hT hL2 mv2
      obtain ⟨ga, ea, da1⟩ := dp_nth d1 ey
      obtain ⟨gb, eb, db1⟩ := dp_nth d2 ez
      have hga : ga = Mm.go r1 s i := by
        have := Mm.go_at g1.wide hs hi
        rw [ea] at this
        exact Option.some.inj this
      have hgb : gb = Mm.go r2 u i := by
        have := Mm.go_at g2.wide hu' hi
        rw [eb] at this
        exact Option.some.inj this
      obtain ⟨ta, ua, rfl, sa1, sa2⟩ := go_of (dp_ex (e.trans eT) da1)
      obtain ⟨tb, ub, rfl, sb1, sb2⟩ := go_of (dp_ex (e.trans eT) db1)
      have bo : ∀ {r : Rw} {q : Nat} {g : Mm.Go}, GoodR n o r → q < r.length → g = Mm.go r q i → SeqAt.shaped (bitsD g.2) = true := fun {r q g} gr hq hg => by
        have m : g ∈ Mm.rw_ r q := by
          rw [hg]
          exact List.mem_of_getElem? (Mm.go_at gr.wide hq hi)
        have m2 : Mm.rw_ r q ∈ r := List.mem_of_getElem? (Mm.rw_at hq)
        have ok := gr.go _ m2 _ m
        have := gr.ho
        exact (tl_facts (b := g.2) ⟨by rw [ok.2.1]; exact gr.ho, ok.2.2⟩).2.2.2.2 |> fun c => by
          unfold SeqAt.shaped
          have dd := (tl_facts (b := g.2) ⟨by rw [ok.2.1]; exact gr.ho, ok.2.2⟩).2.2.2.1
          rw [Bool.and_eq_true]
          exact ⟨by simpa [PyData.canLay0] using c, decide_eq_true (by omega)⟩
      refine ⟨T0, _, rfl, .inl (.inl hT), rfl, _, _, rfl, _, _, rfl, ⟨ta, _, rfl, sa1, rfl, _, _, rfl, _, _, rfl, rfl, _, _, rfl, ⟨tb, _, rfl, sb1, rfl, _, _, rfl, _, _, rfl, rfl, ?_⟩⟩⟩
      have eA := e.trans eT
      have shA := bo g1 hs hga
      have shB := bo g2 hu' hgb
      have dpa : Dp K Hd (.ref ua) (bitsD ga.2) := .tup sa2 (dpAll_ints _)
      have dpb : Dp K Hd (.ref ub) (bitsD gb.2) := .tup sb2 (dpAll_ints _)
      trace_state
      refine ⟨rfl, _, rfl, .inl ⟨rfl, _, SqL.of hL2⟩, _, rfl, _, rfl, _, rfl, _, _, dpa, dpb, shA, shB, _, rfl, ?_⟩
      rw [eqv_bits]
      have emv : (mvs n r1 r2 s u)[i]? = some (mvOf r1 r2 s u i) := by
        unfold mvs
        rw [List.getElem?_map, List.getElem?_range hi]
        rfl
      have lx : xs.length ≤ 16 := by
        have := mv.len
        rw [List.length_take] at this
        omega
      have fin : ∀ (He : Hp) (t3 : Addr) (y z : V), Ex Hd He → He t3 = some (.tup [y, z]) → (mvOf r1 r2 s u i = none → z = .non) → (∀ key, mvOf r1 r2 s u i = some key → ∃ q, z = .ref q ∧ He q = some (.tup (key.map kV))) →
          Ex H (L2.upd He L (.lst (xs ++ [.ref t3]))) ∧ ∃ xs', (L2.upd He L (.lst (xs ++ [.ref t3]))) L = some (.lst xs') ∧ Mvs (L2.upd He L (.lst (xs ++ [.ref t3]))) xs' ((mvs n r1 r2 s u).take (i + 1)) := fun He t3 y z e4 h3 hn hsm => by
        refine ⟨(eA.trans e4).mut nL, _, upd_same, ?_⟩
        rw [take_more emv]
        exact ((mv2.ex e4).snoc h3 hn hsm).upd (e4 _ _ hL2)
      by_cases c : ga.2 = gb.2
      · rw [decide_eq_true c]
        have emo : mvOf r1 r2 s u i = some (pairK (Mm.go r1 s i).1 (Mm.go r2 u i).1) := by
          unfold mvOf
          rw [hga, hgb] at c
          rw [if_pos c]
        refine iteT ⟨_, rfl, _, rfl, (by show 2 ≤ sizeLine; decide), fun t2 nt2 => ⟨(by show 2 ≤ sizeLine; decide), fun t3 nt3 => ?_⟩⟩
        have h2 : (upd Hd t2 (.tup [.int (ga.1 : Nat), .int (gb.1 : Nat)])) t2 = some (.tup [.int (ga.1 : Nat), .int (gb.1 : Nat)]) := upd_same
        have e2 : Ex Hd (upd Hd t2 (.tup [.int (ga.1 : Nat), .int (gb.1 : Nat)])) := Ex.new nt2
        generalize upd Hd t2 (.tup [.int (ga.1 : Nat), .int (gb.1 : Nat)]) = Hf at h2 e2 nt3 ⊢
        have e3 : Ex Hf (upd Hf t3 (.tup [x, .ref t2])) := Ex.new nt3
        have h3 : (upd Hf t3 (.tup [x, .ref t2])) t3 = some (.tup [x, .ref t2]) := upd_same
        generalize upd Hf t3 (.tup [x, .ref t2]) = Hg at h3 e3 ⊢
        refine ⟨L, xs, _, rfl, rfl, (e2.trans e3) _ _ hL2, Nat.lt_of_le_of_lt (show xs.length ≤ 1000 by omega) (by decide), ⟨_, _, _, _, _, rfl⟩, fin Hg t3 x (.ref t2) (e2.trans e3) h3 (fun z => by rw [emo] at z; cases z) fun key hk => ⟨t2, rfl, ?_⟩⟩
        rw [emo] at hk
        cases hk
        rw [← hga, ← hgb]
        exact e3 _ _ h2
      · rw [decide_eq_false c]
        have emo : mvOf r1 r2 s u i = none := by
          unfold mvOf
          rw [hga, hgb] at c
          rw [if_neg c]
        refine iteF ⟨(by show 2 ≤ sizeLine; decide), fun t3 nt3 => ?_⟩
        have e3 : Ex Hd (upd Hd t3 (.tup [x, .non])) := Ex.new nt3
        have h3 : (upd Hd t3 (.tup [x, .non])) t3 = some (.tup [x, .non]) := upd_same
        generalize upd Hd t3 (.tup [x, .non]) = Hg at h3 e3 ⊢
        exact ⟨L, xs, _, rfl, rfl, e3 _ _ hL2, Nat.lt_of_le_of_lt (show xs.length ≤ 1000 by omega) (by decide), ⟨_, _, _, _, _, rfl⟩, fin Hg t3 x .non e3 h3 (fun _ => rfl) fun key hk => by rw [emo] at hk; cases hk⟩
    · obtain ⟨⟨v5, v6, v7, v8, v9, rfl⟩, e, xs, hLc, mv⟩ := q
      refine ⟨_, rfl, k Hc L xs e hLc ?_⟩
      rw [List.take_of_length_le (by unfold mvs; rw [List.length_map, List.length_range]; exact Nat.le_refl _)] at mv
      exact mv
end
end W

set_option Elab.async false
set_option linter.all false
set_option maxRecDepth 100000
set_option maxHeartbeats 4000000
/-! What a heard lambda leaves: all but the tables of code objects stays. -/
namespace G
open PySem PySem.Spec PyProof.Rows L2 Evl
section
variable {K : PySem.W.Frag} {H H' : Hp}
theorem sl_exN (e : LamX.ExtN H H') {a : Addr} {xs : List V} (h : SqL K H a xs) : SqL K H' a xs := by
  rcases h with (z | ⟨o, z⟩) | z
  · exact .inl (.inl (e _ _ z (fun ps q => by cases q)))
  · exact .inl (.inr ⟨o, e _ _ z (fun ps q => by cases q)⟩)
  · exact .inr z
theorem st_exN (e : LamX.ExtN H H') {a : Addr} {xs : List V} (h : SqT K H a xs) : SqT K H' a xs := by
  rcases h with (z | ⟨o, z⟩) | z
  · exact .inl (.inl (e _ _ z (fun ps q => by cases q)))
  · exact .inl (.inr ⟨o, e _ _ z (fun ps q => by cases q)⟩)
  · exact .inr z
mutual
theorem dp_exN (e : LamX.ExtN H H') : ∀ {d : PyData} {x : V}, Dp K H x d → Dp K H' x d
  | .none, _, h => by cases h; exact .non
  | .bool b, _, h => by cases h; exact .bl b
  | .int i, _, h => by cases h; exact .int i
  | .str z, _, h => by cases h; exact .str z
  | .list ds, _, h => by
    cases h with
    | lst hs a => exact .lst (sl_exN e hs) (dpAll_exN e a)
  | .tuple ds, _, h => by
    cases h with
    | tup hs a => exact .tup (st_exN e hs) (dpAll_exN e a)
  | .dict _, _, h => by cases h
theorem dpAll_exN (e : LamX.ExtN H H') : ∀ {ds : List PyData} {xs : List V}, DpAll K H xs ds → DpAll K H' xs ds
  | [], _, h => by cases h; exact .nil
  | d :: ds, _, h => by
    cases h with
    | cons a b => exact .cons (dp_exN e a) (dpAll_exN e b)
end
theorem dd_exN (e : LamX.ExtN H H') {x : V} {d : PyData} (h : Dd K H x d) : Dd K H' x d := by
  cases h with
  | dp q => exact .dp (dp_exN e q)
  | dk q k => exact .dk (e _ _ q (fun ps z => by cases z)) k
theorem ddAll_exN (e : LamX.ExtN H H') {xs : List V} {ds : List PyData} (h : DdAll K H xs ds) : DdAll K H' xs ds := by
  induction h with
  | nil => exact .nil
  | cons a _ ih => exact .cons (dd_exN e a) ih
theorem exN_fresh (e : LamX.ExtN H H') {b : Addr} (n : H' b = none) : H b = none ∨ ∃ ps, H b = some (.tbl ps) := by
  cases q : H b with
  | none => exact .inl rfl
  | some o =>
    refine .inr ?_
    by_cases z : ∃ ps, o = .tbl ps
    · obtain ⟨ps, rfl⟩ := z
      exact ⟨ps, rfl⟩
    · rw [e b o q fun ps y => z ⟨ps, y⟩] at n
      cases n
end
end G
namespace G
open PySem PySem.Spec PyProof.Rows L2
section
variable {pr : Program} {wo : World} {KK : PySem.W.Frag} {mm : Str → Option Value} {ba : Heap} {CC : CXT} {i n : Nat} {fa : Addr} {fd : FuncData} {pars : List Str} {pro : Sp}
/-- .. its body told the code object that stands in the def -/
theorem okNC {x qual : Str} {de : Stmt} {NN : List Str} (F : Fun KK x qual de fa fd) (S : FnScope NN pars (defScope de)) (ar : ∀ xs HH QQ EE, pro xs HH QQ EE → xs.length = pars.length)
    (body : ∀ (cdv : Value) (B : Around) (out : List Env) (st : Shared) (HH : Hp) (xs : List V) (QQ : VK) (EE : XK), fd.code = cdv → Rm n (B.deeper (envOfC qual (defScope de) st.heap.objs.size fa cdv)) → pro xs HH QQ EE →
      ∃ t, PSs (cxOf CX0 pr wo KK mm ba NN qual (defScope de) fa cdv B out st HH EE).nox (defBody de) t ∧ t { nx := fun _ H' => QQ .non H', rt := QQ } (L2.start NN xs) HH) : Fn pr wo KK mm ba CX0 (n + 1) fa fd pars pro := by
  obtain ⟨oc, od, kV, doc, pm, an, cdv, ct, osl, rfl, look, cdok⟩ := F.ex
  refine ⟨ar, fun B out st HH gs ys xs QQ EE q e0 hb r hp => ?_⟩
  refine LamX.run_ofS look cdok S q.rm e0 hb r (ar _ _ _ _ hp) fun _ => ?_
  obtain ⟨t, a, b⟩ := body cdv B out st HH xs QQ EE rfl (q.deeper _) hp
  exact ⟨t, a.nox, b⟩
end
end G

set_option Elab.async false
set_option linter.all false
set_option maxRecDepth 100000
set_option maxHeartbeats 8000000
/-! The moves of pairs, relations. -/
namespace W
open PySem PySem.Spec PyProof.Rows L2 Evl G NdefX LamX Clo
abbrev TN (P1 P2 : Addr) : List NTab := [(P1, fun _ _ => "pair_moves.<locals>.moves"), (P2, fun _ _ => "is_relation.<locals>.is_pair")]
theorem tn_1 {P1 P2 : Addr} (h : P1 ≠ P2) : ∀ p ∈ TN P1 P2, p.1 = P1 → p.2 = fun _ _ => ("pair_moves.<locals>.moves" : Str) := by
  intro p hp e
  simp only [TN, List.mem_cons, List.not_mem_nil, or_false] at hp
  rcases hp with rfl | rfl
  · rfl
  · exact absurd e.symm h
theorem tn_2 {P1 P2 : Addr} (h : P1 ≠ P2) : ∀ p ∈ TN P1 P2, p.1 = P2 → p.2 = fun _ _ => ("is_relation.<locals>.is_pair" : Str) := by
  intro p hp e
  simp only [TN, List.mem_cons, List.not_mem_nil, or_false] at hp
  rcases hp with rfl | rfl
  · exact absurd e h
  · rfl
section
variable {P : Program} {w : World} {K : PySem.W.Frag} {mg : Str → Option Value} {base : Heap} {M P1 P2 : Addr} {H H' : Hp}
def spCWs (K : PySem.W.Frag) (M : Addr) : Sp := fun vs H Q _ => ∃ (p q : Addr) (n o : Nat) (r1 r2 : Rw), vs = [.ref p, .ref q] ∧ MacAt K M H p n o r1 ∧ MacAt K M H q n o r2 ∧ Q .non H
theorem scCWs : FnScope ["one", "other"] ["one", "other"] (defScope dCWidths) := ⟨rfl, rfl, rfl, by decide +kernel, rfl, by decide +kernel, by decide +kernel⟩
theorem okCWs {f : Addr} {fd : FuncData} (F : At K mg "check_widths" dCWidths ["one", "other"] f fd) (T : Txt K mg) (MT : MacT K mg M) : FnOk P w K mg base CX0 3 f fd ["one", "other"] (spCWs K M) := by
  obtain ⟨p1, f1, g1, F1⟩ := MT.widthP
  obtain ⟨p2, f2, g2, F2⟩ := MT.out_widthP
  have G1 : FnOk P w K mg base CX0 1 f1 g1 ["self"] (spWid K M fun n _ => n) := okWid F1 MT
  have G2 : FnOk P w K mg base CX0 1 f2 g2 ["self"] (spWid K M fun _ o => o) := okOWid F2 MT
  refine F.fn.ok scCWs (fun vs H Q E h => ?_) (fun cdv A outer s H vs Q E hr h => ?_)
  · obtain ⟨p, q, n, o, r1, r2, rfl, _⟩ := h
    rfl
  · obtain ⟨p, q, n, o, r1, r2, rfl, h1, h2, k⟩ := h
    refine ⟨_, (pss_one (ps_if (PW.pt (pw_or (pt_cmpR op_ne (pe_prop (pv 0) MT.cl F1.pr G1 hr F1.bi .nil pass0 (by rfl)) (pe_prop (pv 1) MT.cl F1.pr G1 hr F1.bi .nil pass0 (by rfl)) (nomark _)) (pw_or1 (pt_cmpR op_ne (pe_prop (pv 0) MT.cl F2.pr G2 hr F2.bi .nil pass0 (by rfl)) (pe_prop (pv 1) MT.cl F2.pr G2 hr F2.bi .nil pass0 (by rfl)) (nomark _)))))
        (pss_one ps_never) pss_nil)), ?_⟩
    obtain ⟨dx, a, hp, _⟩ := id h1
    obtain ⟨dy, b, hq, _⟩ := id h2
    refine ⟨_, rfl, p, dx, _, rfl, hp, p, n, o, r1, rfl, h1, _, rfl, q, dy, _, rfl, hq, q, n, o, r2, rfl, h2, rfl, _, rfl, ?_⟩
    have zz : ∀ i : Int, (!decide (V.int i = V.int i)) = false := fun i => by simp
    rw [zz]
    refine iteF ⟨_, rfl, p, dx, _, rfl, hp, p, n, o, r1, rfl, h1, _, rfl, q, dy, _, rfl, hq, q, n, o, r2, rfl, h2, rfl, _, rfl, ?_⟩
    rw [zz]
    exact iteF k
/-! ### the moves -/
def spPMoves (K : PySem.W.Frag) (M : Addr) (T : List NTab) : Sp := fun vs H Q _ => ∃ (p q : Addr) (n o : Nat) (r1 r2 : Rw), vs = [.ref p, .ref q] ∧ MacAt K M H p n o r1 ∧ MacAt K M H q n o r2 ∧ TabsN T H ∧
  ∀ (f c l a b : Addr) (cl : List (Str × Addr)) (qual : Str) (B H' : Hp), H' f = some (FnO f (NF.of dMovesN "moves" qual cl c)) → H' c = some (CodeO c qual) → CloT H' cl frMoves [.ref l, .ref a, .ref b] → Ex B H' → Ex B (less H' (cellsOf cl)) → ExtN H B → (∀ b, B b = none → H b = none) → TabsN T B →
    Dp K B (.ref l) (.list (ltD n)) → Dp K B (.ref a) (.list (r1.map rowL)) → Dp K B (.ref b) (.list (r2.map rowL)) → (∀ b, H' b = none → H b = none) → Q (.ref f) H'
abbrev nPMoves : List Str := ["one", "other", "letters", "ours", "theirs", "moves"]
theorem scPMoves : FnScope nPMoves ["one", "other"] (defScope dPairMoves) := ⟨rfl, rfl, rfl, by decide +kernel, rfl, by decide +kernel, by decide +kernel⟩
theorem okPMoves {f c : Addr} {fd : FuncData} (F : At K mg "pair_moves" dPairMoves ["one", "other"] f fd) (T : Txt K mg) (MT : MacT K mg M) (TB : LamX.TabB base mg c P1) (hcode : fd.code = .ref c) (hP : P1 ≠ P2) : FnOk P w K mg base CX0 3 f fd ["one", "other"] (spPMoves K M (TN P1 P2)) := by
  obtain ⟨fL, gL, FL⟩ := MT.letters
  obtain ⟨fR, gR, FR⟩ := MT.rowsM
  have GL : FnOk P w K mg base CX0 2 fL gL ["self"] (spLettersM K M) := okLettersM FL T MT
  have GR : FnOk P w K mg base CX0 2 fR gR ["self"] (spRowsM K M) := (okRowsM FR T MT).mono (by decide)
  refine okClo (i := 5) (fr := frMoves) (js := [2, 3, 4]) F.fn scPMoves (fun vs H Q E h => ?_) (fun cdv A outer s H vs Q E hcd hr h => ?_)
  · obtain ⟨p, q, n, o, r1, r2, rfl, _⟩ := h
    rfl
  · obtain ⟨p, q, n, o, r1, r2, rfl, h1, h2, hT, k⟩ := h
    obtain rfl : cdv = .ref c := hcd.symm.trans hcode
    have nds := scPMoves.nd
    have hmT : (P1, fun _ _ => ("pair_moves.<locals>.moves" : Str)) ∈ TN P1 P2 := List.mem_cons_self
    have hfree := ndef_free (sc := defScope dPairMoves) (nsc := C8.fnScope dMovesN) (fr := frMoves) (by decide +kernel)
    have hfr := ndef_fr (sc := defScope dPairMoves) (nsc := C8.fnScope dMovesN) (fr := frMoves) (by decide +kernel)
    refine ⟨_, cloFrom (cxOf CX0 P w K mg base nPMoves "pair_moves" (defScope dPairMoves) f (.ref c) A outer s H E).env.cells (C8.fnScope dMovesN).names [], (psc_cons (ps_asg (pe_tup (pa_cons (pe_meth0 (pv 0) MT.cl FL.me GL hr FL.bi .nil pass0) (pa_cons (pe_meth0 (pv 0) MT.cl FR.me GR hr FR.bi .nil pass0) (pa_cons (pe_meth0 (pv 1) MT.cl FR.me GR hr FR.bi .nil pass0) pa_nil)))) (pg_tup rfl (pgs_cons (pg_name (i := 2) nds rfl (Or.inr rfl)) (pgs_cons (pg_name (i := 3) nds rfl (Or.inr rfl)) (pgs_cons (pg_name (i := 4) nds rfl (Or.inr rfl)) pgs_nil)))))
      (psc_cons (ps_ndefMS (st := dMovesN) (T := TN P1 P2) (nm := fun _ _ => "pair_moves.<locals>.moves") (i := 5) rfl TB rfl hmT (by rfl) (tn_1 hP) hfree rfl rfl rfl nds rfl (Or.inl rfl) (Or.inl rfl))
      (psc_ret rfl (Or.inl rfl)))), fun ok => ⟨Caps.made ok hfree hfr rfl, clOk_of scMovesN fun y hy e => (hfree y hy e).elim (fun z => ok.has _ (.inl z)) fun z => ok.has _ (.inr z)⟩, ?_⟩
    obtain ⟨dx, a0, hp, _⟩ := id h1
    obtain ⟨dy, b0, hq, _⟩ := id h2
    refine ⟨_, rfl, p, dx, _, rfl, hp, rfl, p, n, o, r1, rfl, h1, fun l xs Ha e1 nl hl dl => ?_⟩
    refine ⟨_, rfl, p, dx, _, rfl, e1 _ _ hp, rfl, p, n, o, r1, rfl, h1.ex e1, fun a Hb e2 na ra => ?_⟩
    refine ⟨_, rfl, q, dy, _, rfl, e2 _ _ (e1 _ _ hq), rfl, q, n, o, r2, rfl, (h2.ex e1).ex e2, fun b Hc e3 nb rb => ?_⟩
    refine ⟨(by show 3 ≤ sizeLine; decide), fun t nt => ?_⟩
    have e4 : Ex Hc (upd Hc t (.tup [.ref l, .ref a, .ref b])) := Ex.new nt
    have ht : (upd Hc t (.tup [.ref l, .ref a, .ref b])) t = some (.tup [.ref l, .ref a, .ref b]) := upd_same
    generalize upd Hc t (.tup [.ref l, .ref a, .ref b]) = Hd at e4 ht
    refine ⟨t, _, rfl, .inl (.inl ht), rfl, _, _, rfl, _, _, rfl, _, _, rfl, rfl, ?_⟩
    have eA := ((e1.trans e2).trans e3).trans e4
    refine ⟨hT.ext eA, fun f1 c1 He eN nn hTe nf hf1 hc1 => ⟨f1, rfl, f1, [.ref l, .ref a, .ref b], rfl, rfl, fun Hz hout hnone hC => ?_⟩⟩
    have dpN : ∀ {x : V} {d : PyData}, Dp K Hd x d → Dp K He x d := fun {x d} h => dp_exN eN h
    have eB : Ex He Hz := fun b o h => by
      rw [hout b (fun m => by rw [(hnone b m).1] at h; cases h)]
      exact h
    refine k f1 c1 l a b _ _ He Hz (eB _ _ hf1) (eB _ _ hc1) hC eB (fun b o h => ?_) (fun b o h n => eN _ _ (eA _ _ h) n) (fun b h => Ex.freshW eA (nn b h)) hTe (dpN (dp_ex (e2.trans (e3.trans e4)) (.lst (SqL.of hl) dl))) (dpN (dp_ex (e3.trans e4) ra.dp)) (dpN (dp_ex e4 rb.dp)) (fun b h => Ex.freshW eA (nn b (Ex.freshW eB h)))
    have m : b ∉ cellsOf _ := fun m => by rw [(hnone b m).1] at h; cases h
    exact (less_out m).trans (eB _ _ h)
end
end W

set_option Elab.async false
set_option linter.all false
set_option maxRecDepth 100000
set_option maxHeartbeats 8000000
/-! Relations. -/
namespace W
open PySem PySem.Spec PyProof.Rows L2 Evl G NdefX LamX Clo
def itemsD : PyData → Option (List PyData)
  | .list ds => some ds
  | .tuple ds => some ds
  | _ => none
def intsOf : PyData → Option (Nat × Nat)
  | .tuple [.int a, .int b] => some (a.toNat, b.toNat)
  | _ => none
def pairOf (m k : Nat) (d : PyData) : Option (Nat × Nat) := if isPairD m k d = true then intsOf d else none
theorem state_int {m : Nat} {d : PyData} (h : isStateD m d = true) : ∃ s : Nat, d = .int (s : Int) ∧ s < m := by
  cases d <;> first | (exfalso; revert h; simp [isStateD]; done) | skip
  rename_i i
  have h : (decide (0 ≤ i) && decide (i < (m : Int))) = true := h
  rw [Bool.and_eq_true, decide_eq_true_eq, decide_eq_true_eq] at h
  exact ⟨i.toNat, by rw [Int.toNat_of_nonneg h.1], by omega⟩
theorem pair_int {m k : Nat} {d : PyData} (h : isPairD m k d = true) : ∃ s u : Nat, d = .tuple [.int (s : Int), .int (u : Int)] ∧ s < m ∧ u < k := by
  unfold isPairD at h
  split at h
  · rename_i a b
    rw [Bool.and_eq_true] at h
    obtain ⟨s, rfl, h1⟩ := state_int h.1
    obtain ⟨u, rfl, h2⟩ := state_int h.2
    exact ⟨s, u, rfl, h1, h2⟩
  · cases h
theorem pairOf_is (m k : Nat) (d : PyData) : (pairOf m k d).isSome = isPairD m k d := by
  unfold pairOf
  cases h : isPairD m k d with
  | false => rfl
  | true =>
    obtain ⟨s, u, rfl, _⟩ := pair_int h
    rfl
theorem pairOf_some {m k : Nat} {d : PyData} {p : Nat × Nat} (h : pairOf m k d = some p) : d = .tuple [.int (p.1 : Int), .int (p.2 : Int)] ∧ p.1 < m ∧ p.2 < k := by
  unfold pairOf at h
  split at h
  · rename_i c
    obtain ⟨s, u, rfl, h1, h2⟩ := pair_int c
    have : some (s, u) = some p := by
      rw [← h]
      show some (s, u) = some ((s : Int).toNat, (u : Int).toNat)
      simp
    cases this
    exact ⟨rfl, h1, h2⟩
  · cases h
def pk (p : Nat × Nat) : List Key := pairK p.1 p.2
theorem pk_inj {p q : Nat × Nat} (h : pk p = pk q) : p = q := by
  unfold pk pairK at h
  simp only [List.cons.injEq, Sum.inl.injEq, and_true] at h
  exact Prod.ext (by omega) (by omega)
def allPr (m k : Nat) (ds : List PyData) : Option (List (Nat × Nat)) := if ds.all (fun d => isPairD m k d) = true then some (ds.map fun d => (pairOf m k d).getD (0, 0)) else none
def prs (m k : Nat) (d : PyData) : Option (List (Nat × Nat)) := (itemsD d).bind (allPr m k)
def relB (n : Nat) (r1 r2 : Rw) (ps : List (Nat × Nat)) : Bool := decide ((0, 0) ∈ ps) && ps.all fun p => (List.range (2 ^ n)).all fun j => decide ((Mm.go r1 p.1 j).2 = (Mm.go r2 p.2 j).2) && decide (((Mm.go r1 p.1 j).1, (Mm.go r2 p.2 j).1) ∈ ps)
def relD (n : Nat) (r1 r2 : Rw) (d : PyData) : Bool := match prs r1.length r2.length d with
  | some ps => decide ps.Nodup && relB n r1 r2 ps
  | none => false
theorem allPr_some {m k : Nat} {ds : List PyData} {ps : List (Nat × Nat)} (h : allPr m k ds = some ps) : ds.map (pairOf m k) = ps.map some := by
  unfold allPr at h
  split at h
  · rename_i c
    cases h
    rw [List.map_map]
    refine List.map_congr_left fun d hd => ?_
    have := List.all_eq_true.mp c d hd
    rw [← pairOf_is] at this
    obtain ⟨p, hp⟩ := Option.isSome_iff_exists.mp this
    simp [hp]
  · cases h
theorem allPr_of {m k : Nat} {ds : List PyData} {ps : List (Nat × Nat)} (h : ds.map (pairOf m k) = ps.map some) : allPr m k ds = some ps := by
  unfold allPr
  have c : ds.all (fun d => isPairD m k d) = true := List.all_eq_true.mpr fun d hd => by
    rw [← pairOf_is]
    have : pairOf m k d ∈ ps.map some := by rw [← h]; exact List.mem_map.mpr ⟨d, hd, rfl⟩
    obtain ⟨p, _, e⟩ := List.mem_map.mp this
    rw [← e]
    rfl
  rw [if_pos c]
  congr 1
  have : (ds.map (pairOf m k)).map (fun o => o.getD (0, 0)) = (ps.map some).map (fun o => o.getD (0, 0)) := by rw [h]
  rw [List.map_map, List.map_map, show ((fun o : Option (Nat × Nat) => o.getD (0, 0)) ∘ some) = id from rfl, List.map_id] at this
  exact this
theorem prs_lt {m k : Nat} {d : PyData} {ps : List (Nat × Nat)} (h : prs m k d = some ps) : ∀ p ∈ ps, p.1 < m ∧ p.2 < k := by
  unfold prs at h
  cases e : itemsD d with
  | none => rw [e] at h; cases h
  | some ds =>
    rw [e] at h
    have q := allPr_some (show allPr m k ds = some ps from h)
    intro p hp
    have : some p ∈ ds.map (pairOf m k) := by rw [q]; exact List.mem_map.mpr ⟨p, hp, rfl⟩
    obtain ⟨d', _, e2⟩ := List.mem_map.mp this
    exact (pairOf_some e2).2
theorem memB_pk {ps : List (Nat × Nat)} {p : Nat × Nat} : memB (ps.map pk) (pk p) = decide (p ∈ ps) := by
  by_cases h : p ∈ ps
  · rw [decide_eq_true h]
    exact memB_iff.mpr (List.mem_map.mpr ⟨p, h, rfl⟩)
  · rw [decide_eq_false h]
    exact memB_not fun z => by
      obtain ⟨q, hq, e⟩ := List.mem_map.mp z
      exact h (pk_inj e ▸ hq)
def mvKey (n : Nat) (r1 r2 : Rw) : List Key → List (Option (List Key))
  | [.inl s, .inl u] => mvs n r1 r2 s.toNat u.toNat
  | _ => []
theorem mvKey_pk (n : Nat) (r1 r2 : Rw) (p : Nat × Nat) : mvKey n r1 r2 (pk p) = mvs n r1 r2 p.1 p.2 := by
  show mvs n r1 r2 ((p.1 : Int)).toNat ((p.2 : Int)).toNat = _
  simp
theorem closed_rel (n : Nat) (r1 r2 : Rw) (ps : List (Nat × Nat)) : closedB (ps.map pk) (pairK 0 0) (mvKey n r1 r2) = relB n r1 r2 ps := by
  unfold closedB relB
  rw [show pairK 0 0 = pk (0, 0) from rfl, memB_pk, List.all_map]
  congr 1
  refine congrArg (ps.all) (funext fun p => ?_)
  show (mvKey n r1 r2 (pk p)).all (thB (ps.map pk)) = _
  rw [mvKey_pk]
  unfold mvs
  rw [List.all_map]
  refine congrArg ((List.range (2 ^ n)).all) (funext fun j => ?_)
  show thB (ps.map pk) (mvOf r1 r2 p.1 p.2 j) = _
  unfold mvOf
  by_cases c : (Mm.go r1 p.1 j).2 = (Mm.go r2 p.2 j).2
  · rw [if_pos c, decide_eq_true c]
    show memB (ps.map pk) (pk ((Mm.go r1 p.1 j).1, (Mm.go r2 p.2 j).1)) = _
    rw [memB_pk]
    rfl
  · rw [if_neg c, decide_eq_false c]
    rfl
section
variable {P : Program} {w : World} {K : PySem.W.Frag} {mg : Str → Option Value} {base : Heap} {M P1 P2 : Addr} {H H' : Hp}
/-- a datum whose items, if they are tuples, are tuples of the heap -/
def ThAt (K : PySem.W.Frag) (H : Hp) (x : V) (d : PyData) : Prop := (itemsD d = none ∧ Dq K H x d) ∨ ∃ (a : Addr) (xs : List V) (ds : List PyData), x = .ref a ∧ (d = .list ds ∧ SqL K H a xs ∨ d = .tuple ds ∧ SqT K H a xs) ∧ DqAll K H xs ds ∧ xs.length ≤ 1000 ∧
  ∀ (i : Nat) (y : V) (e : List PyData), xs[i]? = some y → ds[i]? = some (.tuple e) → ∃ t ys, y = .ref t ∧ H t = some (.tup ys) ∧ DqAll K H ys e
theorem ThAt.dq {x : V} {d : PyData} (h : ThAt K H x d) : Dq K H x d := by
  rcases h with ⟨_, h⟩ | ⟨a, xs, ds, rfl, ⟨rfl, hs⟩ | ⟨rfl, hs⟩, ha, _⟩
  · exact h
  · exact .lst hs ha
  · exact .tup hs ha
theorem ThAt.ex {x : V} {d : PyData} (h : ThAt K H x d) (e : Ex H H') : ThAt K H' x d := by
  rcases h with ⟨n, h⟩ | ⟨a, xs, ds, ex, hs, ha, few, pl⟩
  · exact .inl ⟨n, h.ex e⟩
  · exact .inr ⟨a, xs, ds, ex, hs.imp (fun z => ⟨z.1, sl_exQ e z.2⟩) (fun z => ⟨z.1, st_exQ e z.2⟩), ha.ex e, few, fun i y f h1 h2 => let ⟨t, ys, a1, a2, a3⟩ := pl i y f h1 h2; ⟨t, ys, a1, e _ _ a2, a3.ex e⟩⟩
theorem int2 {xs : List V} {a b : Int} (h : DqAll K H xs [.int a, .int b]) : xs = [.int a, .int b] := by
  cases h with
  | cons h1 h2 =>
    cases h1
    cases h2 with
    | cons h3 h4 =>
      cases h3
      cases h4
      rfl
theorem dqAll_at : ∀ {xs : List V} {ds : List PyData} {i : Nat} {x : V}, DqAll K H xs ds → xs[i]? = some x → ∃ d, ds[i]? = some d ∧ Dq K H x d
  | _, _, _, _, .nil, e => by simp at e
  | _, _, 0, _, .cons a b, e => by
    simp at e
    subst e
    exact ⟨_, rfl, a⟩
  | _, _, i + 1, x, .cons a b, e => by
    obtain ⟨d, e1, e2⟩ := dqAll_at (i := i) (x := x) b (by simpa using e)
    exact ⟨d, by simpa using e1, e2⟩
theorem unlike_pairs {x : V} {d : PyData} {f1 c1 p q : Addr} {cl : List (Str × Addr)} {qual : Str} {n o : Nat} {r1 r2 : Rw} {B : Hp} {Q : VK} {E : XK} (h1 : MacAt K M B p n o r1) (h2 : MacAt K M B q n o r2) (th : ThAt K B x d)
    (ci : CloIn P w K mg base 4 f1 (NF.of dIsPairN "is_pair" qual cl c1) ["row"] frPair [.ref p, .ref q] (spPairN K M) H B)
    (k : ∀ v H2, Ex H H2 → ((v = .non ∧ ¬ ∃ ps, prs r1.length r2.length d = some ps ∧ ps.Nodup) ∨ ∃ L ps, v = .ref L ∧ H L = none ∧ H2 L = some (.dT (kvR (ps.map pk))) ∧ prs r1.length r2.length d = some ps ∧ ps.Nodup) → Q v H2) :
    spUnlike P w K mg base 4 [x, .ref f1] H Q E := by
  have hd := th.dq
  refine ⟨x, d, f1, _, "row", frPair, [.ref p, .ref q], spPairN K M, B, rfl, hd.ex ci.sub, ci, ?_⟩
  have main : ∀ (a : Addr) (xs : List V) (ds : List PyData), x = .ref a → (d = .list ds ∧ SqL K B a xs ∨ d = .tuple ds ∧ SqT K B a xs) → DqAll K B xs ds → xs.length ≤ 1000 → (∀ (i : Nat) (y : V) (e : List PyData), xs[i]? = some y → ds[i]? = some (.tuple e) → ∃ t ys, y = .ref t ∧ B t = some (.tup ys) ∧ DqAll K B ys e) → isList d = true ∧ ∃ (a : Addr) (xs : List V) (ks : List (Option (List Key))), x = .ref a ∧ (SqL K H a xs ∨ SqT K H a xs) ∧ xs.length = ks.length ∧ xs.length ≤ 1000 ∧
      (∀ (i : Nat) (y : V) (k : Option (List Key)), xs[i]? = some y → ks[i]? = some k → (∀ H Q E, Ex B H → (∀ H', Ex H H' → Q (.bl k.isSome) H') → spPairN K M ([V.ref p, .ref q].map some) [y] H Q E) ∧ ∀ key, k = some key → ∃ t, y = .ref t ∧ B t = some (.tup (key.map kV))) ∧
      (∀ keys : List (List Key), ks = keys.map some → keys.Nodup → ∀ L H', Ex H H' → H L = none → H' L = some (.dT (kvR keys)) → Q (.ref L) H') ∧ ((¬ ∃ keys : List (List Key), ks = keys.map some ∧ keys.Nodup) → ∀ H', Ex H H' → Q .non H') := fun a xs ds ex hs ha few pl => by
    have it : itemsD d = some ds := by rcases hs with ⟨rfl, _⟩ | ⟨rfl, _⟩ <;> rfl
    refine ⟨by rcases hs with ⟨rfl, _⟩ | ⟨rfl, _⟩ <;> rfl, a, xs, ds.map fun d => (pairOf r1.length r2.length d).map pk, ex, hs.imp (fun z => sl_exQ ci.sub z.2) (fun z => st_exQ ci.sub z.2), by rw [List.length_map]; exact ha.len, few, fun i y k0 ey ek => ?_, fun keys hk nd L H' e nL hL => ?_, fun hn H' e => ?_⟩
    · obtain ⟨dy, ed, dq⟩ := dqAll_at ha ey
      rw [List.getElem?_map, ed] at ek
      cases ek
      refine ⟨fun H' Q' E' e kk => ⟨p, q, y, dy, n, o, n, o, r1, r2, rfl, rfl, h1.ex e, h2.ex e, dq.ex e, fun H2 e2 => ?_⟩, fun key hk => ?_⟩
      · have := kk H2 e2
        rw [Option.isSome_map, pairOf_is] at this
        exact this
      · have hk : (pairOf r1.length r2.length dy).map pk = some key := hk
        cases hp : pairOf r1.length r2.length dy with
        | none => rw [hp] at hk; cases hk
        | some pr =>
          rw [hp] at hk
          cases hk
          obtain ⟨rfl, _⟩ := pairOf_some hp
          obtain ⟨t, ys, e1, e2, e3⟩ := pl i y _ ey ed
          rw [int2 e3] at e2
          exact ⟨t, e1, e2⟩
    · have e3 : ds.map (pairOf r1.length r2.length) = (keys.map fun key => ((intsOf (keysD key)).getD (0, 0))).map some := by
        refine List.ext_getElem? fun i => ?_
        have := congrArg (fun l => l[i]?) hk
        simp only [List.getElem?_map] at this ⊢
        cases hd' : ds[i]? with
        | none =>
          rw [hd'] at this
          cases hk' : keys[i]? with
          | none => rfl
          | some z => rw [hk'] at this; cases this
        | some d0 =>
          rw [hd'] at this
          cases hk' : keys[i]? with
          | none => rw [hk'] at this; cases this
          | some z =>
            rw [hk'] at this
            have this : some (Option.map pk (pairOf r1.length r2.length d0)) = some (some z) := this
            show some (pairOf r1.length r2.length d0) = some (some ((intsOf (keysD z)).getD (0, 0)))
            cases hp : pairOf r1.length r2.length d0 with
            | none => rw [hp] at this; cases this
            | some pr =>
              rw [hp] at this
              cases this
              show some (some pr) = some (some (((pr.1 : Int)).toNat, ((pr.2 : Int)).toNat))
              simp
      have e4 : keys = (keys.map fun key => ((intsOf (keysD key)).getD (0, 0))).map pk := by
        have : (ds.map fun d => (pairOf r1.length r2.length d).map pk) = ((keys.map fun key => ((intsOf (keysD key)).getD (0, 0))).map pk).map some := by
          have q := congrArg (List.map (Option.map pk)) e3
          rw [List.map_map, List.map_map] at q
          rw [List.map_map]
          exact q
        rw [hk] at this
        exact some_inj this
      refine k _ H' e (.inr ⟨L, _, rfl, nL, by rw [← e4]; exact hL, by unfold prs; rw [it]; exact allPr_of e3, ?_⟩)
      have : (keys.map fun key => ((intsOf (keysD key)).getD (0, 0))).map pk |>.Nodup := by rw [← e4]; exact nd
      exact (List.pairwise_map.mp this).imp fun h e => h (by rw [e])
    · refine k _ H' e (.inl ⟨rfl, fun ⟨ps, hp, nd⟩ => hn ⟨ps.map pk, ?_, ?_⟩⟩)
      · unfold prs at hp
        rw [it] at hp
        have q := congrArg (List.map (Option.map pk)) (allPr_some hp)
        rw [List.map_map, List.map_map] at q
        rw [List.map_map]
        exact q
      · exact List.Pairwise.map _ (fun a b h e => h (pk_inj e)) nd
  rcases th with ⟨n, h⟩ | ⟨a, xs, ds, ex, hs, ha, few, pl⟩
  · refine .inl ⟨?_, fun H' e => k _ H' e (.inl ⟨rfl, fun ⟨ps, hp, _⟩ => by unfold prs at hp; rw [n] at hp; cases hp⟩)⟩
    cases d <;> first | rfl | cases n
  · exact .inr (main a xs ds ex hs ha few pl)
end
end W

set_option Elab.async false
set_option linter.all false
set_option maxRecDepth 100000
set_option maxHeartbeats 8000000
/-! is_relation, is_parting. -/
namespace W
open PySem PySem.Spec PyProof.Rows L2 Evl G NdefX LamX Clo
section
variable {P : Program} {w : World} {K : PySem.W.Frag} {mg : Str → Option Value} {base : Heap} {M P1 P2 : Addr} {H H' : Hp}
theorem tabsN_exN {T : List NTab} (t : TabsN T H) (e : Ex H H') : TabsN T H' := t.ext e
theorem macN {p : Addr} {n o : Nat} {rows : Rw} (h : MacAt K M H p n o rows) (e : LamX.ExtN H H') : MacAt K M H' p n o rows := by
  obtain ⟨dx, a, h1, h2, h3⟩ := h
  exact ⟨dx, a, e _ _ h1 (fun ps z => by cases z), dp_exN e h2, h3⟩
mutual
theorem dq_exN (e : LamX.ExtN H H') : ∀ {d : PyData} {x : V}, Dq K H x d → Dq K H' x d
  | _, _, .non => .non
  | _, _, .bl b => .bl b
  | _, _, .int i => .int i
  | _, _, .str x => .str x
  | _, _, .lst a b => .lst (sl_exN e a) (dqs_exN e b)
  | _, _, .tup a b => .tup (st_exN e a) (dqs_exN e b)
  | _, _, .dK a b => .dK (e _ _ a fun ps z => by cases z) (dqs_exN e b)
  | _, _, .dT a b => .dT (e _ _ a fun ps z => by cases z) (dqs_exN e b)
theorem dqs_exN (e : LamX.ExtN H H') : ∀ {d : List PyData} {x : List V}, DqAll K H x d → DqAll K H' x d
  | _, _, .nil => .nil
  | _, _, .cons a b => .cons (dq_exN e a) (dqs_exN e b)
end
theorem thN {x : V} {d : PyData} (h : ThAt K H x d) (e : LamX.ExtN H H') : ThAt K H' x d := by
  rcases h with ⟨n, h⟩ | ⟨a, xs, ds, ex, hs, ha, few, pl⟩
  · exact .inl ⟨n, dq_exN e h⟩
  · exact .inr ⟨a, xs, ds, ex, hs.imp (fun z => ⟨z.1, sl_exN e z.2⟩) (fun z => ⟨z.1, st_exN e z.2⟩), dqs_exN e ha, few, fun i y f h1 h2 => let ⟨t, ys, a1, a2, a3⟩ := pl i y f h1 h2; ⟨t, ys, a1, e _ _ a2 (fun ps z => by cases z), dqs_exN e a3⟩⟩
def hideA (L : Addr) (H : Hp) : Hp := fun b => if b = L then none else H b
theorem hideA_some {L b : Addr} {o : HO} (h : hideA L H b = some o) : b ≠ L ∧ H b = some o := by
  unfold hideA at h
  split at h
  · cases h
  · rename_i z
    exact ⟨z, h⟩
theorem hideA_at {L : Addr} : hideA L H L = none := if_pos rfl
theorem hideA_but {L : Addr} : ExBut L H (hideA L H) := fun b o h n => by
  unfold hideA
  rw [if_neg n]
  exact h
/-! ### is_relation -/
def spRel (K : PySem.W.Frag) (M : Addr) (T : List NTab) : Sp := fun vs H Q _ => ∃ (p q : Addr) (x : V) (d : PyData) (n o : Nat) (r1 r2 : Rw), vs = [.ref p, .ref q, x] ∧ MacAt K M H p n o r1 ∧ MacAt K M H q n o r2 ∧ ThAt K H x d ∧ TabsN T H ∧
  ∀ H', ExtN H H' → TabsN T H' → (∀ b, H' b = none → H b = none) → Q (.bl (relD n r1 r2 d)) H'
abbrev nRel : List Str := ["one", "other", "value", "is_pair"]
theorem scRel : FnScope nRel ["one", "other", "value"] (defScope dIsRelation) := ⟨rfl, rfl, rfl, by decide +kernel, rfl, by decide +kernel, by decide +kernel⟩
theorem okRel {f c c2 : Addr} {fd fdM : FuncData} {fM : Addr} (F : At K mg "is_relation" dIsRelation ["one", "other", "value"] f fd) (T : Txt K mg) (MT : MacT K mg M) (TB : LamX.TabB base mg c P2) (hcode : fd.code = .ref c)
    (FM : At K mg "pair_moves" dPairMoves ["one", "other"] fM fdM) (TBm : LamX.TabB base mg c2 P1) (hcm : fdM.code = .ref c2) (hP : P1 ≠ P2) : Fn P w K mg base CX0 7 f fd ["one", "other", "value"] (spRel K M (TN P1 P2)) := by
  obtain ⟨fC, gC, FC⟩ := T.cWidths
  obtain ⟨fU, gU, FU⟩ := T.unlikeRows
  obtain ⟨fK, gK, FK⟩ := T.isClosed
  have GC : FnOk P w K mg base CX0 6 fC gC ["one", "other"] (spCWs K M) := (okCWs FC T MT).mono (by decide)
  have GU : FnOk P w K mg base CX0 6 fU gU ["value", "is_row"] (spUnlike P w K mg base 4) := okUnlike FU T 4
  have GK : FnOk P w K mg base CX0 6 fK gK ["rows", "start", "moves"] (spClosed P w K mg base 4) := (okClosed FK T 4).mono (by decide)
  have GM : FnOk P w K mg base CX0 6 fM fdM ["one", "other"] (spPMoves K M (TN P1 P2)) := (okPMoves FM T MT TBm hcm hP).mono (by decide)
  refine okNC F.fn scRel (fun vs H Q E h => ?_) (fun cdv A outer s H vs Q E hcd hr h => ?_)
  · obtain ⟨p, q, x, d, n, o, r1, r2, rfl, _⟩ := h
    rfl
  · obtain ⟨p, q, x, d, n, o, r1, r2, rfl, h1, h2, th, hT, k⟩ := h
    obtain rfl : cdv = .ref c := hcd.symm.trans hcode
    have nds := scRel.nd
    have hmT : (P2, fun _ _ => ("is_relation.<locals>.is_pair" : Str)) ∈ TN P1 P2 := List.mem_cons_of_mem _ List.mem_cons_self
    have huT := tn_2 hP
    have hfree := ndef_free (sc := defScope dIsRelation) (nsc := C8.fnScope dIsPairN) (fr := frPair) (by decide +kernel)
    have hfr := ndef_fr (sc := defScope dIsRelation) (nsc := C8.fnScope dIsPairN) (fr := frPair) (by decide +kernel)
    have hcp : (cxOf CX0 P w K mg base nRel "is_relation" (defScope dIsRelation) f (.ref c) A outer s H E).nox.Ok → Caps (cxOf CX0 P w K mg base nRel "is_relation" (defScope dIsRelation) f (.ref c) A outer s H E).nox (cloFrom (cxOf CX0 P w K mg base nRel "is_relation" (defScope dIsRelation) f (.ref c) A outer s H E).nox.env.cells (C8.fnScope dIsPairN).names []) frPair [0, 1] ∧ ClOk (cloFrom (cxOf CX0 P w K mg base nRel "is_relation" (defScope dIsRelation) f (.ref c) A outer s H E).nox.env.cells (C8.fnScope dIsPairN).names []) frPair := fun ok =>
      ⟨Caps.made ok hfree hfr rfl, clOk_of scPairN fun y hy e => (hfree y hy e).elim (fun z => ok.has _ (.inl z)) fun z => ok.has _ (.inr z)⟩
    refine ⟨_, (pss_cons (ps_expr (pe_call GC hr.rm (by rfl) FC.gl FC.fn.kp FC.bi .nil pass0 (pa_cons (pv 0) (pa_cons (pv 1) pa_nil))))
      (pss_cons (ps_ndefMS (st := dIsPairN) (T := TN P1 P2) (nm := fun _ _ => "is_relation.<locals>.is_pair") (i := 3) rfl TB rfl hmT (by rfl) huT hfree rfl rfl rfl nds rfl (Or.inl rfl) (Or.inl rfl))
      (pss_one (ps_ret (pe_call GK hr.rm (by rfl) FK.gl FK.fn.kp FK.bi .nil pass0 (pa_cons (pe_own (cl := cloFrom (cxOf CX0 P w K mg base nRel "is_relation" (defScope dIsRelation) f (.ref c) A outer s H E).nox.env.cells (C8.fnScope dIsPairN).names []) (fr := frPair) (js := [0, 1]) (EE := E) GU hr.rm hcp (fun _ => rfl) (by rfl) FU.gl FU.fn.kp FU.bi (pa_cons (pv 2) (pa_cons (pv 3) pa_nil))) (pa_cons (pe_tup (pa_cons pe_int (pa_cons pe_int pa_nil))) (pa_cons (pe_call GM hr.rm (by rfl) FM.gl FM.fn.kp FM.bi .nil pass0 (pa_cons (pv 0) (pa_cons (pv 1) pa_nil))) pa_nil)))))))), ?_⟩
    refine ⟨_, rfl, _, rfl, p, q, n, o, r1, r2, rfl, h1, h2, hT, fun f1 c1 H1 eN nn hT1 nf hf1 hc1 => ?_⟩
    have m1 := macN h1 eN
    have m2 := macN h2 eN
    have th1 := thN th eN
    refine ⟨_, rfl, _, rfl, [.ref p, .ref q], rfl, fun Hc hout hnone hC => ?_⟩
    have eB : Ex H1 Hc := fun b o h => by
      rw [hout b (fun m => by rw [hnone b m] at h; cases h)]
      exact h
    have eL : Ex H1 (less Hc (cellsOf (cloFrom (cxOf CX0 P w K mg base nRel "is_relation" (defScope dIsRelation) f (.ref c) A outer s H E).nox.env.cells (C8.fnScope dIsPairN).names []))) := fun b o h => (less_out (fun m => by rw [hnone b m] at h; cases h)).trans (eB _ _ h)
    refine unlike_pairs (B := H1) m1 m2 th1 ⟨okPairN T MT, eB _ _ hf1, eB _ _ hc1, hC, eL⟩ fun v H2 e2 hv => ?_
    generalize cloFrom (cxOf CX0 P w K mg base nRel "is_relation" (defScope dIsRelation) f (.ref c) A outer s H E).nox.env.cells (C8.fnScope dIsPairN).names [] = cl1 at hout hnone hC eL ⊢
    have eHe : Ex H1 (less H2 (cellsOf cl1)) := fun b o h => (less_out (fun m => by rw [hnone b m] at h; cases h)).trans (e2 _ _ (eB _ _ h))
    have hv' : (v = .non ∧ ¬ ∃ ps, prs r1.length r2.length d = some ps ∧ ps.Nodup) ∨ ∃ L ps, v = .ref L ∧ H1 L = none ∧ (less H2 (cellsOf cl1)) L = some (.dT (kvR (ps.map pk))) ∧ prs r1.length r2.length d = some ps ∧ ps.Nodup := by
      rcases hv with z | ⟨L, ps, e, nL, hL, hp, nd⟩
      · exact .inl z
      · refine .inr ⟨L, ps, e, Ex.freshW eB nL, (less_out fun m => ?_).trans hL, hp, nd⟩
        obtain ⟨_, _, z⟩ := hC.cell m
        rw [nL] at z
        cases z
    clear hv
    generalize less H2 (cellsOf cl1) = He at eHe hv'
    refine ⟨(by show 2 ≤ sizeLine; decide), fun s0 ns0 => ?_⟩
    have e3 : Ex He (upd He s0 (.tup [.int 0, .int 0])) := Ex.new ns0
    have hs0 : (upd He s0 (.tup [.int 0, .int 0])) s0 = some (.tup [.int 0, .int 0]) := upd_same
    generalize upd He s0 (.tup [.int 0, .int 0]) = Hf at e3 hs0
    have eF := eHe.trans e3
    refine ⟨_, rfl, _, rfl, p, q, n, o, r1, r2, rfl, m1.ex eF, m2.ex eF, hT1.ext eF, fun f2 c2' l a b cl2 qual2 B2 Hg hf2 hc2 hC2 eBg eLg eN2 nnB hTB dl da db nng => ?_⟩
    have g1 := (id h1).choose_spec.choose_spec.2.2
    have g2 := (id h2).choose_spec.choose_spec.2.2
    have eAll : ExtN H B2 := fun b o hb n => eN2 _ _ (eF _ _ (eN _ _ hb n)) n
    have done : ∀ H', Ex Hg H' → Q (.bl (relD n r1 r2 d)) H' := fun H' e => k H' (fun b o hb n => e _ _ (eBg _ _ (eAll _ _ hb n))) (hTB.ext (eBg.trans e)) fun b hb => nn b (Ex.freshW eF (nng b (Ex.freshW e hb)))
    have hsg : Hg s0 = some (.tup ((pairK 0 0).map kV)) := eBg _ _ (eN2 _ _ hs0 fun ps z => by cases z)
    rcases hv' with ⟨rfl, nop⟩ | ⟨L, ps, rfl, nL, hL, hp, nd⟩
    · have z : relD n r1 r2 d = false := by
        unfold relD
        cases e : prs r1.length r2.length d with
        | none => rfl
        | some ps =>
          show (decide ps.Nodup && _) = false
          rw [decide_eq_false (fun nd => nop ⟨ps, e, nd⟩)]
          rfl
      rw [z] at done
      exact ⟨.non, s0, f2, pairK 0 0, _, "pair", frMoves, [.ref l, .ref a, .ref b], spMovesN K, B2, rfl, hsg, ⟨okMovesN T, hf2, hc2, hC2, eLg⟩, .inl ⟨rfl, done⟩⟩
    · have z : relD n r1 r2 d = closedB (ps.map pk) (pairK 0 0) (mvKey n r1 r2) := by
        rw [closed_rel]
        unfold relD
        rw [hp]
        show (decide ps.Nodup && _) = _
        rw [decide_eq_true nd]
        rfl
      rw [z] at done
      have hL2 : B2 L = some (.dT (kvR (ps.map pk))) := eN2 _ _ (e3 _ _ hL) fun ps z => by cases z
      have ap : Apart B2 L := fun u e => by
        rw [hL2] at e
        cases e
        exact ⟨fun _ z => (by cases z), fun _ z => (by cases z), fun _ _ z => (by cases z)⟩
      have lt := prs_lt hp
      refine ⟨.ref L, s0, f2, pairK 0 0, _, "pair", frMoves, [.ref l, .ref a, .ref b], spMovesN K, hideA L B2, rfl, hsg, ⟨okMovesN T, hf2, hc2, hC2, fun b o hb => eLg _ _ (hideA_some hb).2⟩, .inr ⟨L, ps.map pk, mvKey n r1 r2, rfl, eBg _ _ hL2, hideA_at, fun key hk Hx Qx Ex' t ex ht kx => ?_, done⟩⟩
      obtain ⟨pr, hpr, rfl⟩ := List.mem_map.mp hk
      obtain ⟨l1, l2⟩ := lt pr hpr
      rw [mvKey_pk] at kx
      exact ⟨l, a, b, t, n, o, pr.1, pr.2, r1, r2, rfl, rfl, dp_ex ex (but_dp ap hideA_but dl), dp_ex ex (but_dp ap hideA_but da), dp_ex ex (but_dp ap hideA_but db), g1, g2, l1, l2, ht, kx⟩
end
end W

set_option Elab.async false
set_option linter.all false
set_option maxRecDepth 100000
set_option maxHeartbeats 8000000
/-! is_parting. -/
namespace W
open PySem PySem.Spec PyProof.Rows L2 Evl G NdefX LamX Clo
theorem bits_mem : ∀ (n : Nat) (bs : List Int), bs.length = n → (∀ b ∈ bs, isBt b) → bs ∈ bitsL n
  | 0, bs, h, _ => by
    have : bs = [] := List.length_eq_zero_iff.mp h
    rw [this]
    simp [bitsL]
  | n + 1, bs, h, hb => by
    rcases List.eq_nil_or_concat bs with rfl | ⟨r, b, rfl⟩
    · simp at h
    · rw [List.concat_eq_append] at h hb ⊢
      have m := bits_mem n r (by simpa using h) fun x hx => hb x (List.mem_append_left _ hx)
      have : r ++ [b] ∈ stepR (bitsL n) := by
        unfold stepR
        refine List.mem_flatMap.mpr ⟨r, m, ?_⟩
        rcases hb b (by simp) with rfl | rfl
        · simp
        · simp
      exact this
theorem ints_of {ds : List PyData} (h : ds.all isBit = true) : ∃ bs : List Int, ds = bs.map PyData.int ∧ ∀ b ∈ bs, isBt b := by
  induction ds with
  | nil => exact ⟨[], rfl, fun _ h => by cases h⟩
  | cons d r ih =>
    rw [List.all_cons, Bool.and_eq_true] at h
    obtain ⟨bs, rfl, hb⟩ := ih h.2
    have h1 := h.1
    cases d <;> first | (exfalso; revert h1; simp [isBit]; done) | skip
    rename_i i
    have h1 : (decide (0 ≤ i) && decide (i ≤ 1)) = true := h1
    rw [Bool.and_eq_true, decide_eq_true_eq, decide_eq_true_eq] at h1
    refine ⟨i :: bs, rfl, fun b m => ?_⟩
    rcases List.mem_cons.mp m with rfl | m
    · unfold isBt; omega
    · exact hb b m
theorem letter_j {n : Nat} {d : PyData} (hn : n ≤ 4) (h : isLetter d n = true) : ∃ j, j < 2 ^ n ∧ d = bitsD (ltr n j) := by
  cases d <;> first | (exfalso; revert h; simp [isLetter]; done) | skip
  rename_i ds
  have h : (decide (ds.length = n) && ds.all isBit) = true := h
  rw [Bool.and_eq_true, decide_eq_true_eq] at h
  obtain ⟨bs, rfl, hb⟩ := ints_of h.2
  have m := bits_mem n bs (by rw [← h.1, List.length_map]) hb
  obtain ⟨j, hj, e⟩ := List.mem_iff_getElem.mp m
  have hj' := hj
  rw [bitsL_len] at hj'
  refine ⟨j, hj', ?_⟩
  have q := (ltr_ok hn hj').2.2.2
  rw [List.getElem?_eq_getElem hj, e] at q
  have := Option.some.inj q
  unfold bitsD
  rw [← this]
theorem words_j {n : Nat} (hn : n ≤ 4) : ∀ {ds : List PyData}, ds.all (fun d => isLetter d n) = true → ∃ js, (∀ j ∈ js, j < 2 ^ n) ∧ ds = wdL n js
  | [], _ => ⟨[], fun _ h => (by cases h), rfl⟩
  | d :: ds, h => by
    rw [List.all_cons, Bool.and_eq_true] at h
    obtain ⟨js, h1, rfl⟩ := words_j hn h.2
    obtain ⟨j, h2, rfl⟩ := letter_j hn h.1
    exact ⟨j :: js, fun x m => (List.mem_cons.mp m).elim (fun e => e ▸ h2) (h1 x), rfl⟩
theorem word_js {n : Nat} {d : PyData} (hn : n ≤ 4) (h : isWord d n = true) : ∃ js, (∀ j ∈ js, j < 2 ^ n) ∧ (d = .list (wdL n js) ∨ d = .tuple (wdL n js)) := by
  cases d <;> first | (exfalso; revert h; simp [isWord]; done) | skip
  · rename_i ds
    obtain ⟨js, h1, rfl⟩ := words_j hn (show ds.all (fun d => isLetter d n) = true from h)
    exact ⟨js, h1, .inl rfl⟩
  · rename_i ds
    obtain ⟨js, h1, rfl⟩ := words_j hn (show ds.all (fun d => isLetter d n) = true from h)
    exact ⟨js, h1, .inr rfl⟩
def partB (r1 r2 : Rw) (js : List Nat) : Bool := decide (js ≠ []) && !decide ((Mm.outs r1 0 js).getLast? = (Mm.outs r2 0 js).getLast?)
theorem bits_shaped {b : List Int} (h : Tl b) : SeqAt.shaped (bitsD b) = true := by
  unfold SeqAt.shaped
  have c := (tl_facts h).2.2.2.2
  have dd := (tl_facts h).2.2.2.1
  rw [Bool.and_eq_true]
  exact ⟨by simpa [PyData.canLay0] using c, decide_eq_true (by omega)⟩
section
variable {P : Program} {w : World} {K : PySem.W.Frag} {mg : Str → Option Value} {base : Heap} {M P1 P2 : Addr} {H H' : Hp}
def spPart (K : PySem.W.Frag) (M : Addr) : Sp := fun vs H Q _ => ∃ (p q : Addr) (x : V) (d : PyData) (n o : Nat) (r1 r2 : Rw), vs = [.ref p, .ref q, x] ∧ MacAt K M H p n o r1 ∧ MacAt K M H q n o r2 ∧ Dd K H x d ∧ szD d ≤ 100 ∧
  ((isWord d n = false ∧ ∀ H', Ex H H' → Q (.bl false) H') ∨ ∃ js, (∀ j ∈ js, j < 2 ^ n) ∧ (d = .list (wdL n js) ∨ d = .tuple (wdL n js)) ∧ ∀ H', Ex H H' → Q (.bl (partB r1 r2 js)) H')
theorem scPart : FnScope ["one", "other", "value"] ["one", "other", "value"] (defScope dIsParting) := ⟨rfl, rfl, rfl, by decide +kernel, rfl, by decide +kernel, by decide +kernel⟩
theorem okPart {f : Addr} {fd : FuncData} (F : At K mg "is_parting" dIsParting ["one", "other", "value"] f fd) (T : Txt K mg) (MT : MacT K mg M) : FnOk P w K mg base CX0 7 f fd ["one", "other", "value"] (spPart K M) := by
  obtain ⟨fC, gC, FC⟩ := T.cWidths
  obtain ⟨fW, gW, FW⟩ := T.word
  obtain ⟨p1, f1, g1, F1⟩ := MT.widthP
  obtain ⟨fA, gA, FA⟩ := MT.answer
  have GC : FnOk P w K mg base CX0 6 fC gC ["one", "other"] (spCWs K M) := (okCWs FC T MT).mono (by decide)
  have GW : FnOk P w K mg base CX0 6 fW gW ["value", "width"] (spWs K isWord) := (okWord FW T).mono (by decide)
  have G1 : FnOk P w K mg base CX0 5 f1 g1 ["self"] (spWid K M fun n _ => n) := (okWid F1 MT).mono (by decide)
  have GA : FnOk P w K mg base CX0 6 fA gA ["self", "word"] (spAns K M) := okAns FA T MT
  refine F.fn.ok scPart (fun vs H Q E h => ?_) (fun cdv A outer s H vs Q E hr h => ?_)
  · obtain ⟨p, q, x, d, n, o, r1, r2, rfl, _⟩ := h
    rfl
  · obtain ⟨p, q, x, d, n, o, r1, r2, rfl, h1, h2, hd, few, h⟩ := h
    have hu64 := hr.units
    refine ⟨_, (pss_cons (ps_expr (pe_call GC hr (by rfl) FC.gl FC.fn.kp FC.bi .nil pass0 (pa_cons (pv 0) (pa_cons (pv 1) pa_nil))))
      (pss_cons (ps_if (PW.pt (pw_or (pt_not (pt_val (pe_call GW hr (by rfl) FW.gl FW.fn.kp FW.bi .nil pass0 (pa_cons (pv 2) (pa_cons (pe_prop (pv 0) MT.cl F1.pr G1 hr F1.bi .nil pass0 (by rfl)) pa_nil))))) (pw_or1 (pt_cmpR op_eq (pe_callB call_len_seq (by rfl) T.len PySem.boot_len (pa_cons (pv 2) pa_nil)) pe_int (nomark _)))))
        (pss_one (ps_ret pe_bl)) pss_nil)
      (pss_one (ps_ret (pe_cmpR (op_neD hu64) (pe_ix ix_list (pe_meth (pv 0) MT.cl FA.me GA hr FA.bi .nil pass0 (pa_cons (pv 2) pa_nil)) (pe_un un_neg pe_int) (fun _ _ => rfl)) (pe_ix ix_list (pe_meth (pv 1) MT.cl FA.me GA hr FA.bi .nil pass0 (pa_cons (pv 2) pa_nil)) (pe_un un_neg pe_int) (fun _ _ => rfl)) (nomark _)))))), ?_⟩
    obtain ⟨dx, a1, hp, _, g1⟩ := id h1
    obtain ⟨dy_, b1, hq, _, g2⟩ := id h2
    have hn := g1.hw
    refine ⟨_, rfl, _, rfl, p, q, n, o, r1, r2, rfl, h1, h2, ?_⟩
    refine ⟨_, rfl, _, rfl, p, dx, _, rfl, hp, p, n, o, r1, rfl, h1, x, d, n, rfl, hd, by omega, by omega, fun H1 e1 => ⟨_, rfl, ?_⟩⟩
    rcases h with ⟨hw, k⟩ | ⟨js, hj, hdj, k⟩
    · rw [hw]
      exact iteT (k H1 e1)
    have hw : isWord d n = true := by
      rcases hdj with rfl | rfl
      · exact isWord_wd hn hj
      · exact isWord_wd hn hj
    have fewj : js.length ≤ 100 := by
      rcases hdj with rfl | rfl
      · have : (wdL n js).length ≤ 100 := few
        unfold wdL at this
        rwa [List.length_map] at this
      · have : (wdL n js).length ≤ 100 := few
        unfold wdL at this
        rwa [List.length_map] at this
    have wd : IsWd K H x n js := by
      refine ⟨?_, hj, fewj⟩
      cases hd with
      | dp z => rcases hdj with rfl | rfl
                · exact .inl z
                · exact .inr z
      | dk z _ => rcases hdj with e | e <;> cases e
    rw [hw]
    obtain ⟨wa, xs, rfl, hxs, dxs⟩ := wd.of
    have lx : xs.length = js.length := dp_len dxs
    refine iteF ⟨_, rfl, wa, xs, rfl, hxs.imp (ex_l e1) (ex_t e1), rfl, _, rfl, ?_⟩
    rcases List.eq_nil_or_concat js with rfl | ⟨ks, j, rfl⟩
    · have z : partB r1 r2 [] = false := rfl
      rw [z] at k
      rw [decide_eq_true (show V.int (xs.length : Nat) = V.int 0 by rw [lx]; rfl)]
      exact iteT (k H1 e1)
    rw [List.concat_eq_append] at lx wd k hj
    have l1 : xs.length = ks.length + 1 := by rw [lx]; simp
    rw [decide_eq_false (show ¬ V.int (xs.length : Nat) = V.int 0 from fun z => by injection z with z; omega)]
    refine iteF ⟨_, rfl, p, dx, _, rfl, e1 _ _ hp, rfl, _, rfl, p, .ref wa, n, o, r1, ks ++ [j], rfl, h1.ex e1, wd.ex e1, fun l ys H2 e2 nl hl dl => ?_⟩
    rw [Mm.outs_app, List.map_append] at dl
    obtain ⟨ya, yb, rfl, d1, d2⟩ := dpAll_cut dl
    cases d2 with
    | @cons y _ _ _ dy dn =>
      cases dn
      refine ⟨1, rfl, l, ya ++ [y], -1, y, rfl, rfl, SqL.of hl, atI_last _ _, ?_⟩
      have e12 := e1.trans e2
      refine ⟨_, rfl, q, dy_, _, rfl, e12 _ _ hq, rfl, _, rfl, q, .ref wa, n, o, r2, ks ++ [j], rfl, h2.ex e12, wd.ex e12, fun l2 ys2 H3 e3 nl2 hl2 dl2 => ?_⟩
      rw [Mm.outs_app, List.map_append] at dl2
      obtain ⟨yc, yd, rfl, d3, d4⟩ := dpAll_cut dl2
      cases d4 with
      | @cons y2 _ _ _ dy2 dn2 =>
        cases dn2
        have hj1 : ∀ i ∈ ks, i < 2 ^ n := fun i hi => hj i (List.mem_append_left _ hi)
        have hjj : j < 2 ^ n := hj j (by simp)
        have s1 := Mm.end_lt g1.ok g1.wide ks hj1 g1.pos
        have s2 := Mm.end_lt g2.ok g2.wide ks hj1 g2.pos
        have tl1 : Tl (Mm.go r1 (Mm.end_ r1 0 ks) j).2 := g1.outs [j] s1 (fun i hi => by rw [List.mem_singleton.mp hi]; exact hjj) _ (by simp [Mm.outs])
        have tl2 : Tl (Mm.go r2 (Mm.end_ r2 0 ks) j).2 := g2.outs [j] s2 (fun i hi => by rw [List.mem_singleton.mp hi]; exact hjj) _ (by simp [Mm.outs])
        refine ⟨1, rfl, l2, yc ++ [y2], -1, y2, rfl, rfl, SqL.of hl2, atI_last _ _, _, _, dp_ex e3 dy, dy2, bits_shaped tl1, bits_shaped tl2, ?_⟩
        rw [eqv_bits]
        have z : partB r1 r2 (ks ++ [j]) = !decide ((Mm.go r1 (Mm.end_ r1 0 ks) j).2 = (Mm.go r2 (Mm.end_ r2 0 ks) j).2) := by
          have ol : ∀ r : Rw, (Mm.outs r 0 (ks ++ [j])).getLast? = some (Mm.go r (Mm.end_ r 0 ks) j).2 := fun r => by
            rw [Mm.outs_app]
            show (Mm.outs r 0 ks ++ [(Mm.go r (Mm.end_ r 0 ks) j).2]).getLast? = _
            simp
          unfold partB
          rw [ol, ol]
          simp
        rw [z] at k
        exact k H3 (e12.trans e3)
end
end W

set_option Elab.async false
set_option linter.all false
set_option maxRecDepth 100000
set_option maxHeartbeats 16000000
/-! The law's machines: doubled, bent, mates. -/
namespace W
open PySem PySem.Spec PyProof.Rows L2 Evl G NdefX LamX Clo
section
variable {P : Program} {w : World} {K : PySem.W.Frag} {mg : Str → Option Value} {base : Heap} {M P1 P2 : Addr} {H H' : Hp}
theorem p_sl {p : Addr} (hp : Pot H p) (e : ExBut p H H') {a : Addr} {xs : List V} {ds : List PyData} (hs : SqL K H a xs) (ha : DpAll K H xs ds) (n : ds.all notI = true) : SqL K H' a xs := by
  obtain ⟨i, j, h0, _⟩ := hp
  have ne : ∀ i j : Int, xs ≠ [.int i, .int j] := fun i j q => by
    subst q
    cases ha with
    | cons h1 _ =>
      cases h1
      simp [notI] at n
  rcases hs with (hs | ⟨o, hs⟩) | hs
  · refine .inl (.inl (e _ _ hs fun q => ?_))
    rw [q, h0] at hs
    cases hs
    exact ne i j rfl
  · refine .inl (.inr ⟨o, e _ _ hs fun q => ?_⟩)
    rw [q, h0] at hs
    cases hs
  · exact .inr hs
theorem notI_map {α : Type} {f : α → PyData} (h : ∀ a, notI (f a) = true) (l : List α) : (l.map f).all notI = true := by
  rw [List.all_map, List.all_eq_true]
  exact fun a _ => h a
def spDbl (K : PySem.W.Frag) : Sp := fun vs H Q _ => ∃ (p m : Addr) (n o : Nat) (rows : Rw), vs = [.ref p, .ref m] ∧ Pot H p ∧ ModAt K H m n o rows ∧ rows.length ≤ 5 ∧
  ∀ m' rows' H', ExBut p H H' → Pot H' p → ModAt K H' m' n o rows' → rows'.length ≤ 11 → Q (.ref m') H'
abbrev nDoubled : List Str := ["_law_pot_here", "_law_model", "_law_size", "_law_rows", "_law_state", "_law_row", "_law_goal", "_law_output"]
theorem scDoubled : FnScope nDoubled ["_law_pot_here", "_law_model"] (defScope dDoubled) := ⟨rfl, rfl, rfl, by decide +kernel, rfl, by decide +kernel, by decide +kernel⟩
theorem okDoubled {f : Addr} {fd : FuncData} (F : At K mg "_law_doubled" dDoubled ["_law_pot_here", "_law_model"] f fd) (T : Txt K mg) : FnOk P w K mg base CX0 2 f fd ["_law_pot_here", "_law_model"] (spDbl K) := by
  obtain ⟨fD, gD, FD⟩ := T.draw
  have GD : FnOk P w K mg base CX0 1 fD gD ["_law_pot_here", "_law_faces"] spDraw := okDraw FD T
  refine F.fn.ok scDoubled (fun vs H Q E h => ?_) (fun cdv A outer s H vs Q E hr h => ?_)
  · obtain ⟨p, m, n, o, rows, rfl, _⟩ := h
    rfl
  · obtain ⟨p, m, n, o, rows, rfl, hp, hm, h5, k⟩ := h
    have nds := scDoubled.nd
    have hu := hu_of hr
    refine ⟨_, (pss_cons (ps_asg (pe_tup (pa_cons (pe_callB call_len_seq (by rfl) T.len PySem.boot_len (pa_cons (pe_dget hu (pv 1) pe_str (fun _ _ => rfl)) pa_nil)) (pa_cons (pe_lst pa_nil) pa_nil))) (pg_tup rfl (pgs_cons (pg_name (i := 2) nds rfl (Or.inr rfl)) (pgs_cons (pg_name (i := 3) nds rfl (Or.inl rfl)) pgs_nil))))
      (pss_cons (ps_for PassesOwn.never rfl (pi_range1 (by rfl) T.range (pa_cons (pe_op op_mul pe_int (pv 2)) pa_nil)) (pg_name (i := 4) nds rfl (Or.inl rfl))
        (pss_cons (ps_set (i := 5) nds rfl (Or.inl rfl) (pe_ix ix_list (pe_dget hu (pv 1) pe_str (fun _ _ => rfl)) (pe_op op_mod (pe_callTy call_int1 (by rfl) T.int (by decide +kernel) (pa_cons (pv 4) pa_nil)) (pv 2)) (fun _ _ => rfl)))
      (pss_one (ps_expr (pe_bm PySem.F.plainAttrs_list PySem.F.slot_list_append PySem.F.type_list_append mt_append (pv 3) (pa_cons (pe_lc (own := [("_law_goal", 6), ("_law_output", 7)]) (g := (gTup K 2 (gCons (gName 6) (gCons (gName 7) gNil)))) (by rfl) nds (pi_list (pv 5)) (blkOk_by (own := [("_law_goal", 6), ("_law_output", 7)]) (N := nDoubled) (sc := defScope dDoubled) (by decide +kernel))
          (fun _ _ _ _ _ => (pg_tupK rfl (pgs_cons (pg_name (i := 6) nds rfl (Or.inl rfl)) (pgs_cons (pg_name (i := 7) nds rfl (Or.inl rfl)) pgs_nil)))) (fun _ _ _ _ _ => pts_nil) (fun _ _ _ _ _ => (pe_tup (pa_cons (pe_op op_add (pv 6) (pe_op op_mul (pv 2) (pe_call GD hr (by rfl) FD.gl FD.fn.kp FD.bi .nil pass0 (pa_cons (pv 0) (pa_cons pe_int pa_nil))))) (pa_cons (pv 7) pa_nil))))) pa_nil))))))
      (pss_cons (ps_expr (pe_bm PySem.F.plainAttrs_list PySem.F.slot_list_append PySem.F.type_list_append mt_append (pv 3) (pa_cons (pe_lc (own := [("_law_goal", 6), ("_law_output", 7)]) (g := (gTup K 2 (gCons (gName 6) (gCons (gName 7) gNil)))) (by rfl) nds (pi_list (pe_ix ix_list (pe_dget hu (pv 1) pe_str (fun _ _ => rfl)) pe_int (fun _ _ => rfl))) (blkOk_by (own := [("_law_goal", 6), ("_law_output", 7)]) (N := nDoubled) (sc := defScope dDoubled) (by decide +kernel))
          (fun _ _ _ _ _ => (pg_tupK rfl (pgs_cons (pg_name (i := 6) nds rfl (Or.inl rfl)) (pgs_cons (pg_name (i := 7) nds rfl (Or.inl rfl)) pgs_nil)))) (fun _ _ _ _ _ => pts_nil) (fun _ _ _ _ _ => (pe_tup (pa_cons pe_int (pa_cons (pv 7) pa_nil))))) pa_nil)))
      (pss_one (ps_ret (pe_disp (pps_cons pe_str (pe_dget hu (pv 1) pe_str (fun _ _ => rfl)) (pps_cons pe_str (pe_dget hu (pv 1) pe_str (fun _ _ => rfl)) (pps_cons pe_str (pv 3) pps_nil))) (by rfl) (by rfl) (by simp) (by decide))))))), ?_⟩
    obtain ⟨ml, hml, dml, good⟩ := id hm
    obtain ⟨_, xl, e0, hxl, dxl⟩ := list_of dml
    cases e0
    have lxl := dp_len dxl
    have hw := good.hw
    have ho := good.ho
    have pos := good.pos
    have few := good.few
    refine ⟨_, rfl, m, _, rfl, kvM_r hml, ml, xl, rfl, .inl hxl, Nat.zero_le _, fun R nR => ⟨(by show 2 ≤ sizeLine; decide), fun t2 nt2 => ?_⟩⟩
    have eR : Ex H (upd H R (.lst [])) := Ex.new nR
    have e2 : Ex H (upd (upd H R (.lst [])) t2 (.tup [.int (xl.length : Nat), .ref R])) := eR.trans (Ex.new nt2)
    have tR : R ≠ t2 := fun x => by rw [← x, upd_same] at nt2; cases nt2
    have hR2 : (upd (upd H R (.lst [])) t2 (.tup [.int (xl.length : Nat), .ref R])) R = some (.lst []) := by rw [upd_ne tR, upd_same]
    have ht2 : (upd (upd H R (.lst [])) t2 (.tup [.int (xl.length : Nat), .ref R])) t2 = some (.tup [.int (xl.length : Nat), .ref R]) := upd_same
    generalize upd (upd H R (.lst [])) t2 (.tup [.int (xl.length : Nat), .ref R]) = H2 at e2 hR2 ht2
    have hp2 := hp.ex e2
    have b2 : ExBut p H H2 := ExBut.of e2
    have Rp : p ≠ R := fun x => by
      obtain ⟨xs, hx⟩ := hp.lst
      rw [x, nR] at hx
      cases hx
    have h4 : 2 ^ n ≤ 16 := Nat.pow_le_pow_right (by decide) hw
    -- one row
    have mkrow : ∀ (Hc : Hp) (c : Int) (b : Addr) (q : Nat) (xs : List V) (rs : Rw), True → True := fun _ _ _ _ _ _ _ => True.intro
    refine ⟨t2, _, rfl, st_of ht2, rfl, _, _, rfl, _, _, rfl, rfl, ?_⟩
    refine ⟨_, rfl, 2, (xl.length : Nat), rfl, rfl, .inl ⟨by decide, by decide⟩, _, rfl, by omega, by omega, for_range (lo := 0) (n := ((2 : Int) * (xl.length : Nat)).toNat) (fun i σ Hc => (∃ u4 u5, σ = [some (.ref p), some (.ref m), some (.int (xl.length : Nat)), some (.ref R), u4, u5, none, none]) ∧ ExBut p H Hc ∧ Pot Hc p ∧
        ∃ xs rs, Hc R = some (.lst xs) ∧ rs.length = i ∧ DpAll K (hidL [R, p] Hc) xs (rs.map rowL) ∧ Mm.Wide rs (2 ^ n) ∧ ∀ r ∈ rs, ∀ g ∈ r, goOk (2 * rows.length + 1) o g)
      ⟨⟨_, _, rfl⟩, b2, hp2, [], [], hR2, rfl, .nil, (fun r h => by cases h), (fun r h => by cases h)⟩ (fun i σ Hc hi inv => ?_) (fun σ Hc inv => ?_)⟩
    · obtain ⟨⟨u4, u5, rfl⟩, eC, hpC, xs, rs, hRc, lrs, dxs, wd, gok⟩ := inv
      have mc : ModAt K Hc m n o rows := hm.pot hp eC
      obtain ⟨mlc, hmlc, dmlc, _⟩ := id mc
      have lt : i % rows.length < rows.length := Nat.mod_lt _ pos
      obtain ⟨xr, b, yr, r1, r2, r3, r4⟩ := rowL_at dmlc lt
      have lyr : yr.length = 2 ^ n := by rw [dp_len r4, Mm.rw_len good.wide lt]
      refine ⟨_, rfl, m, _, rfl, kvM_r hmlc, _, rfl, .inl ⟨_, rfl, _, rfl, _, _, rfl, rfl, by omega, mlc, xr, _, .ref b, rfl, rfl, r1, ?_, ?_⟩⟩
      · have e : ((0 : Int) + (i : Nat)) % ((xl.length : Nat) : Int) = ((i % rows.length : Nat) : Int) := by
          rw [lxl, Int.zero_add, Int.natCast_emod]
        rw [e]
        exact r2
      refine ⟨_, rfl, .inl ⟨rfl, _, SqL.of hRc⟩, _, rfl, b, rfl, ⟨_, r3⟩, fun D nD => ?_⟩
      have pD : p ≠ D := fun x => by
        obtain ⟨zs, hx⟩ := hpC.lst
        rw [x, nD] at hx
        cases hx
      have DR : D ≠ R := fun x => by rw [x, hRc] at nD; cases nD
      refine lc_gen (K := K) (g := gTup K 2 (gCons (gName 6) (gCons (gName 7) gNil))) (vs := [6, 7]) (walk_list (K := K) (a := b) (xs := yr)) [R, p] (fun i d => ∃ g : Mm.Go, goOk (2 * rows.length + 1) o g ∧ d = goD g) (fun Hx => ExBut p Hc Hx ∧ Pot Hx p) (by omega) ⟨ExBut.of (Ex.new nD), hpC.upd pD⟩ (fun Hx ys xs i hD => ⟨fun b u hb nb => by
            rw [upd_ne (fun z => by rw [z, nD] at hb; cases hb)]
            exact i.1 _ _ hb nb, i.2.upd pD⟩) (fun Hx i => p_sl hpC i.1 r3 r4 (notI_map (fun _ => rfl) _)) (fun i' x Ha Hb R2 ys hi' iA hD y r => ?_) (fun H' ys ds iC hD ld ad dys => ?_)
      · obtain ⟨rfl, ex⟩ := y
        obtain ⟨eA, hpA⟩ := iA
        obtain ⟨g, eg, dg⟩ := dp_nth r4 ex
        obtain ⟨t, u, rfl, st1, st2⟩ := go_of (p_dp hpC eA (np_go g) dg)
        refine ⟨t, _, rfl, st1, rfl, _, _, rfl, _, _, rfl, rfl, rfl, ?_⟩
        refine ⟨_, rfl, _, rfl, _, rfl, p, _, rfl, hpA, by decide, by decide, fun r' H' r0 r1 e hp' => ?_⟩
        refine ⟨_, _, rfl, rfl, .inr ⟨by omega, by omega⟩, _, _, rfl, rfl, _, rfl, (by show 2 ≤ sizeLine; decide), fun t3 nt3 => ?_⟩
        have e3 : Ex H' (upd H' t3 (.tup [.int ((g.1 : Nat) + ((xl.length : Nat) : Int) * r'), .ref u])) := Ex.new nt3
        have h3 : (upd H' t3 (.tup [.int ((g.1 : Nat) + ((xl.length : Nat) : Int) * r'), .ref u])) t3 = some (.tup [.int ((g.1 : Nat) + ((xl.length : Nat) : Int) * r'), .ref u]) := upd_same
        generalize upd H' t3 (.tup [.int ((g.1 : Nat) + ((xl.length : Nat) : Int) * r'), .ref u]) = H3 at e3 h3
        have hD' := e _ _ hD (Ne.symm pD)
        have hR' := e _ _ (eA _ _ hRc (Ne.symm Rp)) (Ne.symm Rp)
        obtain ⟨zp, hzp⟩ := hp'.lst
        have nS : t3 ∉ [D, R, p] := fun z => by
          simp only [List.mem_cons, List.not_mem_nil, or_false] at z
          rcases z with rfl | rfl | rfl
          · rw [nt3] at hD'; cases hD'
          · rw [nt3] at hR'; cases hR'
          · rw [nt3] at hzp; cases hzp
        have e45 := e.trans (ExBut.of e3)
        have dpu : Dp K Hb (.ref u) (bitsD g.2) := .tup st2 (dpAll_ints _)
        have gm : g ∈ Mm.rw_ rows (i % rows.length) := List.mem_of_getElem? eg
        have gr : Mm.rw_ rows (i % rows.length) ∈ rows := List.mem_of_getElem? (Mm.rw_at lt)
        obtain ⟨ok1, ok2, ok3⟩ := good.go _ gr g gm
        obtain ⟨c, rfl⟩ := Int.eq_ofNat_of_zero_le r0
        have hc : c ≤ 1 := by omega
        have hle : rows.length * c ≤ rows.length := by
          rcases Nat.le_one_iff_eq_zero_or_eq_one.mp hc with rfl | rfl <;> simp
        have ev : ((g.1 : Nat) : Int) + ((xl.length : Nat) : Int) * ((c : Nat) : Int) = ((g.1 + rows.length * c : Nat) : Int) := by
          rw [lxl, Int.natCast_add, Int.natCast_mul]
        rw [ev] at h3
        refine r (.ref t3) _ (goD (g.1 + rows.length * c, g.2)) ⟨(g.1 + rows.length * c, g.2), ⟨by show g.1 + rows.length * c < _; omega, ok2, ok3⟩, rfl⟩ ⟨eA.trans e45, hp'.ex e3⟩ (hidL_but (by simp) e45) (e3 _ _ hD') (dp_newT h3 nS (.cons (.int _) (.cons ?_ .nil)))
        refine t_dp (t_hid fun a ha => ?_) (noL_bits _) (p_dp hpA e45 (np_bits _) dpu)
        simp only [List.mem_cons, List.not_mem_nil, or_false] at ha
        rcases ha with rfl | rfl | rfl
        · exact ⟨_, e3 _ _ hD'⟩
        · exact ⟨_, e3 _ _ hR'⟩
        · exact ⟨_, e3 _ _ hzp⟩
      · obtain ⟨eD, hpD⟩ := iC
        obtain ⟨row, rfl, hrow⟩ := list_ex (f := goD) (p := goOk (2 * rows.length + 1) o) (at_mem ad)
        rw [List.length_map] at ld
        have hR' := eD _ _ hRc (Ne.symm Rp)
        have lxs : xs.length = i := by rw [dp_len dxs, lrs]
        refine ⟨R, xs, .ref D, rfl, rfl, hR', Nat.lt_of_le_of_lt (show _ ≤ 1000 by omega) (by decide), ?_⟩
        refine ⟨⟨_, _, rfl⟩, fun b u hb nb => ?_, hpD.upd Rp, xs ++ [.ref D], rs ++ [row], upd_same, by simp [lrs], ?_, fun r hr => ?_, fun r hr => ?_⟩
        · rw [upd_ne (fun z => by rw [z, nR] at hb; cases hb)]
          exact eD _ _ (eC _ _ hb nb) nb
        · rw [hidL_upd (by simp), List.map_append]
          exact dpAll_appG (dpAll_ex (hidL_but (by simp) eD) dxs) (.cons (dp_newL hD (by simp [DR, Ne.symm pD]) (dpAll_ex hidL_less dys)) .nil)
        · rcases List.mem_append.mp hr with hr | hr
          · exact wd r hr
          · rw [List.mem_singleton.mp hr, ld, lyr]
        · rcases List.mem_append.mp hr with hr | hr
          · exact gok r hr
          · rw [List.mem_singleton.mp hr]
            exact hrow
    · obtain ⟨⟨u4, u5, rfl⟩, eC, hpC, xs, rs, hRc, lrs, dxs, wd, gok⟩ := inv
      have mc : ModAt K Hc m n o rows := hm.pot hp eC
      obtain ⟨mlc, hmlc, dmlc, _⟩ := id mc
      obtain ⟨xr, b, yr, r1, r2, r3, r4⟩ := rowL_at dmlc pos
      have lyr : yr.length = 2 ^ n := by rw [dp_len r4, Mm.rw_len good.wide pos]
      have lrs' : rs.length = 2 * rows.length := by omega
      refine ⟨_, rfl, .inl ⟨rfl, _, SqL.of hRc⟩, _, rfl, m, _, rfl, kvM_r hmlc, mlc, xr, 0, .ref b, rfl, rfl, r1, r2, b, rfl, ⟨_, r3⟩, fun D nD => ?_⟩
      have pD : p ≠ D := fun x => by
        obtain ⟨zs, hx⟩ := hpC.lst
        rw [x, nD] at hx
        cases hx
      have DR : D ≠ R := fun x => by rw [x, hRc] at nD; cases nD
      refine lc_gen (K := K) (g := gTup K 2 (gCons (gName 6) (gCons (gName 7) gNil))) (vs := [6, 7]) (walk_list (K := K) (a := b) (xs := yr)) [R, p] (fun i d => ∃ g : Mm.Go, goOk (2 * rows.length + 1) o g ∧ d = goD g) (fun Hx => Ex Hc Hx) (by omega) (Ex.new nD) (fun Hx ys xs i hD => i.mut nD) (fun Hx i => ex_l i r3) (fun i' x Ha Hb R2 ys hi' iA hD y r => ?_) (fun H' ys ds iC hD ld ad dys => ?_)
      · obtain ⟨rfl, ex⟩ := y
        obtain ⟨g, eg, dg⟩ := dp_nth r4 ex
        obtain ⟨t, u, rfl, st1, st2⟩ := go_of (dp_ex iA dg)
        refine ⟨t, _, rfl, st1, rfl, _, _, rfl, _, _, rfl, rfl, rfl, ?_⟩
        refine ⟨_, rfl, (by show 2 ≤ sizeLine; decide), fun t3 nt3 => ?_⟩
        have e3 : Ex Hb (upd Hb t3 (.tup [.int 0, .ref u])) := Ex.new nt3
        have h3 : (upd Hb t3 (.tup [.int 0, .ref u])) t3 = some (.tup [.int 0, .ref u]) := upd_same
        generalize upd Hb t3 (.tup [.int 0, .ref u]) = H3 at e3 h3
        have hR' := iA _ _ hRc
        obtain ⟨zp, hzp⟩ := (hpC.ex iA).lst
        have nS : t3 ∉ [D, R, p] := fun z => by
          simp only [List.mem_cons, List.not_mem_nil, or_false] at z
          rcases z with rfl | rfl | rfl
          · rw [nt3] at hD; cases hD
          · rw [nt3] at hR'; cases hR'
          · rw [nt3] at hzp; cases hzp
        have dpu : Dp K Hb (.ref u) (bitsD g.2) := .tup st2 (dpAll_ints _)
        obtain ⟨ok1, ok2, ok3⟩ := good.go _ (List.mem_of_getElem? (Mm.rw_at pos)) g (List.mem_of_getElem? eg)
        refine r (.ref t3) _ (goD (0, g.2)) ⟨(0, g.2), ⟨by show 0 < _; omega, ok2, ok3⟩, rfl⟩ (iA.trans e3) (hidL_ex2 e3) (e3 _ _ hD) (dp_newT h3 nS (.cons (.int _) (.cons ?_ .nil)))
        refine t_dp (t_hid fun a ha => ?_) (noL_bits _) (dp_ex e3 dpu)
        simp only [List.mem_cons, List.not_mem_nil, or_false] at ha
        rcases ha with rfl | rfl | rfl
        · exact ⟨_, e3 _ _ hD⟩
        · exact ⟨_, e3 _ _ hR'⟩
        · exact ⟨_, e3 _ _ hzp⟩
      · obtain ⟨row, rfl, hrow⟩ := list_ex (f := goD) (p := goOk (2 * rows.length + 1) o) (at_mem ad)
        rw [List.length_map] at ld
        have hR' := iC _ _ hRc
        have lxs : xs.length = rs.length := by rw [dp_len dxs]
        refine ⟨R, xs, .ref D, rfl, rfl, hR', Nat.lt_of_le_of_lt (show _ ≤ 1000 by omega) (by decide), ?_⟩
        have eE : ExBut p H (upd H' R (.lst (xs ++ [.ref D]))) := fun b u hb nb => by
          rw [upd_ne (fun z => by rw [z, nR] at hb; cases hb)]
          exact iC _ _ (eC _ _ hb nb)
        have hpE : Pot (upd H' R (.lst (xs ++ [.ref D]))) p := (hpC.ex iC).upd Rp
        have hRE : (upd H' R (.lst (xs ++ [.ref D]))) R = some (.lst (xs ++ [.ref D])) := upd_same
        have dE : DpAll K (hidL [R, p] (upd H' R (.lst (xs ++ [.ref D])))) (xs ++ [.ref D]) ((rs ++ [row]).map rowL) := by
          rw [hidL_upd (by simp), List.map_append]
          exact dpAll_appG (dpAll_ex (hidL_ex2 iC) dxs) (.cons (dp_newL hD (by simp [DR, Ne.symm pD]) (dpAll_ex hidL_less dys)) .nil)
        generalize upd H' R (.lst (xs ++ [.ref D])) = HE at eE hpE hRE dE
        have me : ModAt K HE m n o rows := hm.pot hp eE
        obtain ⟨mle, hmle, _, _⟩ := id me
        refine fun m2 nm => ?_
        have em : Ex HE (upd HE m2 (.dK [])) := Ex.new nm
        refine ⟨_, rfl, m, _, rfl, kvM_w (em _ _ hmle), _, rfl, m, _, rfl, kvM_o (em _ _ hmle), _, rfl, upd_same, [(.inr "width", .int (n : Int)), (.inr "outs", .int (o : Int)), (.inr "rows", .ref R)], rfl, by show 3 ≤ 15; decide, ?_⟩
        have e3 : Ex HE (upd (upd HE m2 (.dK [])) m2 (.dK (mergeK [] [(.inr "width", .int (n : Int)), (.inr "outs", .int (o : Int)), (.inr "rows", .ref R)]))) := em.mut nm
        have hq : mergeK [] [((.inr "width" : Key), V.int (n : Int)), (.inr "outs", .int (o : Int)), (.inr "rows", .ref R)] = kvM n o R := rfl
        rw [hq] at e3 ⊢
        have dR : Dp K HE (.ref R) (.list ((rs ++ [row]).map rowL)) := .lst (SqL.of hRE) (dpAll_ex hidL_ex dE)
        have lz : (rs ++ [row]).length = 2 * rows.length + 1 := by simp [lrs']
        refine k m2 (rs ++ [row]) _ (eE.trans (ExBut.of e3)) (hpE.ex e3) ⟨R, upd_same, dp_ex e3 dR, by omega, by omega, hw, ho, fun r hr => ?_, fun r hr g hg => ?_⟩ (by omega)
        · rcases List.mem_append.mp hr with hr | hr
          · exact wd r hr
          · rw [List.mem_singleton.mp hr, ld, lyr]
        · rw [lz]
          rcases List.mem_append.mp hr with hr | hr
          · exact gok r hr g hg
          · rw [List.mem_singleton.mp hr] at hg
            exact hrow g hg
end
end W

set_option Elab.async false
set_option linter.all false
set_option maxRecDepth 100000
set_option maxHeartbeats 4000000
/-! Lists put together; what is cut off them. -/
namespace G
open PySem PySem.Spec PyProof.Rows L2 Evl
abbrev pL (ys : Array Value) (n : Nat) (d : Option Addr) (z : Array (Option Value)) : Obj := { cls := .type "list", dict := d, data := .seq ys n, slots := z }
theorem meets_addL (l b : Addr) (ys zs : Array Value) (n m : Nat) (d e : Option Addr) (u v : Array (Option Value)) (hz : ys.size + zs.size ≤ sizeLine) :
    Meets (Builtin.«list.__add__» ⟨[.ref l, .ref b], []⟩) (fun _ R s => s.heap.get? l = some (pL ys n d u) ∧ s.heap.get? b = some (pL zs m e v) ∧ R (.ok (.ret (.ref s.heap.objs.size))) { s with heap := s.heap.push (pL (ys ++ zs) 0 none #[]) }) :=
  .of_wp fun prog w A R s h => by
    obtain ⟨hp, g, dd, tk, os⟩ := s
    obtain ⟨hl, hb, h⟩ := h
    have g1 := AutoSeq1.idx_int
    have g2 := AutoSeq1.sub_list_list
    wp_walk using AutoSeq1.wpAny_loadPart' hl, AutoSeq1.wpAny_loadPart' hb
    exact ⟨_, rfl, h⟩
/-- a list and a list, told or not -/
def rCatL (K : PySem.W.Frag) : R2 := fun x y H Q => ∃ l b xs zs, x = .ref l ∧ y = .ref b ∧ SqL K H l xs ∧ SqL K H b zs ∧ xs.length + zs.length ≤ sizeLine ∧ ∀ p, H p = none → Q (.ref p) (upd H p (.lst (xs ++ zs)))
theorem op_catL {X : Cx} {K : PySem.W.Frag} (hK : X.K = K := by rfl) : OpR X (binaryOp .Add) (rCatL K) := by
  subst hK
  intro pins s σ H x y v u Q I rx ry h
  obtain ⟨l, b, xs, zs, rfl, rfl, hl, hb, hz, q⟩ := h
  cases rx
  cases ry
  obtain ⟨its, r, e, _⟩ := I.list hl
  obtain ⟨its2, r2, e2, _⟩ := I.list hb
  obtain ⟨⟨c1, d1, p1, s1⟩, n1, g1, h1, h2, h3⟩ := e
  obtain ⟨⟨c2, d2, p2, s2⟩, n2, g2, k1, k2, k3⟩ := e2
  replace h1 : c1 = .type "list" := h1
  replace h3 : p1 = .seq its.toArray n1 := h3
  replace k1 : c2 = .type "list" := k1
  replace k3 : p2 = .seq its2.toArray n2 := k3
  subst h1 h3 k1 k3
  have l1 := r.length
  have l2 := r2.length
  refine PySem.concat_meets ⟨_, g1, rfl⟩ ⟨_, g2, rfl⟩ PySem.noFill_list_add PySem.seq_list_add PySem.F.slot_list_add PySem.F.entry_list_add (PySem.F.args_list_add_2 _ _) (meets_addL l b its.toArray its2.toArray n1 n2 d1 d2 s1 s2 (by rw [List.size_toArray, List.size_toArray]; omega)) ⟨g1, g2, ?_⟩
  rw [show its.toArray ++ its2.toArray = (its ++ its2).toArray by simp]
  exact ⟨.ref _, _, I.lnew (t' := s.toks) (r.append r2) (by rw [List.length_append]; omega), rfl, q _ I.fresh⟩
theorem sIx_neg1 (n d : Nat) : HT.sIx n d (some (-1)) = n - 1 := by
  show ((-1 : Int) + (n : Int)).toNat = n - 1
  omega
theorem cutV_last (xs : List V) : cutV xs none (some (-1)) = xs.dropLast := by
  unfold cutV
  rw [sIx_neg1]
  show (xs.drop 0).take (xs.length - 1 - 0) = _
  rw [List.drop_zero, Nat.sub_zero, List.dropLast_eq_take]
end G

set_option Elab.async false
set_option linter.all false
set_option maxRecDepth 100000
set_option maxHeartbeats 16000000
/-! The law's machines: bent, mates. -/
namespace W
open PySem PySem.Spec PyProof.Rows L2 Evl G NdefX LamX Clo
theorem op_catAK {X : Cx} {K : PySem.W.Frag} (h : X.K = K := by rfl) : OpR X (binaryOp .Add) (rCatA K) := by
  subst h
  exact op_catA
theorem dpAll_set {K : PySem.W.Frag} {H : Hp} {v : V} {d : PyData} (h : Dp K H v d) : ∀ {xs : List V} {ds : List PyData} (i : Nat), DpAll K H xs ds → DpAll K H (xs.set i v) (ds.set i d)
  | _, _, _, .nil => .nil
  | _, _, 0, .cons _ b => .cons h b
  | _, _, i + 1, .cons a b => .cons a (dpAll_set h i b)
theorem mem_set {α : Type} {l : List α} {i : Nat} {a x : α} (h : x ∈ l.set i a) : x ∈ l ∨ x = a := by
  rcases List.mem_or_eq_of_mem_set h with h | h
  · exact .inl h
  · exact .inr h
theorem good_set {n o : Nat} {rows : Rw} {jn jf : Nat} {g : Mm.Go} (good : GoodR n o rows) (hj : jn < rows.length) (ok : goOk rows.length o g) : GoodR n o (rows.set jn ((Mm.rw_ rows jn).set jf g)) := by
  have hr := Mm.rw_at hj
  refine ⟨by rw [List.length_set]; exact good.pos, by rw [List.length_set]; exact good.few, good.hw, good.ho, fun r hm => ?_, fun r hm g' hg => ?_⟩
  · rcases mem_set hm with h | rfl
    · exact good.wide r h
    · rw [List.length_set]
      exact good.wide _ (List.mem_of_getElem? hr)
  · rw [List.length_set]
    rcases mem_set hm with h | rfl
    · exact good.go r h g' hg
    · rcases mem_set hg with h | rfl
      · exact good.go _ (List.mem_of_getElem? hr) g' h
      · exact ok
theorem ixN_nat {n j : Nat} (h : j < n) : ixN n ((j : Nat) : Int) = some j := by
  unfold ixN
  rw [if_pos (Int.natCast_nonneg _), if_pos (by omega)]
  simp
/-- rows whose lists are all new -/
structure RowsN (K : PySem.W.Frag) (p : Addr) (H : Hp) (R : Addr) (bs : List Addr) (rows : Rw) : Prop where
  top : H R = some (.lst (bs.map V.ref))
  nd : (R :: p :: bs).Nodup
  len : bs.length = rows.length
  row : ∀ (j : Nat) (b : Addr) (r : List Mm.Go), bs[j]? = some b → rows[j]? = some r → ∃ ys, H b = some (.lst ys) ∧ DpAll K (hidL (R :: p :: bs) H) ys (r.map goD)
section
variable {K : PySem.W.Frag} {p R : Addr} {H H' : Hp} {bs : List Addr} {rows : Rw}
theorem RowsN.ext (h : RowsN K p H R bs rows) (e : Ex H H') : RowsN K p H' R bs rows :=
  ⟨e _ _ h.top, h.nd, h.len, fun j b r h1 h2 => let ⟨ys, a, d⟩ := h.row j b r h1 h2; ⟨ys, e _ _ a, dpAll_ex (hidL_ex2 e) d⟩⟩
theorem RowsN.nep (h : RowsN K p H R bs rows) : R ≠ p ∧ ∀ b ∈ bs, b ≠ p ∧ b ≠ R := by
  have := h.nd
  rw [List.nodup_cons, List.nodup_cons] at this
  refine ⟨fun z => this.1 (by rw [z]; simp), fun b hb => ⟨fun z => this.2.1 (z ▸ hb), fun z => this.1 (by rw [← z]; simp [hb])⟩⟩
theorem RowsN.but (h : RowsN K p H R bs rows) (e : ExBut p H H') : RowsN K p H' R bs rows :=
  ⟨e _ _ h.top h.nep.1, h.nd, h.len, fun j b r h1 h2 => let ⟨ys, a, d⟩ := h.row j b r h1 h2; ⟨ys, e _ _ a (h.nep.2 b (List.mem_of_getElem? h1)).1, dpAll_ex (hidL_but (by simp) e) d⟩⟩
theorem RowsN.put (h : RowsN K p H R bs rows) {j i : Nat} {b : Addr} {r : List Mm.Go} {ys : List V} {v : V} {g : Mm.Go} (hb : bs[j]? = some b) (hr : rows[j]? = some r) (hy : H b = some (.lst ys)) (dv : Dp K (hidL (R :: p :: bs) H) v (goD g)) (dy : DpAll K (hidL (R :: p :: bs) H) ys (r.map goD)) :
    RowsN K p (L2.upd H b (.lst (ys.set i v))) R bs (rows.set j (r.set i g)) := by
  have mb : b ∈ bs := List.mem_of_getElem? hb
  have hS : hidL (R :: p :: bs) (L2.upd H b (.lst (ys.set i v))) = hidL (R :: p :: bs) H := hidL_upd (by simp [mb])
  refine ⟨by rw [upd_ne (Ne.symm (h.nep.2 b mb).2)]; exact h.top, h.nd, by rw [List.length_set]; exact h.len, fun j' b' r' h1 h2 => ?_⟩
  rw [hS]
  by_cases c : j' = j
  · subst c
    rw [hb] at h1
    cases h1
    have hl : j' < rows.length := (List.getElem?_eq_some_iff.mp hr).1
    rw [List.getElem?_set_self hl] at h2
    cases h2
    refine ⟨_, upd_same, ?_⟩
    rw [List.map_set]
    exact dpAll_set dv i dy
  · rw [List.getElem?_set_ne (Ne.symm c)] at h2
    obtain ⟨ys', a, d⟩ := h.row j' b' r' h1 h2
    have nb : bs.Nodup := (List.nodup_cons.mp (List.nodup_cons.mp h.nd).2).2
    have ne : b' ≠ b := fun z => c ((List.getElem?_inj (List.getElem?_eq_some_iff.mp h1).1 nb).mp (h1.trans (z ▸ hb.symm)))
    exact ⟨ys', by rw [upd_ne ne]; exact a, d⟩
theorem RowsN.dp (h : RowsN K p H R bs rows) : Dp K H (.ref R) (.list (rows.map rowL)) := by
  refine .lst (SqL.of h.top) ?_
  have go : ∀ (bs' : List Addr) (rows' : Rw), bs'.length = rows'.length → (∀ (j : Nat) (b : Addr) (r : List Mm.Go), bs'[j]? = some b → rows'[j]? = some r → ∃ ys, H b = some (.lst ys) ∧ DpAll K H ys (r.map goD)) → DpAll K H (bs'.map V.ref) (rows'.map rowL) := by
    intro bs'
    induction bs' with
    | nil =>
      intro rows' l _
      cases rows' with
      | nil => exact .nil
      | cons _ _ => simp at l
    | cons b bs' ih =>
      intro rows' l hh
      cases rows' with
      | nil => simp at l
      | cons r rows' =>
        obtain ⟨ys, a, d⟩ := hh 0 b r rfl rfl
        exact .cons (.lst (SqL.of a) d) (ih rows' (by simpa using l) fun j b' r' h1 h2 => hh (j + 1) b' r' (by simpa using h1) (by simpa using h2))
  exact go bs rows h.len fun j b r h1 h2 => let ⟨ys, a, d⟩ := h.row j b r h1 h2; ⟨ys, a, dpAll_ex hidL_ex d⟩
end
section
variable {P : Program} {w : World} {K : PySem.W.Frag} {mg : Str → Option Value} {base : Heap} {M P1 P2 : Addr} {H H' : Hp}
def spBent (K : PySem.W.Frag) : Sp := fun vs H Q _ => ∃ (p m : Addr) (n o : Nat) (rows : Rw), vs = [.ref p, .ref m] ∧ Pot H p ∧ ModAt K H m n o rows ∧
  ∀ m' rows' H', ExBut p H H' → Pot H' p → ModAt K H' m' n o rows' → rows'.length = rows.length → Q (.ref m') H'
abbrev nBent : List Str := ["_law_pot_here", "_law_model", "_law_rows", "_law_row", "_law_near", "_law_far", "_law_goal", "_law_output"]
theorem scBent : FnScope nBent ["_law_pot_here", "_law_model"] (defScope dBent) := ⟨rfl, rfl, rfl, by decide +kernel, rfl, by decide +kernel, by decide +kernel⟩
theorem okBent {f : Addr} {fd : FuncData} (F : At K mg "_law_bent" dBent ["_law_pot_here", "_law_model"] f fd) (T : Txt K mg) : FnOk P w K mg base CX0 2 f fd ["_law_pot_here", "_law_model"] (spBent K) := by
  obtain ⟨fD, gD, FD⟩ := T.draw
  have GD : FnOk P w K mg base CX0 1 fD gD ["_law_pot_here", "_law_faces"] spDraw := okDraw FD T
  refine F.fn.ok scBent (fun vs H Q E h => ?_) (fun cdv A outer s H vs Q E hr h => ?_)
  · obtain ⟨p, m, n, o, rows, rfl, _⟩ := h
    rfl
  · obtain ⟨p, m, n, o, rows, rfl, hp, hm, k⟩ := h
    have nds := scBent.nd
    have hu := hu_of hr
    refine ⟨_, (pss_cons (ps_setLc (i := 2) (own := [("_law_row", 3)]) (g := (gName 3)) (by rfl) nds rfl rfl (sw_true rfl rfl rfl (by decide +kernel)) (pi_list (pe_dget hu (pv 1) pe_str (fun _ _ => rfl))) (blkOk_by (own := [("_law_row", 3)]) (N := nBent) (sc := defScope dBent) (by decide +kernel))
          (fun _ _ _ _ _ => (pg_name (i := 3) nds rfl (Or.inl rfl))) (fun _ _ _ _ _ => pts_nil) (fun _ _ _ _ _ => (pe_callTy (call_listK (K := K)) (by rfl) T.list (by decide +kernel) (pa_cons (pv 3) pa_nil))))
      (pss_cons (ps_par (i := 4) (j := 5) rfl nds rfl rfl (by decide) (by rfl) (by rfl) (pa_cons (pe_call GD hr (by rfl) FD.gl FD.fn.kp FD.bi .nil pass0 (pa_cons (pv 0) (pa_cons (pe_callB call_len_seq (by rfl) T.len PySem.boot_len (pa_cons (pv 2) pa_nil)) pa_nil))) (pa_cons (pe_call GD hr (by rfl) FD.gl FD.fn.kp FD.bi .nil pass0 (pa_cons (pv 0) (pa_cons (pe_callB call_len_seq (by rfl) T.len PySem.boot_len (pa_cons (pe_ix ix_list (pv 2) pe_int (fun _ _ => rfl)) pa_nil)) pa_nil))) pa_nil)) (by rfl))
      (pss_cons (ps_asg (pe_ix ix_list (pe_ix ix_list (pv 2) (pv 4) (fun _ _ => rfl)) (pv 5) (fun _ _ => rfl)) (pg_tup rfl (pgs_cons (pg_name (i := 6) nds rfl (Or.inl rfl)) (pgs_cons (pg_name (i := 7) nds rfl (Or.inl rfl)) pgs_nil))))
      (pss_cons (ps_asg (pe_tup (pa_cons (pe_call GD hr (by rfl) FD.gl FD.fn.kp FD.bi .nil pass0 (pa_cons (pv 0) (pa_cons (pe_callB call_len_seq (by rfl) T.len PySem.boot_len (pa_cons (pv 2) pa_nil)) pa_nil))) (pa_cons (pv 7) pa_nil))) (pg_sub (pe_ix ix_list (pv 2) (pv 4) (fun _ _ => rfl)) (pv 5) set_list))
      (pss_cons (ps_if (PW.pt (pw_and (pt_cmpR op_gt (pe_dget hu (pv 1) pe_str (fun _ _ => rfl)) pe_int (nomark _)) (pw_and1 (pt_cmpR op_eq (pe_call GD hr (by rfl) FD.gl FD.fn.kp FD.bi .nil pass0 (pa_cons (pv 0) (pa_cons pe_int pa_nil))) pe_int (nomark _)))))
        (pss_one (ps_asg (pe_tup (pa_cons (pv 6) (pa_cons (pe_op (op_catAK (K := K)) (pe_slice sl_tupA (pv 7) po_none (po_some (pe_un un_neg pe_int))) (pe_tup (pa_cons (pe_op op_sub pe_int (pe_ix ix_tup (pv 7) (pe_un un_neg pe_int) (fun _ _ => rfl))) pa_nil))) pa_nil))) (pg_sub (pe_ix ix_list (pv 2) (pv 4) (fun _ _ => rfl)) (pv 5) set_list))) pss_nil)
      (pss_one (ps_ret (pe_disp (pps_cons pe_str (pe_dget hu (pv 1) pe_str (fun _ _ => rfl)) (pps_cons pe_str (pe_dget hu (pv 1) pe_str (fun _ _ => rfl)) (pps_cons pe_str (pv 2) pps_nil))) (by rfl) (by rfl) (by simp) (by decide))))))))), ?_⟩
    obtain ⟨ml, hml, dml, good⟩ := id hm
    obtain ⟨_, xl, e0, hxl, dxl⟩ := list_of dml
    cases e0
    have lxl := dp_len dxl
    have hw := good.hw
    have ho := good.ho
    have pos := good.pos
    have few := good.few
    have h4 : 2 ^ n ≤ 16 := Nat.pow_le_pow_right (by decide) hw
    refine ⟨_, rfl, m, _, rfl, kvM_r hml, ml, rfl, ⟨_, hxl⟩, fun D nD => ?_⟩
    have Dp0 : D ≠ p := fun x => by
      obtain ⟨zs, hx⟩ := hp.lst
      rw [← x, nD] at hx
      cases hx
    refine lc_it (g := gName 3) (tt := tYes) (vs := [3]) (walk_list (K := K) (a := ml) (xs := xl)) (fun i Hc => Ex H Hc ∧ ∃ bs : List Addr, Hc D = some (.lst (bs.map V.ref)) ∧ bs.length = i ∧ bs.Nodup ∧ ∀ (j : Nat) (b : Addr), bs[j]? = some b → b ≠ D ∧ H b = none ∧ ∀ r, rows[j]? = some r → ∃ ys, Hc b = some (.lst ys) ∧ DpAll K H ys (r.map goD))
      ⟨Ex.new nD, [], upd_same, rfl, List.nodup_nil, fun j b h => by simp at h⟩ (fun i Hc _ q => ex_l q.1 hxl) (fun i x Ha Hb hi q yy => ?_) (fun Hc q => ?_)
    · obtain ⟨rfl, ex⟩ := yy
      obtain ⟨e, bs, hD, lb, nd, row⟩ := q
      obtain ⟨r, er, dr⟩ := dp_nth dxl ex
      obtain ⟨b0, ys, rfl, hb0, dys⟩ := list_of dr
      refine ⟨wipe_set _ 3 _, ?_⟩
      refine ⟨_, rfl, b0, ys, rfl, .inl (ex_l e hb0), fun t nt => ?_⟩
      have eT : Ex Hb (upd Hb t (.lst ys)) := Ex.new nt
      have tD : t ≠ D := fun z => by rw [z, hD] at nt; cases nt
      refine ⟨bs.map V.ref, eT _ _ hD, Nat.lt_of_le_of_lt (show (bs.map V.ref).length ≤ 1000 by rw [List.length_map]; omega) (by decide), (e.trans eT).mut nD, bs ++ [t], by rw [List.map_append]; exact upd_same, by simp [lb], List.nodup_append.mpr ⟨nd, by simp, fun a ha b hb z => ?_⟩, fun j b hj => ?_⟩
      · rw [List.mem_singleton.mp hb] at z
        subst z
        obtain ⟨j, hj⟩ := List.mem_iff_getElem?.mp ha
        obtain ⟨_, _, hr⟩ := row j a hj
        obtain ⟨r', er'⟩ : ∃ r', rows[j]? = some r' := ⟨_, List.getElem?_eq_getElem (by have := (List.getElem?_eq_some_iff.mp hj).1; omega)⟩
        obtain ⟨_, h1, _⟩ := hr r' er'
        rw [h1] at nt
        cases nt
      · rcases Nat.lt_or_ge j bs.length with c | c
        · rw [List.getElem?_append_left c] at hj
          obtain ⟨h1, h2, h3⟩ := row j b hj
          exact ⟨h1, h2, fun r' er' => let ⟨ys', a, d⟩ := h3 r' er'; ⟨ys', by rw [upd_ne h1]; exact eT _ _ a, d⟩⟩
        · rw [List.getElem?_append_right c] at hj
          have j0 : j - bs.length = 0 := by
            rcases Nat.eq_zero_or_pos (j - bs.length) with e | e
            · exact e
            · rw [List.getElem?_eq_none (by rw [List.length_singleton]; omega)] at hj
              cases hj
          rw [j0] at hj
          cases hj
          refine ⟨tD, Ex.freshW e nt, fun r' er' => ?_⟩
          rw [show j = i by omega, er] at er'
          cases er'
          exact ⟨ys, by rw [upd_ne tD]; exact upd_same, dys⟩
    · obtain ⟨e, bs, hD, lb, nd, row⟩ := q
      have hpc := hp.ex e
      have R0 : RowsN K p Hc D bs rows := by
        refine ⟨hD, ?_, by rw [lb, lxl], fun j b r h1 h2 => ?_⟩
        · have pb : p ∉ bs := fun z => by
            obtain ⟨j, hj⟩ := List.mem_iff_getElem?.mp z
            obtain ⟨_, h2, _⟩ := row j p hj
            obtain ⟨zs, hx⟩ := hp.lst
            rw [h2] at hx
            cases hx
          have db : D ∉ bs := fun z => by
            obtain ⟨j, hj⟩ := List.mem_iff_getElem?.mp z
            exact (row j D hj).1 rfl
          exact List.nodup_cons.mpr ⟨by simp [Dp0, db], List.nodup_cons.mpr ⟨pb, nd⟩⟩
        · obtain ⟨_, _, h3⟩ := row j b h1
          obtain ⟨ys, a, d⟩ := h3 r h2
          refine ⟨ys, a, p_dpAll hp (fun b' u hb nb => ?_) (npDs_map np_go r) d⟩
          rw [hidL_not]
          · exact e _ _ hb
          · intro z
            simp only [List.mem_cons] at z
            rcases z with rfl | z | z
            · rw [nD] at hb; cases hb
            · exact nb z
            · obtain ⟨j', hj'⟩ := List.mem_iff_getElem?.mp z
              rw [(row j' b' hj').2.1] at hb
              cases hb
      have lbs : bs.length = rows.length := by rw [lb, lxl]
      have rlen : ∀ {He : Hp} {j : Nat} {b : Addr} {r : List Mm.Go} {ys : List V}, DpAll K He ys (r.map goD) → rows[j]? = some r → ys.length = 2 ^ n := fun d er => by
        rw [dp_len d]
        exact good.wide _ (List.mem_of_getElem? er)
      have hD' : (bs.map V.ref).length = rows.length := by rw [List.length_map, lbs]
      refine ⟨_, rfl, _, rfl, D, _, rfl, .inl (SqL.of hD), p, _, rfl, hpc, by omega, by omega, fun q0 H1 q0a q0b e1 hp1 => ?_⟩
      obtain ⟨jn, rfl⟩ := Int.eq_ofNat_of_zero_le q0a
      have R1 := R0.but e1
      obtain ⟨b0, hb0⟩ : ∃ b0, bs[0]? = some b0 := ⟨_, List.getElem?_eq_getElem (by omega)⟩
      obtain ⟨row0, hr0⟩ : ∃ r0, rows[0]? = some r0 := ⟨_, List.getElem?_eq_getElem pos⟩
      obtain ⟨ys0, hy0, dy0⟩ := R1.row 0 b0 row0 hb0 hr0
      have ly0 : ys0.length = 2 ^ n := rlen (b := b0) dy0 hr0
      have p2 : 0 < 2 ^ n := Nat.pos_of_ne_zero (by simp)
      refine ⟨_, rfl, _, rfl, D, _, 0, .ref b0, rfl, rfl, SqL.of R1.top, atI_nat (j := 0) (by rw [List.getElem?_map, hb0]; rfl), b0, ys0, rfl, .inl (SqL.of hy0), p, _, rfl, hp1, by omega, by omega, fun q1 H2 q1a q1b e2 hp2 => ⟨_, _, rfl, ?_⟩⟩
      obtain ⟨jf, rfl⟩ := Int.eq_ofNat_of_zero_le q1a
      have R2 := R1.but e2
      have ljn : jn < rows.length := by omega
      have ljf : jf < 2 ^ n := by omega
      obtain ⟨b, hb⟩ : ∃ b, bs[jn]? = some b := ⟨_, List.getElem?_eq_getElem (by omega)⟩
      have hr : rows[jn]? = some (Mm.rw_ rows jn) := Mm.rw_at ljn
      obtain ⟨ys, hy, dy⟩ := R2.row jn b _ hb hr
      have ly : ys.length = 2 ^ n := rlen (b := b) dy hr
      obtain ⟨y, ey⟩ : ∃ y, ys[jf]? = some y := ⟨_, List.getElem?_eq_getElem (by omega)⟩
      obtain ⟨g, eg, dg⟩ := dp_nth dy ey
      obtain ⟨t, u, rfl, sh1, sh2⟩ := go_of dg
      have st1 := ex_t hidL_ex sh1
      have du2 : Dp K (hidL (D :: p :: bs) H2) (.ref u) (bitsD g.2) := .tup sh2 (dpAll_ints _)
      obtain ⟨gk1, gk2, gk3⟩ := good.go _ (List.mem_of_getElem? hr) g (List.mem_of_getElem? eg)
      have aN : ∀ {He : Hp} {rs : Rw}, RowsN K p He D bs rs → SqL K He D (bs.map V.ref) ∧ atI (bs.map V.ref) ((jn : Nat) : Int) = some (.ref b) := fun r => ⟨SqL.of r.top, atI_nat (j := jn) (by rw [List.getElem?_map, hb]; rfl)⟩
      refine ⟨_, rfl, _, rfl, D, _, _, .ref b, rfl, rfl, (aN R2).1, (aN R2).2, _, rfl, b, ys, _, .ref t, rfl, rfl, SqL.of hy, atI_nat (j := jf) ey, t, _, rfl, st1, rfl, _, _, rfl, _, _, rfl, rfl, ?_⟩
      refine ⟨_, rfl, _, rfl, D, _, rfl, .inl (SqL.of R2.top), p, _, rfl, hp2, by omega, by omega, fun q2 H3 q2a q2b e3 hp3 => ?_⟩
      obtain ⟨g1, rfl⟩ := Int.eq_ofNat_of_zero_le q2a
      have R3 := R2.but e3
      refine ⟨_, rfl, (by show 2 ≤ sizeLine; decide), fun t3 nt3 => ?_⟩
      have sS : ∀ {He : Hp} {rs : Rw} {a : Addr}, RowsN K p He D bs rs → Pot He p → rs.length = bs.length → He a = none → a ∉ D :: p :: bs := fun {He rs a} r hpp lr na z => by
        simp only [List.mem_cons] at z
        rcases z with rfl | rfl | z
        · rw [r.top] at na; cases na
        · obtain ⟨zs, hx⟩ := hpp.lst
          rw [hx] at na
          cases na
        · obtain ⟨j, hj⟩ := List.mem_iff_getElem?.mp z
          obtain ⟨r', er'⟩ : ∃ r', rs[j]? = some r' := ⟨_, List.getElem?_eq_getElem (by have := (List.getElem?_eq_some_iff.mp hj).1; omega)⟩
          obtain ⟨_, h1, _⟩ := r.row j a r' hj er'
          rw [h1] at na
          cases na
      have bnone : ∀ b ∈ bs, H b = none := fun b hbb => by
        obtain ⟨j, hj⟩ := List.mem_iff_getElem?.mp hbb
        exact (row j b hj).2.1
      have bm : b ∈ bs := List.mem_of_getElem? hb
      have bup : ∀ {He : Hp} {o : HO}, ExBut p H He → ExBut p H (L2.upd He b o) := fun {He o'} e b' u' hb' nb' => by
        rw [upd_ne (fun z => by rw [z, bnone b bm] at hb'; cases hb')]
        exact e _ _ hb' nb'
      have nt3S := sS R3 hp3 (by omega) nt3
      have x3 : Ex H3 (upd H3 t3 (.tup [.int (g1 : Nat), .ref u])) := Ex.new nt3
      have h3 : (upd H3 t3 (.tup [.int (g1 : Nat), .ref u])) t3 = some (.tup [.int (g1 : Nat), .ref u]) := upd_same
      generalize upd H3 t3 (.tup [.int (g1 : Nat), .ref u]) = H3' at x3 h3
      have R3' := R3.ext x3
      obtain ⟨ys3, hy3, dy3⟩ := R3'.row jn b _ hb hr
      have ly3 : ys3.length = 2 ^ n := rlen (b := b) dy3 hr
      have du3 : Dp K (hidL (D :: p :: bs) H3') (.ref u) (bitsD g.2) := dp_ex (hidL_ex2 x3) (dp_ex (hidL_but (by simp) e3) du2)
      refine ⟨_, rfl, _, rfl, D, _, _, .ref b, rfl, rfl, (aN R3').1, (aN R3').2, _, rfl, b, ys3, _, jf, rfl, rfl, hy3, ixN_nat (by omega), ?_⟩
      have R4 := R3'.put (i := jf) (v := .ref t3) (g := (g1, g.2)) hb hr hy3 (dp_newT h3 nt3S (.cons (.int _) (.cons du3 .nil))) dy3
      have g4 := good_set (jf := jf) (g := (g1, g.2)) good ljn ⟨by omega, gk2, gk3⟩
      have l4 : (rows.set jn ((Mm.rw_ rows jn).set jf (g1, g.2))).length = rows.length := List.length_set ..
      have eH3 : ExBut p H H3' := (((ExBut.of e).trans e1).trans (e2.trans e3)).trans (ExBut.of x3)
      have eH4 : ExBut p H (L2.upd H3' b (.lst (ys3.set jf (.ref t3)))) := bup eH3
      have bp := (R4.nep.2 b bm).1
      have hp4 : Pot (L2.upd H3' b (.lst (ys3.set jf (.ref t3)))) p := (hp3.ex x3).upd (Ne.symm bp)
      have du4 : Dp K (hidL (D :: p :: bs) (L2.upd H3' b (.lst (ys3.set jf (.ref t3))))) (.ref u) (bitsD g.2) := by
        rw [hidL_upd (by simp [bm])]
        exact du3
      generalize rows.set jn ((Mm.rw_ rows jn).set jf (g1, g.2)) = rows4 at R4 g4 l4
      generalize L2.upd H3' b (.lst (ys3.set jf (.ref t3))) = H4 at R4 eH4 hp4 du4 ⊢
      -- the end
      have fin : ∀ (He : Hp) (rs : Rw), RowsN K p He D bs rs → GoodR n o rs → rs.length = rows.length → ExBut p H He → Pot He p → ∀ m2, He m2 = none →
          H m = some (.dK (kvM n o ml)) ∧ Ex He (upd He m2 (.dK [])) ∧ (upd He m2 (.dK [])) m = some (.dK (kvM n o ml)) ∧ Q (.ref m2) (upd (upd He m2 (.dK [])) m2 (.dK (kvM n o D))) := fun He rs Re ge le ee hpe m2 nm => by
        have em : Ex He (upd He m2 (.dK [])) := Ex.new nm
        have e3 : Ex He (upd (upd He m2 (.dK [])) m2 (.dK (kvM n o D))) := em.mut nm
        exact ⟨hml, em, em _ _ (ee _ _ hml (pot_ne hp hml fun xs z => by cases z)), k m2 rs _ (ee.trans (ExBut.of e3)) (hpe.ex e3) ⟨D, upd_same, dp_ex e3 Re.dp, ge⟩ le⟩
      have hm4 := eH4 _ _ hml (pot_ne hp hml fun xs z => by cases z)
      refine ⟨_, rfl, m, _, rfl, kvM_o hm4, _, _, rfl, rfl, _, rfl, ?_⟩
      by_cases ho0 : o = 0
      · rw [show decide ((0 : Int) < (o : Int)) = false from decide_eq_false (by omega)]
        refine iteF (iteF fun m2 nm => ?_)
        obtain ⟨_, em, hmm, kk⟩ := fin H4 rows4 R4 g4 l4 eH4 hp4 m2 nm
        exact ⟨_, rfl, m, _, rfl, kvM_w hmm, _, rfl, m, _, rfl, kvM_o hmm, _, rfl, upd_same, [(.inr "width", .int (n : Int)), (.inr "outs", .int (o : Int)), (.inr "rows", .ref D)], rfl, by show 3 ≤ 15; decide, kk⟩
      · rw [show decide ((0 : Int) < (o : Int)) = true from decide_eq_true (by omega)]
        refine iteT ⟨_, rfl, p, _, rfl, hp4, by decide, by decide, fun q3 H5 q3a q3b e5 hp5 => ⟨rfl, _, rfl, ?_⟩⟩
        have R5 := R4.but e5
        have eH5 := eH4.trans e5
        by_cases hq3 : q3 = 0
        · subst hq3
          rw [decide_eq_true rfl]
          have lg : g.2.length = o := gk2
          obtain ⟨bl, bz, hbz⟩ : ∃ (bl : List Int) (bz : Int), g.2 = bl ++ [bz] := by
            rcases List.eq_nil_or_concat g.2 with z | ⟨bl, bz, z⟩
            · rw [z] at lg; simp at lg; omega
            · exact ⟨bl, bz, by rw [z, List.concat_eq_append]⟩
          have du5 : Dp K (hidL (D :: p :: bs) H5) (.ref u) (bitsD g.2) := dp_ex (hidL_but (by simp) e5) du4
          have su5 : SqT K H5 u (g.2.map V.int) := by
            cases dp_ex hidL_ex du5 with
            | tup hs ha => rw [ints_back ha] at hs; exact hs
          rw [hbz, List.map_append] at su5
          have lbl : bl.length + 1 = o := by rw [hbz] at lg; simpa using lg
          have bz3 : isBt bz := gk3 bz (by rw [hbz]; simp)
          have gB : (bl ++ [1 - bz]).length = o := by simpa using lbl
          have gC : ∀ x ∈ bl ++ [1 - bz], isBt x := fun x hx => by
            rcases List.mem_append.mp hx with hx | hx
            · exact gk3 x (by rw [hbz]; simp [hx])
            · rw [List.mem_singleton.mp hx]
              rcases bz3 with rfl | rfl <;> unfold isBt <;> omega
          refine iteT ⟨_, rfl, _, rfl, 1, rfl, _, rfl, u, _, rfl, su5, fun z => ?_, fun _ ps nps => ?_⟩
          · have z2 := z.2
            rw [sIx_neg1] at z2
            simp at z2
          rw [cutV_last]
          have eds : (bl.map V.int ++ [bz].map V.int).dropLast = bl.map V.int := by simp
          rw [eds]
          have xs_ : Ex H5 (upd H5 ps (.tup (bl.map V.int))) := Ex.new nps
          have hps : (upd H5 ps (.tup (bl.map V.int))) ps = some (.tup (bl.map V.int)) := upd_same
          generalize upd H5 ps (.tup (bl.map V.int)) = H5a at xs_ hps
          refine ⟨_, rfl, 1, rfl, u, _, -1, .int bz, rfl, rfl, ex_t xs_ su5, atI_last _ _, _, _, rfl, rfl, (by show 1 ≤ sizeLine; decide), fun pt npt => ?_⟩
          have xt_ : Ex H5a (upd H5a pt (.tup [.int (1 - bz)])) := Ex.new npt
          have hpt : (upd H5a pt (.tup [.int (1 - bz)])) pt = some (.tup [.int (1 - bz)]) := upd_same
          generalize upd H5a pt (.tup [.int (1 - bz)]) = H5b at xt_ hpt
          have x5b := xs_.trans xt_
          have tupD : ∀ {Hx : Hp} {a : Addr}, Ex H5 Hx → H5 a = none → Hx a = some (.tup ((bl ++ [1 - bz]).map V.int)) → Dp K (hidL (D :: p :: bs) Hx) (.ref a) (bitsD (bl ++ [1 - bz])) := fun {Hx a} xx na ha => by
            have := dp_newT (K := K) ha (sS R5 hp5 (by omega) na) (dpAll_ints (K := K) (H := hidL (D :: p :: bs) Hx) (bl ++ [1 - bz]))
            exact this
          have npt5 := Ex.freshW xs_ npt
          refine ⟨ps, pt, _, _, rfl, rfl, .inl (.inl (xt_ _ _ hps)), .inl (.inl hpt), Nat.le_trans (show _ ≤ 1000 by simp only [List.length_map, List.length_singleton]; have := good.ho; omega) (by decide), fun z0 => ?_, fun _ z1 => (by cases z1), fun _ _ pz npz => ?_⟩
          · have z0' : bl = [] := by simpa using z0
            have hA : H5b pt = some (.tup ((bl ++ [1 - bz]).map V.int)) := by rw [z0']; exact hpt
            have xA := x5b
            have dA := tupD x5b npt5 hA
            refine ⟨(by show 2 ≤ sizeLine; decide), fun t6 nt6 => ?_⟩
            have x6 : Ex H5b (upd H5b t6 (.tup [.int (g.1 : Nat), .ref pt])) := Ex.new nt6
            have h6 : (upd H5b t6 (.tup [.int (g.1 : Nat), .ref pt])) t6 = some (.tup [.int (g.1 : Nat), .ref pt]) := upd_same
            generalize upd H5b t6 (.tup [.int (g.1 : Nat), .ref pt]) = H6 at x6 h6
            have R6 := (R5.ext xA).ext x6
            obtain ⟨ys6, hy6, dy6⟩ := R6.row jn b _ hb (Mm.rw_at (by omega : jn < rows4.length))
            have ly6 : ys6.length = 2 ^ n := by rw [dp_len dy6, Mm.rw_len g4.wide (by omega)]
            refine ⟨_, rfl, _, rfl, D, _, _, .ref b, rfl, rfl, (aN R6).1, (aN R6).2, _, rfl, b, ys6, _, jf, rfl, rfl, hy6, ixN_nat (by omega), ?_⟩
            have R7 := R6.put (i := jf) (v := .ref t6) (g := (g.1, bl ++ [1 - bz])) hb (Mm.rw_at (by omega : jn < rows4.length)) hy6 (dp_newT h6 (sS (R5.ext xA) (hp5.ex xA) (by omega) nt6) (.cons (.int _) (.cons (dp_ex (hidL_ex2 x6) dA) .nil))) dy6
            have g7 := good_set (jf := jf) (g := (g.1, bl ++ [1 - bz])) g4 (by omega : jn < rows4.length) ⟨by show g.1 < _; omega, gB, gC⟩
            have l7 : (rows4.set jn ((Mm.rw_ rows4 jn).set jf (g.1, bl ++ [1 - bz]))).length = rows.length := by rw [List.length_set]; exact l4
            have eH7 : ExBut p H (L2.upd H6 b (.lst (ys6.set jf (.ref t6)))) := bup ((eH5.trans (ExBut.of xA)).trans (ExBut.of x6))
            have hp7 : Pot (L2.upd H6 b (.lst (ys6.set jf (.ref t6)))) p := ((hp5.ex xA).ex x6).upd (Ne.symm bp)
            generalize rows4.set jn ((Mm.rw_ rows4 jn).set jf (g.1, bl ++ [1 - bz])) = rows7 at R7 g7 l7
            generalize L2.upd H6 b (.lst (ys6.set jf (.ref t6))) = H7 at R7 eH7 hp7 ⊢
            refine fun m2 nm => ?_
            obtain ⟨_, em, hmm, kk⟩ := fin H7 rows7 R7 g7 l7 eH7 hp7 m2 nm
            exact ⟨_, rfl, m, _, rfl, kvM_w hmm, _, rfl, m, _, rfl, kvM_o hmm, _, rfl, upd_same, [(.inr "width", .int (n : Int)), (.inr "outs", .int (o : Int)), (.inr "rows", .ref D)], rfl, by show 3 ≤ 15; decide, kk⟩
          · have xz : Ex H5b (upd H5b pz (.tup (bl.map V.int ++ [.int (1 - bz)]))) := Ex.new npz
            have hA : (upd H5b pz (.tup (bl.map V.int ++ [.int (1 - bz)]))) pz = some (.tup ((bl ++ [1 - bz]).map V.int)) := by rw [List.map_append]; exact upd_same
            generalize upd H5b pz (.tup (bl.map V.int ++ [.int (1 - bz)])) = H5c at xz hA
            have xA := x5b.trans xz
            have dA := tupD xA (Ex.freshW x5b npz) hA
            refine ⟨(by show 2 ≤ sizeLine; decide), fun t6 nt6 => ?_⟩
            have x6 : Ex H5c (upd H5c t6 (.tup [.int (g.1 : Nat), .ref pz])) := Ex.new nt6
            have h6 : (upd H5c t6 (.tup [.int (g.1 : Nat), .ref pz])) t6 = some (.tup [.int (g.1 : Nat), .ref pz]) := upd_same
            generalize upd H5c t6 (.tup [.int (g.1 : Nat), .ref pz]) = H6 at x6 h6
            have R6 := (R5.ext xA).ext x6
            obtain ⟨ys6, hy6, dy6⟩ := R6.row jn b _ hb (Mm.rw_at (by omega : jn < rows4.length))
            have ly6 : ys6.length = 2 ^ n := by rw [dp_len dy6, Mm.rw_len g4.wide (by omega)]
            refine ⟨_, rfl, _, rfl, D, _, _, .ref b, rfl, rfl, (aN R6).1, (aN R6).2, _, rfl, b, ys6, _, jf, rfl, rfl, hy6, ixN_nat (by omega), ?_⟩
            have R7 := R6.put (i := jf) (v := .ref t6) (g := (g.1, bl ++ [1 - bz])) hb (Mm.rw_at (by omega : jn < rows4.length)) hy6 (dp_newT h6 (sS (R5.ext xA) (hp5.ex xA) (by omega) nt6) (.cons (.int _) (.cons (dp_ex (hidL_ex2 x6) dA) .nil))) dy6
            have g7 := good_set (jf := jf) (g := (g.1, bl ++ [1 - bz])) g4 (by omega : jn < rows4.length) ⟨by show g.1 < _; omega, gB, gC⟩
            have l7 : (rows4.set jn ((Mm.rw_ rows4 jn).set jf (g.1, bl ++ [1 - bz]))).length = rows.length := by rw [List.length_set]; exact l4
            have eH7 : ExBut p H (L2.upd H6 b (.lst (ys6.set jf (.ref t6)))) := bup ((eH5.trans (ExBut.of xA)).trans (ExBut.of x6))
            have hp7 : Pot (L2.upd H6 b (.lst (ys6.set jf (.ref t6)))) p := ((hp5.ex xA).ex x6).upd (Ne.symm bp)
            generalize rows4.set jn ((Mm.rw_ rows4 jn).set jf (g.1, bl ++ [1 - bz])) = rows7 at R7 g7 l7
            generalize L2.upd H6 b (.lst (ys6.set jf (.ref t6))) = H7 at R7 eH7 hp7 ⊢
            refine fun m2 nm => ?_
            obtain ⟨_, em, hmm, kk⟩ := fin H7 rows7 R7 g7 l7 eH7 hp7 m2 nm
            exact ⟨_, rfl, m, _, rfl, kvM_w hmm, _, rfl, m, _, rfl, kvM_o hmm, _, rfl, upd_same, [(.inr "width", .int (n : Int)), (.inr "outs", .int (o : Int)), (.inr "rows", .ref D)], rfl, by show 3 ≤ 15; decide, kk⟩
        · rw [decide_eq_false (fun z => by injection z with z; exact hq3 z)]
          refine iteF fun m2 nm => ?_
          obtain ⟨_, em, hmm, kk⟩ := fin H5 rows4 R5 g4 l4 eH5 hp5 m2 nm
          exact ⟨_, rfl, m, _, rfl, kvM_w hmm, _, rfl, m, _, rfl, kvM_o hmm, _, rfl, upd_same, [(.inr "width", .int (n : Int)), (.inr "outs", .int (o : Int)), (.inr "rows", .ref D)], rfl, by show 3 ≤ 15; decide, kk⟩
end
end W

set_option Elab.async false
set_option linter.all false
set_option maxRecDepth 100000
set_option maxHeartbeats 16000000
/-! Mates. -/
namespace W
open PySem PySem.Spec PyProof.Rows L2 Evl G NdefX LamX Clo
section
variable {P : Program} {w : World} {K : PySem.W.Frag} {mg : Str → Option Value} {base : Heap} {M P1 P2 : Addr} {H H' : Hp}
def spMate (K : PySem.W.Frag) : Sp := fun vs H Q _ => ∃ (p m : Addr) (n o : Nat) (rows : Rw), vs = [.ref p, .ref m] ∧ Pot H p ∧ ModAt K H m n o rows ∧ rows.length ≤ 5 ∧
  ∀ m' rows' H', ExBut p H H' → Pot H' p → ModAt K H' m' n o rows' → rows'.length ≤ 11 → Q (.ref m') H'
abbrev nMate : List Str := ["_law_pot_here", "_law_model", "_law_way", "_law_mate_here"]
theorem scMate : FnScope nMate ["_law_pot_here", "_law_model"] (defScope dMate) := ⟨rfl, rfl, rfl, by decide +kernel, rfl, by decide +kernel, by decide +kernel⟩
theorem okMate {f : Addr} {fd : FuncData} (F : At K mg "_law_mate" dMate ["_law_pot_here", "_law_model"] f fd) (T : Txt K mg) : FnOk P w K mg base CX0 3 f fd ["_law_pot_here", "_law_model"] (spMate K) := by
  obtain ⟨fD, gD, FD⟩ := T.draw
  obtain ⟨fM, gM, FM⟩ := T.machine
  obtain ⟨fB, gB, FB⟩ := T.bent
  obtain ⟨fDb, gDb, FDb⟩ := T.doubled
  have GD : FnOk P w K mg base CX0 2 fD gD ["_law_pot_here", "_law_faces"] spDraw := (okDraw FD T).mono (by decide)
  have GM : FnOk P w K mg base CX0 2 fM gM ["_law_pot_here", "_law_most", "_law_width", "_law_outs"] (spMach K) := okMach FM T
  have GB : FnOk P w K mg base CX0 2 fB gB ["_law_pot_here", "_law_model"] (spBent K) := okBent FB T
  have GDb : FnOk P w K mg base CX0 2 fDb gDb ["_law_pot_here", "_law_model"] (spDbl K) := okDoubled FDb T
  refine F.fn.ok scMate (fun vs H Q E h => ?_) (fun cdv A outer s H vs Q E hr h => ?_)
  · obtain ⟨p, m, n, o, rows, rfl, _⟩ := h
    rfl
  · obtain ⟨p, m, n, o, rows, rfl, hp, hm, h5, k⟩ := h
    have nds := scMate.nd
    have hu := hu_of hr
    refine ⟨_, (pss_cons (ps_set (i := 2) nds rfl (Or.inl rfl) (pe_call GD hr (by rfl) FD.gl FD.fn.kp FD.bi .nil pass0 (pa_cons (pv 0) (pa_cons pe_int pa_nil))))
      (pss_cons (ps_if (pt_cmpR op_eq (pv 2) pe_int (nomark _))
        (pss_one (ps_ret (pe_call GM hr (by rfl) FM.gl FM.fn.kp FM.bi .nil pass0 (pa_cons (pv 0) (pa_cons pe_int (pa_cons (pe_dget hu (pv 1) pe_str (fun _ _ => rfl)) (pa_cons (pe_dget hu (pv 1) pe_str (fun _ _ => rfl)) pa_nil))))))) pss_nil)
      (pss_cons (ps_set (i := 3) nds rfl (Or.inl rfl) (pe_ifExp (pt_cmpR op_in_seq (pv 2) (pe_lst (pa_cons pe_int (pa_cons pe_int pa_nil))) (by with_unfolding_all rfl)) (pe_call GB hr (by rfl) FB.gl FB.fn.kp FB.bi .nil pass0 (pa_cons (pv 0) (pa_cons (pv 1) pa_nil))) (pv 1)))
      (pss_one (ps_ret (pe_ifExp (pt_cmpR op_in_seq (pv 2) (pe_lst (pa_cons pe_int (pa_cons pe_int pa_nil))) (by with_unfolding_all rfl)) (pe_call GDb hr (by rfl) FDb.gl FDb.fn.kp FDb.bi .nil pass0 (pa_cons (pv 0) (pa_cons (pv 3) pa_nil))) (pv 3))))))), ?_⟩
    refine ⟨_, rfl, p, _, rfl, hp, by decide, by decide, fun r0 H1 a0 b0 e1 hp1 => ?_⟩
    have m1 := hm.pot hp e1
    obtain ⟨ml, hml, dml, good⟩ := id m1
    obtain ⟨c, rfl⟩ := Int.eq_ofNat_of_zero_le a0
    refine ⟨_, rfl, rfl, _, rfl, ?_⟩
    by_cases c0 : c = 0
    · subst c0
      refine iteT ⟨_, rfl, _, rfl, m, _, rfl, kvM_w hml, _, rfl, m, _, rfl, kvM_o hml, p, 5, n, o, rfl, hp1, by decide, by decide, good.hw, good.ho, fun m' rs H2 e2 hp2 nm mm lr => k m' rs H2 (e1.trans e2) hp2 mm (by omega)⟩
    rw [decide_eq_false (show ¬ V.int (c : Nat) = V.int 0 from fun z => by injection z with z; omega)]
    refine iteF ⟨_, rfl, (by show 2 ≤ sizeLine; decide), fun l nl => ?_⟩
    have x1 : Ex H1 (upd H1 l (.lst [.int 1, .int 3])) := Ex.new nl
    have hl : (upd H1 l (.lst [.int 1, .int 3])) l = some (.lst [.int 1, .int 3]) := upd_same
    generalize upd H1 l (.lst [.int 1, .int 3]) = H2 at x1 hl
    have hp2 := hp1.ex x1
    have m2 := m1.ex x1
    have e2 := e1.trans (ExBut.of x1)
    have c4 : c = 1 ∨ c = 2 ∨ c = 3 ∨ c = 4 := by omega
    rcases c4 with rfl | rfl | rfl | rfl
    · refine ⟨l, _, rfl, .inl (SqL.of hl), rfl, rfl, _, rfl, ?_⟩
      rw [show inV (.int ((1 : Nat) : Int)) [.int 1, .int 3] = true from by decide]
      refine iteT ⟨_, rfl, _, rfl, p, m, n, o, rows, rfl, hp2, m2, fun m' rs H3 e3 hp3 m3 l3 => ?_⟩
      refine ⟨_, rfl, (by show 2 ≤ sizeLine; decide), fun l2 nl2 => ?_⟩
      have x3 : Ex H3 (upd H3 l2 (.lst [.int 2, .int 3])) := Ex.new nl2
      refine ⟨l2, _, rfl, .inl (SqL.of upd_same), rfl, rfl, _, rfl, ?_⟩
      rw [show inV (.int ((1 : Nat) : Int)) [.int 2, .int 3] = false from by decide]
      exact iteF ⟨_, rfl, k m' rs _ ((e2.trans e3).trans (ExBut.of x3)) (hp3.ex x3) (m3.ex x3) (by omega)⟩
    · refine ⟨l, _, rfl, .inl (SqL.of hl), rfl, rfl, _, rfl, ?_⟩
      rw [show inV (.int ((2 : Nat) : Int)) [.int 1, .int 3] = false from by decide]
      refine iteF ⟨_, rfl, ?_⟩
      refine ⟨_, rfl, (by show 2 ≤ sizeLine; decide), fun l2 nl2 => ?_⟩
      have x3 : Ex H2 (upd H2 l2 (.lst [.int 2, .int 3])) := Ex.new nl2
      refine ⟨l2, _, rfl, .inl (SqL.of upd_same), rfl, rfl, _, rfl, ?_⟩
      rw [show inV (.int ((2 : Nat) : Int)) [.int 2, .int 3] = true from by decide]
      exact iteT ⟨_, rfl, _, rfl, p, m, n, o, rows, rfl, hp2.ex x3, m2.ex x3, h5, fun m' rs H3 e3 hp3 m3 l3 => k m' rs _ ((e2.trans (ExBut.of x3)).trans e3) hp3 m3 l3⟩
    · refine ⟨l, _, rfl, .inl (SqL.of hl), rfl, rfl, _, rfl, ?_⟩
      rw [show inV (.int ((3 : Nat) : Int)) [.int 1, .int 3] = true from by decide]
      refine iteT ⟨_, rfl, _, rfl, p, m, n, o, rows, rfl, hp2, m2, fun m' rs H3 e3 hp3 m3 l3 => ?_⟩
      refine ⟨_, rfl, (by show 2 ≤ sizeLine; decide), fun l2 nl2 => ?_⟩
      have x3 : Ex H3 (upd H3 l2 (.lst [.int 2, .int 3])) := Ex.new nl2
      refine ⟨l2, _, rfl, .inl (SqL.of upd_same), rfl, rfl, _, rfl, ?_⟩
      rw [show inV (.int ((3 : Nat) : Int)) [.int 2, .int 3] = true from by decide]
      exact iteT ⟨_, rfl, _, rfl, p, m', n, o, rs, rfl, hp3.ex x3, m3.ex x3, by omega, fun m'' rs2 H4 e4 hp4 m4 l4 => k m'' rs2 _ (((e2.trans e3).trans (ExBut.of x3)).trans e4) hp4 m4 l4⟩
    · refine ⟨l, _, rfl, .inl (SqL.of hl), rfl, rfl, _, rfl, ?_⟩
      rw [show inV (.int ((4 : Nat) : Int)) [.int 1, .int 3] = false from by decide]
      refine iteF ⟨_, rfl, ?_⟩
      refine ⟨_, rfl, (by show 2 ≤ sizeLine; decide), fun l2 nl2 => ?_⟩
      have x3 : Ex H2 (upd H2 l2 (.lst [.int 2, .int 3])) := Ex.new nl2
      refine ⟨l2, _, rfl, .inl (SqL.of upd_same), rfl, rfl, _, rfl, ?_⟩
      rw [show inV (.int ((4 : Nat) : Int)) [.int 2, .int 3] = false from by decide]
      exact iteF ⟨_, rfl, k m rows _ (e2.trans (ExBut.of x3)) (hp2.ex x3) (m2.ex x3) (by omega)⟩
end
end W

set_option Elab.async false
set_option linter.all false
set_option maxRecDepth 100000
set_option maxHeartbeats 4000000
/-! zip(a tuple, a list): made, walked; x in a list or a tuple of data, counts of data. -/
namespace G
open PySem PySem.Spec PyProof.Rows L2 Evl
abbrev zN1 (h : Heap) (l1 : Addr) : Heap := h.push { cls := .type "tuple_iterator", data := .fields #[.ref l1, .int 0 0] }
abbrev zN2 (h : Heap) (l1 l2 : Addr) : Heap := (zN1 h l1).push { cls := .type "list_iterator", data := .fields #[.ref l2, .int 0 0] }
abbrev zN3 (h : Heap) (l1 l2 : Addr) : Heap := (zN2 h l1 l2).push { cls := .type "tuple", data := .seq #[.ref h.objs.size, .ref (zN1 h l1).objs.size] }
abbrev zN4 (h : Heap) (l1 l2 : Addr) : Heap := (zN3 h l1 l2).push { cls := .type "tuple", data := .seq #[.none, .none] }
abbrev zN5 (h : Heap) (l1 l2 : Addr) : Heap := (zN4 h l1 l2).push { cls := .type "zip", data := .fields #[.none, .bool false, .bool false, .ref (zN2 h l1 l2).objs.size, .ref (zN3 h l1 l2).objs.size] }
theorem meets_zipN (l1 l2 : Addr) (xs ys : Array Value) :
    Meets (Builtin.«zip.__new__» ⟨[.type "zip", .ref l1, .ref l2], []⟩) (fun _ R s => s.heap.IsTuple l1 xs ∧ s.heap.IsList l2 ys ∧
      R (.ok (.ret (.ref (zN4 s.heap l1 l2).objs.size))) { s with heap := zN5 s.heap l1 l2 }) :=
  .of_wp fun prog w A R s h => by
    obtain ⟨hp, g, d, tk, os⟩ := s
    obtain ⟨q1, q2, h⟩ := h
    have hsub := sub_zip
    have r1 : Heap.IsTuple (Shared.heap ⟨hp, g, d, tk, os⟩) l1 xs := q1
    have r2 : Heap.IsList (Shared.heap ⟨hp.push { cls := .type "tuple_iterator", data := .fields #[.ref l1, .int 0 0] }, g, d, tk, os⟩) l2 ys := list_near q2 fun o e => Heap.get?_push_of_some _ e
    wp_walk using wpAny_pyIter_tuple r1, wpAny_pyIter_list r2
    exact ⟨_, rfl, h⟩
section
variable {prog : Program} {w : World} {A : Around} {E : Value → Shared → Prop} {s : Shared}
theorem call_zipN {l1 l2 : Addr} {xs ys : Array Value} {Q : Value → Shared → Prop} (q1 : s.heap.IsTuple l1 xs) (q2 : s.heap.IsList l2 ys)
    (h : ∀ h', IsZip h' (s.heap.objs.size + 4) (s.heap.objs.size + 2) (s.heap.objs.size + 3) .none → IsPair h' (s.heap.objs.size + 2) (.ref s.heap.objs.size) (.ref (s.heap.objs.size + 1)) →
      IsPair h' (s.heap.objs.size + 3) .none .none → h'.IsTupleIter s.heap.objs.size l1 0 → h'.IsListIter (s.heap.objs.size + 1) l2 0 → h'.objs.size = s.heap.objs.size + 5 →
      (∀ c o, s.heap.get? c = some o → h'.get? c = some o) → Q (.ref (s.heap.objs.size + 4)) { s with heap := h' }) :
    wpAny (model prog w) A (call (.type "zip") [.ref l1, .ref l2]) Q E s := by
  refine callType_new F.called_zip (by decide) (F.typeCall_zip_2 _ _) (F.newCall_zip_2 _ _) (fun obj => F.args_object_init_3 obj _ _) F.entry_zip_new
    (meets_zipN l1 l2 xs ys) ⟨q1, q2, ?_⟩
  have z1 : (zN1 s.heap l1).objs.size = s.heap.objs.size + 1 := Heap.size_push ..
  have z2 : (zN2 s.heap l1 l2).objs.size = s.heap.objs.size + 2 := by rw [Heap.size_push, z1]
  have z3 : (zN3 s.heap l1 l2).objs.size = s.heap.objs.size + 3 := by rw [Heap.size_push, z2]
  have z4 : (zN4 s.heap l1 l2).objs.size = s.heap.objs.size + 4 := by rw [Heap.size_push, z3]
  have z5 : (zN5 s.heap l1 l2).objs.size = s.heap.objs.size + 5 := by rw [Heap.size_push, z4]
  have g5 : (zN5 s.heap l1 l2).get? (zN4 s.heap l1 l2).objs.size = some _ := Heap.get?_push_size _ rfl
  have g4 : (zN5 s.heap l1 l2).get? (zN3 s.heap l1 l2).objs.size = some _ := Heap.get?_push_of_some _ (Heap.get?_push_size _ rfl)
  have g3 : (zN5 s.heap l1 l2).get? (zN2 s.heap l1 l2).objs.size = some _ := Heap.get?_push_of_some _ (Heap.get?_push_of_some _ (Heap.get?_push_size _ rfl))
  have g2 : (zN5 s.heap l1 l2).get? (zN1 s.heap l1).objs.size = some _ := Heap.get?_push_of_some _ (Heap.get?_push_of_some _ (Heap.get?_push_of_some _ (Heap.get?_push_size _ rfl)))
  have g1 : (zN5 s.heap l1 l2).get? s.heap.objs.size = some _ := Heap.get?_push_of_some _ (Heap.get?_push_of_some _ (Heap.get?_push_of_some _ (Heap.get?_push_of_some _ (Heap.get?_push_size _ rfl))))
  show _ ∧ _
  rw [z2, z3, z4] at g5
  rw [z1, z2] at g3
  rw [z3] at g4
  rw [z1] at g2
  rw [z4]
  exact ⟨⟨_, g5, rfl⟩, h _ g5 g3 g4 ⟨_, g1, rfl, rfl⟩ ⟨_, g2, rfl, rfl⟩ z5 fun c o x =>
    Heap.get?_push_of_some _ (Heap.get?_push_of_some _ (Heap.get?_push_of_some _ (Heap.get?_push_of_some _ (Heap.get?_push_of_some _ x))))⟩
end
/-- the tuple at a and the list at b as they stand at each turn, the items in new pairs -/
def Itn (K : PySem.W.Frag) (a b : Addr) : It :=
  ⟨fun i H => ∃ (xs ys : List V) (x y : V), SqT K H a xs ∧ SqL K H b ys ∧ xs[i]? = some x ∧ ys[i]? = some y,
    fun i H v H' => ∃ T x y, v = .ref T ∧ H T = none ∧ H' = upd H T (.tup [x, y]) ∧ (∀ xs, SqT K H a xs → xs[i]? = some x) ∧ ∀ ys, SqL K H b ys → ys[i]? = some y,
    fun i H => ∃ xs ys : List V, SqT K H a xs ∧ SqL K H b ys ∧ (xs.length ≤ i ∨ ys.length ≤ i)⟩
theorem turn_zipN {P : Program} {w : World} {K : PySem.W.Frag} {elts : List Expr} {kk : Nat} {tpos : Pos} {a b z TI TO i1 i2 : Addr} (D : ZipApart z TI TO i1 i2 a b) :
    Turn P w K (.Tuple elts kk tpos) (Itn K a b) [z, TI, TO, i1, i2] z (fun i h => IsZip h z TI TO .none ∧ IsPair h TI (.ref i1) (.ref i2) ∧ (∃ x y, IsPair h TO x y) ∧ h.IsTupleIter i1 a i ∧ h.IsListIter i2 b i) where
  mem := by simp
  obj := fun i h st c hc => by
    obtain ⟨hz, hTI, ⟨x, y, hTO⟩, ⟨o1, e1, _, d1⟩, ⟨o2, e2, _, d2⟩⟩ := st
    have e' : c = z ∨ c = TI ∨ c = TO ∨ c = i1 ∨ c = i2 := by simpa using hc
    rcases e' with q | q | q | q | q
    · rw [q]; exact ⟨_, hz, fun v q => nomatch q⟩
    · rw [q]; exact ⟨_, hTI, fun v q => nomatch q⟩
    · rw [q]; exact ⟨_, hTO, fun v q => nomatch q⟩
    · rw [q]; exact ⟨o1, e1, fun v q => by rw [d1] at q; cases q⟩
    · rw [q]; exact ⟨o2, e2, fun v q => by rw [d2] at q; cases q⟩
  keep := fun i h h' st k => by
    obtain ⟨hz, hTI, ⟨x, y, hTO⟩, h1, h2⟩ := st
    exact ⟨k z (by simp) _ hz, k TI (by simp) _ hTI, ⟨x, y, k TO (by simp) _ hTO⟩, h1.at fun o q => k i1 (by simp) o q, h2.at fun o q => k i2 (by simp) o q⟩
  item := by
    intro X hP hw hK hc i pins s σ H E I hf st hg
    subst hP hw hK
    obtain ⟨hz, hTI, ⟨x0, y0, hTO⟩, h1, h2⟩ := st
    obtain ⟨xs, ys, x, y, hqx, hqy, hx, hy⟩ := hg
    obtain ⟨its, rv, p, _⟩ := I.tuple hqx
    obtain ⟨its2, rv2, p2, _⟩ := I.list hqy
    obtain ⟨u, hu, ru⟩ := rv.get hx
    obtain ⟨u2, hu2, ru2⟩ := rv2.get hy
    have hzl : z < s.heap.objs.size := Heap.lt_size hz
    refine next_item D (sideT (xs := its.toArray) D.l1i1) (sideL (xs := its2.toArray) D.l2i2) hz hTI hTO ⟨h1, p⟩ ⟨h2, p2.isList⟩ (x := u) (y := u2) (by simpa using hu) (by simpa using hu2) fun h' z' TO' h1' h2' hT hsz hk => ?_
    refine ⟨_, rfl, wpAny_letOwnedTupleGo_zip (s := { s with heap := h' }) z' fun h'' z'' sb => ?_⟩
    have hT2 : h''.get? s.heap.objs.size = some { cls := .type "tuple", data := .seq #[u, u2] } := (sb.2 _ (Nat.ne_of_gt hzl)).trans hT
    have new : ObjOk X.prog X.w (upd H s.heap.objs.size (.tup [x, y])) h'' s.heap.objs.size (.tup [x, y]) :=
      ⟨by show 2 ≤ sizeLine; decide, [u, u2], .cons ru (.cons ru2 .nil), ⟨_, hT2, rfl, _, rfl⟩⟩
    have I1 : Inv X pins σ (upd H s.heap.objs.size (.tup [x, y])) { s with heap := h'' } :=
      I.turnedNew (t' := s.toks) (ch := [z, TI, TO, i1, i2]) (fun c o hb q => (sb.2 c (fun q' => hb (by simp [q']))).trans (hk c o (fun q' => hb (by simp [q'])) (fun q' => hb (by simp [q'])) (fun q' => hb (by simp [q'])) (fun q' => hb (by simp [q'])) q)) hf (Nat.le_refl _) new
    refine ⟨.ref s.heap.objs.size, _, I1, rfl, ⟨_, x, y, rfl, I.hok.fresh (Nat.le_refl _), rfl, fun l hl => by rw [I.tuple_inj hl hqx]; exact hx, fun l hl => by rw [I.list_inj hl hqy]; exact hy⟩, ⟨z'', ?_, ⟨u, u2, ?_⟩, ?_, ?_⟩, fun c hcm => ?_⟩
    · exact (sb.2 _ D.TIz).trans (hk _ _ D.TIz D.TITO D.TIi1 D.TIi2 hTI)
    · exact (sb.2 _ D.TOz).trans TO'
    · exact h1'.1.at fun o q => (sb.2 _ D.i1z).trans q
    · exact h2'.1.at fun o q => (sb.2 _ D.i2z).trans q
    · have hlt : c < s.heap.objs.size := by
        have e' : c = z ∨ c = TI ∨ c = TO ∨ c = i1 ∨ c = i2 := by simpa using hcm
        rcases e' with q | q | q | q | q
        · rw [q]; exact hzl
        · rw [q]; exact Heap.lt_size hTI
        · rw [q]; exact Heap.lt_size hTO
        · rw [q]; obtain ⟨_, e1, _⟩ := h1; exact Heap.lt_size e1
        · rw [q]; obtain ⟨_, e2, _⟩ := h2; exact Heap.lt_size e2
      rw [upd_ne (Nat.ne_of_lt hlt)]
      exact (hf c hcm).1
  done := by
    intro X hP hw hK hc i pins s σ H E I hf st hg
    subst hP hw hK
    obtain ⟨hz, hTI, ⟨x0, y0, hTO⟩, h1, h2⟩ := st
    obtain ⟨xs, ys, hqx, hqy, hend⟩ := hg
    obtain ⟨its, rv, p, _⟩ := I.tuple hqx
    obtain ⟨its2, rv2, p2, _⟩ := I.list hqy
    have l1 := rv.length
    have l2 := rv2.length
    have he : its.toArray[i]? = none ∨ its2.toArray[i]? = none := by
      rcases hend with q | q
      · exact .inl (by simp; omega)
      · exact .inr (by simp; omega)
    exact next_end (I.ok.hd hc) D (sideT (xs := its.toArray) D.l1i1) (sideL (xs := its2.toArray) D.l2i2) hz hTI hTO ⟨h1, p⟩ ⟨h2, p2.isList⟩ he fun h' hk => ⟨rfl, I.turnedL (t' := s.toks) (ch := [z, TI, TO, i1, i2]) (fun c o hb q =>
      hk c o (fun q' => hb (by simp [q'])) (fun q' => hb (by simp [q'])) (fun q' => hb (by simp [q'])) (fun q' => hb (by simp [q'])) q) hf⟩
  self := fun A i s Q E st h => wpAny_pyIter_zip st.1 h
def iZipN (K : PySem.W.Frag) (ta : TA) : TI := fun σ H R => ta σ H fun vs H1 => ∃ a b xs ys, vs = [.ref a, .ref b] ∧ SqT K H1 a xs ∧ SqL K H1 b ys ∧ R (Itn K a b) H1
theorem pi_zipN {X : Cx} {e e2 : Expr} {ta : TA} {p pos tpos : Pos} {elts : List Expr} {kk : Nat} {K : PySem.W.Frag} (hK : X.K = K) (hg : Gl X "zip") (hm : X.mg "zip" = none) (ha : PA X [e, e2] ta)
    (hs : starEach [e, e2] X.env = (false, eval e X.env) :: starEach [e2] X.env := by rfl) (hpl : (backTo pos (starEach [e2] X.env)).any (·.1) = false := by rfl) :
    PI X (.Tuple elts kk tpos) (.Call (.Name "zip" p) [e, e2] [] pos) (iZipN K ta) := by
  subst hK
  refine ⟨fun pins s σ H R I h => ?_⟩
  refine Call_ (ld_blt I hg hm PyProof.Rows.boot_zip (PyProof.Rows.callWith_type1 (thn (ha.run pos pins s σ H _ I h) fun us s1 ⟨vs, H1, I1, r1, q1⟩ => ?_) hs hpl))
  obtain ⟨a, b, xs, ys, ex, hqx, hqy, q⟩ := q1
  subst ex
  cases r1 with
  | cons r rr =>
    cases rr with
    | cons r' rr =>
      cases rr
      cases r
      cases r'
      obtain ⟨its, rv, p1, _⟩ := I1.tuple hqx
      obtain ⟨its2, rv2, p2, _⟩ := I1.list hqy
      obtain ⟨o2, ho2, _⟩ := id p1
      have la : a < s1.heap.objs.size := Heap.lt_size ho2
      have lb : b < s1.heap.objs.size := p2.lt
      refine call_zipN (show s1.heap.IsTuple a its.toArray from p1) p2.isList fun h' hz hTI hTO h1 h2 hsz hk => wpAny_pyIter_zip hz ?_
      have I2 : Inv X pins σ H1 { s1 with heap := h' } := I1.kept (t' := s1.toks) hk
      refine ⟨s1.heap.objs.size + 4, [s1.heap.objs.size + 4, s1.heap.objs.size + 2, s1.heap.objs.size + 3, s1.heap.objs.size, s1.heap.objs.size + 1], _, _, H1, rfl, I2, turn_zipN (by have := PySem.W.ktu_apart s1.heap.objs.size a b la lb; exact this), ⟨hz, hTI, ⟨_, _, hTO⟩, h1, h2⟩, fun c hcm => ?_, q⟩
      have e' : c = s1.heap.objs.size + 4 ∨ c = s1.heap.objs.size + 2 ∨ c = s1.heap.objs.size + 3 ∨ c = s1.heap.objs.size ∨ c = s1.heap.objs.size + 1 := by simpa using hcm
      have hle : s1.heap.objs.size ≤ c := by
        rcases e' with z | z | z | z | z
        · rw [z]; exact Nat.le_add_right _ _
        · rw [z]; exact Nat.le_add_right _ _
        · rw [z]; exact Nat.le_add_right _ _
        · rw [z]; exact Nat.le_refl _
        · rw [z]; exact Nat.le_add_right _ _
      exact I1.fpOk hle (I1.hok.fresh hle)
/-- one of two -/
theorem walk_zipN {K : PySem.W.Frag} {a b : Addr} {xs ys : List V} {n : Nat} (h1 : xs.length = n) (h2 : ys.length = n) :
    Walk (Itn K a b) n (fun H => SqT K H a xs ∧ SqL K H b ys) (YPair (fun i => xs[i]?) (fun i => ys[i]?)) := by
  refine ⟨fun i _ hi q => ?_, fun _ q => ⟨xs, ys, q.1, q.2, .inl (by omega)⟩, fun i H v H' _ q y => ?_⟩
  · have l1 : i < xs.length := by omega
    have l2 : i < ys.length := by omega
    exact ⟨xs, ys, xs[i], ys[i], q.1, q.2, by simp [l1], by simp [l2]⟩
  · obtain ⟨T, x, z, h1, h2, h3, h4, h5⟩ := y
    exact ⟨T, x, z, h1, h2, h3, h4 xs q.1, h5 ys q.2⟩
/-! ### a datum in a list or a tuple of data; how often it stands there -/
def sqB (b : Bool) (ds : List PyData) : PyData := cond b (.tuple ds) (.list ds)
def rInB (K : PySem.W.Frag) (neg : Bool) : R2 := fun x y H Q => ∃ d b ds, Dp K H x d ∧ Dp K H y (sqB b ds) ∧ SeqAt.shaped d = true ∧ SeqAt.shaped (sqB b ds) = true ∧ Q (.bl (neg ^^ ds.any fun z => PyData.eqv z d)) H
theorem op_inB {X : Cx} {K : PySem.W.Frag} (hu : X.A.units + 65 < cLine) (hK : X.K = K := by rfl) : OpR X (compareOp .In) (rInB K false) := by
  subst hK
  intro pins s σ H x y v u Q I rx ry h
  obtain ⟨d, b, ds, hd, he, sd, se, q⟩ := h
  obtain ⟨as, r1⟩ := Dp.reads I d x v hd rx
  obtain ⟨bs, r2⟩ := Dp.reads I (sqB b ds) y u he ry
  cases b
  · exact SeqAt.in_list_reads r2 r1 (SeqAt.canLay_of_shaped se) (SeqAt.canLay_of_shaped sd) (room_in_shaped sd hu) ⟨.bl _, H, I, rfl, by simpa using q⟩
  · exact SeqAt.in_tuple_reads r2 r1 (SeqAt.canLay_of_shaped se) (SeqAt.canLay_of_shaped sd) (room_in_shaped sd hu) ⟨.bl _, H, I, rfl, by simpa using q⟩
theorem op_ninB {X : Cx} {K : PySem.W.Frag} (hu : X.A.units + 65 < cLine) (hK : X.K = K := by rfl) : OpR X (compareOp .NotIn) (rInB K true) := by
  subst hK
  intro pins s σ H x y v u Q I rx ry h
  obtain ⟨d, b, ds, hd, he, sd, se, q⟩ := h
  obtain ⟨as, r1⟩ := Dp.reads I d x v hd rx
  obtain ⟨bs, r2⟩ := Dp.reads I (sqB b ds) y u he ry
  cases b
  · exact SeqAt.notIn_list_reads r2 r1 (SeqAt.canLay_of_shaped se) (SeqAt.canLay_of_shaped sd) (room_in_shaped sd hu) ⟨.bl _, H, I, rfl, by simpa using q⟩
  · exact SeqAt.notIn_tuple_reads r2 r1 (SeqAt.canLay_of_shaped se) (SeqAt.canLay_of_shaped sd) (room_in_shaped sd hu) ⟨.bl _, H, I, rfl, by simpa using q⟩
end G

set_option Elab.async false
set_option linter.all false
set_option maxRecDepth 100000
set_option maxHeartbeats 4000000
/-! Dicts with tuples as keys: {t: v}, sorted(d), dict(pairs); tuple(a list), held with its object; xs.count(x). -/
namespace G
open PySem PySem.Spec PyProof.Rows L2 Evl
section
variable {X : Cx}
/-! ### {t: v} -/
def tDispT (tk tv : TE) : TE := fun σ H Q => ∀ p, H p = none → tk σ (upd H p (.dT [])) fun x H1 => tv σ H1 fun y H2 => ∃ (b : Addr) (key : List Key), x = .ref b ∧ H2 p = some (.dT []) ∧ H2 b = some (.tup (key.map kV)) ∧ Q (.ref p) (upd H2 p (.dT [(key, y)]))
theorem pe_dispT {k v : Expr} {pos : Pos} {tk tv : TE} (hu : X.A.units + 1 < cLine) (hk : PE X k tk) (hv : PE X v tv) : PE X (.Dict [some k] [v] pos) (tDispT tk tv) := by
  refine ⟨fun pins s σ H Q I q => ?_⟩
  have hn := I.hok.fresh (Nat.le_refl s.heap.objs.size)
  have I1 := I.laid (a := s.heap.objs.size) (o := .dT []) (h' := s.heap.push { cls := .type "dict", data := .dict #[] }) (t' := s.toks) (fun _ _ q => Heap.get?_push_of_some _ q) (Nat.le_refl _) (dt_empty s.heap I.big)
  refine wpAny_Dict_any rfl rfl (by simp) (by show 1 ≤ 15; omega) (pairTrees_cons_walk (thn (hk.run pins _ σ _ _ I1 (q _ hn)) fun u s1 ⟨x, H1, J1, rx, q1⟩ => thn (hv.run pins s1 σ H1 _ J1 q1) fun w2 s2 ⟨y, H2, I2, ry, b, key, ex, hp, hb, q2⟩ => pairTrees_nil_walk ?_))
  subst ex
  cases rx
  obtain ⟨z, hd, xs, rel, dd⟩ := dt_of I2.hok hp
  unfold storeAll
  rw [List.forIn_cons]
  refine wpAny_bind (wpAny_bind (wpAny_dictSet_heap (hsz := by rw [← Paired.length rel]; exact z) (knd := tupleKind (mixKind X.prog X.w)) (show X.A.units < cLine by omega) (key_of I2.hok hb) dd fun h' dd' hs => wpAny_pure ?_))
  show wpAny _ _ (forIn [] PUnit.unit _) _ _ _
  rw [List.forIn_nil]
  refine wpAny_pure ⟨.ref s.heap.objs.size, _, ?_, rfl, q2⟩
  obtain ⟨q', es, ep, hq, h2, h3, h4, _, h5⟩ := dd'
  refine d_write I2 (by rw [hp]; exact True.intro) hs ⟨q', hq⟩ (t' := _) ⟨by show 1 ≤ sizeLine; decide, hd, _, (KT.put rel key hb ry).keeps fun c ys ec => ?_, q', es, ep, hq, h2, h3, h4, h5⟩
  rw [upd_ne (ne_of ec hp (fun z => nomatch z))]
  exact ec
/-! ### tuple(a list), with its object -/
theorem cr_tupF {K : PySem.W.Frag} (hK : X.K = K := by rfl) : CallR X (.type "tuple") (fun xs H Q => ∃ p ys, xs = [.ref p] ∧ SqL K H p ys ∧ ∀ (l : Addr) (o : Obj), H l = none → o.dict = none → Q (.ref l) (upd H l (.frz o (.tup ys)))) := by
  subst hK
  intro pins s σ H xs us Q I r h
  obtain ⟨p, ys, rfl, hq, q⟩ := h
  obtain ⟨u, rfl, rx⟩ := vals1 r
  cases rx
  obtain ⟨its, r', pl, hz⟩ := I.list hq
  have hlen := r'.length
  refine call_tuple_list pl.isList (fun h' kp => ?_) (by simp only [List.size_toArray] <;> omega)
  have I1 : Inv X pins σ H { s with heap := h' } := I.kept (t' := s.toks) kp
  have I2 : Inv X pins σ (upd H h'.objs.size (.frz { cls := .type "tuple", data := .seq its.toArray } (.tup ys))) { s with heap := h'.push { cls := .type "tuple", data := .seq its.toArray } } :=
    I1.laid (t' := s.toks) (fun b o e => Heap.get?_push_of_some _ e) (Nat.le_refl _) (show ObjOk X.prog X.w _ _ _ (.frz _ (.tup ys)) from ⟨Heap.get?_push_size _ rfl, hz, its, r', IsTup.new _ _⟩)
  exact ⟨.ref h'.objs.size, _, I2, rfl, q _ _ (I1.hok.fresh (Nat.le_refl _)) rfl⟩
/-! ### xs.count(x) -/
def tCnt (K : PySem.W.Frag) (to : TE) (t : TA) : TE := fun σ H Q => to σ H fun x H1 => ∃ (a : Addr) (b : Bool) (ds : List PyData), x = .ref a ∧ Dp K H1 (.ref a) (sqB b ds) ∧ (b = true → ∃ o u, H1 a = some (.frz o u) ∧ o.dict = none) ∧ SeqAt.shaped (sqB b ds) = true ∧
  t σ H1 fun vs H2 => ∃ y d, vs = [y] ∧ Dp K H2 (.ref a) (sqB b ds) ∧ Dp K H2 y d ∧ SeqAt.shaped d = true ∧ Q (.int ((ds.countP fun z => PyData.eqv z d : Nat) : Int)) H2
theorem count_data {s : Shared} {vs : Array Value} {xs : List PyData} {as : List Addr} {d : PyData} (rs : ReadsAll s.heap vs.toList xs as) (hxs : PyData.canLayAll0 xs = true) :
    vs.toList.countP (fun y => PyData.eqv (SeqAt.readOf s.heap y) d) = xs.countP (fun y => PyData.eqv y d) := by
  rw [← SeqAt.readsAll_map xs _ _ hxs rs, List.countP_map]
  rfl
theorem pe_cnt {K : PySem.W.Frag} {o e : Expr} {apos cpos : Pos} {to : TE} {t : TA} (hu : X.A.units + 65 < cLine) (ho : PE X o to) (ha : PA X [e] t) (hK : X.K = K := by rfl)
    (hbase : attributeBase o "count" X.env (eval o X.env) = eval o X.env := by rfl)
    (hfew : ((backTo cpos (starEach [e] X.env)).all (fun x => !x.1) && (backToKw cpos (keywordEach [] X.env)).all (fun x => x.1.isSome)
      && decide (([e] : List Expr).length + ([] : List Keyword).length + (if ([] : List Keyword).isEmpty then 0 else 1) < 30)) = true := by rfl)
    (hline : (apos.endLine == cpos.line) = true := by rfl) (hs : starEach [e] X.env = (false, eval e X.env) :: starEach [] X.env := by rfl) (hplain : (backTo cpos (starEach [] X.env)).any (·.1) = false := by rfl) :
    PE X (.Call (.Attribute o "count" apos) [e] [] cpos) (tCnt K to t) := by
  subst hK
  refine ⟨fun pins s σ H Q I h => ?_⟩
  refine wpAny_Call_method_late hbase hfew hline rfl (thn (ho.run pins s σ H _ I h) fun v s1 ⟨x, H1, I1, r1, a, b, ds, ex, hda, hfr, se, q1⟩ => ?_)
  subst ex
  cases r1
  have hA := ha.run cpos pins s1 σ H1 _ I1 q1
  rw [hs] at hA ⊢
  cases b with
  | false =>
    have hty : s1.TypeIs (.ref a) "list" ∧ ∀ c, Value.ref a = .ref c → ∃ ob, s1.heap.get? c = some ob ∧ ob.dict = none := by
      cases (show Dp X.K H1 (.ref a) (.list ds) from hda) with
      | lst hq _ => exact tyV_is (T := "list") (x := .ref a) I1 rfl (.inl ⟨rfl, _, hq⟩)
    refine ⟨"list", "list.count", PySem.F.plainAttrs_list, PySem.F.slot_list_count, PySem.F.type_list_count, hty.1, hty.2, ?_⟩
    refine Calls.callWith_builtin (by show (false || (backTo cpos (starEach [] X.env)).any (·.1)) = false; rw [hplain] <;> rfl) (Calls.evalArgs_plain ?_)
    refine thn hA fun us s2 ⟨vs, H2, I2, r2, y, d, ev, hd2, hy, sd, q2⟩ => ?_
    subst ev
    obtain ⟨uy, eu, ry⟩ := r2.one
    subst eu
    obtain ⟨bs, rx⟩ := Dp.reads I2 d y uy hy ry
    obtain ⟨as, rc⟩ := Dp.reads I2 (.list ds) (.ref a) (.ref a) hd2 rfl
    cases rc with
    | @list _ o vs' n _ _ h1 h2 h3 h4 =>
      obtain ⟨cls, dd, dat, sl⟩ := o
      simp only at h2 h3
      subst h2 h3
      have hl := SeqAt.canLay_of_shaped se
      refine call_meets PySem.F.slot_list_count ⟨_, h1, rfl⟩ PySem.F.entry_list_count (PySem.F.args_list_count_2 _ _) (SeqAt.list_countAt a vs' n dd sl uy (fun u => PyData.eqv (SeqAt.readOf s2.heap u) d)) ⟨h1, SeqAt.items_eqAt h4 rx hl (SeqAt.canLay_of_shaped sd) (room_in_shaped sd hu), ?_⟩
      rw [count_data h4 hl]
      exact ⟨.int _, H2, I2.tok _, ⟨_, rfl⟩, q2⟩
  | true =>
    obtain ⟨ob, uo, hfz, hod⟩ := hfr rfl
    obtain ⟨eo, _⟩ := (show ObjOk X.prog X.w H1 s1.heap a (.frz ob uo) from I1.hok a _ hfz)
    have hty : s1.TypeIs (.ref a) "tuple" := by
      cases (show Dp X.K H1 (.ref a) (.tuple ds) from hda) with
      | tup hq _ =>
        obtain ⟨_, _, p, _⟩ := I1.tuple hq
        exact IsTup.typeIs p
    refine ⟨"tuple", "tuple.count", PySem.F.plainAttrs_tuple, PySem.F.slot_tuple_count, PySem.F.type_tuple_count, hty, fun c e => (by cases e; exact ⟨ob, eo, hod⟩), ?_⟩
    refine Calls.callWith_builtin (by show (false || (backTo cpos (starEach [] X.env)).any (·.1)) = false; rw [hplain] <;> rfl) (Calls.evalArgs_plain ?_)
    refine thn hA fun us s2 ⟨vs, H2, I2, r2, y, d, ev, hd2, hy, sd, q2⟩ => ?_
    subst ev
    obtain ⟨uy, eu, ry⟩ := r2.one
    subst eu
    obtain ⟨bs, rx⟩ := Dp.reads I2 d y uy hy ry
    obtain ⟨as, rc⟩ := Dp.reads I2 (.tuple ds) (.ref a) (.ref a) hd2 rfl
    cases rc with
    | @tuple _ o vs' n _ _ h1 h2 h3 h4 =>
      obtain ⟨cls, dd, dat, sl⟩ := o
      simp only at h2 h3
      subst h2 h3
      have hl := SeqAt.canLay_of_shaped se
      refine call_meets PySem.F.slot_tuple_count ⟨_, h1, rfl⟩ PySem.F.entry_tuple_count (PySem.F.args_tuple_count_2 _ _) (SeqAt.tuple_countAt a vs' n dd sl uy (fun u => PyData.eqv (SeqAt.readOf s2.heap u) d)) ⟨h1, SeqAt.items_eqAt h4 rx hl (SeqAt.canLay_of_shaped sd) (room_in_shaped sd hu), ?_⟩
      rw [count_data h4 hl]
      exact ⟨.int _, H2, I2.tok _, ⟨_, rfl⟩, q2⟩
/-! ### sorted(d): its keys -/
def rSrtDT (K : PySem.W.Frag) : List V → Hp → VK → Prop := fun vs H Q => ∃ (d : Addr) (kvs : List (List Key × V)), vs = [.ref d] ∧ Rd H d (.dT kvs) ∧ kvs.length ≤ 1000 ∧ PySem.W.AllAlike (kvs.map fun p => keysD p.1) ∧ PySem.W.Sortable (kvs.map fun p => keysD p.1) ∧ (∀ p ∈ kvs, (keysD p.1).depth ≤ 50) ∧
  ∀ (p : Addr) (bs : List Addr), H p = none → IsKeys H kvs bs → Q (.ref p) (upd H p (.lst ((srt (bs.map V.ref) (kvs.map fun p => keysD p.1)).map Prod.fst)))
theorem keys_reads {pins : List (Addr × Obj)} {σ : L2.St} {H : Hp} {s : Shared} (I : Inv X pins σ H s) : ∀ {kvs : List (List Key × V)} {bs : List Addr}, IsKeys H kvs bs →
    PySem.W.EachIs (fun v (p : V × PyData) => RelV p.1 v ∧ ∃ as, Reads s.heap v p.2 as ∧ as = []) (bs.map Value.ref) ((bs.map V.ref).zip (kvs.map fun p => keysD p.1))
  | [], _, r => by
    cases r
    exact .nil
  | p :: kvs, _, r => by
    cases r with
    | cons h t =>
      refine .cons ⟨rfl, ?_⟩ (keys_reads I t)
      obtain ⟨_, its, rv, o, ho, hc, n, hd⟩ := (show ObjOk X.prog X.w H s.heap _ (.tup _) from I.hok _ _ h)
      exact ⟨[], .tuple ho hc hd (keyDs_rd I rv).to, rfl⟩
theorem cr_srtDT {K : PySem.W.Frag} (hcalm : X.calm = true) (hu : X.A.units + 64 < cLine) (hK : X.K = K := by rfl) : CallR X (.builtin "sorted") (rSrtDT K) := by
  subst hK
  intro pins s σ H xs us Q I r h
  obtain ⟨d, kvs, rfl, hd, h1000, hal, hk, hdep, q⟩ := h
  obtain ⟨u, rfl, rx⟩ := r.one
  cases rx
  obtain ⟨z, hs, ks, pr, o, es, ep, ho, hx, hdt, he, hn⟩ := (show ObjOk X.prog X.w H s.heap d (.dT kvs) from hd.ok I.hok)
  have l1 : es.size = ks.length := size_of_entries he
  have l2 : kvs.length = ks.length := Paired.length pr
  have sz : (1000 : Nat) ≤ sizeLine := by decide
  refine Calls.call_function_entry PyProof.Rows.kind_sorted PyProof.Rows.plain_sorted PyProof.Rows.entry_sorted (PyProof.Rows.args_sorted1 _) ?_
  unfold Builtin.«sorted»
  refine wpAny_bind (m := checkCount "sorted" 1 1 _) (wpAny_pure ?_)
  refine wpAny_bind (PySem.W.kdu_collect (A := X.A.in1) (kdl_raw hs hx hdt) (I.ok.hd hcalm) ho (by omega) fun h' tk acc hk' hacc => ?_)
  have ea : acc.toList = ks.map fun x => Value.ref x.2.1 := by
    have hl : acc.toList.length = ks.length := by rw [Array.length_toList, hacc.1]; exact l1
    apply List.ext_getElem?
    intro j
    rw [List.getElem?_map]
    cases hj : acc.toList[j]? with
    | none =>
      have h1 := List.getElem?_eq_none_iff.mp hj
      rw [List.getElem?_eq_none (by omega)]
      all_goals rfl
    | some v =>
      obtain ⟨en, hen, hv⟩ := hacc.2 j v (by rw [← Array.getElem?_toList]; exact hj)
      have qe := entry_at he j
      rw [hen] at qe
      cases hb : ks[j]? with
      | none =>
        rw [hb] at qe
        exact nomatch (show some en = none from qe)
      | some b =>
        rw [hb] at qe
        have e2 : en = entryOfKey (tupleKind (mixKind X.prog X.w)) b := Option.some.inj qe
        rw [hv, e2]
        all_goals rfl
  have eb : acc.toList = (ks.map fun x => x.2.1).map Value.ref := by rw [ea, List.map_map]; all_goals rfl
  have I1 : Inv X pins σ H { s with heap := h', toks := tk } := I.kept hk'
  have IK : IsKeys H kvs (ks.map fun x => x.2.1) := isKeys_of pr
  have hbl : (ks.map fun x => x.2.1).length = kvs.length := by rw [List.length_map]; exact l2.symm
  generalize (ks.map fun x => x.2.1) = bs at eb IK hbl
  rw [eb]
  refine wpAny_bind (wpAny_newList ?_ (by rw [List.length_map]; omega))
  have hoL : (h'.push (seqObj "list" (bs.map Value.ref).toArray 0)).get? h'.objs.size = some (seqObj "list" (bs.map Value.ref).toArray 0) := Heap.get?_push_size _ rfl
  have I2 : Inv X pins σ (upd H h'.objs.size (.lst (bs.map V.ref))) { s with heap := h'.push (seqObj "list" (bs.map Value.ref).toArray 0), toks := tk } :=
    I1.laid (t' := tk) (fun b u e => Heap.get?_push_of_some _ e) (Nat.le_refl _) (show ObjOk X.prog X.w _ _ _ (.lst (bs.map V.ref)) from ⟨by rw [List.length_map]; omega, bs.map Value.ref, 0, vals_refs bs, hoL⟩)
  have fr := I1.hok.fresh (Nat.le_refl h'.objs.size)
  have IK2 : IsKeys (upd H h'.objs.size (.lst (bs.map V.ref))) kvs bs := by
    refine Paired.mono (fun p b (hb : H b = some _) => ?_) IK
    show upd H h'.objs.size _ b = _
    rw [upd_ne (ne_of_none hb fr)]
    exact hb
  have ee := keys_reads I2 IK2
  have e1 : PySem.W.EachIs (fun v (p : V × PyData) => RelV p.1 v) (bs.map Value.ref) ((bs.map V.ref).zip (kvs.map fun p => keysD p.1)) := ee.mono fun _ _ z => z.1
  have er : PySem.W.EachIs (fun v (p : V × PyData) => ∃ as, Reads (h'.push (seqObj "list" (bs.map Value.ref).toArray 0)) v p.2 as ∧ h'.objs.size ∉ as) (bs.map Value.ref) ((bs.map V.ref).zip (kvs.map fun p => keysD p.1)) := ee.mono fun _ _ ⟨_, as, r, e⟩ => ⟨as, r, by rw [e]; simp⟩
  have zs : ((bs.map V.ref).zip (kvs.map fun p => keysD p.1)).map Prod.snd = kvs.map fun p => keysD p.1 := by
    rw [List.map_snd_zip (by rw [List.length_map, List.length_map]; omega)]
  show wpAny _ _ _ _ _ { s with heap := h'.push (seqObj "list" (bs.map Value.ref).toArray 0), toks := tk }
  refine wpAny_bind (wpAny_holding (PySem.W.list_sort_data (R := fun v (p : V × PyData) => RelV p.1 v) (bs := (bs.map V.ref).zip (kvs.map fun p => keysD p.1)) (enc := Prod.snd) (s := { s with heap := h'.push (seqObj "list" (bs.map Value.ref).toArray 0), toks := tk }) hoL e1 er (by rw [zs]; exact hal) (by rw [zs]; exact hk) (by rw [List.length_zip, List.length_map, List.length_map]; omega) (fun p hp => ?_) fun out hlo ho' => ?_))
  · have hm : p.2 ∈ kvs.map fun p => keysD p.1 := by rw [← zs]; exact List.mem_map.mpr ⟨p, hp, rfl⟩
    obtain ⟨p', hp', e⟩ := List.mem_map.mp hm
    have := hdep p' hp'
    rw [← e]
    show X.A.units + 1 + 1 + _ < cLine
    have e' : (keysD p'.1).depth ≤ 50 := this
    have : (fun p : List Key × V => keysD p.1) p' = keysD p'.1 := rfl
    omega
  · obtain ⟨e', he'⟩ := PyProof.Rows.sortedHeap_at (vs := bs.map Value.ref) (out := out.toArray) hoL
    have vo : Vals ((srt (bs.map V.ref) (kvs.map fun p => keysD p.1)).map Prod.fst) out := each_vals ho'
    have hlen : ((srt (bs.map V.ref) (kvs.map fun p => keysD p.1)).map Prod.fst).length ≤ sizeLine := by
      rw [List.length_map, (srt_perm _ _).length_eq, List.length_zip, List.length_map, List.length_map]
      omega
    refine wpAny_pure ⟨_, rfl, .ref h'.objs.size, upd H h'.objs.size (.lst ((srt (bs.map V.ref) (kvs.map fun p => keysD p.1)).map Prod.fst)), I1.laid (t' := tk) (fun b u e => ?_) (Nat.le_refl _)
      (show ObjOk X.prog X.w _ _ _ (.lst ((srt (bs.map V.ref) (kvs.map fun p => keysD p.1)).map Prod.fst)) from ⟨hlen, out, e', vo, by simpa using he'⟩), rfl, q _ bs fr IK⟩
    have hb : b < h'.objs.size := Heap.lt_size e
    rw [PyProof.Rows.sortedHeap_old (Nat.ne_of_lt hb) (by rw [size_push']; exact Nat.lt_succ_of_lt hb)]
    exact Heap.get?_push_of_some _ e
/-! ### dict(a list of pairs), tuples as keys -/
theorem putT_fold (H : Hp) : ∀ {ks : List (List Key × V)} {ps : List (List Key × Addr × Value)} {kvs : List (List Key × V)} {xs : List (List Key × Addr × Value)},
    Paired (fun (p : List Key × V) (q : List Key × Addr × Value) => p.1 = q.1 ∧ H q.2.1 = some (.tup (p.1.map kV)) ∧ RelV p.2 q.2.2) ks ps → KT H kvs xs → KT H (ks.foldl (fun acc kv => putK acc kv.1 kv.2) kvs) (storedAllH xs ps)
  | [], _, _, _, r, t => by
    cases r
    exact t
  | p :: ks, _, kvs, xs, r, t => by
    cases r with
    | @cons _ q _ ps h r' =>
      obtain ⟨h1, h2, h3⟩ := h
      have := KT.put t p.1 h2 h3
      obtain ⟨k, b, v⟩ := q
      have h1 : p.1 = k := h1
      subst h1
      show KT H (ks.foldl (fun acc kv => putK acc kv.1 kv.2) (putK kvs p.1 p.2)) (storedAllH (storedH xs p.1 b v) ps)
      exact putT_fold H r' this
theorem trip_of {pins : List (Addr × Obj)} {σ : L2.St} {H : Hp} {s : Shared} (I : Inv X pins σ H s) : ∀ {qs : List (Addr × Addr)} {kvs : List (List Key × V)},
    Paired (fun (q : Addr × Addr) (p : List Key × V) => H q.1 = some (.tup [.ref q.2, p.2]) ∧ H q.2 = some (.tup (p.1.map kV))) qs kvs →
    ∃ prs : List (List Key × Addr × Value), Paired (fun (p : List Key × V) (q : List Key × Addr × Value) => p.1 = q.1 ∧ H q.2.1 = some (.tup (p.1.map kV)) ∧ RelV p.2 q.2.2) kvs prs ∧ prs.length = qs.length ∧
      ∀ (j : Nat) (q' : List Key × Addr × Value), prs[j]? = some q' → ∃ T, qs[j]? = some (T, q'.2.1) ∧ IsTup s.heap T #[.ref q'.2.1, q'.2.2] ∧ (tupleKind (mixKind X.prog X.w)).is s.heap q'.1 q'.2.1
  | _, _, .nil => ⟨[], .nil, rfl, fun j q e => by simp at e⟩
  | _, _, .cons (a := q) (b := p) h t => by
    obtain ⟨prs, r, hl, hp⟩ := trip_of I t
    obtain ⟨_, its, rv, tp⟩ := (show ObjOk X.prog X.w H s.heap _ (.tup _) from I.hok _ _ h.1)
    obtain ⟨u, y, rfl, ru, ry⟩ := vals2 rv
    cases ru
    refine ⟨(p.1, q.2, y) :: prs, .cons ⟨rfl, h.2, ry⟩ r, by rw [List.length_cons, List.length_cons, hl], fun j q' e => ?_⟩
    cases j with
    | zero =>
      have e' : (p.1, q.2, y) = q' := Option.some.inj e
      subst e'
      exact ⟨q.1, rfl, tp, key_of I.hok h.2⟩
    | succ j =>
      obtain ⟨T, e1, e2, e3⟩ := hp j q' (by simpa using e)
      exact ⟨T, by simpa using e1, e2, e3⟩
def rDictT (K : PySem.W.Frag) : List V → Hp → VK → Prop := fun vs H Q => ∃ (a : Addr) (qs : List (Addr × Addr)) (kvs : List (List Key × V)), vs = [.ref a] ∧ SqL K H a (qs.map fun q => V.ref q.1) ∧
  Paired (fun (q : Addr × Addr) (p : List Key × V) => H q.1 = some (.tup [.ref q.2, p.2]) ∧ H q.2 = some (.tup (p.1.map kV))) qs kvs ∧ ∀ p, H p = none → Q (.ref p) (upd H p (.dT (kvs.foldl (fun acc kv => putK acc kv.1 kv.2) [])))
theorem refs_atQ : ∀ {qs : List (Addr × Addr)} {us : List Value}, Vals (qs.map fun q => V.ref q.1) us → us = qs.map fun q => Value.ref q.1
  | [], us, r => by
    cases r
    rfl
  | p :: ps, us, r => by
    cases r with
    | cons h t =>
      cases h
      rw [List.map_cons, ← refs_atQ t]
theorem foldT_len : ∀ (more kvs : List (List Key × V)), (more.foldl (fun acc kv => putK acc kv.1 kv.2) kvs).length ≤ kvs.length + more.length
  | [], kvs => by show kvs.length ≤ kvs.length + 0; omega
  | p :: r, kvs => by
    have h1 := foldT_len r (putK kvs p.1 p.2)
    have h2 := length_putK kvs p.1 p.2
    show (r.foldl _ (putK kvs p.1 p.2)).length ≤ _
    rw [List.length_cons]; omega
theorem cr_dictT {K : PySem.W.Frag} (hcalm : X.calm = true) (hu : X.A.units + 64 < cLine) (hK : X.K = K := by rfl) : CallR X (.type "dict") (rDictT K) := by
  subst hK
  intro pins s σ H xs us Q I r q
  obtain ⟨a, qs, kvs, rfl, hq, hp, q⟩ := q
  obtain ⟨u, rfl, rx⟩ := r.one
  cases rx
  obtain ⟨its, rv, pl, hz⟩ := I.list hq
  have ei := refs_atQ rv
  subst ei
  rw [List.length_map] at hz
  obtain ⟨prs, rel, hl, hpr⟩ := trip_of I hp
  obtain ⟨o, n, ho, hc, hd, hdat⟩ := pl
  have lk : kvs.length = prs.length := Paired.length rel
  have gt : ∀ {T b : Addr} {j : Nat}, qs[j]? = some (T, b) → (qs.map (·.1)).getD j 0 = T := fun {T b j} e => by
    rw [List.getD_eq_getElem?_getD, List.getElem?_map, e]
    rfl
  have PI : PairItems s.heap (qs.map fun q => Value.ref q.1).toArray (fun j => (qs.map (·.1)).getD j 0) (prs.map fun q => (Value.ref q.2.1, q.2.2)) := by
    refine ⟨by simp [hl], fun j k v e => ?_⟩
    rw [List.getElem?_map] at e
    cases e2 : prs[j]? with
    | none => rw [e2] at e; cases e
    | some q' =>
      rw [e2] at e
      have e : (Value.ref q'.2.1, q'.2.2) = (k, v) := Option.some.inj e
      cases e
      obtain ⟨T, e3, e4, _⟩ := hpr j q' e2
      refine ⟨?_, .inl ?_⟩
      · rw [List.getElem?_toArray, List.getElem?_map, e3]
        show _ = some (Value.ref ((qs.map (·.1)).getD j 0))
        rw [gt e3]
        rfl
      · show s.heap.IsTuple ((qs.map (·.1)).getD j 0) _
        rw [gt e3]
        exact e4
  refine PySem.call_dict_pairsH (K := List Key) (knd := tupleKind (mixKind X.prog X.w)) (ps := prs) (PairArg.list a (qs.map fun q => Value.ref q.1).toArray (fun j => (qs.map (·.1)).getD j 0) (prs.map fun q => (Value.ref q.2.1, q.2.2)))
    (I.ok.hd hcalm) (show X.A.units + 1 + 1 < cLine by omega) ⟨⟨o, n, ho, hc, hd, hdat⟩, PI⟩ ⟨by rw [List.length_map], fun i key v e => ?_⟩ (fun h2 hk x hx => ?_) (by rw [List.length_map, hl]; exact hz) fun h' tk hd' hk => ?_
  · have e : (prs.map fun q => (Value.ref q.2.1, q.2.2))[i]? = some (key, v) := e
    rw [List.getElem?_map] at e
    cases e2 : prs[i]? with
    | none => rw [e2] at e; cases e
    | some q' =>
      rw [e2] at e
      have e : (Value.ref q'.2.1, q'.2.2) = (key, v) := Option.some.inj e
      cases e
      exact ⟨q'.1, q'.2.1, rfl, rfl⟩
  · obtain ⟨j, hj⟩ := List.getElem?_of_mem hx
    obtain ⟨T, _, _, o2, its2, n2, g1, g2⟩ := hpr j x hj
    exact ⟨o2, its2, n2, hk _ _ (Nat.ne_of_lt (Heap.lt_size g1)) (by simp) g1, g2⟩
  · have hm : (s.heap.objs.size == sysModules) = false := beq_eq_false_iff_ne.mpr (Nat.ne_of_gt I.big)
    have hlen : (kvs.foldl (fun acc kv => putK acc kv.1 kv.2) []).length ≤ sizeLine := by
      refine Nat.le_trans (foldT_len kvs []) ?_
      rw [List.length_nil, Nat.zero_add, lk, hl]
      exact hz
    have fr := I.hok.fresh (Nat.le_refl s.heap.objs.size)
    obtain ⟨q', es, ep, hq, h2, h3, h4, _, h5⟩ := hd'
    refine ⟨.ref s.heap.objs.size, upd H s.heap.objs.size (.dT (kvs.foldl (fun acc kv => putK acc kv.1 kv.2) [])), I.laid (t' := tk) (fun b o e => hk b o (by simp) e) (Nat.le_refl _) (show ObjOk X.prog X.w _ _ _ (.dT _) from ⟨hlen, hm, _, (putT_fold H rel .nil).keeps fun c ys ec => ?_, q', es, ep, hq, h2, h3, h4, h5⟩), rfl, q _ fr⟩
    rw [upd_ne (ne_of_none ec fr)]
    exact ec
end
end G

set_option Elab.async false
set_option linter.all false
set_option maxRecDepth 100000
set_option maxHeartbeats 16000000
/-! The law's own look at letters, words, pairs. -/
namespace W
open PySem PySem.Spec PyProof.Rows L2 Evl G NdefX LamX Clo
theorem op_in_seqK {X : Cx} {K : PySem.W.Frag} (h : X.K = K := by rfl) : OpR X (compareOp .In) (rIn K false) := by
  subst h
  exact op_in_seq
/-- what stands in a pair or a letter that is judged -/
def smL : List PyData := ((List.range 15).map fun (k : Nat) => PyData.int ((k : Int) - 2)) ++ [.bool true, .bool false, .none, .list [.int 0], .dict []]
theorem sm_showD : smL.all (fun d => d.showable && decide (d.depth ≤ 40) && decide (d.shown.length ≤ 100000)) = true := by decide +kernel
theorem sm_show {d : PyData} (h : d ∈ smL) : Showy d := by
  have := List.all_eq_true.mp sm_showD d h
  rw [Bool.and_eq_true, Bool.and_eq_true, decide_eq_true_eq, decide_eq_true_eq] at this
  exact ⟨this.1.1, this.1.2, this.2⟩
theorem sm_bitD : smL.all (fun d => inV (.str d.shown) [.str "0", .str "1"] == isBit d) = true := by decide +kernel
theorem sm_bit {d : PyData} (h : d ∈ smL) : inV (.str d.shown) [.str "0", .str "1"] = isBit d := eq_of_beq (List.all_eq_true.mp sm_bitD d h)
def strN (n : Nat) : List V := (List.range n).map fun k => V.str (toString ((k : Nat) : Int))
theorem sm_stateD : (List.range 12).all (fun n => smL.all (fun d => inV (.str d.shown) (strN n) == isStateD n d)) = true := by decide +kernel
theorem sm_state {d : PyData} {n : Nat} (h : d ∈ smL) (hn : n < 12) : inV (.str d.shown) (strN n) = isStateD n d := eq_of_beq (List.all_eq_true.mp (List.all_eq_true.mp sm_stateD n (List.mem_range.mpr hn)) d h)
section
variable {K : PySem.W.Frag} {J : It} {xs : List V} {ds : List PyData} {Gd : Hp → Prop}
/-- a test of each datum -/
theorem lc_dq (W : Walk J xs.length Gd (YAt xs)) {te : TE} {σ : L2.St} {j : Nat} {H : Hp} {D : Addr} {Qd : Hp → Prop} (t : PyData → Bool) (hn : xs.length ≤ 100000) (hG : ∀ H', Ex H H' → Gd H') (hx : DqAll K H xs ds)
    (he : ∀ (i : Nat) (x : V) (d : PyData), xs[i]? = some x → ds[i]? = some d → Dq K H x d → Ev te ((wipe σ [j]).set j (some x)) H (.bl (t d))) (new : H D = none) (hd : ∀ H', Ex H H' → H' D = some (.lst ((ds.map t).map V.bl)) → Qd H') : LcG J j te σ H D Qd := by
  have hl := hx.len
  refine lc_pure W (fun i => .bl (t (ds.getD i .none))) hn hG (fun i x => xs[i]? = some x) (fun i Ha x Hb _ _ y => ⟨y.1, y.2⟩) (fun i x hi e => ?_) new (fun H' e q => hd H' e ?_)
  · obtain ⟨d, e1, e2⟩ := dqAll_at hx e
    have e3 : ds.getD i .none = d := by rw [List.getD_eq_getElem?_getD, e1]; rfl
    rw [e3]
    exact he i x d e e1 e2
  · rw [q, hl, List.map_map]
    congr 2
    exact range_map ds _ _ fun i d e => by
      show V.bl (t (ds.getD i .none)) = V.bl (t d)
      rw [List.getD_eq_getElem?_getD, e]
      rfl
end
section
variable {P : Program} {w : World} {K : PySem.W.Frag} {mg : Str → Option Value} {base : Heap} {M P1 P2 : Addr} {H H' : Hp}
/-- all([t(x) for x in xs]), xs a list or a tuple of data -/
theorem tAllSq {te : TE} {σ : L2.St} {Q : VK} {i j : Nat} {a : Addr} {xs : List V} {ds : List PyData} (t : PyData → Bool) (hj : σ[j]? = some (some (.ref a))) (hs : SqL K H a xs ∨ SqT K H a xs) (ha : DqAll K H xs ds) (few : xs.length ≤ 100000)
    (he : ∀ (k : Nat) (x : V) (d : PyData), xs[k]? = some x → ds[k]? = some d → Dq K H x d → Ev te ((wipe σ [i]).set i (some x)) H (.bl (t d))) (q : ∀ H', Ex H H' → Q (.bl (ds.all t)) H') :
    tCB (rAll K) (tCons (tLc (iSq K (tVar j)) (gName i) tYes te [i]) tNil) σ H Q := by
  have main : ∀ (J : It) (Gd : Hp → Prop), Walk J xs.length Gd (YAt xs) → (∀ H', Ex H H' → Gd H') → ∀ D, H D = none → LcG J i te σ H D fun H' => rAll K [.ref D] H' Q := fun J Gd W hG D nD => by
    refine lc_dq W t few hG ha he nD (fun H2 e2 q2 => ⟨D, _, rfl, SqL.of q2, ?_⟩)
    rw [show ((ds.map t).all id) = ds.all t by rw [List.all_map]; rfl]
    exact q H2 e2
  refine ⟨_, hj, a, rfl, ?_⟩
  rcases hs with h | h
  · exact .inl ⟨⟨_, h⟩, main _ _ walk_list fun H' e => sl_exQ e h⟩
  · exact .inr ⟨⟨_, h⟩, main _ _ walk_tup fun H' e => st_exQ e h⟩
theorem sq_exQ {a : Addr} {xs : List V} (h : SqL K H a xs ∨ SqT K H a xs) (e : Ex H H') : SqL K H' a xs ∨ SqT K H' a xs := h.imp (sl_exQ e) (st_exQ e)
theorem items_of {x : V} {d : PyData} (h : Dq K H x d) (hl : isList d = true) : ∃ a xs ds, x = .ref a ∧ itemsD d = some ds ∧ (SqL K H a xs ∨ SqT K H a xs) ∧ DqAll K H xs ds := by
  cases h with
  | lst hs ha => exact ⟨_, _, _, rfl, rfl, .inl hs, ha⟩
  | tup hs ha => exact ⟨_, _, _, rfl, rfl, .inr hs, ha⟩
  | _ => cases hl
theorem word_items {d : PyData} {ds : List PyData} {n : Nat} (h : itemsD d = some ds) : isWord d n = ds.all fun e => isLetter e n := by
  cases d <;> first | (cases h; done) | (cases h; rfl)
theorem not_word {d : PyData} {n : Nat} (h : isList d = false) : isWord d n = false := by
  cases d <;> first | rfl | (cases h; done)
def smT (d : PyData) : Prop := ∀ ds, d = .tuple ds → ∀ e ∈ ds, e ∈ smL
def spLLet (K : PySem.W.Frag) : Sp := fun vs H Q _ => ∃ (n : Nat) (x : V) (d : PyData), vs = [.int (n : Int), x] ∧ Dq K H x d ∧ smT d ∧ n ≤ 4 ∧ ∀ H', Ex H H' → Q (.bl (isLetter d n)) H'
abbrev nLIsLetter : List Str := ["_law_width", "_law_value", "_law_bit"]
theorem scLIsLetter : FnScope nLIsLetter ["_law_width", "_law_value"] (defScope dLIsLetter) := ⟨rfl, rfl, rfl, by decide +kernel, rfl, by decide +kernel, by decide +kernel⟩
theorem okLLet {f : Addr} {fd : FuncData} (F : At K mg "_law_is_letter" dLIsLetter ["_law_width", "_law_value"] f fd) (T : Txt K mg) : Fn P w K mg base CX0 1 f fd ["_law_width", "_law_value"] (spLLet K) := by
  refine okN F.fn scLIsLetter (fun vs H Q E h => ?_) (fun cdv A outer s H vs Q E hr h => ?_)
  · obtain ⟨n, x, d, rfl, _⟩ := h
    rfl
  · obtain ⟨n, x, d, rfl, hd, sm, hn, k⟩ := h
    have nds := scLIsLetter.nd
    refine ⟨_, (pss_one (ps_ret (pe_and (pe_callB call_isi (by rfl) T.isinstance (by decide +kernel) (pa_cons (pv 1) (pa_cons (pTy "tuple" (by rfl) T.tuple (by decide +kernel)) pa_nil))) (pe_and (pe_cmpR op_eq (pe_callB call_len_seq (by rfl) T.len PySem.boot_len (pa_cons (pv 1) pa_nil)) (pv 0) (nomark _)) (pe_one (pe_callB (cr_all rfl) (by rfl) T.all (by decide +kernel) (pa_cons (pe_lc (own := [("_law_bit", 2)]) (g := (gName 2)) (by rfl) nds (pi_tup (pv 1)) (blkOk_by (own := [("_law_bit", 2)]) (N := nLIsLetter) (sc := defScope dLIsLetter) (by decide +kernel))
          (fun _ _ _ _ _ => (pg_name (i := 2) nds rfl (Or.inl rfl))) (fun _ _ _ _ _ => pts_nil) (fun _ _ _ _ _ => (pe_cmpR (op_in_seqK (K := K)) (pe_callB (call_rqK (K := K) hr) (by rfl) T.repr (by decide +kernel) (pa_cons (pv 2) pa_nil)) (pe_lst (pa_cons pe_str (pa_cons pe_str pa_nil))) (by with_unfolding_all rfl)))) pa_nil))))))), ?_⟩
    refine ⟨_, rfl, x, _, _, _, _, rfl, .ty _, hd.ty, kit_ty (kit_T d), _, rfl, ?_⟩
    cases hd with
    | tup hs ha =>
      rename_i a xs ds
      refine iteT ⟨_, rfl, a, xs, rfl, .inr hs, _, rfl, rfl, _, rfl, ?_⟩
      have len := ha.len
      have z : isLetter (.tuple ds) n = (decide (ds.length = n) && ds.all isBit) := rfl
      rw [z] at k
      by_cases hl : ds.length = n
      · rw [decide_eq_true (show V.int (xs.length : Nat) = V.int (n : Nat) by rw [len, hl])]
        rw [decide_eq_true hl] at k
        refine iteT ⟨_, rfl, a, rfl, ⟨_, hs⟩, fun D nD => ?_⟩
        refine lc_dq walk_tup isBit (by omega) (fun H' e => st_exQ e hs) ha (fun i y d ey ed dq => ?_) nD (fun H' e q => ?_)
        · have hm := sm ds rfl d (List.mem_of_getElem? ed)
          rw [← sm_bit hm]
          intro H3 e3 Q1 q1
          refine ⟨_, rfl, y, d, rfl, dq.ex e3, sm_show hm, (by show 2 ≤ sizeLine; decide), fun l nl => ?_⟩
          exact ⟨l, _, rfl, .inl (SqL.of upd_same), rfl, rfl, q1 _ (Ex.new nl)⟩
        · refine ⟨D, _, rfl, SqL.of q, ?_⟩
          rw [show ((ds.map isBit).all id) = ds.all isBit by rw [List.all_map]; rfl]
          exact k H' e
      · rw [decide_eq_false (show ¬ V.int (xs.length : Nat) = V.int (n : Nat) from fun z => by injection z with z; omega)]
        rw [decide_eq_false hl] at k
        exact iteF (k H (Ex.refl H))
    | _ => exact iteF (k H (Ex.refl H))
mutual
theorem dp_of_dq : ∀ {d : PyData} {x : V}, Dq K H x d → d.hasDict = false → Dp K H x d
  | _, _, .non, _ => .non
  | _, _, .bl b, _ => .bl b
  | _, _, .int i, _ => .int i
  | _, _, .str x, _ => .str x
  | _, _, .lst a b, n => .lst a (dps_of_dq b n)
  | _, _, .tup a b, n => .tup a (dps_of_dq b n)
  | _, _, .dK a b, n => by cases n
  | _, _, .dT a b, n => by cases n
theorem dps_of_dq : ∀ {d : List PyData} {x : List V}, DqAll K H x d → PyData.hasDictAll d = false → DpAll K H x d
  | _, _, .nil, _ => .nil
  | _, _, .cons (d := d) (ds := ds) a b, n => by
    have n' : (d.hasDict || PyData.hasDictAll ds) = false := n
    rw [Bool.or_eq_false_iff] at n'
    exact .cons (dp_of_dq a n'.1) (dps_of_dq b n'.2)
end
theorem noD_ints : ∀ bs : List Int, PyData.hasDictAll (bs.map PyData.int) = false
  | [] => rfl
  | b :: bs => noD_ints bs
theorem noD_wd (n : Nat) : ∀ js : List Nat, PyData.hasDictAll (wdL n js) = false
  | [] => rfl
  | j :: js => by
    show ((bitsD (ltr n j)).hasDict || PyData.hasDictAll (wdL n js)) = false
    rw [noD_wd n js, show (bitsD (ltr n j)).hasDict = false from noD_ints _]
    rfl
theorem wd_ofQ {x : V} {n : Nat} {js : List Nat} {d : PyData} (h : Dq K H x d) (hj : ∀ j ∈ js, j < 2 ^ n) (hd : d = .list (wdL n js) ∨ d = .tuple (wdL n js)) (few : js.length ≤ 100) : IsWd K H x n js := by
  refine ⟨?_, hj, few⟩
  rcases hd with rfl | rfl
  · exact .inl (dp_of_dq h (noD_wd n js))
  · exact .inr (dp_of_dq h (noD_wd n js))
def smW (d : PyData) : Prop := ∀ ds, itemsD d = some ds → ds.length ≤ 100 ∧ ∀ e ∈ ds, smT e
/-- what is told of a word that may part -/
def PartK (n : Nat) (r1 r2 : Rw) (d : PyData) (b : Bool) : Prop := (isWord d n = false ∧ b = false) ∨ ∃ js, (∀ j ∈ js, j < 2 ^ n) ∧ (d = .list (wdL n js) ∨ d = .tuple (wdL n js)) ∧ b = partB r1 r2 js
def spLPart (K : PySem.W.Frag) : Sp := fun vs H Q _ => ∃ (m1 m2 : Addr) (x : V) (d : PyData) (n o : Nat) (r1 r2 : Rw), vs = [.ref m1, .ref m2, x] ∧ ModAt K H m1 n o r1 ∧ ModAt K H m2 n o r2 ∧ Dq K H x d ∧ smW d ∧
  ∀ b H', PartK n r1 r2 d b → Ex H H' → Q (.bl b) H'
abbrev nLIsPart : List Str := ["_law_one", "_law_other", "_law_value", "_law_letter"]
theorem scLIsPart : FnScope nLIsPart ["_law_one", "_law_other", "_law_value"] (defScope dLIsPart) := ⟨rfl, rfl, rfl, by decide +kernel, rfl, by decide +kernel, by decide +kernel⟩
theorem okLPart {f : Addr} {fd : FuncData} (F : At K mg "_law_is_parting" dLIsPart ["_law_one", "_law_other", "_law_value"] f fd) (T : Txt K mg) : Fn P w K mg base CX0 3 f fd ["_law_one", "_law_other", "_law_value"] (spLPart K) := by
  obtain ⟨fL, gL, FL⟩ := T.lIsLetter
  obtain ⟨fP, gP, FP⟩ := T.played
  have GL : Fn P w K mg base CX0 2 fL gL ["_law_width", "_law_value"] (spLLet K) := Fn.mono (okLLet FL T) (by decide)
  have GP : FnOk P w K mg base CX0 2 fP gP ["_law_model", "_law_state", "_law_word_here"] (spPlayed K) := okPlayed FP T
  refine okN F.fn scLIsPart (fun vs H Q E h => ?_) (fun cdv A outer s H vs Q E hr h => ?_)
  · obtain ⟨m1, m2, x, d, n, o, r1, r2, rfl, _⟩ := h
    rfl
  · obtain ⟨m1, m2, x, d, n, o, r1, r2, rfl, h1, h2, hd, sm, k⟩ := h
    have nds := scLIsPart.nd
    have hu := hu_of hr.rm
    have hu64 := hr.rm.units
    refine ⟨_, (pss_cons (ps_if (PW.pt (pw_or (pt_not (pt_val (pe_callB call_isiT (by rfl) T.isinstance (by decide +kernel) (pa_cons (pv 2) (pa_cons (pe_tup (pa_cons (pTy "list" (by rfl) T.list (by decide +kernel)) (pa_cons (pTy "tuple" (by rfl) T.tuple (by decide +kernel)) pa_nil))) pa_nil))))) (pw_or1 (pt_not (pt_val (pe_callB (cr_all rfl) (by rfl) T.all (by decide +kernel) (pa_cons (pe_lc (own := [("_law_letter", 3)]) (g := (gName 3)) (by rfl) nds (pi_sq rfl (pv 2)) (blkOk_by (own := [("_law_letter", 3)]) (N := nLIsPart) (sc := defScope dLIsPart) (by decide +kernel))
          (fun _ _ _ _ _ => (pg_name (i := 3) nds rfl (Or.inl rfl))) (fun _ _ _ _ _ => pts_nil) (fun _ _ _ _ _ => (pc GL hr (by rfl) FL.gl FL.fn.kp FL.bi .nil pass0 (pa_cons (pe_dget hu (pv 0) pe_str (fun _ _ => rfl)) (pa_cons (pv 3) pa_nil))))) pa_nil)))))))
        (pss_one (ps_ret pe_bl)) pss_nil)
      (pss_one (ps_ret (pe_and (pe_cmpR op_gt (pe_callB call_len_seq (by rfl) T.len PySem.boot_len (pa_cons (pv 2) pa_nil)) pe_int (nomark _)) (pe_one (pe_cmpR (op_neD hu64) (pe_ix ix_list (pe_ix ix_tup (pe_call GP hr.rm (by rfl) FP.gl FP.fn.kp FP.bi .nil pass0 (pa_cons (pv 0) (pa_cons pe_int (pa_cons (pv 2) pa_nil)))) pe_int (fun _ _ => rfl)) (pe_un un_neg pe_int) (fun _ _ => rfl)) (pe_ix ix_list (pe_ix ix_tup (pe_call GP hr.rm (by rfl) FP.gl FP.fn.kp FP.bi .nil pass0 (pa_cons (pv 1) (pa_cons pe_int (pa_cons (pv 2) pa_nil)))) pe_int (fun _ _ => rfl)) (pe_un un_neg pe_int) (fun _ _ => rfl)) (nomark _))))))), ?_⟩
    obtain ⟨l1, hl1, dl1, g1⟩ := id h1
    obtain ⟨l2, hl2, dl2, g2⟩ := id h2
    have hn := g1.hw
    refine ⟨_, rfl, (by show 2 ≤ sizeLine; decide), fun p hp => ?_⟩
    have e1 : Ex H (upd H p (.tup [.ty "list", .ty "tuple"])) := Ex.new hp
    refine ⟨x, p, _, _, [.type "list", .type "tuple"], isList d, rfl, upd_same, .cons (.ty _) (.cons (.ty _) .nil), (hd.ex e1).ty, ?_, _, rfl, ?_⟩
    · refine kitAny_cons (kit_ty (kit_L d)) (fun e => kitAny_cons (kit_ty (kit_T d)) (fun e2 => ?_) (fun e2 => ?_)) (fun e => ?_)
      · have z : isList d = false := by unfold isList; rw [e, e2]; rfl
        rw [z]
        exact kitAny_nil
      · unfold isList
        rw [e2]
        simp
      · unfold isList
        rw [e]
        rfl
    generalize upd H p (.tup [.ty "list", .ty "tuple"]) = H1 at e1
    cases hl : isList d with
    | false => exact iteT (k false H1 (.inl ⟨not_word hl, rfl⟩) e1)
    | true =>
      obtain ⟨a, xs, ds, rfl, it, hs, ha⟩ := items_of hd hl
      obtain ⟨few, smd⟩ := sm ds it
      have len := ha.len
      refine iteF (tAllSq (K := K) (fun e => isLetter e n) rfl (sq_exQ hs e1) (ha.ex e1) (by omega) (fun i y d' ey ed dq => ?_) fun H2 e2 => ⟨_, rfl, ?_⟩)
      · intro H3 e3 Q1 q1
        exact ⟨_, rfl, m1, _, rfl, kvM_w ((e1.trans e3) _ _ hl1), _, rfl, n, y, d', rfl, dq.ex e3, smd d' (List.mem_of_getElem? ed), hn, q1⟩
      · rw [show (ds.all fun e => isLetter e n) = isWord d n from (word_items it).symm]
        have e12 := e1.trans e2
        cases hw : isWord d n with
        | false => exact iteT (k false H2 (.inl ⟨hw, rfl⟩) e12)
        | true =>
          obtain ⟨js, hj, hdj⟩ := word_js hn hw
          have fewj : js.length ≤ 100 := by
            rcases hdj with rfl | rfl
            · cases it
              rwa [show (wdL n js).length = js.length by unfold wdL; rw [List.length_map]] at few
            · cases it
              rwa [show (wdL n js).length = js.length by unfold wdL; rw [List.length_map]] at few
          have lj : xs.length = js.length := by
            rw [len]
            rcases hdj with rfl | rfl
            · cases it
              unfold wdL; rw [List.length_map]
            · cases it
              unfold wdL; rw [List.length_map]
          have wd : IsWd K H (.ref a) n js := wd_ofQ hd hj hdj fewj
          refine iteF ⟨_, rfl, a, xs, rfl, sq_exQ hs e12, _, _, rfl, rfl, _, rfl, ?_⟩
          rcases List.eq_nil_or_concat js with rfl | ⟨ks, j, rfl⟩
          · rw [decide_eq_false (show ¬ (0 : Int) < ((xs.length : Nat) : Int) by rw [lj]; simp)]
            exact iteF (k false H2 (.inr ⟨[], hj, hdj, rfl⟩) e12)
          rw [List.concat_eq_append] at lj wd hj hdj fewj
          rw [decide_eq_true (show (0 : Int) < ((xs.length : Nat) : Int) by rw [lj]; simp)]
          refine iteT ⟨_, rfl, _, rfl, m1, 0, .ref a, n, o, r1, ks ++ [j], rfl, h1.ex e12, g1.pos, wd.ex e12, fun t l ys H3 e3 ht nl hl dl => ?_⟩
          rw [Mm.outs_app, List.map_append] at dl
          obtain ⟨ya, yb, rfl, d1, d2⟩ := dpAll_cut dl
          cases d2 with
          | @cons y _ _ _ dy dn =>
            cases dn
            refine ⟨t, _, 0, .ref l, rfl, rfl, SqT.of ht, rfl, 1, rfl, l, ya ++ [y], -1, y, rfl, rfl, SqL.of hl, atI_last _ _, ?_⟩
            have e13 := e12.trans e3
            refine ⟨_, rfl, _, rfl, m2, 0, .ref a, n, o, r2, ks ++ [j], rfl, h2.ex e13, g2.pos, wd.ex e13, fun t2 l2 ys2 H4 e4 ht2 nl2 hl2 dl2 => ?_⟩
            rw [Mm.outs_app, List.map_append] at dl2
            obtain ⟨yc, yd, rfl, d3, d4⟩ := dpAll_cut dl2
            cases d4 with
            | @cons y2 _ _ _ dy2 dn2 =>
              cases dn2
              have hj1 : ∀ i ∈ ks, i < 2 ^ n := fun i hi => hj i (List.mem_append_left _ hi)
              have hjj : j < 2 ^ n := hj j (by simp)
              have s1 := Mm.end_lt g1.ok g1.wide ks hj1 g1.pos
              have s2 := Mm.end_lt g2.ok g2.wide ks hj1 g2.pos
              have tl1 : Tl (Mm.go r1 (Mm.end_ r1 0 ks) j).2 := g1.outs [j] s1 (fun i hi => by rw [List.mem_singleton.mp hi]; exact hjj) _ (by simp [Mm.outs])
              have tl2 : Tl (Mm.go r2 (Mm.end_ r2 0 ks) j).2 := g2.outs [j] s2 (fun i hi => by rw [List.mem_singleton.mp hi]; exact hjj) _ (by simp [Mm.outs])
              refine ⟨t2, _, 0, .ref l2, rfl, rfl, SqT.of ht2, rfl, 1, rfl, l2, yc ++ [y2], -1, y2, rfl, rfl, SqL.of hl2, atI_last _ _, _, _, dp_ex e4 dy, dy2, bits_shaped tl1, bits_shaped tl2, ?_⟩
              rw [eqv_bits]
              refine k _ H4 (.inr ⟨ks ++ [j], hj, hdj, ?_⟩) (e13.trans e4)
              have ol : ∀ r : Rw, (Mm.outs r 0 (ks ++ [j])).getLast? = some (Mm.go r (Mm.end_ r 0 ks) j).2 := fun r => by
                rw [Mm.outs_app]
                show (Mm.outs r 0 ks ++ [(Mm.go r (Mm.end_ r 0 ks) j).2]).getLast? = _
                simp
              unfold partB
              rw [ol, ol]
              simp
end
end W

set_option Elab.async false
set_option linter.all false
set_option maxRecDepth 100000
set_option maxHeartbeats 16000000
/-! The law's own look at pairs. -/
namespace W
open PySem PySem.Spec PyProof.Rows L2 Evl G NdefX LamX Clo
section
variable {P : Program} {w : World} {K : PySem.W.Frag} {mg : Str → Option Value} {base : Heap} {M P1 P2 : Addr} {H H' : Hp}
theorem wipe_set2 (σ : L2.St) {i j : Nat} (hij : i ≠ j) (x y : V) : wipe (((wipe σ [i, j]).set i (some x)).set j (some y)) [i, j] = wipe σ [i, j] := by
  apply List.ext_getElem?
  intro k
  simp only [wipe, List.foldl_cons, List.foldl_nil]
  by_cases h1 : k = i
  · subst h1
    simp [List.getElem?_set, hij, Ne.symm hij]
  · by_cases h2 : k = j
    · subst h2
      simp [List.getElem?_set, h1, Ne.symm h1]
    · simp [List.getElem?_set, Ne.symm h1, Ne.symm h2]
theorem is_one {σ : L2.St} {Q : VK} {y : V} {e : PyData} {m : Nat} (dq : Dq K H y e) (hs : e ∈ smL) (lt : m < 12) (h5 : σ[5]? = some (some y)) (h6 : σ[6]? = some (some (.int (m : Nat)))) (q : ∀ H', Ex H H' → Q (.bl (isStateD m e)) H') :
    tOp (rIn K false) (tCB (rRq K) (tCons (tVar 5) tNil)) (tLc (iRng1 (tCons (tVar 6) tNil)) (gName 4) tYes (tCB (fun xs H Q => ∃ i : Int, xs = [V.int i] ∧ i.natAbs.log2 < 1920 ∧ Q (.str (toString i)) H) (tCons (tVar 4) tNil)) [4]) σ H Q := by
  refine ⟨y, h5, y, e, rfl, dq, sm_show hs, _, h6, (m : Int), rfl, by omega, by omega, fun L nL => ?_⟩
  refine lc_pure (j := 4) walk_range (fun i => .str (toString ((i : Nat) : Int))) (by omega) (fun _ _ => trivial) (fun i x => x = .int (i : Nat)) (fun i Ha x Hb _ _ y => ⟨y.1, y.2.trans (by simp)⟩) (fun i x hi ex => ?_) nL (fun H2 e2 q2 => ?_)
  · subst ex
    intro H3 e3 Q1 q1
    have l5 : 5 < σ.length := (List.getElem?_eq_some_iff.mp h5).1
    have hget : ((wipe σ [4]).set 4 (some (V.int ((i : Nat) : Int))))[4]? = some (some (V.int ((i : Nat) : Int))) := by
      rw [List.getElem?_set, if_pos rfl, if_pos (by simp [wipe]; omega)]
    have lg : ((i : Nat) : Int).natAbs.log2 < 1920 := by
      have : (12 : Nat).log2 < 1920 := by decide
      have h2 : i ≤ 12 := by simp at hi; omega
      have : i.log2 ≤ 12 := Nat.le_trans (Nat.log2_le_self i) h2
      simp
      omega
    exact ⟨_, hget, _, rfl, lg, q1 _ (Ex.refl _)⟩
  · refine ⟨L, _, rfl, .inl (SqL.of q2), rfl, ?_, ?_⟩
    · rw [List.all_map]
      exact List.all_eq_true.mpr fun _ _ => rfl
    · have z : (List.range ((m : Int)).toNat).map (fun i => V.str (toString ((i : Nat) : Int))) = strN m := by simp [strN]
      rw [z, sm_state hs lt]
      exact q H2 e2
def spLPair (K : PySem.W.Frag) : Sp := fun vs H Q _ => ∃ (m1 m2 : Addr) (x : V) (d : PyData) (n o n2 o2 : Nat) (r1 r2 : Rw), vs = [.ref m1, .ref m2, x] ∧ ModAt K H m1 n o r1 ∧ ModAt K H m2 n2 o2 r2 ∧ Dq K H x d ∧ smT d ∧ r1.length < 12 ∧ r2.length < 12 ∧
  ∀ H', Ex H H' → Q (.bl (isPairD r1.length r2.length d)) H'
abbrev nIsPair : List Str := ["_law_one", "_law_other", "_law_value", "_law_sizes", "_law_at", "_law_state", "_law_size"]
theorem scLIsPair : FnScope nIsPair ["_law_one", "_law_other", "_law_value"] (defScope dIsPair) := ⟨rfl, rfl, rfl, by decide +kernel, rfl, by decide +kernel, by decide +kernel⟩
theorem okLPair {f : Addr} {fd : FuncData} (F : At K mg "_law_is_pair" dIsPair ["_law_one", "_law_other", "_law_value"] f fd) (T : Txt K mg) : Fn P w K mg base CX0 1 f fd ["_law_one", "_law_other", "_law_value"] (spLPair K) := by
  refine okN F.fn scLIsPair (fun vs H Q E h => ?_) (fun cdv A outer s H vs Q E hr h => ?_)
  · obtain ⟨m1, m2, x, d, n, o, n2, o2, r1, r2, rfl, _⟩ := h
    rfl
  · obtain ⟨m1, m2, x, d, n, o, n2, o2, r1, r2, rfl, h1, h2, hd, sm, lt1, lt2, k⟩ := h
    have nds := scLIsPair.nd
    have hu := hu_of hr.rm
    refine ⟨_, (pss_cons (ps_if (PW.pt (pw_or (pt_not (pt_val (pe_callB call_isi (by rfl) T.isinstance (by decide +kernel) (pa_cons (pv 2) (pa_cons (pTy "tuple" (by rfl) T.tuple (by decide +kernel)) pa_nil))))) (pw_or1 (pt_cmpR op_ne (pe_callB call_len_seq (by rfl) T.len PySem.boot_len (pa_cons (pv 2) pa_nil)) pe_int (nomark _)))))
        (pss_one (ps_ret pe_bl)) pss_nil)
      (pss_cons (ps_set (i := 3) nds rfl (Or.inl rfl) (pe_lst (pa_cons (pe_callB call_len_seq (by rfl) T.len PySem.boot_len (pa_cons (pe_dget hu (pv 0) pe_str (fun _ _ => rfl)) pa_nil)) (pa_cons (pe_callB call_len_seq (by rfl) T.len PySem.boot_len (pa_cons (pe_dget hu (pv 1) pe_str (fun _ _ => rfl)) pa_nil)) pa_nil))))
      (pss_one (ps_ret (pe_callB (cr_all rfl) (by rfl) T.all (by decide +kernel) (pa_cons (pe_lc (own := [("_law_state", 5), ("_law_size", 6)]) (g := (gTup K 2 (gCons (gName 5) (gCons (gName 6) gNil)))) (by rfl) nds (pi_zipN rfl (by rfl) T.zip (pa_cons (pv 2) (pa_cons (pv 3) pa_nil))) (blkOk_by (own := [("_law_state", 5), ("_law_size", 6)]) (N := nIsPair) (sc := defScope dIsPair) (by decide +kernel))
          (fun _ _ _ _ _ => (pg_tupK rfl (pgs_cons (pg_name (i := 5) nds rfl (Or.inl rfl)) (pgs_cons (pg_name (i := 6) nds rfl (Or.inl rfl)) pgs_nil)))) (fun _ _ _ _ _ => pts_nil) (fun _ _ _ _ _ => (pe_cmpR (op_in_seqK (K := K)) (pe_callB (call_rqK (K := K) hr) (by rfl) T.repr (by decide +kernel) (pa_cons (pv 5) pa_nil)) (pe_lc (own := [("_law_at", 4)]) (g := (gName 4)) (by rfl) nds (pi_rangeK (by rfl) T.range (pa_cons (pv 6) pa_nil)) (blkOk_by (own := [("_law_at", 4)]) (N := nIsPair) (by rfl))
          (fun _ _ _ _ _ => (pg_name (i := 4) nds rfl (Or.inl rfl))) (fun _ _ _ _ _ => pts_nil) (fun _ _ _ _ _ => (pe_callTy call_str_int (by rfl) T.str (by decide +kernel) (pa_cons (pv 4) pa_nil)))) (by with_unfolding_all rfl)))) pa_nil)))))), ?_⟩
    obtain ⟨l1, hl1, dl1, g1⟩ := id h1
    obtain ⟨l2, hl2, dl2, g2⟩ := id h2
    obtain ⟨_, xl1, e0, hxl1, dxl1⟩ := list_of dl1
    cases e0
    obtain ⟨_, xl2, e0, hxl2, dxl2⟩ := list_of dl2
    cases e0
    have lx1 := dp_len dxl1
    have lx2 := dp_len dxl2
    refine ⟨_, rfl, x, _, _, _, _, rfl, .ty _, hd.ty, kit_ty (kit_T d), _, rfl, ?_⟩
    cases hd with
    | tup hs ha =>
      rename_i a xs ds
      refine iteF ⟨_, rfl, a, xs, rfl, .inr hs, rfl, _, rfl, ?_⟩
      have len := ha.len
      by_cases hx2 : xs.length = 2
      · rw [show (!decide (V.int (xs.length : Nat) = V.int 2)) = false by rw [hx2]; rfl]
        obtain ⟨x1, x2, rfl⟩ : ∃ x1 x2, xs = [x1, x2] := by
          match xs, hx2 with
          | [a, b], _ => exact ⟨a, b, rfl⟩
        cases ha with
        | cons a1 ar =>
          cases ar with
          | cons a2 an =>
            cases an
            rename_i d1 d2
            refine iteF ⟨_, rfl, m1, _, rfl, kvM_r hl1, l1, xl1, rfl, .inl hxl1, _, rfl, m2, _, rfl, kvM_r hl2, l2, xl2, rfl, .inl hxl2, (by show 2 ≤ sizeLine; decide), fun S nS => ?_⟩
            have eS : Ex H (upd H S (.lst [.int (xl1.length : Nat), .int (xl2.length : Nat)])) := Ex.new nS
            have hS : (upd H S (.lst [.int (xl1.length : Nat), .int (xl2.length : Nat)])) S = some (.lst [.int (xl1.length : Nat), .int (xl2.length : Nat)]) := upd_same
            rw [lx1, lx2] at eS hS ⊢
            generalize upd H S (.lst [.int (r1.length : Nat), .int (r2.length : Nat)]) = H1 at eS hS ⊢
            have sm1 : d1 ∈ smL := sm _ rfl d1 (by simp)
            have sm2 : d2 ∈ smL := sm _ rfl d2 (by simp)
            refine ⟨_, rfl, _, rfl, a, S, [x1, x2], _, rfl, st_exQ eS hs, SqL.of hS, fun D nD => ?_⟩
            refine lc_it (g := gTup K 2 (gCons (gName 5) (gCons (gName 6) gNil))) (tt := tYes) (vs := [5, 6]) (walk_zipN (K := K) (a := a) (b := S) (xs := [x1, x2]) (ys := [.int (r1.length : Nat), .int (r2.length : Nat)]) (n := 2) rfl rfl)
              (fun i Hc => Ex H1 Hc ∧ Hc D = some (.lst (([isStateD r1.length d1, isStateD r2.length d2].take i).map V.bl))) ⟨Ex.new nD, upd_same⟩ (fun i Hc _ q => ⟨st_exQ (eS.trans q.1) hs, SqL.of (q.1 _ _ hS)⟩) (fun i x Ha Hb hi q yy => ?_) (fun Hc q => ?_)
            · obtain ⟨T0, y, z, rfl, nT, rfl, ey, ez⟩ := yy
              obtain ⟨eA, hD⟩ := q
              have TD : D ≠ T0 := fun z => by rw [← z, hD] at nT; cases nT
              have fin : ∀ (b : Bool) (H4 : Hp), Ex (upd Ha T0 (.tup [y, z])) H4 → [isStateD r1.length d1, isStateD r2.length d2][i]? = some b → ∃ acc, H4 D = some (.lst acc) ∧ acc.length < sizeLine ∧ Ex H1 (upd H4 D (.lst (acc ++ [V.bl b]))) ∧ (upd H4 D (.lst (acc ++ [V.bl b]))) D = some (.lst (([isStateD r1.length d1, isStateD r2.length d2].take (i + 1)).map V.bl)) := fun b H4 e4 eb => by
                refine ⟨_, e4 _ _ (by rw [upd_ne TD]; exact hD), ?_, ?_, ?_⟩
                · rw [List.length_map, List.length_take]
                  exact Nat.lt_of_le_of_lt (Nat.min_le_right _ _) (by show 2 < sizeLine; decide)
                · exact (eA.trans ((Ex.new nT).trans e4)).mut nD
                · rw [upd_same, List.take_add_one, eb]
                  simp
              refine ⟨T0, [y, z], rfl, SqT.of upd_same, rfl, _, _, rfl, _, _, rfl, rfl, wipe_set2 _ (by decide) y z, ?_⟩
              have e5 : Ex H (upd Ha T0 (.tup [y, z])) := eS.trans (eA.trans (Ex.new nT))
              have c : i = 0 ∨ i = 1 := by omega
              rcases c with rfl | rfl
              · cases ey
                cases ez
                exact is_one (a1.ex e5) sm1 lt1 rfl rfl fun H4 e4 => fin _ H4 e4 rfl
              · cases ey
                cases ez
                exact is_one (a2.ex e5) sm2 lt2 rfl rfl fun H4 e4 => fin _ H4 e4 rfl
            · refine ⟨D, [isStateD r1.length d1, isStateD r2.length d2], rfl, SqL.of q.2, ?_⟩
              have z : isPairD r1.length r2.length (.tuple [d1, d2]) = [isStateD r1.length d1, isStateD r2.length d2].all id := by
                show (isStateD r1.length d1 && isStateD r2.length d2) = _
                simp
              rw [← z]
              exact k _ (eS.trans q.1)
      · rw [show (!decide (V.int (xs.length : Nat) = V.int 2)) = true by rw [decide_eq_false (fun z => by injection z with z; omega)]; rfl]
        have z : isPairD r1.length r2.length (.tuple ds) = false := by
          match ds, len with
          | [], _ => rfl
          | [_], _ => rfl
          | [_, _], len => exact absurd len hx2
          | _ :: _ :: _ :: _, _ => rfl
        rw [z] at k
        exact iteT (k H (Ex.refl H))
    | _ => exact iteT (k H (Ex.refl H))
end
end W

set_option Elab.async false
set_option linter.all false
set_option maxRecDepth 100000
set_option maxHeartbeats 16000000
/-! The law's own look at relations. -/
namespace W
open PySem PySem.Spec PyProof.Rows L2 Evl G NdefX LamX Clo
def prT (p : Nat × Nat) : PyData := .tuple [.int (p.1 : Int), .int (p.2 : Int)]
theorem prT_inj {p q : Nat × Nat} (h : prT p = prT q) : p = q := by
  unfold prT at h
  injection h with h
  injection h with h1 h2
  injection h2 with h2 _
  injection h1 with h1
  injection h2 with h2
  exact Prod.ext (by omega) (by omega)
theorem prT_eqv (p q : Nat × Nat) : PyData.eqv (prT p) (prT q) = decide (p = q) := by
  have h := eqv_pl (d := prT p) (e := prT q) rfl rfl
  by_cases e : p = q
  · subst e
    rw [decide_eq_true rfl]
    exact h.mpr rfl
  · rw [decide_eq_false e]
    cases z : PyData.eqv (prT p) (prT q) with
    | false => rfl
    | true => exact absurd (prT_inj (h.mp z)) e
theorem prT_lay (p : Nat × Nat) : (prT p).canLay0 = true := by simp [prT, PyData.canLay0, PyData.canLayAll0]
theorem prT_depth (p : Nat × Nat) : (prT p).depth = 1 := by simp [prT, PyData.depth, PyData.depthAll]
theorem prTs_lay : ∀ ps : List (Nat × Nat), PyData.canLayAll0 (ps.map prT) = true
  | [] => by simp [PyData.canLayAll0]
  | z :: zs => by simp [PyData.canLayAll0, prT_lay z, prTs_lay zs]
theorem prTs_depth : ∀ ps : List (Nat × Nat), PyData.depthAll (ps.map prT) ≤ 1
  | [] => by simp [PyData.depthAll]
  | z :: zs => by
    have h1 := prTs_depth zs
    have h2 := prT_depth z
    simp only [List.map_cons, PyData.depthAll]
    omega
theorem prT_shaped (p : Nat × Nat) : SeqAt.shaped (prT p) = true := by
  have h := prT_depth p
  show ((prT p).canLay0 && decide ((prT p).depth ≤ 64)) = true
  rw [Bool.and_eq_true]
  exact ⟨prT_lay p, decide_eq_true (by omega)⟩
theorem prTs_shaped (b : Bool) (ps : List (Nat × Nat)) : SeqAt.shaped (sqB b (ps.map prT)) = true := by
  have h1 := prTs_depth ps
  show ((sqB b (ps.map prT)).canLay0 && decide ((sqB b (ps.map prT)).depth ≤ 64)) = true
  rw [Bool.and_eq_true]
  cases b
  · refine ⟨by show PyData.canLay0 (.list _) = true; simp only [PyData.canLay0]; exact prTs_lay ps, decide_eq_true ?_⟩
    show PyData.depth (.list _) ≤ 64
    simp only [PyData.depth]
    omega
  · refine ⟨by show PyData.canLay0 (.tuple _) = true; simp only [PyData.canLay0]; exact prTs_lay ps, decide_eq_true ?_⟩
    show PyData.depth (.tuple _) ≤ 64
    simp only [PyData.depth]
    omega
theorem prTs_noD : ∀ ps : List (Nat × Nat), PyData.hasDictAll (ps.map prT) = false
  | [] => rfl
  | p :: ps => by
    show ((prT p).hasDict || PyData.hasDictAll (ps.map prT)) = false
    rw [prTs_noD ps]
    rfl
theorem any_prT (ps : List (Nat × Nat)) (p : Nat × Nat) : ((ps.map prT).any fun z => PyData.eqv z (prT p)) = decide (p ∈ ps) := by
  rw [List.any_map]
  induction ps with
  | nil => rfl
  | cons q ps ih =>
    rw [List.any_cons, ih]
    show (PyData.eqv (prT q) (prT p) || _) = _
    rw [prT_eqv]
    by_cases e : q = p
    · subst e
      simp
    · rw [decide_eq_false e, Bool.false_or]
      congr 1
      simp [Ne.symm e]
theorem count_prT (ps : List (Nat × Nat)) (p : Nat × Nat) : ((ps.map prT).countP fun z => PyData.eqv z (prT p)) = ps.count p := by
  rw [List.countP_map]
  induction ps with
  | nil => rfl
  | cons q ps ih =>
    rw [List.countP_cons, List.count_cons, ih]
    congr 1
    show (if PyData.eqv (prT q) (prT p) = true then 1 else 0) = _
    rw [prT_eqv]
    by_cases e : q = p <;> simp [e]
theorem twice_iff : ∀ ps : List (Nat × Nat), (∃ p, 1 < ps.count p) ↔ ¬ ps.Nodup
  | [] => ⟨fun ⟨p, h⟩ => by simp at h, fun h => absurd List.nodup_nil h⟩
  | q :: ps => by
    have ih := twice_iff ps
    rw [List.nodup_cons]
    constructor
    · rintro ⟨p, h⟩ ⟨n1, n2⟩
      rw [List.count_cons] at h
      by_cases e : q = p
      · subst e
        have : ps.count q = 0 := List.count_eq_zero.mpr n1
        rw [if_pos (by simp), this] at h
        omega
      · refine ih.mp ⟨p, ?_⟩ n2
        simpa [e] using h
    · intro h
      by_cases m : q ∈ ps
      · refine ⟨q, ?_⟩
        have := List.count_pos_iff.mpr m
        rw [List.count_cons, if_pos (by simp)]
        omega
      · have z := ih.mpr fun n2 => h ⟨m, n2⟩
        obtain ⟨p, hp⟩ := z
        refine ⟨p, ?_⟩
        rw [List.count_cons]
        exact Nat.lt_of_lt_of_le hp (Nat.le_add_right _ _)
theorem twice_prT (ps : List (Nat × Nat)) : (ps.any fun p => decide (1 < ps.count p)) = !decide ps.Nodup := by
  by_cases h : ps.Nodup
  · rw [decide_eq_true h]
    show _ = false
    rw [List.any_eq_false]
    intro p _ z
    exact (twice_iff ps).mp ⟨p, of_decide_eq_true z⟩ h
  · rw [decide_eq_false h]
    show _ = true
    rw [List.any_eq_true]
    obtain ⟨p, hp⟩ := (twice_iff ps).mpr h
    exact ⟨p, List.count_pos_iff.mp (by omega), decide_eq_true (by omega)⟩
theorem prs_items {m k : Nat} {d : PyData} {ps : List (Nat × Nat)} (h : prs m k d = some ps) : itemsD d = some (ps.map prT) := by
  unfold prs at h
  cases e : itemsD d with
  | none => rw [e] at h; cases h
  | some ds =>
    rw [e] at h
    have q := allPr_some (show allPr m k ds = some ps from h)
    congr 1
    refine List.ext_getElem? fun i => ?_
    have z := congrArg (fun l => l[i]?) q
    simp only [List.getElem?_map] at z ⊢
    cases ed : ds[i]? with
    | none =>
      rw [ed] at z
      cases ep : ps[i]? with
      | none => rfl
      | some p => rw [ep] at z; cases z
    | some d0 =>
      rw [ed] at z
      cases ep : ps[i]? with
      | none => rw [ep] at z; cases z
      | some p =>
        rw [ep] at z
        have z : some (pairOf m k d0) = some (some p) := z
        show some d0 = some (prT p)
        rw [(pairOf_some (Option.some.inj z)).1]
        rfl
theorem prs_all {m k : Nat} {d : PyData} {ds : List PyData} (h : itemsD d = some ds) : (prs m k d).isSome = ds.all fun e => isPairD m k e := by
  unfold prs
  rw [h]
  show (allPr m k ds).isSome = _
  unfold allPr
  cases z : ds.all fun e => isPairD m k e with
  | false => rw [if_neg Bool.false_ne_true]; rfl
  | true => rw [if_pos rfl]; rfl
theorem sq_items {d : PyData} {ds : List PyData} (h : itemsD d = some ds) : ∃ b, d = sqB b ds := by
  cases d <;> first | (cases h; done) | (cases h; exact ⟨false, rfl⟩) | (cases h; exact ⟨true, rfl⟩)
section
variable {P : Program} {w : World} {K : PySem.W.Frag} {mg : Str → Option Value} {base : Heap} {M P1 P2 : Addr} {H H' : Hp}
/-- any([t(x) for x in xs]), xs a list or a tuple of data -/
theorem tAnySq {te : TE} {σ : L2.St} {Q : VK} {i j : Nat} {a : Addr} {xs : List V} {ds : List PyData} (t : PyData → Bool) (hj : σ[j]? = some (some (.ref a))) (hs : SqL K H a xs ∨ SqT K H a xs) (ha : DqAll K H xs ds) (few : xs.length ≤ 100000)
    (he : ∀ (k : Nat) (x : V) (d : PyData), xs[k]? = some x → ds[k]? = some d → Dq K H x d → Ev te ((wipe σ [i]).set i (some x)) H (.bl (t d))) (q : ∀ H', Ex H H' → Q (.bl (ds.any t)) H') :
    tCB (rAny K) (tCons (tLc (iSq K (tVar j)) (gName i) tYes te [i]) tNil) σ H Q := by
  have main : ∀ (J : It) (Gd : Hp → Prop), Walk J xs.length Gd (YAt xs) → (∀ H', Ex H H' → Gd H') → ∀ D, H D = none → LcG J i te σ H D fun H' => rAny K [.ref D] H' Q := fun J Gd W hG D nD => by
    refine lc_dq W t few hG ha he nD (fun H2 e2 q2 => ⟨D, _, rfl, SqL.of q2, ?_⟩)
    rw [show ((ds.map t).any id) = ds.any t by rw [List.any_map]; rfl]
    exact q H2 e2
  refine ⟨_, hj, a, rfl, ?_⟩
  rcases hs with h | h
  · exact .inl ⟨⟨_, h⟩, main _ _ walk_list fun H' e => sl_exQ e h⟩
  · exact .inr ⟨⟨_, h⟩, main _ _ walk_tup fun H' e => st_exQ e h⟩
def smR (H : Hp) (x : V) (d : PyData) : Prop := ∀ ds, itemsD d = some ds → ds.length ≤ 1000 ∧ (∀ e ∈ ds, smT e) ∧ ∀ (a : Addr), x = .ref a → d = .tuple ds → ds ≠ [] → ∃ o u, H a = some (.frz o u) ∧ o.dict = none
def spLRel (K : PySem.W.Frag) : Sp := fun vs H Q _ => ∃ (m1 m2 : Addr) (x : V) (d : PyData) (n o : Nat) (r1 r2 : Rw), vs = [.ref m1, .ref m2, x] ∧ ModAt K H m1 n o r1 ∧ ModAt K H m2 n o r2 ∧ Dq K H x d ∧ smR H x d ∧ r1.length < 12 ∧ r2.length < 12 ∧
  ∀ H', Ex H H' → Q (.bl (relD n r1 r2 d)) H'
abbrev nLIsRel : List Str := ["_law_one", "_law_other", "_law_value", "_law_pair", "_law_near", "_law_far", "_law_goal", "_law_output", "_law_later", "_law_told"]
theorem scLIsRel : FnScope nLIsRel ["_law_one", "_law_other", "_law_value"] (defScope dLIsRel) := ⟨rfl, rfl, rfl, by decide +kernel, rfl, by decide +kernel, by decide +kernel⟩
theorem okLRel {f : Addr} {fd : FuncData} (F : At K mg "_law_is_relation" dLIsRel ["_law_one", "_law_other", "_law_value"] f fd) (T : Txt K mg) : Fn P w K mg base CX0 2 f fd ["_law_one", "_law_other", "_law_value"] (spLRel K) := by
  obtain ⟨fP, gP, FP⟩ := T.isPair
  have GP : Fn P w K mg base CX0 1 fP gP ["_law_one", "_law_other", "_law_value"] (spLPair K) := okLPair FP T
  refine okN F.fn scLIsRel (fun vs H Q E h => ?_) (fun cdv A outer s H vs Q E hr h => ?_)
  · obtain ⟨m1, m2, x, d, n, o, r1, r2, rfl, _⟩ := h
    rfl
  · obtain ⟨m1, m2, x, d, n, o, r1, r2, rfl, h1, h2, hd, sm, lt1, lt2, k⟩ := h
    have nds := scLIsRel.nd
    have hu := hu_of hr.rm
    have hu64 := hr.rm.units
    have hu65 := hu65 hr.rm
    refine ⟨_, (pss_cons (ps_if (PW.pt (pw_or (pt_not (pt_val (pe_callB call_isiT (by rfl) T.isinstance (by decide +kernel) (pa_cons (pv 2) (pa_cons (pe_tup (pa_cons (pTy "list" (by rfl) T.list (by decide +kernel)) (pa_cons (pTy "tuple" (by rfl) T.tuple (by decide +kernel)) pa_nil))) pa_nil))))) (pw_or1 (pt_not (pt_val (pe_callB (cr_all rfl) (by rfl) T.all (by decide +kernel) (pa_cons (pe_lc (own := [("_law_pair", 3)]) (g := (gName 3)) (by rfl) nds (pi_sq rfl (pv 2)) (blkOk_by (own := [("_law_pair", 3)]) (N := nLIsRel) (sc := defScope dLIsRel) (by decide +kernel))
          (fun _ _ _ _ _ => (pg_name (i := 3) nds rfl (Or.inl rfl))) (fun _ _ _ _ _ => pts_nil) (fun _ _ _ _ _ => (pc GP hr (by rfl) FP.gl FP.fn.kp FP.bi .nil pass0 (pa_cons (pv 0) (pa_cons (pv 1) (pa_cons (pv 3) pa_nil)))))) pa_nil)))))))
        (pss_one (ps_ret pe_bl)) pss_nil)
      (pss_cons (ps_if (PW.pt (pw_or (pt_cmpR (op_ninB (K := K) hu65) (pe_tup (pa_cons pe_int (pa_cons pe_int pa_nil))) (pv 2) (by with_unfolding_all rfl)) (pw_or1 (pt_val (pe_callB (cr_any rfl) (by rfl) T.any (by decide +kernel) (pa_cons (pe_lc (own := [("_law_pair", 3)]) (g := (gName 3)) (by rfl) nds (pi_sq rfl (pv 2)) (blkOk_by (own := [("_law_pair", 3)]) (N := nLIsRel) (sc := defScope dLIsRel) (by decide +kernel))
          (fun _ _ _ _ _ => (pg_name (i := 3) nds rfl (Or.inl rfl))) (fun _ _ _ _ _ => pts_nil) (fun _ _ _ _ _ => (pe_cmpR op_gt (pe_cnt hu65 (pv 2) (pa_cons (pv 3) pa_nil)) pe_int (nomark _)))) pa_nil))))))
        (pss_one (ps_ret pe_bl)) pss_nil)
      (pss_cons (ps_for PassesOwn.never rfl (pi_sq rfl (pv 2)) (pg_tup rfl (pgs_cons (pg_name (i := 4) nds rfl (Or.inl rfl)) (pgs_cons (pg_name (i := 5) nds rfl (Or.inl rfl)) pgs_nil)))
        (pss_one (ps_for PassesOwn.never rfl (pi_zip (by rfl) T.zip (pa_cons (pe_ix ix_list (pe_dget hu (pv 0) pe_str (fun _ _ => rfl)) (pv 4) (fun _ _ => rfl)) (pa_cons (pe_ix ix_list (pe_dget hu (pv 1) pe_str (fun _ _ => rfl)) (pv 5) (fun _ _ => rfl)) pa_nil))) (pg_tup rfl (pgs_cons (pg_tup rfl (pgs_cons (pg_name (i := 6) nds rfl (Or.inl rfl)) (pgs_cons (pg_name (i := 7) nds rfl (Or.inl rfl)) pgs_nil))) (pgs_cons (pg_tup rfl (pgs_cons (pg_name (i := 8) nds rfl (Or.inl rfl)) (pgs_cons (pg_name (i := 9) nds rfl (Or.inl rfl)) pgs_nil))) pgs_nil)))
        (pss_one (ps_if (PW.pt (pw_or (pt_cmpR (op_neD hu64) (pv 7) (pv 9) (nomark _)) (pw_or1 (pt_cmpR (op_ninB (K := K) hu65) (pe_tup (pa_cons (pv 6) (pa_cons (pv 8) pa_nil))) (pv 2) (by with_unfolding_all rfl)))))
        (pss_one (ps_ret pe_bl)) pss_nil)))))
      (pss_one (ps_ret pe_bl))))), ?_⟩
    obtain ⟨l1, hl1, dl1, g1⟩ := id h1
    obtain ⟨l2, hl2, dl2, g2⟩ := id h2
    have hn := g1.hw
    refine ⟨_, rfl, (by show 2 ≤ sizeLine; decide), fun p hp => ?_⟩
    have e1 : Ex H (upd H p (.tup [.ty "list", .ty "tuple"])) := Ex.new hp
    refine ⟨x, p, _, _, [.type "list", .type "tuple"], isList d, rfl, upd_same, .cons (.ty _) (.cons (.ty _) .nil), (hd.ex e1).ty, ?_, _, rfl, ?_⟩
    · refine kitAny_cons (kit_ty (kit_L d)) (fun e => kitAny_cons (kit_ty (kit_T d)) (fun e2 => ?_) (fun e2 => ?_)) (fun e => ?_)
      · have z : isList d = false := by unfold isList; rw [e, e2]; rfl
        rw [z]
        exact kitAny_nil
      · unfold isList
        rw [e2]
        simp
      · unfold isList
        rw [e]
        rfl
    generalize upd H p (.tup [.ty "list", .ty "tuple"]) = H1 at e1
    cases hl : isList d with
    | false =>
      have z : relD n r1 r2 d = false := by
        unfold relD prs
        rw [show itemsD d = none by cases d <;> first | rfl | cases hl]
        rfl
      rw [z] at k
      exact iteT (k H1 e1)
    | true =>
      obtain ⟨a, xs, ds, rfl, it, hs, ha⟩ := items_of hd hl
      obtain ⟨few, smd, frz⟩ := sm ds it
      have len := ha.len
      refine iteF (tAllSq (K := K) (fun e => isPairD r1.length r2.length e) rfl (sq_exQ hs e1) (ha.ex e1) (by omega) (fun i y d' ey ed dq => ?_) fun H2 e2 => ⟨_, rfl, ?_⟩)
      · intro H3 e3 Q1 q1
        exact ⟨_, rfl, _, rfl, _, rfl, m1, m2, y, d', n, o, n, o, r1, r2, rfl, h1.ex (e1.trans e3), h2.ex (e1.trans e3), dq.ex e3, smd d' (List.mem_of_getElem? ed), lt1, lt2, q1⟩
      · rw [← prs_all it]
        have e12 := e1.trans e2
        cases hp : prs r1.length r2.length d with
        | none =>
          have z : relD n r1 r2 d = false := by unfold relD; rw [hp]
          rw [z] at k
          exact iteT (k H2 e12)
        | some ps =>
          obtain rfl : ds = ps.map prT := Option.some.inj (it.symm.trans (prs_items hp))
          obtain ⟨b, rfl⟩ := sq_items it
          have z : relD n r1 r2 (sqB b (ps.map prT)) = (decide ps.Nodup && relB n r1 r2 ps) := by unfold relD; rw [hp]
          rw [z] at k
          have lt := prs_lt hp
          have dpv : Dp K H (.ref a) (sqB b (ps.map prT)) := dp_of_dq hd (by cases b; exact prTs_noD ps; exact prTs_noD ps)
          have dxs : DpAll K H xs (ps.map prT) := dps_of_dq ha (prTs_noD ps)
          refine iteF ⟨(by show 2 ≤ sizeLine; decide), fun t0 nt0 => ?_⟩
          have e3 : Ex H2 (upd H2 t0 (.tup [.int 0, .int 0])) := Ex.new nt0
          have ht0 : (upd H2 t0 (.tup [.int 0, .int 0])) t0 = some (.tup [.int 0, .int 0]) := upd_same
          generalize upd H2 t0 (.tup [.int 0, .int 0]) = H3 at e3 ht0 ⊢
          have e13 := e12.trans e3
          refine ⟨_, rfl, prT (0, 0), b, _, .tup (st_of ht0) (.cons (.int _) (.cons (.int _) .nil)), dp_ex e13 dpv, prT_shaped _, prTs_shaped b ps, _, rfl, ?_⟩
          rw [any_prT]
          by_cases c0 : (0, 0) ∈ ps
          · rw [decide_eq_true c0]
            refine iteF (tAnySq (K := K) (fun e => decide (1 < (ps.map prT).countP fun z => PyData.eqv z e)) rfl (sq_exQ hs e13) (ha.ex e13) (by omega) (fun i y d' ey ed dq => ?_) fun H4 e4 => ⟨_, rfl, ?_⟩)
            · intro H5 e5 Q1 q1
              have e15 := e13.trans e5
              refine ⟨_, rfl, a, b, ps.map prT, rfl, dp_ex e15 dpv, fun hb => ?_, prTs_shaped b ps, _, rfl, y, d', rfl, dp_ex e15 dpv, ?_, ?_, _, _, rfl, rfl, ?_⟩
              · subst hb
                by_cases hn0 : ps.map prT = []
                · have : ps = [] := List.map_eq_nil_iff.mp hn0
                  rw [this] at c0
                  cases c0
                · obtain ⟨ob, u, q1, q2⟩ := frz a rfl rfl hn0
                  exact ⟨ob, u, e15 _ _ q1, q2⟩
              · obtain ⟨p, ep, dpp⟩ := dp_nth dxs ey
                rw [List.getElem?_map, ep] at ed
                cases ed
                exact dp_ex e15 dpp
              · obtain ⟨p, ep, dpp⟩ := dp_nth dxs ey
                rw [List.getElem?_map, ep] at ed
                cases ed
                exact prT_shaped p
              · have z : decide (1 < (((ps.map prT).countP fun z => PyData.eqv z d' : Nat) : Int)) = decide (1 < (ps.map prT).countP fun z => PyData.eqv z d') := decide_eq_decide.mpr (by omega)
                show Q1 (.bl (decide (1 < (((ps.map prT).countP fun z => PyData.eqv z d' : Nat) : Int)))) H5
                rw [z]
                exact q1 _ (Ex.refl _)
            · have e14 := e13.trans e4
              have z3 : ((ps.map prT).any fun e => decide (1 < (ps.map prT).countP fun z => PyData.eqv z e)) = !decide ps.Nodup := by
                rw [List.any_map, ← twice_prT]
                refine congrArg ps.any (funext fun p => ?_)
                show decide (1 < (ps.map prT).countP fun z => PyData.eqv z (prT p)) = _
                rw [count_prT]
              rw [z3]
              by_cases nd : ps.Nodup
              · rw [decide_eq_true nd] at k ⊢
                refine iteF ?_
                rw [Bool.true_and] at k
                refine for_sq (K := K) (a := a) (xs := xs) (H0 := H) rfl hs e14 (fun i σ Hc => (∃ v3 v4 v5 v6 v7 v8 v9, σ = [some (.ref m1), some (.ref m2), some (.ref a), v3, v4, v5, v6, v7, v8, v9]) ∧ Ex H Hc ∧
                  (ps.take i).all (fun p => (List.range (2 ^ n)).all fun j => decide ((Mm.go r1 p.1 j).2 = (Mm.go r2 p.2 j).2) && decide (((Mm.go r1 p.1 j).1, (Mm.go r2 p.2 j).1) ∈ ps)) = true) ⟨⟨_, _, _, _, _, _, _, rfl⟩, e14, rfl⟩ (fun i σ Hc q => q.2.1) (fun i x σ Hc ex q => ?_) (fun σ Hc q => ?_)
                · obtain ⟨⟨v3, v4, v5, v6, v7, v8, v9, rfl⟩, e, ok⟩ := q
                  obtain ⟨p, ep, dpp⟩ := dp_nth dxs ex
                  obtain ⟨lp1, lp2⟩ := lt p (List.mem_of_getElem? ep)
                  obtain ⟨t, rfl, ht⟩ : ∃ t, x = .ref t ∧ SqT K Hc t [.int (p.1 : Int), .int (p.2 : Int)] := by
                    cases dp_ex e dpp with
                    | tup h1 h2 =>
                      rw [int2 (dqs_of h2)] at h1
                      exact ⟨_, rfl, h1⟩
                  obtain ⟨xr1, b1, yr1, q1, q2, q3, q4⟩ := rowL_at (dp_ex e dl1) lp1
                  obtain ⟨xr2, b2, yr2, q5, q6, q7, q8⟩ := rowL_at (dp_ex e dl2) lp2
                  have ly1 : yr1.length = 2 ^ n := by rw [dp_len q4, Mm.rw_len g1.wide lp1]
                  have ly2 : yr2.length = 2 ^ n := by rw [dp_len q8, Mm.rw_len g2.wide lp2]
                  refine ⟨t, _, rfl, ht, rfl, _, _, rfl, _, _, rfl, rfl, ?_⟩
                  refine ⟨_, rfl, m1, _, rfl, kvM_r (e _ _ hl1), _, rfl, l1, xr1, _, _, rfl, rfl, q1, q2, _, rfl, m2, _, rfl, kvM_r (e _ _ hl2), _, rfl, l2, xr2, _, _, rfl, rfl, q5, q6, b1, b2, yr1, yr2, rfl, q3, q7, ?_⟩
                  refine for_it (walk_zip (K := K) (a := b1) (b := b2) (xs := yr1) (ys := yr2) (n := 2 ^ n) (by omega)) (fun j σ Hd => (∃ v6 v7 v8 v9, σ = [some (.ref m1), some (.ref m2), some (.ref a), v3, some (.int (p.1 : Int)), some (.int (p.2 : Int)), v6, v7, v8, v9]) ∧ Ex Hc Hd ∧
                    (List.range j).all (fun j => decide ((Mm.go r1 p.1 j).2 = (Mm.go r2 p.2 j).2) && decide (((Mm.go r1 p.1 j).1, (Mm.go r2 p.2 j).1) ∈ ps)) = true) ⟨⟨_, _, _, _, rfl⟩, Ex.refl _, rfl⟩ (fun j σ Hd _ q => ⟨ex_l q.2.1 q3, ex_l q.2.1 q7⟩) (fun j x σ Hd Hd' hj q yy => ?_) (fun σ Hd q => ?_)
                  · obtain ⟨⟨v6, v7, v8, v9, rfl⟩, ed, okj⟩ := q
                    obtain ⟨T0, y1, y2, rfl, nT, rfl, ey1, ey2⟩ := yy
                    obtain ⟨y1', a1, a2⟩ := goal_at (K := K) (H := Hc) q4 g1.wide lp1 hj
                    obtain ⟨y2', a3, a4⟩ := goal_at (K := K) (H := Hc) q8 g2.wide lp2 hj
                    obtain rfl : y1 = y1' := Option.some.inj ((atI_nat ey1).symm.trans a1)
                    obtain rfl : y2 = y2' := Option.some.inj ((atI_nat ey2).symm.trans a3)
                    have eT := ed.trans (Ex.new (o := .tup [y1, y2]) nT)
                    have hT0 : (upd Hd T0 (.tup [y1, y2])) T0 = some (.tup [y1, y2]) := upd_same
                    generalize upd Hd T0 (.tup [y1, y2]) = He at eT hT0 ⊢
                    obtain ⟨t1, u1, rfl, b3, b4⟩ := go_of (dp_ex eT a2)
                    obtain ⟨t2, u2, rfl, b5, b6⟩ := go_of (dp_ex eT a4)
                    have tl1 : Tl (Mm.go r1 p.1 j).2 := g1.outs [j] lp1 (fun i hi => by rw [List.mem_singleton.mp hi]; exact hj) _ (by simp [Mm.outs])
                    have tl2 : Tl (Mm.go r2 p.2 j).2 := g2.outs [j] lp2 (fun i hi => by rw [List.mem_singleton.mp hi]; exact hj) _ (by simp [Mm.outs])
                    refine ⟨T0, _, rfl, SqT.of hT0, rfl, _, _, rfl, ⟨t1, _, rfl, b3, rfl, _, _, rfl, _, _, rfl, rfl, _, _, rfl, ⟨t2, _, rfl, b5, rfl, _, _, rfl, _, _, rfl, rfl, rfl, ?_⟩⟩⟩
                    have bad : (decide ((Mm.go r1 p.1 j).2 = (Mm.go r2 p.2 j).2) && decide (((Mm.go r1 p.1 j).1, (Mm.go r2 p.2 j).1) ∈ ps)) = false → relB n r1 r2 ps = false := fun z => by
                      unfold relB
                      rw [Bool.and_eq_false_iff]
                      right
                      rw [List.all_eq_false]
                      refine ⟨p, List.mem_of_getElem? ep, ?_⟩
                      rw [Bool.not_eq_true, List.all_eq_false]
                      exact ⟨j, List.mem_range.mpr hj, by rw [z]; exact Bool.false_ne_true⟩
                    refine ⟨_, rfl, _, rfl, bitsD (Mm.go r1 p.1 j).2, bitsD (Mm.go r2 p.2 j).2, .tup b4 (dpAll_ints _), .tup b6 (dpAll_ints _), bits_shaped tl1, bits_shaped tl2, _, rfl, ?_⟩
                    rw [eqv_bits]
                    have eH := e.trans eT
                    by_cases c1 : (Mm.go r1 p.1 j).2 = (Mm.go r2 p.2 j).2
                    · rw [decide_eq_true c1] at bad ⊢
                      refine iteF ⟨_, rfl, _, rfl, (by show 2 ≤ sizeLine; decide), fun t3 nt3 => ?_⟩
                      have e7 : Ex He (upd He t3 (.tup [.int ((Mm.go r1 p.1 j).1 : Int), .int ((Mm.go r2 p.2 j).1 : Int)])) := Ex.new nt3
                      have eH7 := eH.trans e7
                      refine ⟨_, rfl, prT ((Mm.go r1 p.1 j).1, (Mm.go r2 p.2 j).1), b, _, .tup (st_of upd_same) (.cons (.int _) (.cons (.int _) .nil)), dp_ex eH7 dpv, prT_shaped _, prTs_shaped b ps, _, rfl, ?_⟩
                      rw [any_prT]
                      by_cases c2 : ((Mm.go r1 p.1 j).1, (Mm.go r2 p.2 j).1) ∈ ps
                      · rw [decide_eq_true c2]
                        refine iteF ⟨⟨_, _, _, _, rfl⟩, eT.trans e7, ?_⟩
                        rw [List.range_succ, List.all_append, okj]
                        simp [c1, c2]
                      · rw [decide_eq_false c2] at bad ⊢
                        rw [bad rfl] at k
                        exact iteT (k _ eH7)
                    · rw [decide_eq_false c1] at bad ⊢
                      rw [bad rfl] at k
                      exact iteT (k _ eH)
                  · obtain ⟨⟨v6, v7, v8, v9, rfl⟩, ed, okj⟩ := q
                    refine ⟨⟨_, _, _, _, _, _, _, rfl⟩, e.trans ed, ?_⟩
                    rw [take_more ep, List.all_append, ok]
                    simp only [List.all_cons, List.all_nil, Bool.and_true, Bool.true_and]
                    exact okj
                · obtain ⟨⟨v3, v4, v5, v6, v7, v8, v9, rfl⟩, e, ok⟩ := q
                  rw [dp_len dxs, List.take_of_length_le (Nat.le_refl _)] at ok
                  have z5 : relB n r1 r2 ps = true := by unfold relB; rw [decide_eq_true c0, ok]; rfl
                  rw [z5] at k
                  exact k Hc e
              · rw [decide_eq_false nd] at k ⊢
                rw [Bool.false_and] at k
                exact iteT (k H4 e14)
          · rw [decide_eq_false c0]
            have z2 : relB n r1 r2 ps = false := by unfold relB; rw [decide_eq_false c0]; rfl
            rw [z2, Bool.and_false] at k
            exact iteT (k H3 e13)
end
end W

set_option Elab.async false
set_option linter.all false
set_option maxRecDepth 100000
set_option maxHeartbeats 16000000
/-! Pairs come to by the same words. -/
namespace W
open PySem PySem.Spec PyProof.Rows L2 Evl G NdefX LamX Clo
def kvP (ps : List (Nat × Nat)) (vs : List V) : List (List Key × V) := (ps.zip vs).map fun q => (pk q.1, q.2)
theorem kvP_none {ps : List (Nat × Nat)} {vs : List V} {p : Nat × Nat} (h : p ∉ ps) : valV (kvP ps vs) (pk p) = none := by
  unfold valV kvP
  rw [Option.map_eq_none_iff, List.find?_eq_none]
  intro q hq
  obtain ⟨⟨a, b⟩, hz, rfl⟩ := List.mem_map.mp hq
  intro z
  have := pk_inj (of_decide_eq_true z)
  exact h (this ▸ (List.of_mem_zip hz).1)
theorem kvP_get : ∀ {ps : List (Nat × Nat)} {vs : List V} {i : Nat} {p : Nat × Nat} {v : V}, ps.Nodup → ps[i]? = some p → vs[i]? = some v → valV (kvP ps vs) (pk p) = some v
  | [], _, _, _, _, _, h, _ => by simp at h
  | _ :: _, [], _, _, _, _, _, h => by simp at h
  | q :: ps, u :: vs, 0, p, v, _, h1, h2 => by
    simp at h1 h2
    subst h1 h2
    unfold valV kvP
    rw [List.zip_cons_cons, List.map_cons, List.find?_cons_of_pos (by simp)]
    rfl
  | q :: ps, u :: vs, i + 1, p, v, nd, h1, h2 => by
    rw [List.nodup_cons] at nd
    have ih := kvP_get (ps := ps) (vs := vs) (i := i) nd.2 (by simpa using h1) (by simpa using h2)
    have ne : q ≠ p := fun e => nd.1 (by rw [e]; exact List.mem_of_getElem? (by simpa using h1))
    unfold valV kvP at ih ⊢
    rw [List.zip_cons_cons, List.map_cons, List.find?_cons_of_neg (by simp; exact fun z => ne (pk_inj z))]
    exact ih
theorem kvP_some {ps : List (Nat × Nat)} {vs : List V} {p : Nat × Nat} (nd : ps.Nodup) (hl : vs.length = ps.length) : (valV (kvP ps vs) (pk p)).isSome = decide (p ∈ ps) := by
  by_cases h : p ∈ ps
  · obtain ⟨i, hi⟩ := List.getElem?_of_mem h
    have li := (List.getElem?_eq_some_iff.mp hi).1
    rw [decide_eq_true h, kvP_get nd hi (List.getElem?_eq_getElem (show i < vs.length by omega))]
    rfl
  · rw [decide_eq_false h, kvP_none h]
    rfl
theorem kvP_put {ps : List (Nat × Nat)} {vs : List V} {p : Nat × Nat} {v : V} (h : p ∉ ps) (hl : vs.length = ps.length) : putK (kvP ps vs) (pk p) v = kvP (ps ++ [p]) (vs ++ [v]) := by
  rw [L2.putK_new v (kvP_none h)]
  unfold kvP
  rw [List.zip_append hl.symm, List.map_append]
  rfl
theorem pairs_few {ps : List (Nat × Nat)} {m k : Nat} (nd : ps.Nodup) (rng : ∀ p ∈ ps, p.1 < m ∧ p.2 < k) : ps.length ≤ m * k := by
  have inj : ∀ p ∈ ps, ∀ q ∈ ps, p.1 * k + p.2 = q.1 * k + q.2 → p = q := fun p hp q hq e => by
    have h1 := (rng p hp).2
    have h2 := (rng q hq).2
    have a : p.1 = q.1 := by
      have e1 : (p.1 * k + p.2) / k = p.1 := by rw [Nat.mul_comm, Nat.mul_add_div (by omega), Nat.div_eq_of_lt h1]; rfl
      have e2 : (q.1 * k + q.2) / k = q.1 := by rw [Nat.mul_comm, Nat.mul_add_div (by omega), Nat.div_eq_of_lt h2]; rfl
      rw [← e1, ← e2, e]
    rw [a] at e
    exact Prod.ext a (by omega)
  have nd2 : (ps.map fun p => p.1 * k + p.2).Nodup := by
    clear rng
    induction ps with
    | nil => exact List.nodup_nil
    | cons p ps ih =>
      rw [List.nodup_cons] at nd
      rw [List.map_cons, List.nodup_cons]
      refine ⟨fun z => ?_, ih nd.2 fun q hq r hr => inj q (List.mem_cons_of_mem _ hq) r (List.mem_cons_of_mem _ hr)⟩
      obtain ⟨q, hq, e⟩ := List.mem_map.mp z
      have := inj q (List.mem_cons_of_mem _ hq) p List.mem_cons_self e
      exact nd.1 (this ▸ hq)
  have := Mm.nd_len (n := m * k) nd2 fun x hx => by
    obtain ⟨p, hp, rfl⟩ := List.mem_map.mp hx
    obtain ⟨h1, h2⟩ := rng p hp
    calc p.1 * k + p.2 < p.1 * k + k := by omega
      _ = (p.1 + 1) * k := by rw [Nat.succ_mul]
      _ ≤ m * k := Nat.mul_le_mul_right _ h1
  rwa [List.length_map] at this
def wordD (n : Nat) (js : List Nat) : PyData := .list (wdL n js)
/-- pairs met, and the words to them -/
structure PairsSt (K : PySem.W.Frag) (n m k : Nat) (H : Hp) (D O : Addr) (p0 : Nat × Nat) (ps : List (Nat × Nat)) (vs : List V) (ws : List (List Nat)) (bs : List Addr) : Prop where
  dict : H D = some (.dT (kvP ps vs))
  ord : H O = some (.lst (bs.map V.ref))
  at_ : ∀ (i : Nat) (b : Addr) (p : Nat × Nat), bs[i]? = some b → ps[i]? = some p → H b = some (.tup [.int (p.1 : Int), .int (p.2 : Int)])
  lb : bs.length = ps.length
  lv : vs.length = ps.length
  nd : ps.Nodup
  rng : ∀ p ∈ ps, p.1 < m ∧ p.2 < k
  hd : ps[0]? = some p0
  words : DpAll K (hidL [D, O] H) vs (ws.map (wordD n))
  few : ∀ (i : Nat) (js : List Nat), ws[i]? = some js → js.length ≤ i ∧ ∀ j ∈ js, j < 2 ^ n
section
variable {K : PySem.W.Frag} {n m k : Nat} {H H' : Hp} {D O : Addr} {p0 : Nat × Nat} {ps : List (Nat × Nat)} {vs : List V} {ws : List (List Nat)} {bs : List Addr}
theorem PairsSt.ne (s : PairsSt K n m k H D O p0 ps vs ws bs) : D ≠ O := fun z => by
  have := s.dict
  rw [z, s.ord] at this
  cases this
theorem PairsSt.ex (s : PairsSt K n m k H D O p0 ps vs ws bs) (e : Ex H H') : PairsSt K n m k H' D O p0 ps vs ws bs :=
  { s with dict := e _ _ s.dict, ord := e _ _ s.ord, at_ := fun i b p h1 h2 => e _ _ (s.at_ i b p h1 h2), words := dpAll_ex (hidL_mono e) s.words }
theorem PairsSt.add (s : PairsSt K n m k H D O p0 ps vs ws bs) {p : Nat × Nat} {b : Addr} {v : V} {js : List Nat} (hp : p ∉ ps) (r1 : p.1 < m) (r2 : p.2 < k) (hv : Dp K (hidL [D, O] H) v (wordD n js)) (fw : js.length ≤ ps.length) (hj : ∀ j ∈ js, j < 2 ^ n)
    (hb : H b = some (.tup [.int (p.1 : Int), .int (p.2 : Int)])) : PairsSt K n m k (L2.upd (L2.upd H D (.dT (putK (kvP ps vs) (pk p) v))) O (.lst (bs.map V.ref ++ [.ref b]))) D O p0 (ps ++ [p]) (vs ++ [v]) (ws ++ [js]) (bs ++ [b]) := by
  have lw : ws.length = ps.length := by
    have := dp_len s.words
    rw [← this]
    exact s.lv
  have hid : hidL [D, O] (L2.upd (L2.upd H D (.dT (putK (kvP ps vs) (pk p) v))) O (.lst (bs.map V.ref ++ [.ref b]))) = hidL [D, O] H := by rw [hidL_upd (by simp), hidL_upd (by simp)]
  have tup : ∀ {c : Addr} {us : List V}, H c = some (.tup us) → (L2.upd (L2.upd H D (.dT (putK (kvP ps vs) (pk p) v))) O (.lst (bs.map V.ref ++ [.ref b]))) c = some (.tup us) := fun {c us} h => by
    rw [upd_ne (fun z => by rw [z, s.ord] at h; cases h), upd_ne (fun z => by rw [z, s.dict] at h; cases h)]
    exact h
  refine ⟨?_, ?_, fun i c q h1 h2 => ?_, by simp [s.lb], by simp [s.lv], ?_, fun q hq => ?_, ?_, ?_, fun i js' h => ?_⟩
  · rw [upd_ne s.ne, upd_same, kvP_put hp s.lv]
  · rw [upd_same]
    simp
  · have li := (List.getElem?_eq_some_iff.mp h2).1
    by_cases c1 : i < ps.length
    · rw [List.getElem?_append_left c1] at h2
      rw [List.getElem?_append_left (by rw [s.lb]; exact c1)] at h1
      exact tup (s.at_ i c q h1 h2)
    · have e : i = ps.length := by simp at li; omega
      subst e
      rw [List.getElem?_append_right (Nat.le_refl _)] at h2
      rw [← s.lb, List.getElem?_append_right (Nat.le_refl _)] at h1
      simp at h1 h2
      subst h1 h2
      exact tup hb
  · rw [List.nodup_append]
    exact ⟨s.nd, by simp, fun a ha b' hb' => by simp at hb'; subst hb'; exact fun e => hp (e ▸ ha)⟩
  · rcases List.mem_append.mp hq with h | h
    · exact s.rng q h
    · simp at h
      subst h
      exact ⟨r1, r2⟩
  · rw [List.getElem?_append_left (List.getElem?_eq_some_iff.mp s.hd).1]
    exact s.hd
  · rw [hid, List.map_append]
    exact dpAll_appG s.words (.cons hv .nil)
  · have li := (List.getElem?_eq_some_iff.mp h).1
    by_cases c1 : i < ws.length
    · rw [List.getElem?_append_left c1] at h
      exact s.few i js' h
    · have e : i = ws.length := by simp at li; omega
      subst e
      rw [List.getElem?_append_right (Nat.le_refl _)] at h
      simp at h
      subst h
      exact ⟨by omega, hj⟩
end
end W

set_option Elab.async false
set_option linter.all false
set_option maxRecDepth 100000
set_option maxHeartbeats 16000000
/-! Pairs come to by the same words: the def. -/
namespace W
open PySem PySem.Spec PyProof.Rows L2 Evl G NdefX LamX Clo
theorem upd_swap {H : Hp} {a b : Addr} {x y : HO} (h : a ≠ b) : upd (upd H a x) b y = upd (upd H b y) a x := by
  funext c
  unfold upd
  by_cases h1 : c = b
  · subst h1
    rw [if_pos rfl, if_neg (Ne.symm h), if_pos rfl]
  · rw [if_neg h1]
    by_cases h2 : c = a
    · rw [if_pos h2, if_pos h2]
    · rw [if_neg h2, if_neg h2, if_neg h1]
section
variable {P : Program} {w : World} {K : PySem.W.Frag} {mg : Str → Option Value} {base : Heap} {M P1 P2 : Addr} {H H' : Hp}
/-- what comes of it -/
structure PairsOut (K : PySem.W.Frag) (n m k : Nat) (H H' : Hp) (D : Addr) (p0 : Nat × Nat) (ps : List (Nat × Nat)) (vs : List V) (ws : List (List Nat)) : Prop where
  new : H D = none
  dict : H' D = some (.dT (kvP ps vs))
  lv : vs.length = ps.length
  nd : ps.Nodup
  rng : ∀ p ∈ ps, p.1 < m ∧ p.2 < k
  hd : ps[0]? = some p0
  words : DpAll K H' vs (ws.map (wordD n))
  few : ∀ (i : Nat) (js : List Nat), ws[i]? = some js → js.length ≤ i ∧ ∀ j ∈ js, j < 2 ^ n
def spPairs (K : PySem.W.Frag) : Sp := fun vs H Q _ => ∃ (m1 m2 t : Addr) (n o : Nat) (r1 r2 : Rw) (p0 : Nat × Nat), vs = [.ref m1, .ref m2, .ref t] ∧ ModAt K H m1 n o r1 ∧ ModAt K H m2 n o r2 ∧ H t = some (.tup [.int (p0.1 : Int), .int (p0.2 : Int)]) ∧ p0.1 < r1.length ∧ p0.2 < r2.length ∧ r1.length * r2.length ≤ 60 ∧
  ∀ t' D ps vs ws y H', Ex H H' → H' t' = some (.tup [.ref D, y]) → PairsOut K n r1.length r2.length H H' D p0 ps vs ws → (y = .non ∨ ∃ l js, y = .ref l ∧ WdAt K H' l n js ∧ js.length ≤ r1.length * r2.length) → Q (.ref t') H'
abbrev nPairs : List Str := ["_law_one", "_law_other", "_law_first", "_law_letters_here", "_law_words_here", "_law_order", "_law_at", "_law_near", "_law_far", "_law_place", "_law_letter", "_law_goal", "_law_output", "_law_later", "_law_told", "_law_word_here"]
theorem scPairs : FnScope nPairs ["_law_one", "_law_other", "_law_first"] (defScope dPairs) := ⟨rfl, rfl, rfl, by decide +kernel, rfl, by decide +kernel, by decide +kernel⟩
theorem okPairs {f : Addr} {fd : FuncData} (F : At K mg "_law_pairs" dPairs ["_law_one", "_law_other", "_law_first"] f fd) (T : Txt K mg) : FnOk P w K mg base CX0 2 f fd ["_law_one", "_law_other", "_law_first"] (spPairs K) := by
  obtain ⟨fL, gL, FL⟩ := T.lLetters
  have GL : FnOk P w K mg base CX0 1 fL gL ["_law_width"] (spLLetters K) := okLLetters FL T
  refine F.fn.ok scPairs (fun vs H Q E h => ?_) (fun cdv A outer s H vs Q E hr h => ?_)
  · obtain ⟨m1, m2, t, n, o, r1, r2, p0, rfl, _⟩ := h
    rfl
  · obtain ⟨m1, m2, t, n, o, r1, r2, p0, rfl, h1, h2, ht, lt1, lt2, few, k⟩ := h
    have nds := scPairs.nd
    have hu := hu_of hr
    have hu64 := hr.units
    refine ⟨_, (pss_cons (ps_asg (pe_tup (pa_cons (pe_call GL hr (by rfl) FL.gl FL.fn.kp FL.bi .nil pass0 (pa_cons (pe_dget hu (pv 0) pe_str (fun _ _ => rfl)) pa_nil)) (pa_cons (pe_dispT hu (pv 2) (pe_lst pa_nil)) (pa_cons (pe_lst (pa_cons (pv 2) pa_nil)) (pa_cons pe_int pa_nil))))) (pg_tup rfl (pgs_cons (pg_name (i := 3) nds rfl (Or.inl rfl)) (pgs_cons (pg_name (i := 4) nds rfl (Or.inl rfl)) (pgs_cons (pg_name (i := 5) nds rfl (Or.inl rfl)) (pgs_cons (pg_name (i := 6) nds rfl (Or.inl rfl)) pgs_nil))))))
      (pss_cons (ps_while PassesOwn.never (pt_cmpR op_lt (pv 6) (pe_callB call_len_seq (by rfl) T.len PySem.boot_len (pa_cons (pv 5) pa_nil)) (nomark _))
        (pss_cons (ps_asg (pe_ix ix_list (pv 5) (pv 6) (fun _ _ => rfl)) (pg_tup rfl (pgs_cons (pg_name (i := 7) nds rfl (Or.inl rfl)) (pgs_cons (pg_name (i := 8) nds rfl (Or.inl rfl)) pgs_nil))))
      (pss_cons (ps_for PassesOwn.never rfl (pi_enum (by rfl) T.enumerate (pa_cons (pv 3) pa_nil)) (pg_tup rfl (pgs_cons (pg_name (i := 9) nds rfl (Or.inl rfl)) (pgs_cons (pg_name (i := 10) nds rfl (Or.inl rfl)) pgs_nil)))
        (pss_cons (ps_asg (pe_ix ix_list (pe_ix ix_list (pe_dget hu (pv 0) pe_str (fun _ _ => rfl)) (pv 7) (fun _ _ => rfl)) (pv 9) (fun _ _ => rfl)) (pg_tup rfl (pgs_cons (pg_name (i := 11) nds rfl (Or.inl rfl)) (pgs_cons (pg_name (i := 12) nds rfl (Or.inl rfl)) pgs_nil))))
      (pss_cons (ps_asg (pe_ix ix_list (pe_ix ix_list (pe_dget hu (pv 1) pe_str (fun _ _ => rfl)) (pv 8) (fun _ _ => rfl)) (pv 9) (fun _ _ => rfl)) (pg_tup rfl (pgs_cons (pg_name (i := 13) nds rfl (Or.inl rfl)) (pgs_cons (pg_name (i := 14) nds rfl (Or.inl rfl)) pgs_nil))))
      (pss_cons (ps_set (i := 15) nds rfl (Or.inl rfl) (pe_op (op_catL (K := K)) (pe_dget hu (pv 4) (pe_ix ix_list (pv 5) (pv 6) (fun _ _ => rfl)) (fun _ _ => rfl)) (pe_lst (pa_cons (pv 10) pa_nil))))
      (pss_cons (ps_if (pt_cmpR (op_neD hu64) (pv 12) (pv 14) (nomark _))
        (pss_one (ps_ret (pe_tup (pa_cons (pv 4) (pa_cons (pv 15) pa_nil))))) pss_nil)
      (pss_one (ps_if (pt_cmp (pc_dnotin hu (pe_tup (pa_cons (pv 11) (pa_cons (pv 13) pa_nil))) (pv 4)))
        (pss_cons (ps_dput hu (pv 4) (pe_tup (pa_cons (pv 11) (pa_cons (pv 13) pa_nil))) (pv 15) rfl)
      (pss_one (ps_expr (pe_bm PySem.F.plainAttrs_list PySem.F.slot_list_append PySem.F.type_list_append mt_append (pv 5) (pa_cons (pe_tup (pa_cons (pv 11) (pa_cons (pv 13) pa_nil))) pa_nil))))) pss_nil)))))))
      (pss_one (ps_set (i := 6) nds rfl (Or.inl rfl) (pe_op op_add (pv 6) pe_int))))))
      (pss_one (ps_ret (pe_tup (pa_cons (pv 4) (pa_cons pe_non pa_nil))))))), ?_⟩
    obtain ⟨l1, hl1, dl1, g1⟩ := id h1
    obtain ⟨l2, hl2, dl2, g2⟩ := id h2
    have hn := g1.hw
    refine ⟨_, rfl, m1, _, rfl, kvM_w hl1, n, rfl, hn, fun L ls H1 nL e1 hL dL => fun D nD => ?_⟩
    have nD0 := Ex.freshW e1 nD
    have e2 : Ex H1 (upd H1 D (.dT [])) := Ex.new nD
    have hD : (upd H1 D (.dT [])) D = some (.dT []) := upd_same
    have LD : L ≠ D := fun z => by rw [z, nD] at hL; cases hL
    have hL2 := e2 _ _ hL
    refine ⟨_, rfl, (by show 0 ≤ sizeLine; decide), fun W0 nW => ?_⟩
    have e3 : Ex (upd H1 D (.dT [])) (upd (upd H1 D (.dT [])) W0 (.lst [])) := Ex.new nW
    have hW : (upd (upd H1 D (.dT [])) W0 (.lst [])) W0 = some (.lst []) := upd_same
    have WD : W0 ≠ D := fun z => by rw [z, upd_same] at nW; cases nW
    have e03 : Ex H (upd (upd H1 D (.dT [])) W0 (.lst [])) := e1.trans (e2.trans e3)
    refine ⟨t, pk p0, rfl, e3 _ _ hD, e03 _ _ ht, _, rfl, (by show 1 ≤ sizeLine; decide), fun O nO => ?_⟩
    have e4 : Ex (upd (upd H1 D (.dT [])) W0 (.lst [])) (upd (upd (upd H1 D (.dT [])) W0 (.lst [])) D (.dT [(pk p0, .ref W0)])) → True := fun _ => trivial
    have eA : Ex H (upd (upd (upd H1 D (.dT [])) W0 (.lst [])) D (.dT [(pk p0, .ref W0)])) := e03.mut nD0
    have OD : O ≠ D := fun z => by rw [z, upd_same] at nO; cases nO
    have OW : O ≠ W0 := fun z => by rw [z, upd_ne WD, hW] at nO; cases nO
    have nO0 : H O = none := Ex.freshW eA nO
    have OL : O ≠ L := fun z => by rw [z, upd_ne LD, e3 _ _ hL2] at nO; cases nO
    refine ⟨(by show 4 ≤ sizeLine; decide), fun T0 nT0 => ?_⟩
    have eB := eA.trans (Ex.new (o := .lst [V.ref t]) nO)
    have eC := eB.trans (Ex.new (o := .tup [.ref L, .ref D, .ref O, .int 0]) nT0)
    have TO : T0 ≠ O := fun z => by rw [z, upd_same] at nT0; cases nT0
    have TD : T0 ≠ D := fun z => by rw [z, upd_ne (Ne.symm OD), upd_same] at nT0; cases nT0
    have TW : T0 ≠ W0 := fun z => by rw [z, upd_ne (Ne.symm OW), upd_ne WD, hW] at nT0; cases nT0
    have TL : T0 ≠ L := fun z => by rw [z, upd_ne (Ne.symm OL), upd_ne LD, e3 _ _ hL2] at nT0; cases nT0
    have hT0 : (upd (upd (upd (upd (upd H1 D (.dT [])) W0 (.lst [])) D (.dT [(pk p0, .ref W0)])) O (.lst [V.ref t])) T0 (.tup [.ref L, .ref D, .ref O, .int 0])) T0 = some (.tup [.ref L, .ref D, .ref O, .int 0]) := upd_same
    have st0 : PairsSt K n r1.length r2.length (upd (upd (upd (upd (upd H1 D (.dT [])) W0 (.lst [])) D (.dT [(pk p0, .ref W0)])) O (.lst [V.ref t])) T0 (.tup [.ref L, .ref D, .ref O, .int 0])) D O p0 [p0] [.ref W0] [[]] [t] := by
      refine ⟨?_, ?_, fun i b p hb hp => ?_, rfl, rfl, by simp, fun p hp => ?_, rfl, ?_, fun i js h => ?_⟩
      · rw [upd_ne (Ne.symm TD), upd_ne (Ne.symm OD), upd_same]
        rfl
      · rw [upd_ne (Ne.symm TO), upd_same]
        rfl
      · cases i with
        | zero =>
          simp at hb hp
          subst hb hp
          exact eC _ _ ht
        | succ i => simp at hb
      · simp at hp
        subst hp
        exact ⟨lt1, lt2⟩
      · refine .cons (.lst (SqL.of (hidL_some.mpr ⟨by simp [WD, Ne.symm OW], ?_⟩)) .nil) .nil
        rw [upd_ne (Ne.symm TW), upd_ne (Ne.symm OW), upd_ne WD]
        exact hW
      · cases i with
        | zero =>
          simp at h
          subst h
          exact ⟨Nat.le_refl _, fun j hj => by cases hj⟩
        | succ i => simp at h
    have hL9 : (upd (upd (upd (upd (upd H1 D (.dT [])) W0 (.lst [])) D (.dT [(pk p0, .ref W0)])) O (.lst [V.ref t])) T0 (.tup [.ref L, .ref D, .ref O, .int 0])) L = some (.lst ls) := by
      rw [upd_ne (Ne.symm TL), upd_ne (Ne.symm OL), upd_ne LD]
      exact e3 _ _ hL2
    have eH1 : Ex H1 (upd (upd (upd (upd (upd H1 D (.dT [])) W0 (.lst [])) D (.dT [(pk p0, .ref W0)])) O (.lst [V.ref t])) T0 (.tup [.ref L, .ref D, .ref O, .int 0])) :=
      ((e2.trans e3).mut nD).trans ((Ex.new nO).trans (Ex.new nT0))
    have nO1 : H1 O = none := Ex.freshW ((e2.trans e3).mut nD) nO
    have dL9 : DpAll K (hidL [D, O] (upd (upd (upd (upd (upd H1 D (.dT [])) W0 (.lst [])) D (.dT [(pk p0, .ref W0)])) O (.lst [V.ref t])) T0 (.tup [.ref L, .ref D, .ref O, .int 0]))) ls (ltD n) :=
      dpAll_ex (hidL_of eH1 (fun a ha => by
        simp only [List.mem_cons, List.not_mem_nil, or_false] at ha
        rcases ha with rfl | rfl
        · exact nD
        · exact nO1)) dL
    clear e4 eA eB eH1
    generalize upd (upd (upd (upd (upd H1 D (.dT [])) W0 (.lst [])) D (.dT [(pk p0, .ref W0)])) O (.lst [V.ref t])) T0 (.tup [.ref L, .ref D, .ref O, .int 0]) = H9 at eC hT0 st0 hL9 dL9 ⊢
    refine ⟨T0, _, rfl, SqT.of hT0, rfl, _, _, rfl, _, _, rfl, _, _, rfl, _, _, rfl, rfl, ?_⟩
    have lls : ls.length = 2 ^ n := by rw [dp_len dL, List.length_range]
    have out : ∀ {ps vs ws bs} {Hc : Hp} (y : V), Ex H Hc → PairsSt K n r1.length r2.length Hc D O p0 ps vs ws bs → (y = .non ∨ ∃ l js, y = .ref l ∧ WdAt K Hc l n js ∧ js.length ≤ r1.length * r2.length) → ∀ t', Hc t' = none → Q (.ref t') (upd Hc t' (.tup [.ref D, y])) := fun {ps vs ws bs Hc} y e st hy t' nt' => by
      have e' := Ex.new (o := .tup [.ref D, y]) nt'
      exact k t' D ps vs ws y _ (e.trans e') upd_same ⟨nD0, e' _ _ st.dict, st.lv, st.nd, st.rng, st.hd, dpAll_ex (hidL_ex.trans e') st.words, st.few⟩ (hy.imp id fun ⟨l, js, a, b, c⟩ => ⟨l, js, a, b.ex e', c⟩)
    refine ⟨fun mm σ Hc => ∃ (i : Nat) (ps : List (Nat × Nat)) (vs : List V) (ws : List (List Nat)) (bs : List Addr), (∃ v7 v8 v9 v10 v11 v12 v13 v14 v15, σ = [some (.ref m1), some (.ref m2), some (.ref t), some (.ref L), some (.ref D), some (.ref O), some (.int (i : Int)), v7, v8, v9, v10, v11, v12, v13, v14, v15]) ∧
      Ex H Hc ∧ Hc L = some (.lst ls) ∧ DpAll K (hidL [D, O] Hc) ls (ltD n) ∧ PairsSt K n r1.length r2.length Hc D O p0 ps vs ws bs ∧ i ≤ ps.length ∧ mm + i = 61, ⟨61, 0, _, _, _, _, ⟨_, _, _, _, _, _, _, _, _, rfl⟩, eC, hL9, dL9, st0, by simp, rfl⟩, fun mm σ Hc inv => ?_⟩
    obtain ⟨i, ps, vs, ws, bs, ⟨v7, v8, v9, v10, v11, v12, v13, v14, v15, rfl⟩, e, hLc, dLc, st, hi, hmm⟩ := inv
    have lps : ps.length ≤ 60 := Nat.le_trans (pairs_few st.nd st.rng) few
    refine ⟨_, rfl, _, rfl, O, _, rfl, .inl (SqL.of st.ord), _, _, rfl, rfl, _, rfl, ?_⟩
    by_cases c0 : i < ps.length
    · rw [decide_eq_true (show (i : Int) < ((bs.map V.ref).length : Nat) by rw [List.length_map, st.lb]; exact Int.ofNat_lt.mpr c0)]
      refine iteT ⟨fun σ' H' => ∃ (ps : List (Nat × Nat)) (vs : List V) (ws : List (List Nat)) (bs : List Addr), (∃ v7 v8 v9 v10 v11 v12 v13 v14 v15, σ' = [some (.ref m1), some (.ref m2), some (.ref t), some (.ref L), some (.ref D), some (.ref O), some (.int ((i + 1 : Nat) : Int)), v7, v8, v9, v10, v11, v12, v13, v14, v15]) ∧
        Ex H H' ∧ H' L = some (.lst ls) ∧ DpAll K (hidL [D, O] H') ls (ltD n) ∧ PairsSt K n r1.length r2.length H' D O p0 ps vs ws bs ∧ i + 1 ≤ ps.length, fun σ' H' ⟨ps', vs', ws', bs', q1, q2, q3, q4, q5, q6⟩ => ⟨mm - 1, by omega, i + 1, ps', vs', ws', bs', q1, q2, q3, q4, q5, q6, by omega⟩, ?_⟩
      obtain ⟨p, hp⟩ : ∃ p, ps[i]? = some p := ⟨ps[i], List.getElem?_eq_getElem c0⟩
      obtain ⟨b, hb⟩ : ∃ b, bs[i]? = some b := ⟨bs[i]'(by rw [st.lb]; exact c0), List.getElem?_eq_getElem (by rw [st.lb]; exact c0)⟩
      have lw : ws.length = ps.length := by rw [← dp_len st.words]; exact st.lv
      obtain ⟨js, hjs⟩ : ∃ js, ws[i]? = some js := ⟨ws[i]'(by rw [lw]; exact c0), List.getElem?_eq_getElem (by rw [lw]; exact c0)⟩
      obtain ⟨v, hv⟩ : ∃ v, vs[i]? = some v := ⟨vs[i]'(by rw [st.lv]; exact c0), List.getElem?_eq_getElem (by rw [st.lv]; exact c0)⟩
      obtain ⟨lp1, lp2⟩ := st.rng p (List.mem_of_getElem? hp)
      obtain ⟨fj, rj⟩ := st.few i js hjs
      have atB : ∀ {cs : List Addr}, cs[i]? = some b → atI (cs.map V.ref) (i : Int) = some (.ref b) := fun {cs} h => atI_nat (by rw [List.getElem?_map, h]; rfl)
      refine ⟨_, rfl, _, rfl, O, _, _, .ref b, rfl, rfl, SqL.of st.ord, atB hb, b, _, rfl, SqT.of (st.at_ i b p hb hp), rfl, _, _, rfl, _, _, rfl, rfl, ?_⟩
      refine ⟨_, rfl, L, ls, rfl, SqL.of hLc, ?_⟩
      refine for_it (walk_enum (K := K) (a := L) (xs := ls)) (fun j σ Hd => ∃ (ps' : List (Nat × Nat)) (vs' : List V) (ws' : List (List Nat)) (bs' : List Addr), (∃ v9 v10 v11 v12 v13 v14 v15, σ = [some (.ref m1), some (.ref m2), some (.ref t), some (.ref L), some (.ref D), some (.ref O), some (.int (i : Int)), some (.int (p.1 : Int)), some (.int (p.2 : Int)), v9, v10, v11, v12, v13, v14, v15]) ∧
        Ex H Hd ∧ Hd L = some (.lst ls) ∧ DpAll K (hidL [D, O] Hd) ls (ltD n) ∧ PairsSt K n r1.length r2.length Hd D O p0 ps' vs' ws' bs' ∧ ps'[i]? = some p ∧ bs'[i]? = some b ∧ vs'[i]? = some v ∧ ws'[i]? = some js)
        ⟨ps, vs, ws, bs, ⟨_, _, _, _, _, _, _, rfl⟩, e, hLc, dLc, st, hp, hb, hv, hjs⟩ (fun j σ Hd _ q => by obtain ⟨_, _, _, _, _, _, q, _⟩ := q; exact SqL.of q) (fun j x σ Hd Hd' hj q yy => ?_) (fun σ Hd q => ?_)
      · clear hp hb hv hjs st lps hLc dLc e c0 hi hmm lw
        obtain ⟨ps, vs, ws, bs, ⟨v9, v10, v11, v12, v13, v14, v15, rfl⟩, e, hLc, dLc, st, hp, hb, hv, hjs⟩ := q
        obtain ⟨T1, y0, y, rfl, nT, rfl, ey0, ey⟩ := yy
        cases ey0
        rw [lls] at hj
        have lps' := pairs_few st.nd st.rng
        have lps : ps.length ≤ 60 := Nat.le_trans lps' few
        have c0 : i < ps.length := (List.getElem?_eq_some_iff.mp hp).1
        have e1' := Ex.new (o := .tup [.int ((j : Nat) : Int), y]) nT
        obtain ⟨j', ej', dy⟩ := dp_nth dLc ey
        rw [List.getElem?_range hj] at ej'
        obtain rfl : j = j' := Option.some.inj ej'
        have hT1 : (upd Hd T1 (.tup [.int ((j : Nat) : Int), y])) T1 = some (.tup [.int ((j : Nat) : Int), y]) := upd_same
        have eX := e.trans e1'
        have stX := st.ex e1'
        have hLX := e1' _ _ hLc
        have dLX := dpAll_ex (hidL_mono (S := [D, O]) e1') dLc
        have dyX := dp_ex (hidL_mono (S := [D, O]) e1') dy
        generalize upd Hd T1 (.tup [.int ((j : Nat) : Int), y]) = He at eX stX hLX dLX dyX hT1
        obtain ⟨xr1, b1, yr1, q1, q2, q3, q4⟩ := rowL_at (dp_ex eX dl1) lp1
        obtain ⟨xr2, b2, yr2, q5, q6, q7, q8⟩ := rowL_at (dp_ex eX dl2) lp2
        obtain ⟨z1, a1, a2⟩ := goal_at (K := K) q4 g1.wide lp1 hj
        obtain ⟨z2, a3, a4⟩ := goal_at (K := K) q8 g2.wide lp2 hj
        obtain ⟨t1, u1, rfl, b3, b4⟩ := go_of a2
        obtain ⟨t2, u2, rfl, b5, b6⟩ := go_of a4
        have tl1 : Tl (Mm.go r1 p.1 j).2 := g1.outs [j] lp1 (fun i hi => by rw [List.mem_singleton.mp hi]; exact hj) _ (by simp [Mm.outs])
        have tl2 : Tl (Mm.go r2 p.2 j).2 := g2.outs [j] lp2 (fun i hi => by rw [List.mem_singleton.mp hi]; exact hj) _ (by simp [Mm.outs])
        refine ⟨T1, _, rfl, SqT.of hT1, rfl, _, _, rfl, _, _, rfl, rfl, ?_⟩
        refine ⟨_, rfl, m1, _, rfl, kvM_r (eX _ _ hl1), _, rfl, l1, xr1, _, _, rfl, rfl, q1, q2, _, rfl, b1, yr1, _, .ref t1, rfl, rfl, q3, a1, t1, _, rfl, b3, rfl, _, _, rfl, _, _, rfl, rfl, ?_⟩
        refine ⟨_, rfl, m2, _, rfl, kvM_r (eX _ _ hl2), _, rfl, l2, xr2, _, _, rfl, rfl, q5, q6, _, rfl, b2, yr2, _, .ref t2, rfl, rfl, q7, a3, t2, _, rfl, b5, rfl, _, _, rfl, _, _, rfl, rfl, ?_⟩
        obtain ⟨js', ejs, dv⟩ := dp_nth stX.words hv
        obtain rfl : js = js' := Option.some.inj (hjs.symm.trans ejs)
        obtain ⟨lw, xw, rfl, hw, dw⟩ := list_of (show Dp K (hidL [D, O] He) v (.list (wdL n js)) from dv)
        have lxw : xw.length = js.length := by rw [dpAll_len dw]; unfold wdL; rw [List.length_map]
        have dg : DGet He D (.ref b) (some (.ref lw)) := by
          have := DGet.t (k := pk p) stX.dict (stX.at_ i b p hb hp)
          rw [kvP_get stX.nd hp hv] at this
          exact this
        refine ⟨_, rfl, _, rfl, _, rfl, O, _, _, .ref b, rfl, rfl, SqL.of stX.ord, atB hb, D, .ref lw, rfl, dg, _, rfl, (by show 1 ≤ sizeLine; decide), fun l9 n9 => ?_⟩
        have e9 := Ex.new (o := .lst [y]) n9
        refine ⟨lw, l9, xw, [y], rfl, rfl, sl_exQ (hidL_ex.trans e9) hw, SqL.of upd_same, Nat.le_trans (show xw.length + 1 ≤ 1000 by omega) (by decide), fun Wn nWn => ?_⟩
        have e10 := Ex.new (o := .lst (xw ++ [y])) nWn
        have hWn : (upd (upd He l9 (.lst [y])) Wn (.lst (xw ++ [y]))) Wn = some (.lst (xw ++ [y])) := upd_same
        have eY := e9.trans e10
        have nWD : Wn ∉ [D, O] := fun z => by
          simp only [List.mem_cons, List.not_mem_nil, or_false] at z
          rcases z with rfl | rfl
          · have := e9 _ _ stX.dict
            rw [nWn] at this
            cases this
          · have := e9 _ _ stX.ord
            rw [nWn] at this
            cases this
        have eZ := eX.trans eY
        have stY := stX.ex eY
        have hLY := eY _ _ hLX
        have hm := hidL_mono (S := [D, O]) eY
        have dLY := dpAll_ex hm dLX
        have dwY : DpAll K (hidL [D, O] (upd (upd He l9 (.lst [y])) Wn (.lst (xw ++ [y])))) (xw ++ [y]) (wdL n (js ++ [j])) := by
          unfold wdL
          rw [List.map_append]
          exact dpAll_appG (dpAll_ex hm dw) (.cons (dp_ex hm dyX) .nil)
        have b4' := st_exQ eY b4
        have b6' := st_exQ eY b6
        generalize upd (upd He l9 (.lst [y])) Wn (.lst (xw ++ [y])) = Hf at eZ stY hLY dLY dwY hWn b4' b6' ⊢
        have rj' : ∀ q ∈ js ++ [j], q < 2 ^ n := fun q hq => by
          rcases List.mem_append.mp hq with h | h
          · exact rj q h
          · simp at h
            omega
        have wd : WdAt K Hf Wn n (js ++ [j]) := ⟨_, hWn, dpAll_ex hidL_ex dwY, rj', by simp; omega⟩
        have dWn : Dp K (hidL [D, O] Hf) (.ref Wn) (wordD n (js ++ [j])) := .lst (SqL.of (hidL_some.mpr ⟨nWD, hWn⟩)) dwY
        refine ⟨_, rfl, _, rfl, bitsD (Mm.go r1 p.1 j).2, bitsD (Mm.go r2 p.2 j).2, .tup b4' (dpAll_ints _), .tup b6' (dpAll_ints _), bits_shaped tl1, bits_shaped tl2, _, rfl, ?_⟩
        rw [eqv_bits]
        by_cases c1 : (Mm.go r1 p.1 j).2 = (Mm.go r2 p.2 j).2
        · rw [decide_eq_true c1]
          refine iteF ⟨_, rfl, _, rfl, (by show 2 ≤ sizeLine; decide), fun t3 n3 => ?_⟩
          have e3 := Ex.new (o := .tup [.int ((Mm.go r1 p.1 j).1 : Int), .int ((Mm.go r2 p.2 j).1 : Int)]) n3
          have ht3 : (upd Hf t3 (.tup [.int ((Mm.go r1 p.1 j).1 : Int), .int ((Mm.go r2 p.2 j).1 : Int)])) t3 = some (.tup ((pk ((Mm.go r1 p.1 j).1, (Mm.go r2 p.2 j).1)).map kV)) := upd_same
          have st3 := stY.ex e3
          have eG := eZ.trans e3
          have hL3 := e3 _ _ hLY
          have dL3 := dpAll_ex (hidL_mono (S := [D, O]) e3) dLY
          have dW3 := dp_ex (hidL_mono (S := [D, O]) e3) dWn
          refine ⟨_, rfl, D, _, rfl, DGet.t st3.dict ht3, _, rfl, ?_⟩
          generalize upd Hf t3 (.tup [.int ((Mm.go r1 p.1 j).1 : Int), .int ((Mm.go r2 p.2 j).1 : Int)]) = Hg at eG st3 hL3 dL3 dW3 ht3 ⊢
          rw [kvP_some st3.nd st3.lv]
          by_cases c2 : ((Mm.go r1 p.1 j).1, (Mm.go r2 p.2 j).1) ∈ ps
          · rw [decide_eq_true c2]
            exact iteF ⟨ps, vs, ws, bs, ⟨_, _, _, _, _, _, _, rfl⟩, eG, hL3, dL3, st3, hp, hb, hv, hjs⟩
          · rw [decide_eq_false c2]
            refine iteT ⟨_, rfl, _, rfl, _, rfl, _, rfl, (by show 2 ≤ sizeLine; decide), fun t4 n4 => ?_⟩
            have e4 := Ex.new (o := .tup [.int ((Mm.go r1 p.1 j).1 : Int), .int ((Mm.go r2 p.2 j).1 : Int)]) n4
            have ht4 : (upd Hg t4 (.tup [.int ((Mm.go r1 p.1 j).1 : Int), .int ((Mm.go r2 p.2 j).1 : Int)])) t4 = some (.tup ((pk ((Mm.go r1 p.1 j).1, (Mm.go r2 p.2 j).1)).map kV)) := upd_same
            have st4 := st3.ex e4
            have eH := eG.trans e4
            have hL4 := e4 _ _ hL3
            have dL4 := dpAll_ex (hidL_mono (S := [D, O]) e4) dL3
            have dW4 := dp_ex (hidL_mono (S := [D, O]) e4) dW3
            generalize upd Hg t4 (.tup [.int ((Mm.go r1 p.1 j).1 : Int), .int ((Mm.go r2 p.2 j).1 : Int)]) = Hh at eH st4 hL4 dL4 dW4 ht4 ⊢
            have lk : (kvP ps vs).length < sizeLine := Nat.lt_of_le_of_lt (by unfold kvP; rw [List.length_map, List.length_zip]; omega : (kvP ps vs).length ≤ 60) (by decide)
            refine ⟨D, _, rfl, DPut.t st4.dict ht4 lk, ?_⟩
            refine ⟨_, rfl, .inl ⟨rfl, _, SqL.of (by rw [upd_ne (Ne.symm st4.ne)]; exact st4.ord)⟩, _, rfl, _, rfl, (by show 2 ≤ sizeLine; decide), fun t5 n5 => ?_⟩
            have t5D : t5 ≠ D := fun z => by rw [z, upd_same] at n5; cases n5
            have n5' : Hh t5 = none := by rwa [upd_ne t5D] at n5
            have t5O : t5 ≠ O := fun z => by rw [z, st4.ord] at n5'; cases n5'
            refine ⟨O, _, _, rfl, rfl, (by rw [upd_ne (Ne.symm t5O), upd_ne (Ne.symm st4.ne)]; exact st4.ord), (by rw [List.length_map, st4.lb]; exact Nat.lt_of_le_of_lt lps (by decide)), ?_⟩
            rw [upd_swap (Ne.symm t5D)]
            have e5 := Ex.new (o := .tup [.int ((Mm.go r1 p.1 j).1 : Int), .int ((Mm.go r2 p.2 j).1 : Int)]) n5'
            have st5 := st4.ex e5
            have hL5 := e5 _ _ hL4
            have dL5 := dpAll_ex (hidL_mono (S := [D, O]) e5) dL4
            have ht5 : (upd Hh t5 (.tup [.int ((Mm.go r1 p.1 j).1 : Int), .int ((Mm.go r2 p.2 j).1 : Int)])) t5 = some (.tup [.int ((Mm.go r1 p.1 j).1 : Int), .int ((Mm.go r2 p.2 j).1 : Int)]) := upd_same
            have dW5 := dp_ex (hidL_mono (S := [D, O]) e5) dW4
            have eI := eH.trans e5
            generalize upd Hh t5 (.tup [.int ((Mm.go r1 p.1 j).1 : Int), .int ((Mm.go r2 p.2 j).1 : Int)]) = Hi at eI st5 hL5 dL5 dW5 ht5 ⊢
            have s1 : (Mm.go r1 p.1 j).1 < r1.length := by
              have := Mm.end_lt g1.ok g1.wide [j] (fun q hq => by rw [List.mem_singleton.mp hq]; exact hj) lp1
              exact this
            have s2 : (Mm.go r2 p.2 j).1 < r2.length := by
              have := Mm.end_lt g2.ok g2.wide [j] (fun q hq => by rw [List.mem_singleton.mp hq]; exact hj) lp2
              exact this
            have st6 := st5.add c2 s1 s2 dW5 (by simp; omega) rj' ht5
            have LD' : L ≠ D := LD
            have OL' : O ≠ L := OL
            refine ⟨ps ++ [_], vs ++ [_], ws ++ [_], bs ++ [_], ⟨_, _, _, _, _, _, _, rfl⟩, (eI.mut nD0).mut nO0, ?_, ?_, st6, ?_, ?_, ?_, ?_⟩
            · rw [upd_ne (Ne.symm OL'), upd_ne LD']
              exact hL5
            · rw [hidL_upd (by simp), hidL_upd (by simp)]
              exact dL5
            · rw [List.getElem?_append_left c0]
              exact hp
            · rw [List.getElem?_append_left (by rw [st5.lb]; exact c0)]
              exact hb
            · rw [List.getElem?_append_left (by rw [st5.lv]; exact c0)]
              exact hv
            · rw [List.getElem?_append_left (List.getElem?_eq_some_iff.mp hjs).1]
              exact hjs
        · rw [decide_eq_false c1]
          refine iteT ⟨_, rfl, _, rfl, (by show 2 ≤ sizeLine; decide), fun t' nt' => out (.ref Wn) eZ stY (.inr ⟨Wn, _, rfl, wd, by simp; omega⟩) t' nt'⟩
      · obtain ⟨ps', vs', ws', bs', ⟨v9, v10, v11, v12, v13, v14, v15, rfl⟩, e', hLc', dLc', st', hp', hb', hv', hjs'⟩ := q
        refine ⟨_, rfl, _, _, rfl, rfl, ps', vs', ws', bs', ⟨_, _, _, _, _, _, _, _, _, rfl⟩, e', hLc', dLc', st', (List.getElem?_eq_some_iff.mp hp').1⟩
    · rw [decide_eq_false (show ¬ (i : Int) < ((bs.map V.ref).length : Nat) by rw [List.length_map, st.lb]; omega)]
      exact iteF ⟨_, rfl, (by show 2 ≤ sizeLine; decide), fun t' nt' => out .non e st (.inl rfl) t' nt'⟩
end
end W

set_option Elab.async false
set_option linter.all false
set_option maxRecDepth 100000
set_option maxHeartbeats 16000000
/-! Things that are judged. -/
namespace W
open PySem PySem.Spec PyProof.Rows L2 Evl G NdefX LamX Clo
/-- small when shown -/
structure Sz (c e : Nat) (d : PyData) : Prop where
  sh : d.showable = true
  dp : d.depth ≤ e
  ln : d.shown.length ≤ c
theorem Sz.mono {c e c' e' : Nat} {d : PyData} (h : Sz c e d) (h1 : c ≤ c') (h2 : e ≤ e') : Sz c' e' d := ⟨h.sh, Nat.le_trans h.dp h2, Nat.le_trans h.ln h1⟩
theorem Sz.showy {c e : Nat} {d : PyData} (h : Sz c e d) (h1 : c ≤ 100000) (h2 : e ≤ 40) : Showy d := ⟨h.sh, Nat.le_trans h.dp h2, Nat.le_trans h.ln h1⟩
theorem showAll {ds : List PyData} (h : ∀ d ∈ ds, d.showable = true) : PyData.showableAll ds = true := by
  induction ds with
  | nil => rfl
  | cons d ds ih =>
    show (d.showable && PyData.showableAll ds) = true
    rw [h d List.mem_cons_self, ih fun x hx => h x (List.mem_cons_of_mem _ hx)]
    rfl
theorem depthAll_le {e : Nat} {ds : List PyData} (h : ∀ d ∈ ds, d.depth ≤ e) : PyData.depthAll ds ≤ e := by
  induction ds with
  | nil => exact Nat.zero_le _
  | cons d ds ih =>
    show max d.depth (PyData.depthAll ds) ≤ e
    exact Nat.max_le.mpr ⟨h d List.mem_cons_self, ih fun x hx => h x (List.mem_cons_of_mem _ hx)⟩
theorem Sz.list {c e m : Nat} {ds : List PyData} (h : ∀ d ∈ ds, Sz c e d) (l : ds.length ≤ m) : Sz (m * c + 2 * m + 3) (e + 1) (.list ds) := by
  refine ⟨by simp only [PyData.showable]; exact showAll fun d hd => (h d hd).sh, ?_, ?_⟩
  · simp only [PyData.depth]
    have := depthAll_le fun d hd => (h d hd).dp
    omega
  · simp only [PyData.shown]
    have h1 := listText_len_le (PyData.shownAll ds)
    have h2 := shownAll_sum ds fun d hd => (h d hd).ln
    rw [shownAll_len] at h1
    have h3 := Nat.mul_le_mul_right c l
    omega
theorem Sz.tuple {c e m : Nat} {ds : List PyData} (h : ∀ d ∈ ds, Sz c e d) (l : ds.length ≤ m) : Sz (m * c + 2 * m + 3) (e + 1) (.tuple ds) := by
  refine ⟨by simp only [PyData.showable]; exact showAll fun d hd => (h d hd).sh, ?_, ?_⟩
  · simp only [PyData.depth]
    have := depthAll_le fun d hd => (h d hd).dp
    omega
  · simp only [PyData.shown]
    have h1 := tupleText_len_le (PyData.shownAll ds)
    have h2 := shownAll_sum ds fun d hd => (h d hd).ln
    rw [shownAll_len] at h1
    have h3 := Nat.mul_le_mul_right c l
    omega
def szB (c e : Nat) (d : PyData) : Bool := d.showable && decide (d.depth ≤ e) && decide (d.shown.length ≤ c)
theorem sz_of {c e : Nat} {d : PyData} (h : szB c e d = true) : Sz c e d := by
  unfold szB at h
  rw [Bool.and_eq_true, Bool.and_eq_true, decide_eq_true_eq, decide_eq_true_eq] at h
  exact ⟨h.1.1, h.1.2, h.2⟩
theorem sz_smL : ∀ d ∈ smL, Sz 6 1 d := fun d hd => sz_of (List.all_eq_true.mp (show smL.all (szB 6 1) = true by decide +kernel) d hd)
theorem int_smL {i : Nat} (h : i ≤ 12) : PyData.int (i : Int) ∈ smL := by
  unfold smL
  refine List.mem_append_left _ (List.mem_map.mpr ⟨i + 2, List.mem_range.mpr (by omega), ?_⟩)
  congr 1
  omega
theorem sm_neg : PyData.int (-1) ∈ smL := List.mem_append_left _ (List.mem_map.mpr ⟨1, List.mem_range.mpr (by decide), rfl⟩)
theorem sm_0 : PyData.int 0 ∈ smL := int_smL (i := 0) (by decide)
theorem sm_t : PyData.bool true ∈ smL := List.mem_append_right _ (by simp)
theorem sm_f : PyData.bool false ∈ smL := List.mem_append_right _ (by simp)
theorem sm_n : PyData.none ∈ smL := List.mem_append_right _ (by simp)
theorem sm_l : PyData.list [.int 0] ∈ smL := List.mem_append_right _ (by simp)
theorem sm_d : PyData.dict [] ∈ smL := List.mem_append_right _ (by simp)
theorem sm_2 {d e : PyData} (hd : d ∈ smL) (he : e ∈ smL) : ∀ x ∈ [d, e], x ∈ smL := fun x hx => by
  simp only [List.mem_cons, List.not_mem_nil, or_false] at hx
  rcases hx with rfl | rfl
  · exact hd
  · exact he
theorem Sz.kv {c e c' e' m : Nat} {ks vs : List PyData} (hk : ∀ d ∈ ks, Sz c e d) (hv : ∀ d ∈ vs, Sz c' e' d) (l : ks.length ≤ m) : Sz (m * (c + c' + 2) + 2 * m + 3) (max e e' + 1) (.dict (ks.zip vs)) := by
  have key : ∀ kvs : List (PyData × PyData), (∀ p ∈ kvs, Sz c e p.1 ∧ Sz c' e' p.2) → PyData.showableKv kvs = true ∧ PyData.depthKv kvs ≤ max e e' ∧ ((PyData.shownKv kvs).map (·.length)).sum ≤ kvs.length * (c + c' + 2) ∧ (PyData.shownKv kvs).length = kvs.length := fun kvs => by
    induction kvs with
    | nil => exact fun _ => ⟨rfl, Nat.zero_le _, Nat.zero_le _, rfl⟩
    | cons p kvs ih =>
      intro h
      obtain ⟨i1, i2, i3, i4⟩ := ih fun q hq => h q (List.mem_cons_of_mem _ hq)
      obtain ⟨h1, h2⟩ := h p List.mem_cons_self
      obtain ⟨a, b⟩ := p
      refine ⟨?_, ?_, ?_, ?_⟩
      · show (a.showable && b.showable && PyData.showableKv kvs) = true
        rw [h1.sh, h2.sh, i1]
        rfl
      · show max (max a.depth b.depth) (PyData.depthKv kvs) ≤ _
        exact Nat.max_le.mpr ⟨Nat.max_le.mpr ⟨Nat.le_trans h1.dp (Nat.le_max_left _ _), Nat.le_trans h2.dp (Nat.le_max_right _ _)⟩, i2⟩
      · show ((a.shown ++ ": " ++ b.shown).length + ((PyData.shownKv kvs).map (·.length)).sum) ≤ (kvs.length + 1) * (c + c' + 2)
        have z : (a.shown ++ ": " ++ b.shown : Str).length = a.shown.length + 2 + b.shown.length := by
          rw [Str.length_append, Str.length_append]
          rfl
        have q1 : a.shown.length ≤ c := h1.ln
        have q2 : b.shown.length ≤ c' := h2.ln
        rw [z, Nat.add_mul]
        omega
      · show (PyData.shownKv kvs).length + 1 = kvs.length + 1
        rw [i4]
  obtain ⟨i1, i2, i3, i4⟩ := key (ks.zip vs) fun p hp => ⟨hk _ (List.of_mem_zip hp).1, hv _ (List.of_mem_zip hp).2⟩
  have lz : (ks.zip vs).length ≤ m := by rw [List.length_zip]; omega
  refine ⟨by simp only [PyData.showable]; exact i1, ?_, ?_⟩
  · simp only [PyData.depth]
    omega
  · simp only [PyData.shown]
    have h1 := dictText_len_le (PyData.shownKv (ks.zip vs))
    rw [i4] at h1
    have h3 := Nat.mul_le_mul_right (c + c' + 2) lz
    omega
section
variable {P : Program} {w : World} {K : PySem.W.Frag} {mg : Str → Option Value} {base : Heap} {M P1 P2 : Addr} {H H' B : Hp}
/-- what stands in a thing -/
def ItAt (K : PySem.W.Frag) (H : Hp) (x : V) (d : PyData) : Prop := Dq K H x d ∧ smT d ∧ Sz 40 3 d ∧ ∀ e, d = .tuple e → ∃ t ys, x = .ref t ∧ H t = some (.tup ys) ∧ DqAll K H ys e
theorem ItAt.ex {x : V} {d : PyData} (h : ItAt K H x d) (e : Ex H H') : ItAt K H' x d := ⟨h.1.ex e, h.2.1, h.2.2.1, fun f hf => let ⟨t, ys, a, b, c⟩ := h.2.2.2 f hf; ⟨t, ys, a, e _ _ b, c.ex e⟩⟩
def Its (K : PySem.W.Frag) (H : Hp) (xs : List V) : Prop := ∀ x ∈ xs, ∃ d, ItAt K H x d
theorem Its.ex {xs : List V} (h : Its K H xs) (e : Ex H H') : Its K H' xs := fun x hx => let ⟨d, q⟩ := h x hx; ⟨d, q.ex e⟩
theorem Its.append {xs ys : List V} (h : Its K H xs) (g : Its K H ys) : Its K H (xs ++ ys) := fun x hx => (List.mem_append.mp hx).elim (h x) (g x)
theorem Its.sub {xs ys : List V} (h : Its K H xs) (s : ∀ y ∈ ys, y ∈ xs) : Its K H ys := fun y hy => h y (s y hy)
theorem Its.one {x : V} {d : PyData} (h : ItAt K H x d) : Its K H [x] := fun y hy => by rw [List.mem_singleton.mp hy]; exact ⟨d, h⟩
theorem Its.data {xs : List V} (h : Its K H xs) : ∃ ds : List PyData, DqAll K H xs ds ∧ ∀ (i : Nat) (x : V), xs[i]? = some x → ∃ d, ds[i]? = some d ∧ ItAt K H x d := by
  induction xs with
  | nil => exact ⟨[], .nil, fun i x e => by simp at e⟩
  | cons x xs ih =>
    obtain ⟨d, hd⟩ := h x List.mem_cons_self
    obtain ⟨ds, h1, h2⟩ := ih fun y hy => h y (List.mem_cons_of_mem _ hy)
    refine ⟨d :: ds, .cons hd.1 h1, fun i y e => ?_⟩
    cases i with
    | zero =>
      simp at e
      subst e
      exact ⟨d, rfl, hd⟩
    | succ i => exact h2 i y (by simpa using e)
/-- a thing that is judged -/
def Thing (K : PySem.W.Frag) (H : Hp) (x : V) (d : PyData) : Prop := ThAt K H x d ∧ smR H x d ∧ Showy d
theorem Thing.ex {x : V} {d : PyData} (h : Thing K H x d) (e : Ex H H') : Thing K H' x d := ⟨h.1.ex e, fun ds hd => let ⟨a, b, c⟩ := h.2.1 ds hd; ⟨a, b, fun q e1 e2 e3 => let ⟨o, u, z, y⟩ := c q e1 e2 e3; ⟨o, u, e _ _ z, y⟩⟩, h.2.2⟩
def Ths (K : PySem.W.Frag) (H : Hp) (xs : List V) : Prop := ∀ x ∈ xs, ∃ d, Thing K H x d
theorem Ths.ex {xs : List V} (h : Ths K H xs) (e : Ex H H') : Ths K H' xs := fun x hx => let ⟨d, q⟩ := h x hx; ⟨d, q.ex e⟩
theorem Ths.append {xs ys : List V} (h : Ths K H xs) (g : Ths K H ys) : Ths K H (xs ++ ys) := fun x hx => (List.mem_append.mp hx).elim (h x) (g x)
theorem Ths.cons {x : V} {xs : List V} (h : ∃ d, Thing K H x d) (g : Ths K H xs) : Ths K H (x :: xs) := fun y hy => (List.mem_cons.mp hy).elim (fun e => e ▸ h) (g y)
theorem Ths.sub {xs ys : List V} (h : Ths K H xs) (s : ∀ y ∈ ys, y ∈ xs) : Ths K H ys := fun y hy => h y (s y hy)
theorem Ths.nil : Ths K H [] := fun y hy => by cases hy
theorem thing_none {x : V} {d : PyData} (h : Dq K H x d) (n : itemsD d = none) (s : Showy d) : Thing K H x d := ⟨.inl ⟨n, h⟩, fun ds hd => (by rw [n] at hd; cases hd), s⟩
theorem thing_items {a : Addr} {xs : List V} (b : Bool) (hs : cond b (∃ o, H a = some (.frz o (.tup xs)) ∧ o.dict = none) (SqL K H a xs)) (h : Its K H xs) (few : xs.length ≤ 200) : ∃ d, Thing K H (.ref a) d := by
  obtain ⟨ds, h1, h2⟩ := h.data
  have len := h1.len
  have all : ∀ d ∈ ds, ∃ x, ItAt K H x d := fun d hd => by
    obtain ⟨i, hi⟩ := List.getElem?_of_mem hd
    have li := (List.getElem?_eq_some_iff.mp hi).1
    obtain ⟨d', e1, q⟩ := h2 i xs[i] (List.getElem?_eq_getElem (by omega))
    rw [hi] at e1
    cases e1
    exact ⟨_, q⟩
  have pl : ∀ (i : Nat) (y : V) (e : List PyData), xs[i]? = some y → ds[i]? = some (.tuple e) → ∃ t ys, y = .ref t ∧ H t = some (.tup ys) ∧ DqAll K H ys e := fun i y e e1 e2 => by
    obtain ⟨d', e3, q⟩ := h2 i y e1
    rw [e2] at e3
    cases e3
    exact q.2.2.2 e rfl
  have sz : ∀ d ∈ ds, Sz 40 3 d := fun d hd => let ⟨x, q⟩ := all d hd; q.2.2.1
  have sm : ∀ d ∈ ds, smT d := fun d hd => let ⟨x, q⟩ := all d hd; q.2.1
  cases b with
  | false =>
    refine ⟨.list ds, .inr ⟨a, xs, ds, rfl, .inl ⟨rfl, hs⟩, h1, by omega, pl⟩, fun es he => ?_, (Sz.list (m := 200) sz (by omega)).showy (by decide) (by decide)⟩
    cases he
    exact ⟨by omega, sm, fun q _ z => by cases z⟩
  | true =>
    obtain ⟨o, ho, hd⟩ := hs
    refine ⟨.tuple ds, .inr ⟨a, xs, ds, rfl, .inr ⟨rfl, .inl (.inr ⟨o, ho⟩)⟩, h1, by omega, pl⟩, fun es he => ?_, (Sz.tuple (m := 200) sz (by omega)).showy (by decide) (by decide)⟩
    cases he
    exact ⟨by omega, sm, fun q e _ _ => by cases e; exact ⟨o, _, ho, hd⟩⟩
theorem it_tup {a : Addr} {xs : List V} {ds : List PyData} (h : H a = some (.tup xs)) (hd : DqAll K H xs ds) (sm : ∀ d ∈ ds, d ∈ smL) (few : ds.length ≤ 3) : ItAt K H (.ref a) (.tuple ds) := by
  refine ⟨.tup (.inl (.inl h)) hd, fun es he => by cases he; exact sm, ?_, fun e he => by cases he; exact ⟨a, xs, rfl, h, hd⟩⟩
  exact (Sz.tuple (m := 3) (fun d hm => sz_smL d (sm d hm)) few).mono (by decide) (by decide)
theorem it_pair {a : Addr} {i j : Nat} (h : H a = some (.tup [.int (i : Int), .int (j : Int)])) (hi : i ≤ 12) (hj : j ≤ 12) : ItAt K H (.ref a) (prT (i, j)) :=
  it_tup h (.cons (.int _) (.cons (.int _) .nil)) (fun d hd => by
    simp only [List.mem_cons, List.not_mem_nil, or_false] at hd
    rcases hd with rfl | rfl
    · exact int_smL hi
    · exact int_smL hj) (by show 2 ≤ 3; decide)
theorem it_else {x : V} {d : PyData} (h : Dq K H x d) (n : ∀ e, d ≠ .tuple e) (s : Sz 40 3 d) : ItAt K H x d := ⟨h, fun e he => absurd he (n e), s, fun e he => absurd he (n e)⟩
/-- a part B of the heap H that stays: without the pot and the other things of S; H0 the heap at the start -/
structure Bs (S : List Addr) (p : Addr) (H0 B H : Hp) : Prop where
  ex : Ex B H
  no : ∀ a ∈ S, B a = none
  th : ∀ a ∈ S, ∃ u, H a = some u
  mem : p ∈ S
  pot : Pot H p
  bt : ExBut p H0 H
  nw : ∀ a ∈ S, a = p ∨ H0 a = none
section
variable {S : List Addr} {p : Addr} {H0 : Hp}
theorem Bs.init (hp : Pot H p) : Bs [p] p H (hidL [p] H) H := ⟨hidL_ex, fun a ha => (by unfold hidL; rw [if_pos ha]), fun a ha => (by rw [List.mem_singleton.mp ha]; exact let ⟨_, h⟩ := hp.lst; ⟨_, h⟩), List.mem_singleton.mpr rfl, hp, fun _ _ h _ => h, fun a ha => .inl (List.mem_singleton.mp ha)⟩
theorem Bs.lps (b : Bs S p H0 B H) {l : Addr} (h : H l = none) : l ∉ S := fun z => by
  obtain ⟨u, hu⟩ := b.th l z
  rw [h] at hu
  cases hu
theorem Bs.lp (b : Bs S p H0 B H) {l : Addr} (h : H l = none) : l ≠ p := fun z => b.lps h (z ▸ b.mem)
theorem Bs.ext (b : Bs S p H0 B H) (e : Ex H H') : Bs S p H0 B H' := ⟨b.ex.trans e, b.no, fun a ha => let ⟨u, hu⟩ := b.th a ha; ⟨u, e _ _ hu⟩, b.mem, b.pot.ex e, b.bt.trans (ExBut.of e), b.nw⟩
theorem Bs.but (b : Bs S p H0 B H) (e : ExBut p H H') (hp : Pot H' p) : Bs S p H0 B H' := ⟨fun a o h => e _ _ (b.ex _ _ h) (fun z => by rw [z, b.no p b.mem] at h; cases h), b.no, fun a ha => by
  by_cases z : a = p
  · rw [z]
    obtain ⟨_, h⟩ := hp.lst
    exact ⟨_, h⟩
  · obtain ⟨u, hu⟩ := b.th a ha
    exact ⟨u, e _ _ hu z⟩, b.mem, hp, b.bt.trans e, b.nw⟩
theorem Bs.again (b : Bs S p H0 B H) : Bs S p H0 (hidL S H) H ∧ Ex B (hidL S H) := ⟨⟨hidL_ex, fun a ha => (by unfold hidL; rw [if_pos ha]), b.th, b.mem, b.pot, b.bt, b.nw⟩, hidL_of b.ex b.no⟩
/-- one more thing -/
theorem Bs.put (b : Bs S p H0 B H) {l : Addr} {o : HO} (h : H l = none) : ∃ B', Bs S p H0 B' (upd H l o) ∧ Ex B B' ∧ B' l = some o := by
  obtain ⟨c, e⟩ := (b.ext (Ex.new (o := o) h)).again
  exact ⟨_, c, e, hidL_some.mpr ⟨b.lps h, upd_same⟩⟩
/-- a new thing that will change -/
theorem Bs.more (b : Bs S p H0 B H) {F : Addr} {o : HO} (h : H F = none) : Bs (F :: S) p H0 B (upd H F o) ∧ F ≠ p := by
  have c := b.ext (Ex.new (o := o) h)
  refine ⟨⟨c.ex, fun a ha => (List.mem_cons.mp ha).elim (fun e => e ▸ Ex.freshW b.ex h) (b.no a), fun a ha => (List.mem_cons.mp ha).elim (fun e => e ▸ ⟨_, upd_same⟩) (c.th a), List.mem_cons_of_mem _ b.mem, c.pot, c.bt, fun a ha => (List.mem_cons.mp ha).elim (fun e => ?_) (b.nw a)⟩, b.lp h⟩
  rw [e]
  by_cases z : F = p
  · exact .inl z
  · refine .inr ?_
    cases q : H0 F with
    | none => rfl
    | some u =>
      have := b.bt _ _ q z
      rw [h] at this
      cases this
theorem Bs.mut (b : Bs S p H0 B H) {F : Addr} {o : HO} (hF : F ∈ S) (ne : F ≠ p) : Bs S p H0 B (upd H F o) := by
  refine ⟨b.ex.mut (b.no F hF), b.no, fun a ha => ?_, b.mem, b.pot.upd (Ne.symm ne), fun a u h n => ?_, b.nw⟩
  · by_cases z : a = F
    · rw [z]
      exact ⟨_, upd_same⟩
    · rw [upd_ne z]
      exact b.th a ha
  · rw [upd_ne]
    · exact b.bt _ _ h n
    · intro z
      rw [z] at h n
      rcases b.nw F hF with q | q
      · exact n q
      · rw [q] at h
        cases h
end
end
end W

set_option Elab.async false
set_option linter.all false
set_option maxRecDepth 100000
set_option maxHeartbeats 64000000
/-! Things that are judged: the def. -/
namespace W
open PySem PySem.Spec PyProof.Rows L2 Evl G NdefX LamX Clo
section
variable {P : Program} {w : World} {K : PySem.W.Frag} {mg : Str → Option Value} {base : Heap} {M P1 P2 : Addr} {H H' B : Hp}
theorem mod_hid {p m : Addr} {n o : Nat} {r : Rw} (h : ModAt K H m n o r) (hp : Pot H p) : ModAt K (hidL [p] H) m n o r := h.pot hp fun b u hb n => hidL_some.mpr ⟨by simpa using n, hb⟩
theorem hid_tup {p b : Addr} {xs : List V} (hp : Pot H p) (h : H b = some (.tup xs)) : hidL [p] H b = some (.tup xs) := by
  refine hidL_some.mpr ⟨fun z => ?_, h⟩
  obtain ⟨zs, hz⟩ := hp.lst
  rw [List.mem_singleton.mp z, hz] at h
  cases h
theorem hid_dT {p b : Addr} {xs : List (List Key × V)} (hp : Pot H p) (h : H b = some (.dT xs)) : hidL [p] H b = some (.dT xs) := by
  refine hidL_some.mpr ⟨fun z => ?_, h⟩
  obtain ⟨zs, hz⟩ := hp.lst
  rw [List.mem_singleton.mp z, hz] at h
  cases h
theorem alike_prT : ∀ ps : List (Nat × Nat), PySem.W.AllAlike (ps.map prT) ∧ PySem.W.Sortable (ps.map prT) := by
  intro ps
  refine ⟨fun d hd d' hd' => ?_, .inl fun d hd => ?_⟩
  · obtain ⟨p, _, rfl⟩ := List.mem_map.mp hd
    obtain ⟨q, _, rfl⟩ := List.mem_map.mp hd'
    rfl
  · obtain ⟨p, _, rfl⟩ := List.mem_map.mp hd
    exact ⟨_, _, rfl⟩
theorem keys_mem {H : Hp} : ∀ {kvs : List (List Key × V)} {bs : List Addr} {i : Nat} {b : Addr}, IsKeys H kvs bs → bs[i]? = some b → ∃ kv ∈ kvs, H b = some (.tup (kv.1.map kV))
  | _, _, i, b, .nil, h => by simp at h
  | _, _, 0, b, .cons r t, h => by
    simp at h
    subst h
    exact ⟨_, List.mem_cons_self, r⟩
  | _, _, i + 1, b, .cons r t, h => let ⟨kv, h1, h2⟩ := keys_mem (i := i) t (by simpa using h); ⟨kv, List.mem_cons_of_mem _ h1, h2⟩
/-- sorted pairs -/
theorem srt_pairs {ps : List (Nat × Nat)} {bs : List Addr} {vs : List V} (hl : vs.length = ps.length) (h : IsKeys H (kvP ps vs) bs) {m k : Nat} (rng : ∀ p ∈ ps, p.1 < m ∧ p.2 < k) (hm : m ≤ 12) (hk : k ≤ 12) :
    ∃ xs, (srt (bs.map V.ref) ((kvP ps vs).map fun p => keysD p.1)).map Prod.fst = xs ∧ xs.length = ps.length ∧ ∀ x ∈ xs, ∃ b p, x = .ref b ∧ p ∈ ps ∧ H b = some (.tup [.int (p.1 : Int), .int (p.2 : Int)]) := by
  have lk : (kvP ps vs).length = ps.length := by unfold kvP; rw [List.length_map, List.length_zip]; omega
  have lb : bs.length = ps.length := by
    have := Paired.length h
    omega
  refine ⟨_, rfl, ?_, fun x hx => ?_⟩
  · rw [List.length_map, (srt_perm _ _).length_eq, List.length_zip, List.length_map, List.length_map]
    omega
  · obtain ⟨⟨x', d⟩, hm, rfl⟩ := List.mem_map.mp hx
    have hz := (srt_perm _ _).mem_iff.mp hm
    have hx' := (List.of_mem_zip hz).1
    obtain ⟨b, hb, rfl⟩ := List.mem_map.mp hx'
    obtain ⟨q, hq⟩ := Paired.right h b hb
    obtain ⟨kv, hkv, hq⟩ : ∃ kv ∈ kvP ps vs, H b = some (.tup (kv.1.map kV)) := by
      obtain ⟨i, hi⟩ := List.getElem?_of_mem hb
      exact keys_mem h hi
    unfold kvP at hkv
    obtain ⟨⟨p, v⟩, hpv, rfl⟩ := List.mem_map.mp hkv
    exact ⟨b, p, rfl, (List.of_mem_zip hpv).1, hq⟩
theorem kvP_keys {ps : List (Nat × Nat)} {vs : List V} (hl : vs.length = ps.length) : ((kvP ps vs).map fun p => keysD p.1) = ps.map prT := by
  unfold kvP
  rw [List.map_map]
  have z : (ps.zip vs).map (prT ∘ Prod.fst) = ps.map prT := by
    rw [← List.map_map, List.map_fst_zip (by omega)]
  rw [← z]
  rfl
/-- a list of pairs -/
def PrL (H : Hp) (xs : List V) : Prop := ∀ x ∈ xs, ∃ b q, x = .ref b ∧ q.1 ≤ 12 ∧ q.2 ≤ 12 ∧ H b = some (.tup [.int ((q : Nat × Nat).1 : Int), .int (q.2 : Int)])
theorem PrL.ex {xs : List V} (h : PrL H xs) (e : Ex H H') : PrL H' xs := fun x hx => let ⟨b, q, a, c, d, f⟩ := h x hx; ⟨b, q, a, c, d, e _ _ f⟩
theorem PrL.its {xs : List V} (h : PrL H xs) : Its K H xs := fun x hx => by
  obtain ⟨b, q, rfl, h1, h2, h3⟩ := h x hx
  exact ⟨_, it_pair h3 h1 h2⟩
theorem PrL.dp : ∀ {xs : List V}, PrL H xs → ∃ qs : List (Nat × Nat), DpAll K H xs (qs.map prT)
  | [], _ => ⟨[], .nil⟩
  | x :: xs, h => by
    obtain ⟨b, q, rfl, h1, h2, h3⟩ := h x List.mem_cons_self
    obtain ⟨qs, hq⟩ := PrL.dp (xs := xs) fun y hy => h y (List.mem_cons_of_mem _ hy)
    exact ⟨q :: qs, .cons (.tup (st_of h3) (.cons (.int _) (.cons (.int _) .nil))) hq⟩
theorem PrL.sub {xs ys : List V} (h : PrL H xs) (s : ∀ y ∈ ys, y ∈ xs) : PrL H ys := fun y hy => h y (s y hy)
theorem but_hid {p : Addr} : ExBut p H (hidL [p] H) := fun b u hb n => hidL_some.mpr ⟨by simpa using n, hb⟩
theorem hid_get {p b : Addr} {u : HO} (h : H b = some u) (n : b ≠ p) : hidL [p] H b = some u := hidL_some.mpr ⟨by simpa using n, h⟩
/-- a comprehension of things with a property -/
theorem lc_I {I : Hp → V → Prop} (mono : ∀ (B B' : Hp) (x : V), Ex B B' → I B x → I B' x) {J : It} {Gd : Hp → Prop} {Y : Nat → Hp → V → Hp → Prop} {n : Nat} {g : TG} {te : TE} {vs : List Nat} {σ : L2.St} {S : List Addr} {p D : Addr} {H0 : Hp} {Qd : Hp → Prop} (W : Walk J n Gd Y) (few : n ≤ 1000) (b : Bs S p H0 B H) (nD : H D = none) (hG : ∀ H', Ex B H' → Gd H')
    (he : ∀ (i : Nat) (x : V) (Ha Hb B' : Hp), i < n → Bs (D :: S) p H0 B' Ha → Ex B B' → Y i Ha x Hb → ∀ Q' : VK, (∀ (y : V) (H4 : Hp), Ex Ha H4 → (∃ B2, Bs (D :: S) p H0 B2 H4 ∧ Ex B' B2 ∧ I B2 y) → Q' y H4) → g x (wipe σ vs) Hb fun σ2 H2 => wipe σ2 vs = wipe σ vs ∧ te σ2 H2 Q')
    (hd : ∀ (H' B' : Hp) (acc : List V), Ex H H' → Bs (D :: S) p H0 B' H' → Ex B B' → H' D = some (.lst acc) → (∀ x ∈ acc, I B' x) → acc.length = n → Qd H') :
    ∃ W : Nat → Nat → Hp → Prop, (∃ m, W 0 m (upd H D (.lst []))) ∧ ∀ i m H, W i m H →
      (J.stop i H ∧ Qd H) ∨ (J.go i H ∧ ∃ Nx : Hp → Prop, (∀ H', Nx H' → ∃ m', m' < m ∧ W (i + 1) m' H') ∧ ∀ x H', J.yld i H x H' → g x (wipe σ vs) H' fun σ2 H2 => wipe σ2 vs = wipe σ vs ∧ tYes σ2 H2 fun b H3 =>
        if b = true then te σ2 H3 fun y H4 => ∃ acc, H4 D = some (.lst acc) ∧ acc.length < sizeLine ∧ Nx (upd H4 D (.lst (acc ++ [y]))) else Nx H3) := by
  obtain ⟨bD, nDp⟩ := b.more (o := .lst []) nD
  refine lc_it (tt := tYes) W (fun i Hc => ∃ B' acc, Ex H Hc ∧ Bs (D :: S) p H0 B' Hc ∧ Ex B B' ∧ Hc D = some (.lst acc) ∧ (∀ x ∈ acc, I B' x) ∧ acc.length = i) ⟨B, [], Ex.new nD, bD, Ex.refl _, upd_same, fun x hx => (by cases hx), rfl⟩ (fun i Hc _ q => ?_) (fun i x Ha Hb hi q yy => ?_) (fun Hc q => ?_)
  · obtain ⟨B', acc, _, b', eB, _⟩ := q
    exact hG Hc (eB.trans b'.ex)
  · obtain ⟨B', acc, eH, b', eB, hD, its, la⟩ := q
    refine he i x Ha Hb B' hi b' eB yy _ fun y H4 e4 ⟨B2, b2, eB2, hd4⟩ => ?_
    refine ⟨acc, e4 _ _ hD, Nat.lt_of_le_of_lt (show _ ≤ 1000 by omega) (by decide), B2, acc ++ [y], (eH.trans e4).mut nD, b2.mut List.mem_cons_self nDp, eB.trans eB2, upd_same, fun x hx => (List.mem_append.mp hx).elim (fun h => mono _ _ _ eB2 (its x h)) (fun h => by rw [List.mem_singleton.mp h]; exact hd4), by simp [la]⟩
  · obtain ⟨B', acc, eH, b', eB, hD, its, la⟩ := q
    exact hd Hc B' acc eH b' eB hD its la
/-- as tuples and dicts of the heap are no lists -/
theorem Bs.tup {S : List Addr} {p : Addr} {H0 : Hp} (b : Bs S p H0 B H) (hl : ∀ a ∈ S, ∃ ys, H a = some (.lst ys)) {c : Addr} {xs : List V} (h : H c = some (.tup xs)) : hidL S H c = some (.tup xs) := hidL_some.mpr <| And.intro (b := H c = some (.tup xs)) (right := h) <| fun z => by
  obtain ⟨ys, hy⟩ := hl c z
  rw [hy] at h
  cases h
end
end W

set_option Elab.async false
set_option linter.all false
set_option maxRecDepth 100000
set_option maxHeartbeats 64000000
/-! The odd thing. -/
namespace W
open PySem PySem.Spec PyProof.Rows L2 Evl G NdefX LamX Clo
section
variable {P : Program} {w : World} {K : PySem.W.Frag} {mg : Str → Option Value} {base : Heap} {M P1 P2 : Addr} {H H' B : Hp}
theorem odd_pick {σ : L2.St} {Q : VK} {E : XK} {S : List Addr} {p Z : Addr} {H0 B0 H23 : Hp} {m k : Nat} (h0 : σ[0]? = some (some (.ref p))) (h6 : σ[6]? = some (some (.ref Z))) (bb : Bs S p H0 B0 H23) (hZ0 : B0 Z = some (.lst [.int (m : Nat), .int (k : Nat)])) (hm : m ≤ 12) (hk : k ≤ 12)
    (q : ∀ (v : V) (H' B' : Hp), ExBut p H23 H' → Bs S p H0 B' H' → Ex B0 B' → Its K B' [v] → Q v H') :
    tCall (spPickL K) [] E (tCons (tVar 0) (tCons (tLst (tCons (tTup (tCons (tOp (rIxL K) (tVar 6) (tC (.int 0))) (tCons (tC (.int 0)) tNil))) (tCons (tTup (tCons (tC (.int 0)) (tCons (tOp (rIxL K) (tVar 6) (tC (.int 1))) tNil))) (tCons (tTup (tCons (tUn (rU fun i => V.int (-i)) (tC (.int 1))) (tCons (tC (.int 0)) tNil))) (tCons (tTup (tCons (tC (.int 0)) tNil)) (tCons (tTup (tCons (tC (.int 0)) (tCons (tC (.int 0)) (tCons (tC (.int 0)) tNil)))) (tCons (tLst (tCons (tC (.int 0)) (tCons (tC (.int 0)) tNil))) (tCons (tC .non) (tCons (tC (.int 0)) (tCons (tC (.str "00")) (tCons (tTup (tCons (tC (.bl true)) (tCons (tC (.int 0)) tNil))) (tCons (tTup (tCons (tC (.int 0)) (tCons (tC .non) tNil))) (tCons (tTup (tCons (tC (.int 0)) (tCons (tC (.bl false)) tNil))) (tCons (tTup (tCons (tLst (tCons (tC (.int 0)) tNil)) (tCons (tC (.int 0)) tNil))) (tCons (tTup (tCons (tC (.int 0)) (tCons tDNewK tNil))) tNil))))))))))))))) tNil)) σ H23 Q := by
  have b := bb
  have hZ := hZ0
  have eAll := Ex.refl B0
  have eP : ExBut p H23 H23 := fun _ _ h _ => h
  clear bb hZ0
  have odds : Its K B0 [V.non, .int 0, .str "00"] := fun y hy => by
    simp only [List.mem_cons, List.not_mem_nil, or_false] at hy
    rcases hy with rfl | rfl | rfl
    · exact ⟨_, it_else .non (fun e z => by cases z) (sz_of (by decide +kernel))⟩
    · exact ⟨_, it_else (.int 0) (fun e z => by cases z) (sz_of (by decide +kernel))⟩
    · exact ⟨_, it_else (.str "00") (fun e z => by cases z) (sz_of (by decide +kernel))⟩
  refine ⟨_, h0, _, h6, Z, _, 0, .int (m : Nat), rfl, rfl, SqL.of (b.ex _ _ hZ), rfl, (by show 2 ≤ sizeLine; decide), fun O1 nO1 => ?_⟩
  obtain ⟨B2, b2, eB, hT1⟩ := b.put (o := (.tup [.int (m : Nat), .int 0])) nO1
  try replace hm1 := hm1.ex eB
  try replace hm2 := hm2.ex eB
  try replace hD := eB _ _ hD
  try replace hS := eB _ _ hS
  try replace hZ := eB _ _ hZ
  try replace hX := eB _ _ hX
  try replace hWd := eB _ _ hWd
  try replace hV := eB _ _ hV
  try replace hT1 := eB _ _ hT1
  try replace hT2 := eB _ _ hT2
  try replace hT3 := eB _ _ hT3
  try replace dW := dpAll_ex eB dW
  try replace prS := prS.ex eB
  try replace prW := prW.ex eB
  try replace ths := ths.ex eB
  try replace odds := odds.ex eB
  try replace hodd := hodd.ex eB
  try replace wds := wds.ex eB
  try replace hwd := hwd.ex eB
  try replace eAll := eAll.trans eB
  clear eB
  replace eP := eP.trans (ExBut.of (Ex.new (o := (.tup [.int (m : Nat), .int 0])) nO1))
  clear b nO1
  generalize upd H23 O1 (.tup [.int (m : Nat), .int 0]) = H24 at b2 eP ⊢
  have b := b2
  clear b2
  replace odds := odds.append (Its.one (it_pair (i := m) (j := 0) hT1 (by omega) (by omega)))
  clear hT1
  refine ⟨_, h6, Z, _, 1, .int (k : Nat), rfl, rfl, SqL.of (b.ex _ _ hZ), rfl, (by show 2 ≤ sizeLine; decide), fun O2 nO2 => ?_⟩
  obtain ⟨B2, b2, eB, hT1⟩ := b.put (o := (.tup [.int 0, .int (k : Nat)])) nO2
  try replace hm1 := hm1.ex eB
  try replace hm2 := hm2.ex eB
  try replace hD := eB _ _ hD
  try replace hS := eB _ _ hS
  try replace hZ := eB _ _ hZ
  try replace hX := eB _ _ hX
  try replace hWd := eB _ _ hWd
  try replace hV := eB _ _ hV
  try replace hT1 := eB _ _ hT1
  try replace hT2 := eB _ _ hT2
  try replace hT3 := eB _ _ hT3
  try replace dW := dpAll_ex eB dW
  try replace prS := prS.ex eB
  try replace prW := prW.ex eB
  try replace ths := ths.ex eB
  try replace odds := odds.ex eB
  try replace hodd := hodd.ex eB
  try replace wds := wds.ex eB
  try replace hwd := hwd.ex eB
  try replace eAll := eAll.trans eB
  clear eB
  replace eP := eP.trans (ExBut.of (Ex.new (o := (.tup [.int 0, .int (k : Nat)])) nO2))
  clear b nO2
  generalize upd H24 O2 (.tup [.int 0, .int (k : Nat)]) = H25 at b2 eP ⊢
  have b := b2
  clear b2
  replace odds := odds.append (Its.one (it_pair (i := 0) (j := k) hT1 (by omega) (by omega)))
  clear hT1
  refine ⟨1, rfl, (by show 2 ≤ sizeLine; decide), fun O3 nO3 => ?_⟩
  obtain ⟨B2, b2, eB, hT1⟩ := b.put (o := (.tup [.int (-1), .int 0])) nO3
  try replace hm1 := hm1.ex eB
  try replace hm2 := hm2.ex eB
  try replace hD := eB _ _ hD
  try replace hS := eB _ _ hS
  try replace hZ := eB _ _ hZ
  try replace hX := eB _ _ hX
  try replace hWd := eB _ _ hWd
  try replace hV := eB _ _ hV
  try replace hT1 := eB _ _ hT1
  try replace hT2 := eB _ _ hT2
  try replace hT3 := eB _ _ hT3
  try replace dW := dpAll_ex eB dW
  try replace prS := prS.ex eB
  try replace prW := prW.ex eB
  try replace ths := ths.ex eB
  try replace odds := odds.ex eB
  try replace hodd := hodd.ex eB
  try replace wds := wds.ex eB
  try replace hwd := hwd.ex eB
  try replace eAll := eAll.trans eB
  clear eB
  replace eP := eP.trans (ExBut.of (Ex.new (o := (.tup [.int (-1), .int 0])) nO3))
  clear b nO3
  generalize upd H25 O3 (.tup [.int (-1), .int 0]) = H26 at b2 eP ⊢
  have b := b2
  clear b2
  replace odds := odds.append (Its.one (it_tup hT1 (.cons (.int _) (.cons (.int _) .nil)) (sm_2 sm_neg sm_0) (by decide)))
  clear hT1
  refine ⟨(by show 1 ≤ sizeLine; decide), fun O4 nO4 => ?_⟩
  obtain ⟨B2, b2, eB, hT1⟩ := b.put (o := (.tup [.int 0])) nO4
  try replace hm1 := hm1.ex eB
  try replace hm2 := hm2.ex eB
  try replace hD := eB _ _ hD
  try replace hS := eB _ _ hS
  try replace hZ := eB _ _ hZ
  try replace hX := eB _ _ hX
  try replace hWd := eB _ _ hWd
  try replace hV := eB _ _ hV
  try replace hT1 := eB _ _ hT1
  try replace hT2 := eB _ _ hT2
  try replace hT3 := eB _ _ hT3
  try replace dW := dpAll_ex eB dW
  try replace prS := prS.ex eB
  try replace prW := prW.ex eB
  try replace ths := ths.ex eB
  try replace odds := odds.ex eB
  try replace hodd := hodd.ex eB
  try replace wds := wds.ex eB
  try replace hwd := hwd.ex eB
  try replace eAll := eAll.trans eB
  clear eB
  replace eP := eP.trans (ExBut.of (Ex.new (o := (.tup [.int 0])) nO4))
  clear b nO4
  generalize upd H26 O4 (.tup [.int 0]) = H27 at b2 eP ⊢
  have b := b2
  clear b2
  replace odds := odds.append (Its.one (it_tup hT1 (.cons (.int _) .nil) (fun d hd => by rw [List.mem_singleton.mp hd]; exact sm_0) (by decide)))
  clear hT1
  refine ⟨(by show 3 ≤ sizeLine; decide), fun O5 nO5 => ?_⟩
  obtain ⟨B2, b2, eB, hT1⟩ := b.put (o := (.tup [.int 0, .int 0, .int 0])) nO5
  try replace hm1 := hm1.ex eB
  try replace hm2 := hm2.ex eB
  try replace hD := eB _ _ hD
  try replace hS := eB _ _ hS
  try replace hZ := eB _ _ hZ
  try replace hX := eB _ _ hX
  try replace hWd := eB _ _ hWd
  try replace hV := eB _ _ hV
  try replace hT1 := eB _ _ hT1
  try replace hT2 := eB _ _ hT2
  try replace hT3 := eB _ _ hT3
  try replace dW := dpAll_ex eB dW
  try replace prS := prS.ex eB
  try replace prW := prW.ex eB
  try replace ths := ths.ex eB
  try replace odds := odds.ex eB
  try replace hodd := hodd.ex eB
  try replace wds := wds.ex eB
  try replace hwd := hwd.ex eB
  try replace eAll := eAll.trans eB
  clear eB
  replace eP := eP.trans (ExBut.of (Ex.new (o := (.tup [.int 0, .int 0, .int 0])) nO5))
  clear b nO5
  generalize upd H27 O5 (.tup [.int 0, .int 0, .int 0]) = H28 at b2 eP ⊢
  have b := b2
  clear b2
  replace odds := odds.append (Its.one (it_tup hT1 (.cons (.int _) (.cons (.int _) (.cons (.int _) .nil))) (fun d hd => (List.mem_cons.mp hd).elim (fun e => e ▸ sm_0) (sm_2 sm_0 sm_0 d)) (by decide)))
  clear hT1
  refine ⟨(by show 2 ≤ sizeLine; decide), fun O6 nO6 => ?_⟩
  obtain ⟨B2, b2, eB, hT1⟩ := b.put (o := (.lst [.int 0, .int 0])) nO6
  try replace hm1 := hm1.ex eB
  try replace hm2 := hm2.ex eB
  try replace hD := eB _ _ hD
  try replace hS := eB _ _ hS
  try replace hZ := eB _ _ hZ
  try replace hX := eB _ _ hX
  try replace hWd := eB _ _ hWd
  try replace hV := eB _ _ hV
  try replace hT1 := eB _ _ hT1
  try replace hT2 := eB _ _ hT2
  try replace hT3 := eB _ _ hT3
  try replace dW := dpAll_ex eB dW
  try replace prS := prS.ex eB
  try replace prW := prW.ex eB
  try replace ths := ths.ex eB
  try replace odds := odds.ex eB
  try replace hodd := hodd.ex eB
  try replace wds := wds.ex eB
  try replace hwd := hwd.ex eB
  try replace eAll := eAll.trans eB
  clear eB
  replace eP := eP.trans (ExBut.of (Ex.new (o := (.lst [.int 0, .int 0])) nO6))
  clear b nO6
  generalize upd H28 O6 (.lst [.int 0, .int 0]) = H29 at b2 eP ⊢
  have b := b2
  clear b2
  replace odds := odds.append (Its.one (it_else (.lst (SqL.of hT1) (.cons (.int _) (.cons (.int _) .nil))) (fun e z => by cases z) (sz_of (by decide +kernel))))
  clear hT1
  refine ⟨(by show 2 ≤ sizeLine; decide), fun O10 nO10 => ?_⟩
  obtain ⟨B2, b2, eB, hT1⟩ := b.put (o := (.tup [.bl true, .int 0])) nO10
  try replace hm1 := hm1.ex eB
  try replace hm2 := hm2.ex eB
  try replace hD := eB _ _ hD
  try replace hS := eB _ _ hS
  try replace hZ := eB _ _ hZ
  try replace hX := eB _ _ hX
  try replace hWd := eB _ _ hWd
  try replace hV := eB _ _ hV
  try replace hT1 := eB _ _ hT1
  try replace hT2 := eB _ _ hT2
  try replace hT3 := eB _ _ hT3
  try replace dW := dpAll_ex eB dW
  try replace prS := prS.ex eB
  try replace prW := prW.ex eB
  try replace ths := ths.ex eB
  try replace odds := odds.ex eB
  try replace hodd := hodd.ex eB
  try replace wds := wds.ex eB
  try replace hwd := hwd.ex eB
  try replace eAll := eAll.trans eB
  clear eB
  replace eP := eP.trans (ExBut.of (Ex.new (o := (.tup [.bl true, .int 0])) nO10))
  clear b nO10
  generalize upd H29 O10 (.tup [.bl true, .int 0]) = H30 at b2 eP ⊢
  have b := b2
  clear b2
  replace odds := odds.append (Its.one (it_tup hT1 (.cons (.bl _) (.cons (.int _) .nil)) (sm_2 sm_t sm_0) (by decide)))
  clear hT1
  refine ⟨(by show 2 ≤ sizeLine; decide), fun O11 nO11 => ?_⟩
  obtain ⟨B2, b2, eB, hT1⟩ := b.put (o := (.tup [.int 0, .non])) nO11
  try replace hm1 := hm1.ex eB
  try replace hm2 := hm2.ex eB
  try replace hD := eB _ _ hD
  try replace hS := eB _ _ hS
  try replace hZ := eB _ _ hZ
  try replace hX := eB _ _ hX
  try replace hWd := eB _ _ hWd
  try replace hV := eB _ _ hV
  try replace hT1 := eB _ _ hT1
  try replace hT2 := eB _ _ hT2
  try replace hT3 := eB _ _ hT3
  try replace dW := dpAll_ex eB dW
  try replace prS := prS.ex eB
  try replace prW := prW.ex eB
  try replace ths := ths.ex eB
  try replace odds := odds.ex eB
  try replace hodd := hodd.ex eB
  try replace wds := wds.ex eB
  try replace hwd := hwd.ex eB
  try replace eAll := eAll.trans eB
  clear eB
  replace eP := eP.trans (ExBut.of (Ex.new (o := (.tup [.int 0, .non])) nO11))
  clear b nO11
  generalize upd H30 O11 (.tup [.int 0, .non]) = H31 at b2 eP ⊢
  have b := b2
  clear b2
  replace odds := odds.append (Its.one (it_tup hT1 (.cons (.int _) (.cons .non .nil)) (sm_2 sm_0 sm_n) (by decide)))
  clear hT1
  refine ⟨(by show 2 ≤ sizeLine; decide), fun O12 nO12 => ?_⟩
  obtain ⟨B2, b2, eB, hT1⟩ := b.put (o := (.tup [.int 0, .bl false])) nO12
  try replace hm1 := hm1.ex eB
  try replace hm2 := hm2.ex eB
  try replace hD := eB _ _ hD
  try replace hS := eB _ _ hS
  try replace hZ := eB _ _ hZ
  try replace hX := eB _ _ hX
  try replace hWd := eB _ _ hWd
  try replace hV := eB _ _ hV
  try replace hT1 := eB _ _ hT1
  try replace hT2 := eB _ _ hT2
  try replace hT3 := eB _ _ hT3
  try replace dW := dpAll_ex eB dW
  try replace prS := prS.ex eB
  try replace prW := prW.ex eB
  try replace ths := ths.ex eB
  try replace odds := odds.ex eB
  try replace hodd := hodd.ex eB
  try replace wds := wds.ex eB
  try replace hwd := hwd.ex eB
  try replace eAll := eAll.trans eB
  clear eB
  replace eP := eP.trans (ExBut.of (Ex.new (o := (.tup [.int 0, .bl false])) nO12))
  clear b nO12
  generalize upd H31 O12 (.tup [.int 0, .bl false]) = H32 at b2 eP ⊢
  have b := b2
  clear b2
  replace odds := odds.append (Its.one (it_tup hT1 (.cons (.int _) (.cons (.bl _) .nil)) (sm_2 sm_0 sm_f) (by decide)))
  clear hT1
  refine ⟨(by show 1 ≤ sizeLine; decide), fun L13 nL13 => ?_⟩
  obtain ⟨B2, b2, eB, hT1⟩ := b.put (o := (.lst [.int 0])) nL13
  try replace hm1 := hm1.ex eB
  try replace hm2 := hm2.ex eB
  try replace hD := eB _ _ hD
  try replace hS := eB _ _ hS
  try replace hZ := eB _ _ hZ
  try replace hX := eB _ _ hX
  try replace hWd := eB _ _ hWd
  try replace hV := eB _ _ hV
  try replace hT1 := eB _ _ hT1
  try replace hT2 := eB _ _ hT2
  try replace hT3 := eB _ _ hT3
  try replace dW := dpAll_ex eB dW
  try replace prS := prS.ex eB
  try replace prW := prW.ex eB
  try replace ths := ths.ex eB
  try replace odds := odds.ex eB
  try replace hodd := hodd.ex eB
  try replace wds := wds.ex eB
  try replace hwd := hwd.ex eB
  try replace eAll := eAll.trans eB
  clear eB
  replace eP := eP.trans (ExBut.of (Ex.new (o := (.lst [.int 0])) nL13))
  clear b nL13
  generalize upd H32 L13 (.lst [.int 0]) = H33 at b2 eP ⊢
  have b := b2
  clear b2
  refine ⟨(by show 2 ≤ sizeLine; decide), fun O13 nO13 => ?_⟩
  obtain ⟨B2, b2, eB, hT2⟩ := b.put (o := (.tup [.ref L13, .int 0])) nO13
  try replace hm1 := hm1.ex eB
  try replace hm2 := hm2.ex eB
  try replace hD := eB _ _ hD
  try replace hS := eB _ _ hS
  try replace hZ := eB _ _ hZ
  try replace hX := eB _ _ hX
  try replace hWd := eB _ _ hWd
  try replace hV := eB _ _ hV
  try replace hT1 := eB _ _ hT1
  try replace hT2 := eB _ _ hT2
  try replace hT3 := eB _ _ hT3
  try replace dW := dpAll_ex eB dW
  try replace prS := prS.ex eB
  try replace prW := prW.ex eB
  try replace ths := ths.ex eB
  try replace odds := odds.ex eB
  try replace hodd := hodd.ex eB
  try replace wds := wds.ex eB
  try replace hwd := hwd.ex eB
  try replace eAll := eAll.trans eB
  clear eB
  replace eP := eP.trans (ExBut.of (Ex.new (o := (.tup [.ref L13, .int 0])) nO13))
  clear b nO13
  generalize upd H33 O13 (.tup [.ref L13, .int 0]) = H34 at b2 eP ⊢
  have b := b2
  clear b2
  replace odds := odds.append (Its.one (it_tup hT2 (.cons (.lst (SqL.of hT1) (.cons (.int _) .nil)) (.cons (.int _) .nil)) (sm_2 sm_l sm_0) (by decide)))
  clear hT1 hT2
  refine fun D14 nD14 => ?_
  obtain ⟨B2, b2, eB, hT1⟩ := b.put (o := (.dK [])) nD14
  try replace hm1 := hm1.ex eB
  try replace hm2 := hm2.ex eB
  try replace hD := eB _ _ hD
  try replace hS := eB _ _ hS
  try replace hZ := eB _ _ hZ
  try replace hX := eB _ _ hX
  try replace hWd := eB _ _ hWd
  try replace hV := eB _ _ hV
  try replace hT1 := eB _ _ hT1
  try replace hT2 := eB _ _ hT2
  try replace hT3 := eB _ _ hT3
  try replace dW := dpAll_ex eB dW
  try replace prS := prS.ex eB
  try replace prW := prW.ex eB
  try replace ths := ths.ex eB
  try replace odds := odds.ex eB
  try replace hodd := hodd.ex eB
  try replace wds := wds.ex eB
  try replace hwd := hwd.ex eB
  try replace eAll := eAll.trans eB
  clear eB
  replace eP := eP.trans (ExBut.of (Ex.new (o := (.dK [])) nD14))
  clear b nD14
  generalize upd H34 D14 (.dK []) = H35 at b2 eP ⊢
  have b := b2
  clear b2
  refine ⟨(by show 2 ≤ sizeLine; decide), fun O14 nO14 => ?_⟩
  obtain ⟨B2, b2, eB, hT2⟩ := b.put (o := (.tup [.int 0, .ref D14])) nO14
  try replace hm1 := hm1.ex eB
  try replace hm2 := hm2.ex eB
  try replace hD := eB _ _ hD
  try replace hS := eB _ _ hS
  try replace hZ := eB _ _ hZ
  try replace hX := eB _ _ hX
  try replace hWd := eB _ _ hWd
  try replace hV := eB _ _ hV
  try replace hT1 := eB _ _ hT1
  try replace hT2 := eB _ _ hT2
  try replace hT3 := eB _ _ hT3
  try replace dW := dpAll_ex eB dW
  try replace prS := prS.ex eB
  try replace prW := prW.ex eB
  try replace ths := ths.ex eB
  try replace odds := odds.ex eB
  try replace hodd := hodd.ex eB
  try replace wds := wds.ex eB
  try replace hwd := hwd.ex eB
  try replace eAll := eAll.trans eB
  clear eB
  replace eP := eP.trans (ExBut.of (Ex.new (o := (.tup [.int 0, .ref D14])) nO14))
  clear b nO14
  generalize upd H35 O14 (.tup [.int 0, .ref D14]) = H36 at b2 eP ⊢
  have b := b2
  clear b2
  replace odds := odds.append (Its.one (it_tup hT2 (.cons (.int _) (.cons (.dK (kvs := []) (ds := []) hT1 .nil) .nil)) (sm_2 sm_0 sm_d) (by decide)))
  clear hT1 hT2
  refine ⟨(by show 14 ≤ sizeLine; decide), fun LO nLO => ?_⟩
  have nLp := b.lp nLO
  have eL := Ex.new (o := .lst [.ref O1, .ref O2, .ref O3, .ref O4, .ref O5, .ref O6, .non, .int 0, .str "00", .ref O10, .ref O11, .ref O12, .ref O13, .ref O14]) nLO
  refine ⟨p, LO, _, rfl, b.pot.ex eL, SqL.of upd_same, nLp, by simp, by show 14 ≤ 100; decide, fun v H38 hv e38 hp38 => ?_⟩
  have b' := (b.ext eL).but e38 hp38
  refine q v H38 _ ((eP.trans (ExBut.of eL)).trans e38) b' eAll (odds.sub fun y hy => ?_)
  · rw [List.mem_singleton.mp hy]
    simp only [List.mem_cons, List.mem_append, List.not_mem_nil, or_false] at hv ⊢
    rcases hv with rfl | rfl | rfl | rfl | rfl | rfl | rfl | rfl | rfl | rfl | rfl | rfl | rfl | rfl <;> simp
end
end W

set_option Elab.async false
set_option linter.all false
set_option maxRecDepth 100000
set_option maxHeartbeats 64000000
/-! Things put on. -/
namespace W
open PySem PySem.Spec PyProof.Rows L2 Evl G NdefX LamX Clo
section
variable {K : PySem.W.Frag} {σ : L2.St} {Q : VK} {Sl : List Addr} {p F S : Addr} {H0 B0 H1 : Hp} {L xS : List V}
theorem Bs.mut2 {B H : Hp} {o : HO} (b : Bs Sl p H0 B H) (hF : F ∈ Sl) (ne : F ≠ p) : Bs Sl p H0 B (upd H F o) := b.mut hF ne
theorem ext_1 {a : Nat} {v : V} (h5 : σ[5]? = some (some (.ref S))) (h11 : σ[11]? = some (some (.int (a : Nat)))) (h12 : σ[12]? = some (some (.ref F))) (h13 : σ[13]? = some (some v)) (bb : Bs Sl p H0 B0 H1) (hF0 : H1 F = some (.lst L)) (hFl : F ∈ Sl) (nFp : F ≠ p)
    (hS0 : B0 S = some (.lst xS)) (prS0 : PrL B0 xS) (odd0 : Its K B0 [v]) (l60 : xS.length ≤ 60) (lL : L.length ≤ 40) (q : ∀ (H' B' : Hp) (L' : List V), Bs Sl p H0 B' H' → Ex B0 B' → H' F = some (.lst (L ++ L')) → Ths K B' L' → L'.length = 5 → Q .non H') :
    tBM K "list" rExtend (tVar 12) (tCons (tLst (tCons (tOp (rCatL K) (tVar 5) (tLst (tCons (tVar 13) tNil))) (tCons (tLst (tCons (tVar 13) tNil))
      (tCons (tOp (rCatL K) (tOp (rCatL K) (tSl (rSlL K) (tVar 5) tNoPart (tPart (tVar 11))) (tLst (tCons (tVar 13) tNil))) (tSl (rSlL K) (tVar 5) (tPart (tVar 11)) tNoPart))
      (tCons (tOp (rCatL K) (tLst (tCons (tTup (tCons (tC (.bl false)) (tCons (tC (.int 0)) tNil))) tNil)) (tSl (rSlL K) (tVar 5) (tPart (tC (.int 1))) tNoPart)) (tCons (tLst tNil) tNil)))))) tNil) σ H1 Q := by
  have b := bb
  have hF := hF0
  have hS := hS0
  have prS := prS0
  have odds := odd0
  have eAll := Ex.refl B0
  clear bb hF0 hS0 prS0 odd0
  have cut : ∀ {lo hi : Option Int} {y : V}, y ∈ cutV xS lo hi → y ∈ xS := fun {lo hi y} h => List.mem_of_mem_drop (List.mem_of_mem_take h)
  have cutl : ∀ (lo hi : Option Int), (cutV xS lo hi).length ≤ 60 := fun lo hi => Nat.le_trans (cutV_length xS lo hi) (by omega)
  have big : (1000 : Nat) ≤ sizeLine := by decide
  refine ⟨_, h12, .inl ⟨rfl, _, SqL.of hF⟩, _, h5, _, h13, (by show 1 ≤ sizeLine; decide), fun A1 nA1 => ?_⟩
  obtain ⟨B2, b2, eB, hT1⟩ := b.put (o := (.lst [v])) nA1
  try replace hm1 := hm1.ex eB
  try replace hm2 := hm2.ex eB
  try replace hD := eB _ _ hD
  try replace hS := eB _ _ hS
  try replace hZ := eB _ _ hZ
  try replace hX := eB _ _ hX
  try replace hWd := eB _ _ hWd
  try replace hV := eB _ _ hV
  try replace hT1 := eB _ _ hT1
  try replace hT2 := eB _ _ hT2
  try replace hT3 := eB _ _ hT3
  try replace dW := dpAll_ex eB dW
  try replace prS := prS.ex eB
  try replace prW := prW.ex eB
  try replace ths := ths.ex eB
  try replace odds := odds.ex eB
  try replace hodd := hodd.ex eB
  try replace wds := wds.ex eB
  try replace hwd := hwd.ex eB
  try replace eAll := eAll.trans eB
  clear eB
  replace hF := Ex.new (o := (.lst [v])) nA1 _ _ hF
  clear b nA1
  generalize upd H1 A1 (.lst [v]) = H2 at b2 hF ⊢
  have b := b2
  clear b2
  refine ⟨S, A1, xS, _, rfl, rfl, SqL.of (b.ex _ _ hS), SqL.of (b.ex _ _ hT1), Nat.le_trans (show xS.length + 1 ≤ 1000 by omega) big, fun A2 nA2 => ?_⟩
  obtain ⟨B2, b2, eB, hT2⟩ := b.put (o := (.lst (xS ++ [v]))) nA2
  try replace hm1 := hm1.ex eB
  try replace hm2 := hm2.ex eB
  try replace hD := eB _ _ hD
  try replace hS := eB _ _ hS
  try replace hZ := eB _ _ hZ
  try replace hX := eB _ _ hX
  try replace hWd := eB _ _ hWd
  try replace hV := eB _ _ hV
  try replace hT1 := eB _ _ hT1
  try replace hT2 := eB _ _ hT2
  try replace hT3 := eB _ _ hT3
  try replace dW := dpAll_ex eB dW
  try replace prS := prS.ex eB
  try replace prW := prW.ex eB
  try replace ths := ths.ex eB
  try replace odds := odds.ex eB
  try replace hodd := hodd.ex eB
  try replace wds := wds.ex eB
  try replace hwd := hwd.ex eB
  try replace eAll := eAll.trans eB
  clear eB
  replace hF := Ex.new (o := (.lst (xS ++ [v]))) nA2 _ _ hF
  clear b nA2
  generalize upd H2 A2 (.lst (xS ++ [v])) = H3 at b2 hF ⊢
  have b := b2
  clear b2
  have ths : Ths K _ [V.ref A2] := Ths.cons (thing_items false (SqL.of hT2) (prS.its.append odds) (by rw [List.length_append]; show xS.length + 1 ≤ 200; omega)) Ths.nil
  clear hT1 hT2
  refine ⟨_, h13, (by show 1 ≤ sizeLine; decide), fun A3 nA3 => ?_⟩
  obtain ⟨B2, b2, eB, hT1⟩ := b.put (o := (.lst [v])) nA3
  try replace hm1 := hm1.ex eB
  try replace hm2 := hm2.ex eB
  try replace hD := eB _ _ hD
  try replace hS := eB _ _ hS
  try replace hZ := eB _ _ hZ
  try replace hX := eB _ _ hX
  try replace hWd := eB _ _ hWd
  try replace hV := eB _ _ hV
  try replace hT1 := eB _ _ hT1
  try replace hT2 := eB _ _ hT2
  try replace hT3 := eB _ _ hT3
  try replace dW := dpAll_ex eB dW
  try replace prS := prS.ex eB
  try replace prW := prW.ex eB
  try replace ths := ths.ex eB
  try replace odds := odds.ex eB
  try replace hodd := hodd.ex eB
  try replace wds := wds.ex eB
  try replace hwd := hwd.ex eB
  try replace eAll := eAll.trans eB
  clear eB
  replace hF := Ex.new (o := (.lst [v])) nA3 _ _ hF
  clear b nA3
  generalize upd H3 A3 (.lst [v]) = H4 at b2 hF ⊢
  have b := b2
  clear b2
  replace ths := ths.append (Ths.cons (thing_items false (SqL.of hT1) odds (by show 1 ≤ 200; decide)) Ths.nil)
  clear hT1
  refine ⟨_, h5, _, h11, (a : Int), rfl, S, xS, rfl, SqL.of (b.ex _ _ hS), fun A4 nA4 => ?_⟩
  obtain ⟨B2, b2, eB, hT1⟩ := b.put (o := (.lst (cutV xS none (some (a : Int))))) nA4
  try replace hm1 := hm1.ex eB
  try replace hm2 := hm2.ex eB
  try replace hD := eB _ _ hD
  try replace hS := eB _ _ hS
  try replace hZ := eB _ _ hZ
  try replace hX := eB _ _ hX
  try replace hWd := eB _ _ hWd
  try replace hV := eB _ _ hV
  try replace hT1 := eB _ _ hT1
  try replace hT2 := eB _ _ hT2
  try replace hT3 := eB _ _ hT3
  try replace dW := dpAll_ex eB dW
  try replace prS := prS.ex eB
  try replace prW := prW.ex eB
  try replace ths := ths.ex eB
  try replace odds := odds.ex eB
  try replace hodd := hodd.ex eB
  try replace wds := wds.ex eB
  try replace hwd := hwd.ex eB
  try replace eAll := eAll.trans eB
  clear eB
  replace hF := Ex.new (o := (.lst (cutV xS none (some (a : Int))))) nA4 _ _ hF
  clear b nA4
  generalize upd H4 A4 (.lst (cutV xS none (some (a : Int)))) = H5 at b2 hF ⊢
  have b := b2
  clear b2
  have c1 := cutl none (some (a : Int))
  have c2 := cutl (some (a : Int)) none
  refine ⟨_, h13, (by show 1 ≤ sizeLine; decide), fun A5 nA5 => ?_⟩
  obtain ⟨B2, b2, eB, hT2⟩ := b.put (o := (.lst [v])) nA5
  try replace hm1 := hm1.ex eB
  try replace hm2 := hm2.ex eB
  try replace hD := eB _ _ hD
  try replace hS := eB _ _ hS
  try replace hZ := eB _ _ hZ
  try replace hX := eB _ _ hX
  try replace hWd := eB _ _ hWd
  try replace hV := eB _ _ hV
  try replace hT1 := eB _ _ hT1
  try replace hT2 := eB _ _ hT2
  try replace hT3 := eB _ _ hT3
  try replace dW := dpAll_ex eB dW
  try replace prS := prS.ex eB
  try replace prW := prW.ex eB
  try replace ths := ths.ex eB
  try replace odds := odds.ex eB
  try replace hodd := hodd.ex eB
  try replace wds := wds.ex eB
  try replace hwd := hwd.ex eB
  try replace eAll := eAll.trans eB
  clear eB
  replace hF := Ex.new (o := (.lst [v])) nA5 _ _ hF
  clear b nA5
  generalize upd H5 A5 (.lst [v]) = H6 at b2 hF ⊢
  have b := b2
  clear b2
  refine ⟨A4, A5, _, _, rfl, rfl, SqL.of (b.ex _ _ hT1), SqL.of (b.ex _ _ hT2), Nat.le_trans (show (cutV xS none (some (a : Int))).length + 1 ≤ 1000 by omega) big, fun A6 nA6 => ?_⟩
  obtain ⟨B2, b2, eB, hT3⟩ := b.put (o := (.lst (cutV xS none (some (a : Int)) ++ [v]))) nA6
  try replace hm1 := hm1.ex eB
  try replace hm2 := hm2.ex eB
  try replace hD := eB _ _ hD
  try replace hS := eB _ _ hS
  try replace hZ := eB _ _ hZ
  try replace hX := eB _ _ hX
  try replace hWd := eB _ _ hWd
  try replace hV := eB _ _ hV
  try replace hT1 := eB _ _ hT1
  try replace hT2 := eB _ _ hT2
  try replace hT3 := eB _ _ hT3
  try replace dW := dpAll_ex eB dW
  try replace prS := prS.ex eB
  try replace prW := prW.ex eB
  try replace ths := ths.ex eB
  try replace odds := odds.ex eB
  try replace hodd := hodd.ex eB
  try replace wds := wds.ex eB
  try replace hwd := hwd.ex eB
  try replace eAll := eAll.trans eB
  clear eB
  replace hF := Ex.new (o := (.lst (cutV xS none (some (a : Int)) ++ [v]))) nA6 _ _ hF
  clear b nA6
  generalize upd H6 A6 (.lst (cutV xS none (some (a : Int)) ++ [v])) = H7 at b2 hF ⊢
  have b := b2
  clear b2
  clear hT1 hT2
  refine ⟨_, h5, _, h11, (a : Int), rfl, S, xS, rfl, SqL.of (b.ex _ _ hS), fun A7 nA7 => ?_⟩
  obtain ⟨B2, b2, eB, hT1⟩ := b.put (o := (.lst (cutV xS (some (a : Int)) none))) nA7
  try replace hm1 := hm1.ex eB
  try replace hm2 := hm2.ex eB
  try replace hD := eB _ _ hD
  try replace hS := eB _ _ hS
  try replace hZ := eB _ _ hZ
  try replace hX := eB _ _ hX
  try replace hWd := eB _ _ hWd
  try replace hV := eB _ _ hV
  try replace hT1 := eB _ _ hT1
  try replace hT2 := eB _ _ hT2
  try replace hT3 := eB _ _ hT3
  try replace dW := dpAll_ex eB dW
  try replace prS := prS.ex eB
  try replace prW := prW.ex eB
  try replace ths := ths.ex eB
  try replace odds := odds.ex eB
  try replace hodd := hodd.ex eB
  try replace wds := wds.ex eB
  try replace hwd := hwd.ex eB
  try replace eAll := eAll.trans eB
  clear eB
  replace hF := Ex.new (o := (.lst (cutV xS (some (a : Int)) none))) nA7 _ _ hF
  clear b nA7
  generalize upd H7 A7 (.lst (cutV xS (some (a : Int)) none)) = H8 at b2 hF ⊢
  have b := b2
  clear b2
  refine ⟨A6, A7, _, _, rfl, rfl, SqL.of (b.ex _ _ hT3), SqL.of (b.ex _ _ hT1), Nat.le_trans (show (cutV xS none (some (a : Int)) ++ [v]).length + (cutV xS (some (a : Int)) none).length ≤ 1000 by rw [List.length_append]; show _ + 1 + _ ≤ 1000; omega) big, fun A8 nA8 => ?_⟩
  obtain ⟨B2, b2, eB, hT2⟩ := b.put (o := (.lst (cutV xS none (some (a : Int)) ++ [v] ++ cutV xS (some (a : Int)) none))) nA8
  try replace hm1 := hm1.ex eB
  try replace hm2 := hm2.ex eB
  try replace hD := eB _ _ hD
  try replace hS := eB _ _ hS
  try replace hZ := eB _ _ hZ
  try replace hX := eB _ _ hX
  try replace hWd := eB _ _ hWd
  try replace hV := eB _ _ hV
  try replace hT1 := eB _ _ hT1
  try replace hT2 := eB _ _ hT2
  try replace hT3 := eB _ _ hT3
  try replace dW := dpAll_ex eB dW
  try replace prS := prS.ex eB
  try replace prW := prW.ex eB
  try replace ths := ths.ex eB
  try replace odds := odds.ex eB
  try replace hodd := hodd.ex eB
  try replace wds := wds.ex eB
  try replace hwd := hwd.ex eB
  try replace eAll := eAll.trans eB
  clear eB
  replace hF := Ex.new (o := (.lst (cutV xS none (some (a : Int)) ++ [v] ++ cutV xS (some (a : Int)) none))) nA8 _ _ hF
  clear b nA8
  generalize upd H8 A8 (.lst (cutV xS none (some (a : Int)) ++ [v] ++ cutV xS (some (a : Int)) none)) = H9 at b2 hF ⊢
  have b := b2
  clear b2
  replace ths := ths.append (Ths.cons (thing_items false (SqL.of hT2) (((prS.its.sub fun y hy => cut hy).append odds).append (prS.its.sub fun y hy => cut hy)) (by rw [List.length_append, List.length_append]; show _ + 1 + _ ≤ 200; omega)) Ths.nil)
  clear hT1 hT2 hT3
  refine ⟨(by show 2 ≤ sizeLine; decide), fun A9 nA9 => ?_⟩
  obtain ⟨B2, b2, eB, hT1⟩ := b.put (o := (.tup [.bl false, .int 0])) nA9
  try replace hm1 := hm1.ex eB
  try replace hm2 := hm2.ex eB
  try replace hD := eB _ _ hD
  try replace hS := eB _ _ hS
  try replace hZ := eB _ _ hZ
  try replace hX := eB _ _ hX
  try replace hWd := eB _ _ hWd
  try replace hV := eB _ _ hV
  try replace hT1 := eB _ _ hT1
  try replace hT2 := eB _ _ hT2
  try replace hT3 := eB _ _ hT3
  try replace dW := dpAll_ex eB dW
  try replace prS := prS.ex eB
  try replace prW := prW.ex eB
  try replace ths := ths.ex eB
  try replace odds := odds.ex eB
  try replace hodd := hodd.ex eB
  try replace wds := wds.ex eB
  try replace hwd := hwd.ex eB
  try replace eAll := eAll.trans eB
  clear eB
  replace hF := Ex.new (o := (.tup [.bl false, .int 0])) nA9 _ _ hF
  clear b nA9
  generalize upd H9 A9 (.tup [.bl false, .int 0]) = H10 at b2 hF ⊢
  have b := b2
  clear b2
  refine ⟨(by show 1 ≤ sizeLine; decide), fun A10 nA10 => ?_⟩
  obtain ⟨B2, b2, eB, hT2⟩ := b.put (o := (.lst [.ref A9])) nA10
  try replace hm1 := hm1.ex eB
  try replace hm2 := hm2.ex eB
  try replace hD := eB _ _ hD
  try replace hS := eB _ _ hS
  try replace hZ := eB _ _ hZ
  try replace hX := eB _ _ hX
  try replace hWd := eB _ _ hWd
  try replace hV := eB _ _ hV
  try replace hT1 := eB _ _ hT1
  try replace hT2 := eB _ _ hT2
  try replace hT3 := eB _ _ hT3
  try replace dW := dpAll_ex eB dW
  try replace prS := prS.ex eB
  try replace prW := prW.ex eB
  try replace ths := ths.ex eB
  try replace odds := odds.ex eB
  try replace hodd := hodd.ex eB
  try replace wds := wds.ex eB
  try replace hwd := hwd.ex eB
  try replace eAll := eAll.trans eB
  clear eB
  replace hF := Ex.new (o := (.lst [.ref A9])) nA10 _ _ hF
  clear b nA10
  generalize upd H10 A10 (.lst [.ref A9]) = H11 at b2 hF ⊢
  have b := b2
  clear b2
  refine ⟨_, h5, 1, rfl, S, xS, rfl, SqL.of (b.ex _ _ hS), fun A11 nA11 => ?_⟩
  obtain ⟨B2, b2, eB, hT3⟩ := b.put (o := (.lst (cutV xS (some 1) none))) nA11
  try replace hm1 := hm1.ex eB
  try replace hm2 := hm2.ex eB
  try replace hD := eB _ _ hD
  try replace hS := eB _ _ hS
  try replace hZ := eB _ _ hZ
  try replace hX := eB _ _ hX
  try replace hWd := eB _ _ hWd
  try replace hV := eB _ _ hV
  try replace hT1 := eB _ _ hT1
  try replace hT2 := eB _ _ hT2
  try replace hT3 := eB _ _ hT3
  try replace dW := dpAll_ex eB dW
  try replace prS := prS.ex eB
  try replace prW := prW.ex eB
  try replace ths := ths.ex eB
  try replace odds := odds.ex eB
  try replace hodd := hodd.ex eB
  try replace wds := wds.ex eB
  try replace hwd := hwd.ex eB
  try replace eAll := eAll.trans eB
  clear eB
  replace hF := Ex.new (o := (.lst (cutV xS (some 1) none))) nA11 _ _ hF
  clear b nA11
  generalize upd H11 A11 (.lst (cutV xS (some 1) none)) = H12 at b2 hF ⊢
  have b := b2
  clear b2
  have c3 := cutl (some 1) none
  refine ⟨A10, A11, _, _, rfl, rfl, SqL.of (b.ex _ _ hT2), SqL.of (b.ex _ _ hT3), Nat.le_trans (show 1 + (cutV xS (some 1) none).length ≤ 1000 by omega) big, fun A12 nA12 => ?_⟩
  clear hT2 hT3
  have itF := Its.one (K := K) (it_tup hT1 (.cons (.bl _) (.cons (.int _) .nil)) (sm_2 sm_f sm_0) (by decide))
  replace odds := odds.append itF
  clear itF hT1
  obtain ⟨B2, b2, eB, hT2⟩ := b.put (o := (.lst ([.ref A9] ++ cutV xS (some 1) none))) nA12
  try replace hm1 := hm1.ex eB
  try replace hm2 := hm2.ex eB
  try replace hD := eB _ _ hD
  try replace hS := eB _ _ hS
  try replace hZ := eB _ _ hZ
  try replace hX := eB _ _ hX
  try replace hWd := eB _ _ hWd
  try replace hV := eB _ _ hV
  try replace hT1 := eB _ _ hT1
  try replace hT2 := eB _ _ hT2
  try replace hT3 := eB _ _ hT3
  try replace dW := dpAll_ex eB dW
  try replace prS := prS.ex eB
  try replace prW := prW.ex eB
  try replace ths := ths.ex eB
  try replace odds := odds.ex eB
  try replace hodd := hodd.ex eB
  try replace wds := wds.ex eB
  try replace hwd := hwd.ex eB
  try replace eAll := eAll.trans eB
  clear eB
  replace hF := Ex.new (o := (.lst ([.ref A9] ++ cutV xS (some 1) none))) nA12 _ _ hF
  clear b nA12
  generalize upd H12 A12 (.lst ([.ref A9] ++ cutV xS (some 1) none)) = H13 at b2 hF ⊢
  have b := b2
  clear b2
  replace ths := ths.append (Ths.cons (thing_items false (SqL.of hT2) ((odds.sub fun y hy => by rw [List.mem_singleton.mp hy]; simp).append (prS.its.sub fun y hy => cut hy)) (by rw [List.length_append]; show 1 + _ ≤ 200; omega)) Ths.nil)
  clear hT2
  refine ⟨(by show 0 ≤ sizeLine; decide), fun A13 nA13 => ?_⟩
  obtain ⟨B2, b2, eB, hT1⟩ := b.put (o := (.lst [])) nA13
  try replace hm1 := hm1.ex eB
  try replace hm2 := hm2.ex eB
  try replace hD := eB _ _ hD
  try replace hS := eB _ _ hS
  try replace hZ := eB _ _ hZ
  try replace hX := eB _ _ hX
  try replace hWd := eB _ _ hWd
  try replace hV := eB _ _ hV
  try replace hT1 := eB _ _ hT1
  try replace hT2 := eB _ _ hT2
  try replace hT3 := eB _ _ hT3
  try replace dW := dpAll_ex eB dW
  try replace prS := prS.ex eB
  try replace prW := prW.ex eB
  try replace ths := ths.ex eB
  try replace odds := odds.ex eB
  try replace hodd := hodd.ex eB
  try replace wds := wds.ex eB
  try replace hwd := hwd.ex eB
  try replace eAll := eAll.trans eB
  clear eB
  replace hF := Ex.new (o := (.lst [])) nA13 _ _ hF
  clear b nA13
  generalize upd H13 A13 (.lst []) = H14 at b2 hF ⊢
  have b := b2
  clear b2
  replace ths := ths.append (Ths.cons (thing_items false (SqL.of hT1) (fun y hy => by cases hy) (by decide)) Ths.nil)
  clear hT1
  refine ⟨(by show 5 ≤ sizeLine; decide), fun E5 nE5 => ?_⟩
  have nEF : E5 ≠ F := fun z => by rw [z, hF] at nE5; cases nE5
  have eE := Ex.new (o := .lst [.ref A2, .ref A3, .ref A8, .ref A12, .ref A13]) nE5
  have b' := b.ext eE
  exact ⟨F, E5, L, _, rfl, rfl, eE _ _ hF, upd_same, Nat.le_trans (show L.length + 5 ≤ 1000 by omega) big, q _ _ [.ref A2, .ref A3, .ref A8, .ref A12, .ref A13] (b'.mut hFl nFp) eAll upd_same (ths.sub fun y hy => by
    simp only [List.mem_cons, List.mem_append, List.not_mem_nil, or_false] at hy ⊢
    rcases hy with rfl | rfl | rfl | rfl | rfl <;> simp) rfl⟩
end
end W

set_option Elab.async false
set_option linter.all false
set_option maxRecDepth 100000
set_option maxHeartbeats 64000000
/-! Every pair. -/
namespace W
open PySem PySem.Spec PyProof.Rows L2 Evl G NdefX LamX Clo
def PrI (B : Hp) (x : V) : Prop := ∃ (b : Addr) (q : Nat × Nat), x = .ref b ∧ q.1 ≤ 12 ∧ q.2 ≤ 12 ∧ B b = some (.tup [.int (q.1 : Int), .int (q.2 : Int)])
theorem PrI.mono (B B' : Hp) (x : V) (e : Ex B B') (h : PrI B x) : PrI B' x := let ⟨b, q, a, c, d, f⟩ := h; ⟨b, q, a, c, d, e _ _ f⟩
section
variable {K : PySem.W.Frag} {σ : L2.St} {Q : VK} {Sl : List Addr} {p F Z : Addr} {H0 B0 H1 : Hp} {L xS : List V}
theorem Bs.drop {B H : Hp} {D : Addr} {u : HO} (b : Bs (D :: Sl) p H0 B H) (hp : p ∈ Sl) (hD : D ∉ Sl) (h : H D = some u) : ∃ B', Bs Sl p H0 B' H ∧ Ex B B' ∧ B' D = some u :=
  ⟨hidL Sl H, ⟨hidL_ex, fun a ha => (by unfold hidL; rw [if_pos ha]), fun a ha => b.th a (List.mem_cons_of_mem _ ha), hp, b.pot, b.bt, fun a ha => b.nw a (List.mem_cons_of_mem _ ha)⟩, hidL_of b.ex fun a ha => b.no a (List.mem_cons_of_mem _ ha), hidL_some.mpr ⟨hD, h⟩⟩
theorem get_own {σ : L2.St} {j : Nat} {x : V} (h : j < σ.length) : ((wipe σ [j]).set j (some x))[j]? = some (some x) := by
  rw [List.getElem?_set, if_pos rfl, if_pos (by simpa [wipe] using h)]
theorem get_oth {σ : L2.St} {i j : Nat} {x : V} {u : Option V} (h : i ≠ j) (hu : σ[i]? = some u) : ((wipe σ [j]).set j (some x))[i]? = some u := by
  rw [List.getElem?_set, if_neg (Ne.symm h)]
  simp only [wipe, List.foldl_cons, List.foldl_nil]
  rw [List.getElem?_set, if_neg (Ne.symm h)]
  exact hu
theorem every_lc {m k : Nat} (l17 : 17 < σ.length) (h6 : σ[6]? = some (some (.ref Z))) (b : Bs Sl p H0 B0 H1) (hZ : B0 Z = some (.lst [.int (m : Nat), .int (k : Nat)])) (hm : m ≤ 12) (hk : k ≤ 12) (k0 : 0 < k) (few : m * k ≤ 60)
    (q : ∀ (H' B' : Hp) (D : Addr) (acc : List V), Ex H1 H' → Bs Sl p H0 B' H' → Ex B0 B' → B' D = some (.lst acc) → (∀ x ∈ acc, PrI B' x) → acc.length = m * k → Q (.ref D) H') :
    tLc (iList K (tLc (iRng1 (tCons (tOp (rI CMul fun i j => V.int (i * j)) (tOp (rIxL K) (tVar 6) (tC (.int 0))) (tOp (rIxL K) (tVar 6) (tC (.int 1)))) tNil)) (gName 17) tYes
      (tCB (fun xs H Q => ∃ i j, xs = [V.int i, V.int j] ∧ CDiv i j ∧ ∀ (p : Addr), H p = none → Q (.ref p) (upd H p (.tup [.int (i / j), .int (i % j)]))) (tCons (tVar 17) (tCons (tOp (rIxL K) (tVar 6) (tC (.int 1))) tNil))) [17]))
      (gTup K 2 (gCons (gName 15) (gCons (gName 16) gNil))) tYes (tTup (tCons (tVar 15) (tCons (tVar 16) tNil))) [15, 16] σ H1 Q := by
  refine ⟨_, h6, Z, _, 0, .int (m : Nat), rfl, rfl, SqL.of (b.ex _ _ hZ), rfl, _, h6, Z, _, 1, .int (k : Nat), rfl, rfl, SqL.of (b.ex _ _ hZ), rfl, _, _, rfl, rfl, ?_⟩
  have few' : (m : Int) * (k : Int) ≤ 60 := by
    have := Int.ofNat_le.mpr few
    rw [Int.natCast_mul] at this
    exact this
  have pos' : 0 ≤ (m : Int) * (k : Int) := Int.mul_nonneg (by omega) (by omega)
  have tn : ((m : Int) * (k : Int)).toNat = m * k := by rw [← Int.natCast_mul]; exact Int.toNat_natCast _
  refine ⟨.inl ⟨by omega, by omega⟩, (m : Int) * (k : Int), rfl, by omega, by omega, fun D1 nD1 => ?_⟩
  refine lc_I (I := PrI) PrI.mono (g := gName 17) (vs := [17]) (walk_range (lo := 0) (n := ((m : Int) * (k : Int)).toNat)) (by omega) b nD1 (fun _ _ => trivial) (fun i x Ha Hb B' hi b' eB yy Q' rr => ?_) (fun H2 B2 acc eH2 b2 eB hD1 pr la => ?_)
  · obtain ⟨rfl, rfl⟩ := yy
    refine ⟨wipe_set σ 17 _, _, get_own l17, _, get_oth (by decide) h6, Z, _, 1, .int (k : Nat), rfl, rfl, SqL.of (b'.ex _ _ (eB _ _ hZ)), rfl, _, _, rfl, ⟨by omega, by omega⟩, fun t nt => rr (.ref t) _ (Ex.new nt) ?_⟩
    obtain ⟨B3, b3, eB3, ht⟩ := b'.put (o := .tup [.int ((0 + (i : Int)) / (k : Nat)), .int ((0 + (i : Int)) % (k : Nat))]) nt
    refine ⟨B3, b3, eB3, t, (i / k, i % k), rfl, ?_, ?_, ?_⟩
    · have : i / k ≤ m := by
        rw [tn] at hi
        exact Nat.le_of_lt (Nat.div_lt_of_lt_mul (by rw [Nat.mul_comm]; exact hi))
      show i / k ≤ 12
      omega
    · have := Nat.mod_lt i k0
      show i % k ≤ 12
      omega
    · rw [ht]
      simp
  · have n1 : D1 ∉ Sl := b.lps nD1
    obtain ⟨B3, b3, eB3, hD3⟩ := b2.drop b.mem n1 hD1
    have pr3 : ∀ x ∈ acc, PrI B3 x := fun x hx => PrI.mono _ _ _ eB3 (pr x hx)
    refine ⟨D1, rfl, ⟨_, SqL.of hD1⟩, fun D2 nD2 => ?_⟩
    refine lc_I (I := PrI) PrI.mono (g := gTup K 2 (gCons (gName 15) (gCons (gName 16) gNil))) (vs := [15, 16]) (walk_list (K := K) (a := D1) (xs := acc)) (by omega) b3 nD2 (fun H' e => SqL.of (e _ _ hD3)) (fun i x Ha Hb B' hi b' eB' yy Q' rr => ?_) (fun H5 B5 acc5 eH5 b5 eB5 hD5 pr5 la5 => ?_)
    · obtain ⟨rfl, ex⟩ := yy
      obtain ⟨t, q, rfl, q1, q2, ht⟩ := pr3 x (List.mem_of_getElem? ex)
      have l15 : 15 < σ.length := by omega
      refine ⟨t, _, rfl, SqT.of (b'.ex _ _ (eB' _ _ ht)), rfl, _, _, rfl, _, _, rfl, rfl, wipe_set2 σ (by decide) _ _, ?_⟩
      refine ⟨.int (q.1 : Int), ?_, .int (q.2 : Int), ?_, (by show 2 ≤ sizeLine; decide), fun t2 nt2 => rr (.ref t2) _ (Ex.new nt2) ?_⟩
      · rw [List.getElem?_set, if_neg (by decide), List.getElem?_set, if_pos rfl, if_pos (by simpa [wipe] using l15)]
      · rw [List.getElem?_set, if_pos rfl, if_pos (by simp [wipe]; omega)]
      · obtain ⟨B6, b6, eB6, ht6⟩ := b'.put (o := .tup [.int (q.1 : Int), .int (q.2 : Int)]) nt2
        exact ⟨B6, b6, eB6, t2, q, rfl, q1, q2, ht6⟩
    · have n2 : D2 ∉ Sl := b3.lps nD2
      obtain ⟨B7, b7, eB7, hD7⟩ := b5.drop b.mem n2 hD5
      exact q H5 B7 D2 acc5 (eH2.trans eH5) b7 (eB.trans (eB3.trans (eB5.trans eB7))) hD7 (fun x hx => PrI.mono _ _ _ eB7 (pr5 x hx)) (by omega)
end
end W

set_option Elab.async false
set_option linter.all false
set_option maxRecDepth 100000
set_option maxHeartbeats 64000000
/-! More things put on. -/
namespace W
open PySem PySem.Spec PyProof.Rows L2 Evl G NdefX LamX Clo
theorem prT_sz {q : Nat × Nat} (h1 : q.1 ≤ 12) (h2 : q.2 ≤ 12) : Sz 40 3 (prT q) := (Sz.tuple (m := 3) (c := 6) (e := 1) (fun d hd => sz_smL d (sm_2 (int_smL h1) (int_smL h2) d hd)) (by show 2 ≤ 3; decide)).mono (by decide) (by decide)
/-- a pair and 0 -/
def TI (B : Hp) (x : V) : Prop := ∃ (t b : Addr) (q : Nat × Nat), x = .ref t ∧ B t = some (.tup [.ref b, .int 0]) ∧ q.1 ≤ 12 ∧ q.2 ≤ 12 ∧ B b = some (.tup [.int (q.1 : Int), .int (q.2 : Int)])
theorem TI.mono (B B' : Hp) (x : V) (e : Ex B B') (h : TI B x) : TI B' x := let ⟨t, b, q, a, c, d, f, g⟩ := h; ⟨t, b, q, a, e _ _ c, d, f, e _ _ g⟩
def Zkv (p : List Key × V) : Prop := ∃ q : Nat × Nat, q.1 ≤ 12 ∧ q.2 ≤ 12 ∧ p = (pk q, .int 0)
theorem ti_list {H : Hp} : ∀ {acc : List V}, (∀ x ∈ acc, TI H x) → ∃ (qs : List (Addr × Addr)) (kvs : List (List Key × V)), acc = qs.map (fun q => V.ref q.1) ∧ kvs.length = acc.length ∧ (∀ p ∈ kvs, Zkv p) ∧
    Paired (fun (q : Addr × Addr) (p : List Key × V) => H q.1 = some (.tup [.ref q.2, p.2]) ∧ H q.2 = some (.tup (p.1.map kV))) qs kvs
  | [], _ => ⟨[], [], rfl, rfl, fun p hp => (by cases hp), .nil⟩
  | x :: acc, h => by
    obtain ⟨qs, kvs, rfl, h2, h3, h4⟩ := ti_list (acc := acc) fun y hy => h y (List.mem_cons_of_mem _ hy)
    obtain ⟨t, b, q, rfl, a1, a2, a3, a4⟩ := h x List.mem_cons_self
    exact ⟨(t, b) :: qs, (pk q, .int 0) :: kvs, rfl, by simp [h2], fun p hp => (List.mem_cons.mp hp).elim (fun e => ⟨q, a2, a3, e⟩) (h3 p), .cons ⟨a1, a4⟩ h4⟩
theorem zkv_put {kvs : List (List Key × V)} {p : List Key × V} (h : ∀ p ∈ kvs, Zkv p) (hp : Zkv p) : ∀ r ∈ putK kvs p.1 p.2, Zkv r := fun r hr => by
  obtain ⟨q, q1, q2, rfl⟩ := hp
  unfold putK at hr
  split at hr
  · obtain ⟨s, hs, rfl⟩ := List.mem_map.mp hr
    split
    · rename_i e
      exact ⟨q, q1, q2, by rw [e]⟩
    · exact h s hs
  · rcases List.mem_append.mp hr with m | m
    · exact h r m
    · rw [List.mem_singleton.mp m]
      exact ⟨q, q1, q2, rfl⟩
theorem zkv_fold : ∀ {ks kvs : List (List Key × V)}, (∀ p ∈ ks, Zkv p) → (∀ p ∈ kvs, Zkv p) → ∀ r ∈ ks.foldl (fun acc kv => putK acc kv.1 kv.2) kvs, Zkv r
  | [], kvs, _, h, r, hr => h r hr
  | p :: ks, kvs, h1, h2, r, hr => zkv_fold (ks := ks) (kvs := putK kvs p.1 p.2) (fun q hq => h1 q (List.mem_cons_of_mem _ hq)) (zkv_put h2 (h1 p List.mem_cons_self)) r hr
section
variable {K : PySem.W.Frag} {σ : L2.St} {Q : VK} {Sl : List Addr} {p F S : Addr} {H H0 B0 H1 : Hp} {L xS : List V}
theorem thing_dict {a : Addr} {kvs : List (List Key × V)} (h : H a = some (.dT kvs)) (z : ∀ r ∈ kvs, Zkv r) (few : kvs.length ≤ 100) : ∃ d, Thing K H (.ref a) d := by
  have dv : ∀ kvs : List (List Key × V), (∀ r ∈ kvs, Zkv r) → DqAll K H (kvs.map (·.2)) (kvs.map fun _ => PyData.int 0) := fun kvs => by
    induction kvs with
    | nil => exact fun _ => .nil
    | cons r kvs ih =>
      intro z
      obtain ⟨q, _, _, rfl⟩ := z r List.mem_cons_self
      exact .cons (.int 0) (ih fun s hs => z s (List.mem_cons_of_mem _ hs))
  refine ⟨_, thing_none (.dT h (dv kvs z)) rfl ((Sz.kv (m := 100) (c := 40) (e := 3) (c' := 6) (e' := 1) (fun d hd => ?_) (fun d hd => ?_) (by rw [List.length_map]; exact few)).showy (by decide) (by decide))⟩
  · obtain ⟨r, hr, rfl⟩ := List.mem_map.mp hd
    obtain ⟨q, q1, q2, rfl⟩ := z r hr
    exact prT_sz q1 q2
  · obtain ⟨r, _, rfl⟩ := List.mem_map.mp hd
    exact sz_smL _ sm_0
theorem thing_empty {a : Addr} (h : H a = some (.tup [])) : ∃ d, Thing K H (.ref a) d :=
  ⟨.tuple [], .inr ⟨a, [], [], rfl, .inr ⟨rfl, st_of h⟩, .nil, by decide, fun i y e e1 _ => by simp at e1⟩, fun ds he => (by cases he; exact ⟨by decide, fun e he => (by cases he), fun q _ _ ne => absurd rfl ne⟩), (sz_of (c := 40) (e := 3) (by decide +kernel)).showy (by decide) (by decide)⟩
theorem thing_flat {x : V} {d : PyData} (h : Dq K H x d) (n : itemsD d = none) (s : szB 40 3 d = true) : ∃ d, Thing K H x d := ⟨d, thing_none h n ((sz_of s).showy (by decide) (by decide))⟩
theorem ext_2 {D14 : Addr} {acc : List V} (l10 : 10 < σ.length) (h5 : σ[5]? = some (some (.ref S))) (h12 : σ[12]? = some (some (.ref F))) (h14 : σ[14]? = some (some (.ref D14))) (bb : Bs Sl p H0 B0 H1) (hF0 : H1 F = some (.lst L)) (hFl : F ∈ Sl) (nFp : F ≠ p)
    (hS0 : B0 S = some (.lst xS)) (prS0 : PrL B0 xS) (hV0 : B0 D14 = some (.lst acc)) (pr0 : PrL B0 acc) (la : acc.length ≤ 60) (l60 : xS.length ≤ 60) (lL : L.length ≤ 40) (q : ∀ (H' B' : Hp) (L' : List V), Bs Sl p H0 B' H' → Ex B0 B' → H' F = some (.lst (L ++ L')) → Ths K B' L' → L'.length = 9 → Q .non H') :
    tBM K "list" rExtend (tVar 12) (tCons (tLst (tCons (tVar 14) (tCons (tLst (tCons (tTup (tCons (tC (.int 0)) (tCons (tC (.int 0)) tNil))) tNil)) (tCons tDNewK
      (tCons (tCB (rDictT K) (tCons (tLc (iList K (tVar 5)) (gName 10) tYes (tTup (tCons (tVar 10) (tCons (tC (.int 0)) tNil))) [10]) tNil))
      (tCons (tC .non) (tCons (tC (.int 0)) (tCons (tC (.str "")) (tCons (tTup tNil) (tCons (tC (.bl true)) tNil)))))))))) tNil) σ H1 Q := by
  have b := bb
  have hF := hF0
  have hS := hS0
  have prS := prS0
  have hV := hV0
  have prW := pr0
  have eAll := Ex.refl B0
  clear bb hF0 hS0 prS0 hV0 pr0
  have big : (1000 : Nat) ≤ sizeLine := by decide
  have ths : Ths K B0 [.ref D14, .non, .int 0, .str "", .bl true] := Ths.cons (thing_items false (SqL.of hV) prW.its (by omega)) (Ths.cons (thing_flat .non rfl (by decide +kernel)) (Ths.cons (thing_flat (.int 0) rfl (by decide +kernel)) (Ths.cons (thing_flat (.str "") rfl (by decide +kernel)) (Ths.cons (thing_flat (.bl true) rfl (by decide +kernel)) Ths.nil))))
  refine ⟨_, h12, .inl ⟨rfl, _, SqL.of hF⟩, _, h14, (by show 2 ≤ sizeLine; decide), fun A1 nA1 => ?_⟩
  obtain ⟨B2, b2, eB, hT1⟩ := b.put (o := (.tup [.int 0, .int 0])) nA1
  try replace hm1 := hm1.ex eB
  try replace hm2 := hm2.ex eB
  try replace hD := eB _ _ hD
  try replace hS := eB _ _ hS
  try replace hZ := eB _ _ hZ
  try replace hX := eB _ _ hX
  try replace hWd := eB _ _ hWd
  try replace hV := eB _ _ hV
  try replace hT1 := eB _ _ hT1
  try replace hT2 := eB _ _ hT2
  try replace hT3 := eB _ _ hT3
  try replace dW := dpAll_ex eB dW
  try replace prS := prS.ex eB
  try replace prW := prW.ex eB
  try replace ths := ths.ex eB
  try replace odds := odds.ex eB
  try replace hodd := hodd.ex eB
  try replace wds := wds.ex eB
  try replace hwd := hwd.ex eB
  try replace eAll := eAll.trans eB
  clear eB
  replace hF := Ex.new (o := (.tup [.int 0, .int 0])) nA1 _ _ hF
  clear b nA1
  generalize upd H1 A1 (.tup [.int 0, .int 0]) = H2 at b2 hF ⊢
  have b := b2
  clear b2
  refine ⟨(by show 1 ≤ sizeLine; decide), fun A2 nA2 => ?_⟩
  obtain ⟨B2, b2, eB, hT2⟩ := b.put (o := (.lst [.ref A1])) nA2
  try replace hm1 := hm1.ex eB
  try replace hm2 := hm2.ex eB
  try replace hD := eB _ _ hD
  try replace hS := eB _ _ hS
  try replace hZ := eB _ _ hZ
  try replace hX := eB _ _ hX
  try replace hWd := eB _ _ hWd
  try replace hV := eB _ _ hV
  try replace hT1 := eB _ _ hT1
  try replace hT2 := eB _ _ hT2
  try replace hT3 := eB _ _ hT3
  try replace dW := dpAll_ex eB dW
  try replace prS := prS.ex eB
  try replace prW := prW.ex eB
  try replace ths := ths.ex eB
  try replace odds := odds.ex eB
  try replace hodd := hodd.ex eB
  try replace wds := wds.ex eB
  try replace hwd := hwd.ex eB
  try replace eAll := eAll.trans eB
  clear eB
  replace hF := Ex.new (o := (.lst [.ref A1])) nA2 _ _ hF
  clear b nA2
  generalize upd H2 A2 (.lst [.ref A1]) = H3 at b2 hF ⊢
  have b := b2
  clear b2
  replace ths := ths.append (Ths.cons (thing_items false (SqL.of hT2) (Its.one (it_pair (i := 0) (j := 0) hT1 (by decide) (by decide))) (by show 1 ≤ 200; decide)) Ths.nil)
  clear hT1 hT2
  refine fun A3 nA3 => ?_
  obtain ⟨B2, b2, eB, hT1⟩ := b.put (o := (.dK [])) nA3
  try replace hm1 := hm1.ex eB
  try replace hm2 := hm2.ex eB
  try replace hD := eB _ _ hD
  try replace hS := eB _ _ hS
  try replace hZ := eB _ _ hZ
  try replace hX := eB _ _ hX
  try replace hWd := eB _ _ hWd
  try replace hV := eB _ _ hV
  try replace hT1 := eB _ _ hT1
  try replace hT2 := eB _ _ hT2
  try replace hT3 := eB _ _ hT3
  try replace dW := dpAll_ex eB dW
  try replace prS := prS.ex eB
  try replace prW := prW.ex eB
  try replace ths := ths.ex eB
  try replace odds := odds.ex eB
  try replace hodd := hodd.ex eB
  try replace wds := wds.ex eB
  try replace hwd := hwd.ex eB
  try replace eAll := eAll.trans eB
  clear eB
  replace hF := Ex.new (o := (.dK [])) nA3 _ _ hF
  clear b nA3
  generalize upd H3 A3 (.dK []) = H4 at b2 hF ⊢
  have b := b2
  clear b2
  replace ths := ths.append (Ths.cons (thing_flat (.dK (kvs := []) (ds := []) hT1 .nil) rfl (by decide +kernel)) Ths.nil)
  clear hT1
  refine ⟨_, h5, S, rfl, ⟨_, SqL.of (b.ex _ _ hS)⟩, fun D nD => ?_⟩
  have nDS : D ∉ Sl := b.lps nD
  have hF4 : ∀ {H' : Hp}, Ex H4 H' → H' F = some (.lst L) := fun e => e _ _ hF
  refine lc_I (I := fun B x => TI B x) TI.mono (g := gName 10) (vs := [10]) (walk_list (K := K) (a := S) (xs := xS)) (by omega) b nD (fun H' e => SqL.of (e _ _ hS)) (fun i x Ha Hb B' hi b' eB yy Q' rr => ?_) (fun H5 B5 ac eH5 b5 eB hD5 ti lac => ?_)
  · obtain ⟨rfl, ex⟩ := yy
    obtain ⟨c, qq, rfl, q1, q2, hc⟩ := prS x (List.mem_of_getElem? ex)
    refine ⟨wipe_set σ 10 _, _, get_own l10, (by show 2 ≤ sizeLine; decide), fun t nt => rr (.ref t) _ (Ex.new nt) ?_⟩
    obtain ⟨B6, b6, eB6, ht⟩ := b'.put (o := .tup [.ref c, .int 0]) nt
    exact ⟨B6, b6, eB6, t, c, qq, rfl, ht, q1, q2, eB6 _ _ (eB _ _ hc)⟩
  · obtain ⟨B6, b6, eB6, hD6⟩ := b5.drop b.mem nDS hD5
    have ti6 : ∀ x ∈ ac, TI H5 x := fun x hx => TI.mono _ _ _ b6.ex (TI.mono _ _ _ eB6 (ti x hx))
    obtain ⟨qs, kvs, rfl, lk, zk, pq⟩ := ti_list ti6
    have zf := zkv_fold (kvs := []) zk fun r hr => by cases hr
    have lf : (kvs.foldl (fun acc kv => putK acc kv.1 kv.2) []).length ≤ 0 + kvs.length := foldT_len kvs []
    have l1 : kvs.length ≤ 60 := by rw [lk, lac]; exact l60
    replace hF := eH5 _ _ hF
    replace eB := eB.trans eB6
    try replace hm1 := hm1.ex eB
    try replace hm2 := hm2.ex eB
    try replace hD := eB _ _ hD
    try replace hS := eB _ _ hS
    try replace hZ := eB _ _ hZ
    try replace hX := eB _ _ hX
    try replace hWd := eB _ _ hWd
    try replace hV := eB _ _ hV
    try replace hT1 := eB _ _ hT1
    try replace hT2 := eB _ _ hT2
    try replace hT3 := eB _ _ hT3
    try replace dW := dpAll_ex eB dW
    try replace prS := prS.ex eB
    try replace prW := prW.ex eB
    try replace ths := ths.ex eB
    try replace odds := odds.ex eB
    try replace hodd := hodd.ex eB
    try replace wds := wds.ex eB
    try replace hwd := hwd.ex eB
    try replace eAll := eAll.trans eB
    clear eB
    clear b b5 eB6 hF4
    have b := b6
    clear b6
    refine ⟨D, qs, kvs, rfl, SqL.of hD5, pq, fun A4 nA4 => ?_⟩
    obtain ⟨B2, b2, eB, hT1⟩ := b.put (o := (.dT (kvs.foldl (fun acc kv => putK acc kv.1 kv.2) []))) nA4
    try replace hm1 := hm1.ex eB
    try replace hm2 := hm2.ex eB
    try replace hD := eB _ _ hD
    try replace hS := eB _ _ hS
    try replace hZ := eB _ _ hZ
    try replace hX := eB _ _ hX
    try replace hWd := eB _ _ hWd
    try replace hV := eB _ _ hV
    try replace hT1 := eB _ _ hT1
    try replace hT2 := eB _ _ hT2
    try replace hT3 := eB _ _ hT3
    try replace dW := dpAll_ex eB dW
    try replace prS := prS.ex eB
    try replace prW := prW.ex eB
    try replace ths := ths.ex eB
    try replace odds := odds.ex eB
    try replace hodd := hodd.ex eB
    try replace wds := wds.ex eB
    try replace hwd := hwd.ex eB
    try replace eAll := eAll.trans eB
    clear eB
    replace hF := Ex.new (o := (.dT (kvs.foldl (fun acc kv => putK acc kv.1 kv.2) []))) nA4 _ _ hF
    clear b nA4
    generalize upd H5 A4 (.dT (kvs.foldl (fun acc kv => putK acc kv.1 kv.2) [])) = H6 at b2 hF ⊢
    have b := b2
    clear b2
    replace ths := ths.append (Ths.cons (thing_dict hT1 zf (by omega)) Ths.nil)
    clear hT1
    refine ⟨(by show 0 ≤ sizeLine; decide), fun A5 nA5 => ?_⟩
    obtain ⟨B2, b2, eB, hT1⟩ := b.put (o := (.tup [])) nA5
    try replace hm1 := hm1.ex eB
    try replace hm2 := hm2.ex eB
    try replace hD := eB _ _ hD
    try replace hS := eB _ _ hS
    try replace hZ := eB _ _ hZ
    try replace hX := eB _ _ hX
    try replace hWd := eB _ _ hWd
    try replace hV := eB _ _ hV
    try replace hT1 := eB _ _ hT1
    try replace hT2 := eB _ _ hT2
    try replace hT3 := eB _ _ hT3
    try replace dW := dpAll_ex eB dW
    try replace prS := prS.ex eB
    try replace prW := prW.ex eB
    try replace ths := ths.ex eB
    try replace odds := odds.ex eB
    try replace hodd := hodd.ex eB
    try replace wds := wds.ex eB
    try replace hwd := hwd.ex eB
    try replace eAll := eAll.trans eB
    clear eB
    replace hF := Ex.new (o := (.tup [])) nA5 _ _ hF
    clear b nA5
    generalize upd H6 A5 (.tup []) = H7 at b2 hF ⊢
    have b := b2
    clear b2
    replace ths := ths.append (Ths.cons (thing_empty hT1) Ths.nil)
    clear hT1
    refine ⟨(by show 9 ≤ sizeLine; decide), fun E9 nE9 => ?_⟩
    have nEF : E9 ≠ F := fun z => by rw [z, hF] at nE9; cases nE9
    have eE := Ex.new (o := .lst [.ref D14, .ref A2, .ref A3, .ref A4, .non, .int 0, .str "", .ref A5, .bl true]) nE9
    have b' := b.ext eE
    exact ⟨F, E9, L, _, rfl, rfl, eE _ _ hF, upd_same, Nat.le_trans (show L.length + 9 ≤ 1000 by omega) big, q _ _ [.ref D14, .ref A2, .ref A3, .ref A4, .non, .int 0, .str "", .ref A5, .bl true] (b'.mut hFl nFp) eAll upd_same (ths.sub fun y hy => by
      simp only [List.mem_cons, List.mem_append, List.not_mem_nil, or_false] at hy ⊢
      rcases hy with rfl | rfl | rfl | rfl | rfl | rfl | rfl | rfl | rfl <;> simp) rfl⟩
end
end W

set_option Elab.async false
set_option linter.all false
set_option maxRecDepth 100000
set_option maxHeartbeats 64000000
/-! What is handed back. -/
namespace W
open PySem PySem.Spec PyProof.Rows L2 Evl G NdefX LamX Clo
def ItI (K : PySem.W.Frag) (B : Hp) (x : V) : Prop := ∃ d, ItAt K B x d
theorem ItI.mono {K : PySem.W.Frag} (B B' : Hp) (x : V) (e : Ex B B') (h : ItI K B x) : ItI K B' x := let ⟨d, q⟩ := h; ⟨d, q.ex e⟩
theorem kvP_vals {ps : List (Nat × Nat)} {vs : List V} (hl : vs.length = ps.length) : (kvP ps vs).map (·.2) = vs := by
  unfold kvP
  rw [List.map_map]
  show (ps.zip vs).map (fun q => q.2) = vs
  rw [List.map_snd_zip (by omega)]
section
variable {K : PySem.W.Frag} {σ : L2.St} {Q : VK} {Sl : List Addr} {p F S D : Addr} {H H0 B0 H1 : Hp} {L xS : List V} {n m k : Nat}
theorem wordD_sz {js : List Nat} (hn : n ≤ 4) (hj : ∀ j ∈ js, j < 2 ^ n) (l : js.length ≤ 60) : Sz 963 2 (wordD n js) := by
  refine (Sz.list (m := 60) (c := 14) (e := 1) (fun d hd => ?_) (by unfold wdL; rw [List.length_map]; exact l)).mono (by decide) (by decide)
  obtain ⟨j, hjm, rfl⟩ := List.mem_map.mp hd
  obtain ⟨f1, f2, _, f4, _⟩ := tl_facts (tl_ltr hn (hj j hjm))
  exact ⟨f2, f4, f1⟩
theorem thing_words {a : Addr} {ps : List (Nat × Nat)} {vs : List V} {ws : List (List Nat)} (h : H a = some (.dT (kvP ps vs))) (lv : vs.length = ps.length) (few : ps.length ≤ 60) (rng : ∀ q ∈ ps, q.1 < m ∧ q.2 < k) (hm : m ≤ 12) (hk : k ≤ 12) (dW : DpAll K H vs (ws.map (wordD n))) (hn : n ≤ 4)
    (fw : ∀ (i : Nat) (js : List Nat), ws[i]? = some js → js.length ≤ i ∧ ∀ j ∈ js, j < 2 ^ n) : ∃ d, Thing K H (.ref a) d := by
  have lw : ws.length = ps.length := by rw [← dp_len dW]; exact lv
  refine ⟨_, thing_none (.dT h (ds := ws.map (wordD n)) ?_) rfl ((Sz.kv (m := 60) (c := 40) (e := 3) (c' := 963) (e' := 2) (fun d hd => ?_) (fun d hd => ?_) ?_).showy (by decide) (by decide))⟩
  · rw [kvP_vals lv]
    exact dqs_of dW
  · rw [kvP_keys lv] at hd
    obtain ⟨q, hq, rfl⟩ := List.mem_map.mp hd
    obtain ⟨a1, a2⟩ := rng q hq
    exact prT_sz (by omega) (by omega)
  · obtain ⟨js, hjs, rfl⟩ := List.mem_map.mp hd
    obtain ⟨i, hi⟩ := List.getElem?_of_mem hjs
    have li := (List.getElem?_eq_some_iff.mp hi).1
    obtain ⟨f1, f2⟩ := fw i js hi
    exact wordD_sz hn f2 (by omega)
  · rw [kvP_keys lv, List.length_map]
    exact few
theorem ret_things (l10 : 10 < σ.length) (h3 : σ[3]? = some (some (.ref D))) (h5 : σ[5]? = some (some (.ref S))) (h12 : σ[12]? = some (some (.ref F))) (bb : Bs Sl p H0 B0 H1) (hF0 : H1 F = some (.lst L)) (hFl : F ∈ Sl)
    (hS0 : B0 S = some (.lst xS)) (prS0 : PrL B0 xS) (l60 : xS.length ≤ 60) (lL : L.length ≤ 60) (thD : ∃ d, Thing K B0 (.ref D) d) (thL : Ths K B0 L) (q : ∀ (H' B' : Hp) (l : Addr) (xs : List V), Bs Sl p H0 B' H' → H' l = some (.lst xs) → l ≠ p → Ths K B' xs → xs.length ≤ 100 → Q (.ref l) H') :
    tOp (rCatL K) (tVar 12) (tLst (tCons (tLc (iList K (tVar 5)) (gName 10) tYes (tCB (fun xs H Q => ∃ p ys, xs = [V.ref p] ∧ (SqL K H p ys ∨ SqT K H p ys) ∧ ∀ (l : Addr), H l = none → Q (.ref l) (upd H l (.lst ys))) (tCons (tVar 10) tNil)) [10])
      (tCons (tVar 3) (tCons (tLc (iList K (tVar 5)) (gName 10) tYes (tOp (rCatA K) (tVar 10) (tTup (tCons (tC (.int 0)) tNil))) [10]) tNil)))) σ H1 Q := by
  have b := bb
  have hF := hF0
  have hS := hS0
  have prS := prS0
  have ths : Ths K B0 (L ++ [.ref D]) := thL.append (Ths.cons thD Ths.nil)
  clear bb hF0 hS0 prS0 thD thL
  have big : (1000 : Nat) ≤ sizeLine := by decide
  refine ⟨_, h12, _, h5, S, rfl, ⟨_, SqL.of (b.ex _ _ hS)⟩, fun D1 nD1 => ?_⟩
  have n1 : D1 ∉ Sl := b.lps nD1
  refine lc_I (I := ItI K) ItI.mono (g := gName 10) (vs := [10]) (walk_list (K := K) (a := S) (xs := xS)) (by omega) b nD1 (fun H' e => SqL.of (e _ _ hS)) (fun i x Ha Hb B' hi b' eB yy Q' rr => ?_) (fun H5 B5 ac b5e b5 eB hD5 it lac => ?_)
  · obtain ⟨rfl, ex⟩ := yy
    obtain ⟨c, qq, rfl, q1, q2, hc⟩ := prS x (List.mem_of_getElem? ex)
    refine ⟨wipe_set σ 10 _, _, get_own l10, c, _, rfl, .inr (SqT.of (b'.ex _ _ (eB _ _ hc))), fun t nt => rr (.ref t) _ (Ex.new nt) ?_⟩
    obtain ⟨B6, b6, eB6, ht⟩ := b'.put (o := .lst [.int (qq.1 : Int), .int (qq.2 : Int)]) nt
    exact ⟨B6, b6, eB6, _, it_else (.lst (SqL.of ht) (.cons (.int _) (.cons (.int _) .nil))) (fun e z => by cases z) ((Sz.list (m := 3) (c := 6) (e := 1) (fun d hd => sz_smL d (sm_2 (int_smL q1) (int_smL q2) d hd)) (by show 2 ≤ 3; decide)).mono (by decide) (by decide))⟩
  · obtain ⟨B6, b6, eB6, hD6⟩ := b5.drop b.mem n1 hD5
    have th1 := thing_items (K := K) false (SqL.of hD6) (fun x hx => ItI.mono _ _ _ eB6 (it x hx)) (by omega)
    replace hF := b5e _ _ hF
    replace eB := eB.trans eB6
    try replace hm1 := hm1.ex eB
    try replace hm2 := hm2.ex eB
    try replace hD := eB _ _ hD
    try replace hS := eB _ _ hS
    try replace hZ := eB _ _ hZ
    try replace hX := eB _ _ hX
    try replace hWd := eB _ _ hWd
    try replace hV := eB _ _ hV
    try replace hT1 := eB _ _ hT1
    try replace hT2 := eB _ _ hT2
    try replace hT3 := eB _ _ hT3
    try replace dW := dpAll_ex eB dW
    try replace prS := prS.ex eB
    try replace prW := prW.ex eB
    try replace ths := ths.ex eB
    try replace odds := odds.ex eB
    try replace hodd := hodd.ex eB
    try replace wds := wds.ex eB
    try replace hwd := hwd.ex eB
    try replace eAll := eAll.trans eB
    clear eB
    replace ths := ths.append (Ths.cons th1 Ths.nil)
    clear b b5 eB6 it hD6 th1
    have b := b6
    clear b6
    refine ⟨_, h3, _, h5, S, rfl, ⟨_, SqL.of (b.ex _ _ hS)⟩, fun D2 nD2 => ?_⟩
    have n2 : D2 ∉ Sl := b.lps nD2
    refine lc_I (I := ItI K) ItI.mono (g := gName 10) (vs := [10]) (walk_list (K := K) (a := S) (xs := xS)) (by omega) b nD2 (fun H' e => SqL.of (e _ _ hS)) (fun i x Ha Hb B' hi b' eB yy Q' rr => ?_) (fun H7 B7 ac7 b7e b7 eB hD7 it lac7 => ?_)
    · obtain ⟨rfl, ex⟩ := yy
      obtain ⟨c, qq, rfl, q1, q2, hc⟩ := prS x (List.mem_of_getElem? ex)
      refine ⟨wipe_set σ 10 _, _, get_own l10, (by show 1 ≤ sizeLine; decide), fun t0 nt0 => ?_⟩
      obtain ⟨B8, b8, eB8, ht0⟩ := b'.put (o := .tup [.int 0]) nt0
      refine ⟨c, t0, _, _, rfl, rfl, SqT.of (b8.ex _ _ (eB8 _ _ (eB _ _ hc))), SqT.of upd_same, (by show 2 + 1 ≤ sizeLine; decide), (fun z => by cases z), (fun _ z => by cases z), fun _ _ t nt => rr (.ref t) _ ((Ex.new nt0).trans (Ex.new nt)) ?_⟩
      obtain ⟨B9, b9, eB9, ht⟩ := b8.put (o := .tup ([.int (qq.1 : Int), .int (qq.2 : Int)] ++ [.int 0])) nt
      exact ⟨B9, b9, eB8.trans eB9, _, it_tup ht (.cons (.int _) (.cons (.int _) (.cons (.int _) .nil))) (fun d hd => (List.mem_cons.mp hd).elim (fun e => e ▸ int_smL q1) (sm_2 (int_smL q2) sm_0 d)) (by show 3 ≤ 3; decide)⟩
    · obtain ⟨B8, b8, eB8, hD8⟩ := b7.drop b.mem n2 hD7
      have th2 := thing_items (K := K) false (SqL.of hD8) (fun x hx => ItI.mono _ _ _ eB8 (it x hx)) (by omega)
      replace hF := b7e _ _ hF
      replace eB := eB.trans eB8
      try replace hm1 := hm1.ex eB
      try replace hm2 := hm2.ex eB
      try replace hD := eB _ _ hD
      try replace hS := eB _ _ hS
      try replace hZ := eB _ _ hZ
      try replace hX := eB _ _ hX
      try replace hWd := eB _ _ hWd
      try replace hV := eB _ _ hV
      try replace hT1 := eB _ _ hT1
      try replace hT2 := eB _ _ hT2
      try replace hT3 := eB _ _ hT3
      try replace dW := dpAll_ex eB dW
      try replace prS := prS.ex eB
      try replace prW := prW.ex eB
      try replace ths := ths.ex eB
      try replace odds := odds.ex eB
      try replace hodd := hodd.ex eB
      try replace wds := wds.ex eB
      try replace hwd := hwd.ex eB
      try replace eAll := eAll.trans eB
      clear eB
      replace ths := ths.append (Ths.cons th2 Ths.nil)
      clear b b7 eB8 it hD8 th2
      have b := b8
      clear b8
      refine ⟨(by show 3 ≤ sizeLine; decide), fun E3 nE3 => ?_⟩
      obtain ⟨B2, b2, eB, hT1⟩ := b.put (o := (.lst [.ref D1, .ref D, .ref D2])) nE3
      try replace hm1 := hm1.ex eB
      try replace hm2 := hm2.ex eB
      try replace hD := eB _ _ hD
      try replace hS := eB _ _ hS
      try replace hZ := eB _ _ hZ
      try replace hX := eB _ _ hX
      try replace hWd := eB _ _ hWd
      try replace hV := eB _ _ hV
      try replace hT1 := eB _ _ hT1
      try replace hT2 := eB _ _ hT2
      try replace hT3 := eB _ _ hT3
      try replace dW := dpAll_ex eB dW
      try replace prS := prS.ex eB
      try replace prW := prW.ex eB
      try replace ths := ths.ex eB
      try replace odds := odds.ex eB
      try replace hodd := hodd.ex eB
      try replace wds := wds.ex eB
      try replace hwd := hwd.ex eB
      try replace eAll := eAll.trans eB
      clear eB
      replace hF := Ex.new (o := (.lst [.ref D1, .ref D, .ref D2])) nE3 _ _ hF
      clear b nE3
      generalize upd H7 E3 (.lst [.ref D1, .ref D, .ref D2]) = H9 at b2 hF ⊢
      have b := b2
      clear b2
      refine ⟨F, E3, L, _, rfl, rfl, SqL.of hF, SqL.of (b.ex _ _ hT1), Nat.le_trans (show L.length + 3 ≤ 1000 by omega) big, fun R nR => ?_⟩
      have nRp := b.lp nR
      obtain ⟨B2, b2, eB, hR⟩ := b.put (o := .lst (L ++ [.ref D1, .ref D, .ref D2])) nR
      refine q _ B2 R _ b2 upd_same nRp ((ths.ex eB).sub fun y hy => ?_) (by simp; omega)
      simp only [List.mem_cons, List.mem_append, List.not_mem_nil, or_false] at hy ⊢
      rcases hy with h | rfl | rfl | rfl
      · exact .inl (.inl (.inl h))
      · simp
      · simp
      · simp
end
end W



set_option Elab.async false
set_option linter.all false
set_option maxRecDepth 100000
set_option maxHeartbeats 16000000
/-! Things that are judged: the def. -/
namespace W
open PySem PySem.Spec PyProof.Rows L2 Evl G NdefX LamX Clo
section
variable {P : Program} {w : World} {K : PySem.W.Frag} {mg : Str → Option Value} {base : Heap} {M P1 P2 : Addr} {H H' B : Hp}
def spThings (K : PySem.W.Frag) : Sp := fun vs H Q _ => ∃ (p m1 m2 : Addr) (n o : Nat) (r1 r2 : Rw), vs = [.ref p, .ref m1, .ref m2] ∧ Pot H p ∧ ModAt K H m1 n o r1 ∧ ModAt K H m2 n o r2 ∧ r1.length < 12 ∧ r2.length < 12 ∧ r1.length * r2.length ≤ 60 ∧
  ∀ l xs H', ExBut p H H' → Pot H' p → H' l = some (.lst xs) → l ≠ p → Ths K (hidL [p] H') xs → xs.length ≤ 100 → Q (.ref l) H'
abbrev nThings : List Str := ["_law_pot_here", "_law_one", "_law_other", "_law_words_here", "_law_parted", "_law_some", "_law_sizes", "_law_extra", "_law_more", "_law_wide", "_law_pair", "_law_at", "_law_found", "_law_odd", "_law_every", "_law_near", "_law_far", "_law_place"]
theorem scThings : FnScope nThings ["_law_pot_here", "_law_one", "_law_other"] (defScope dThings) := ⟨rfl, rfl, rfl, by decide +kernel, rfl, by decide +kernel, by decide +kernel⟩
theorem okThings {f : Addr} {fd : FuncData} (F : At K mg "_law_things" dThings ["_law_pot_here", "_law_one", "_law_other"] f fd) (T : Txt K mg) : FnOk P w K mg base CX0 3 f fd ["_law_pot_here", "_law_one", "_law_other"] (spThings K) := by
  obtain ⟨fPr, gPr, FPr⟩ := T.pairs
  obtain ⟨fD, gD, FD⟩ := T.draw
  obtain ⟨fPk, gPk, FPk⟩ := T.pick
  have GPr : FnOk P w K mg base CX0 2 fPr gPr ["_law_one", "_law_other", "_law_first"] (spPairs K) := okPairs FPr T
  have GD : FnOk P w K mg base CX0 2 fD gD ["_law_pot_here", "_law_faces"] spDraw := (okDraw FD T).mono (by decide)
  have GPk : FnOk P w K mg base CX0 2 fPk gPk ["_law_pot_here", "_law_some"] (spPickL K) := (okPickL FPk T).mono (by decide)
  refine F.fn.ok scThings (fun vs H Q E h => ?_) (fun cdv A outer s H vs Q E hr h => ?_)
  · obtain ⟨p, m1, m2, n, o, r1, r2, rfl, _⟩ := h
    rfl
  · obtain ⟨p, m1, m2, n, o, r1, r2, rfl, hp, h1, h2, lt1, lt2, few, k⟩ := h
    have nds := scThings.nd
    have hu := hu_of hr
    have hu64 := hr.units
    have hu65 := hu65 hr
    refine ⟨_, (pss_cons (ps_asg (pe_call GPr hr (by rfl) FPr.gl FPr.fn.kp FPr.bi .nil pass0 (pa_cons (pv 1) (pa_cons (pv 2) (pa_cons (pe_tup (pa_cons pe_int (pa_cons pe_int pa_nil))) pa_nil)))) (pg_tup rfl (pgs_cons (pg_name (i := 3) nds rfl (Or.inl rfl)) (pgs_cons (pg_name (i := 4) nds rfl (Or.inl rfl)) pgs_nil))))
      (pss_cons (ps_asg (pe_tup (pa_cons (pe_callB (cr_srtDT (K := K) rfl hu64) (by rfl) T.sorted (by decide +kernel) (pa_cons (pv 3) pa_nil)) (pa_cons (pe_lst (pa_cons (pe_callB call_len_seq (by rfl) T.len PySem.boot_len (pa_cons (pe_dget hu (pv 1) pe_str (fun _ _ => rfl)) pa_nil)) (pa_cons (pe_callB call_len_seq (by rfl) T.len PySem.boot_len (pa_cons (pe_dget hu (pv 2) pe_str (fun _ _ => rfl)) pa_nil)) pa_nil))) pa_nil))) (pg_tup rfl (pgs_cons (pg_name (i := 5) nds rfl (Or.inr rfl)) (pgs_cons (pg_name (i := 6) nds rfl (Or.inr rfl)) pgs_nil))))
      (pss_cons (ps_set (i := 7) nds rfl (Or.inl rfl) (pe_tup (pa_cons (pe_call GD hr (by rfl) FD.gl FD.fn.kp FD.bi .nil pass0 (pa_cons (pv 0) (pa_cons (pe_ix ix_list (pv 6) pe_int (fun _ _ => rfl)) pa_nil))) (pa_cons (pe_call GD hr (by rfl) FD.gl FD.fn.kp FD.bi .nil pass0 (pa_cons (pv 0) (pa_cons (pe_ix ix_list (pv 6) pe_int (fun _ _ => rfl)) pa_nil))) pa_nil))))
      (pss_cons (ps_set (i := 8) nds rfl (Or.inl rfl) (pe_call GPr hr (by rfl) FPr.gl FPr.fn.kp FPr.bi .nil pass0 (pa_cons (pv 1) (pa_cons (pv 2) (pa_cons (pv 7) pa_nil)))))
      (pss_cons (ps_set (i := 9) nds rfl (Or.inl rfl) (pe_op (op_catL (K := K)) (pv 5) (pe_lc (own := [("_law_pair", 10)]) (g := (gName 10)) (by rfl) nds (pi_list (pe_callB (cr_srtDT (K := K) rfl hu64) (by rfl) T.sorted (by decide +kernel) (pa_cons (pe_ix ix_tup (pv 8) pe_int (fun _ _ => rfl)) pa_nil))) (blkOk_by (own := [("_law_pair", 10)]) (N := nThings) (sc := defScope dThings) (by decide +kernel))
          (fun _ _ _ _ _ => (pg_name (i := 10) nds rfl (Or.inl rfl))) (fun _ _ _ _ _ => pts_one (pt_cmpR (op_ninB (K := K) hu65) (pv 10) (pv 5) (by with_unfolding_all rfl))) (fun _ _ _ _ _ => (pv 10)))))
      (pss_cons (ps_set (i := 11) nds rfl (Or.inl rfl) (pe_call GD hr (by rfl) FD.gl FD.fn.kp FD.bi .nil pass0 (pa_cons (pv 0) (pa_cons (pe_callB call_len_seq (by rfl) T.len PySem.boot_len (pa_cons (pv 5) pa_nil)) pa_nil))))
      (pss_cons (ps_set (i := 12) nds rfl (Or.inl rfl) (pe_lst (pa_cons (pv 5) (pa_cons (pe_callTy (cr_tupF (K := K)) (by rfl) T.tuple (by decide +kernel) (pa_cons (pv 5) pa_nil)) (pa_cons (pe_revL (pv 5)) (pa_cons (pv 9) (pa_cons (pe_revL (pv 9)) (pa_cons (pe_op (op_catL (K := K)) (pe_slice sl_list (pv 5) po_none (po_some (pv 11))) (pe_slice sl_list (pv 5) (po_some (pe_op op_add (pv 11) pe_int)) po_none)) (pa_cons (pe_op (op_catL (K := K)) (pv 5) (pe_lst (pa_cons (pv 7) pa_nil))) (pa_cons (pe_op (op_catL (K := K)) (pv 5) (pe_lst (pa_cons (pe_ix ix_list (pv 5) (pv 11) (fun _ _ => rfl)) pa_nil))) pa_nil))))))))))
      (pss_cons (ps_set (i := 13) nds rfl (Or.inl rfl) (pe_call GPk hr (by rfl) FPk.gl FPk.fn.kp FPk.bi .nil pass0 (pa_cons (pv 0) (pa_cons (pe_lst (pa_cons (pe_tup (pa_cons (pe_ix ix_list (pv 6) pe_int (fun _ _ => rfl)) (pa_cons pe_int pa_nil))) (pa_cons (pe_tup (pa_cons pe_int (pa_cons (pe_ix ix_list (pv 6) pe_int (fun _ _ => rfl)) pa_nil))) (pa_cons (pe_tup (pa_cons (pe_un un_neg pe_int) (pa_cons pe_int pa_nil))) (pa_cons (pe_tup (pa_cons pe_int pa_nil)) (pa_cons (pe_tup (pa_cons pe_int (pa_cons pe_int (pa_cons pe_int pa_nil)))) (pa_cons (pe_lst (pa_cons pe_int (pa_cons pe_int pa_nil))) (pa_cons pe_non (pa_cons pe_int (pa_cons pe_str (pa_cons (pe_tup (pa_cons pe_bl (pa_cons pe_int pa_nil))) (pa_cons (pe_tup (pa_cons pe_int (pa_cons pe_non pa_nil))) (pa_cons (pe_tup (pa_cons pe_int (pa_cons pe_bl pa_nil))) (pa_cons (pe_tup (pa_cons (pe_lst (pa_cons pe_int pa_nil)) (pa_cons pe_int pa_nil))) (pa_cons (pe_tup (pa_cons pe_int (pa_cons pe_dnewK pa_nil))) pa_nil))))))))))))))) pa_nil))))
      (pss_cons (ps_expr (pe_bm PySem.F.plainAttrs_list PySem.F.slot_list_extend PySem.F.type_list_extend mt_extend (pv 12) (pa_cons (pe_lst (pa_cons (pe_op (op_catL (K := K)) (pv 5) (pe_lst (pa_cons (pv 13) pa_nil))) (pa_cons (pe_lst (pa_cons (pv 13) pa_nil)) (pa_cons (pe_op (op_catL (K := K)) (pe_op (op_catL (K := K)) (pe_slice sl_list (pv 5) po_none (po_some (pv 11))) (pe_lst (pa_cons (pv 13) pa_nil))) (pe_slice sl_list (pv 5) (po_some (pv 11)) po_none)) (pa_cons (pe_op (op_catL (K := K)) (pe_lst (pa_cons (pe_tup (pa_cons pe_bl (pa_cons pe_int pa_nil))) pa_nil)) (pe_slice sl_list (pv 5) (po_some pe_int) po_none)) (pa_cons (pe_lst pa_nil) pa_nil)))))) pa_nil)))
      (pss_cons (ps_setLc (i := 14) (own := [("_law_near", 15), ("_law_far", 16)]) (g := (gTup K 2 (gCons (gName 15) (gCons (gName 16) gNil)))) (by rfl) nds rfl rfl (sw_true rfl rfl rfl (by decide +kernel)) (pi_list (pe_lc (own := [("_law_place", 17)]) (g := (gName 17)) (by rfl) nds (pi_range1 (by rfl) T.range (pa_cons (pe_op op_mul (pe_ix ix_list (pv 6) pe_int (fun _ _ => rfl)) (pe_ix ix_list (pv 6) pe_int (fun _ _ => rfl))) pa_nil)) (blkOk_by (own := [("_law_place", 17)]) (N := nThings) (sc := defScope dThings) (by decide +kernel))
          (fun _ _ _ _ _ => (pg_name (i := 17) nds rfl (Or.inl rfl))) (fun _ _ _ _ _ => pts_nil) (fun _ _ _ _ _ => (pe_callB call_divmod (by rfl) T.divmod (by decide +kernel) (pa_cons (pv 17) (pa_cons (pe_ix (ix_listK (K := K)) (pv 6) pe_int (fun _ _ => rfl)) pa_nil)))))) (blkOk_by (own := [("_law_near", 15), ("_law_far", 16)]) (N := nThings) (sc := defScope dThings) (by decide +kernel))
          (fun _ _ _ _ _ => (pg_tupK rfl (pgs_cons (pg_name (i := 15) nds rfl (Or.inl rfl)) (pgs_cons (pg_name (i := 16) nds rfl (Or.inl rfl)) pgs_nil)))) (fun _ _ _ _ _ => pts_nil) (fun _ _ _ _ _ => (pe_tup (pa_cons (pv 15) (pa_cons (pv 16) pa_nil)))))
      (pss_cons (ps_expr (pe_bm PySem.F.plainAttrs_list PySem.F.slot_list_extend PySem.F.type_list_extend mt_extend (pv 12) (pa_cons (pe_lst (pa_cons (pv 14) (pa_cons (pe_lst (pa_cons (pe_tup (pa_cons pe_int (pa_cons pe_int pa_nil))) pa_nil)) (pa_cons pe_dnewK (pa_cons (pe_callTy (cr_dictT (K := K) rfl hu64) (by rfl) T.dict (by decide +kernel) (pa_cons (pe_lc (own := [("_law_pair", 10)]) (g := (gName 10)) (by rfl) nds (pi_list (pv 5)) (blkOk_by (own := [("_law_pair", 10)]) (N := nThings) (sc := defScope dThings) (by decide +kernel))
          (fun _ _ _ _ _ => (pg_name (i := 10) nds rfl (Or.inl rfl))) (fun _ _ _ _ _ => pts_nil) (fun _ _ _ _ _ => (pe_tup (pa_cons (pv 10) (pa_cons pe_int pa_nil))))) pa_nil)) (pa_cons pe_non (pa_cons pe_int (pa_cons pe_str (pa_cons (pe_tup pa_nil) (pa_cons pe_bl pa_nil)))))))))) pa_nil)))
      (pss_one (ps_ret (pe_op (op_catL (K := K)) (pv 12) (pe_lst (pa_cons (pe_lc (own := [("_law_pair", 10)]) (g := (gName 10)) (by rfl) nds (pi_list (pv 5)) (blkOk_by (own := [("_law_pair", 10)]) (N := nThings) (sc := defScope dThings) (by decide +kernel))
          (fun _ _ _ _ _ => (pg_name (i := 10) nds rfl (Or.inl rfl))) (fun _ _ _ _ _ => pts_nil) (fun _ _ _ _ _ => (pe_callTy (call_listK (K := K)) (by rfl) T.list (by decide +kernel) (pa_cons (pv 10) pa_nil)))) (pa_cons (pv 3) (pa_cons (pe_lc (own := [("_law_pair", 10)]) (g := (gName 10)) (by rfl) nds (pi_list (pv 5)) (blkOk_by (own := [("_law_pair", 10)]) (N := nThings) (sc := defScope dThings) (by decide +kernel))
          (fun _ _ _ _ _ => (pg_name (i := 10) nds rfl (Or.inl rfl))) (fun _ _ _ _ _ => pts_nil) (fun _ _ _ _ _ => (pe_op (op_catAK (K := K)) (pv 10) (pe_tup (pa_cons pe_int pa_nil))))) pa_nil)))))))))))))))))), ?_⟩
    have g1 := (id h1).choose_spec.2.2
    have g2 := (id h2).choose_spec.2.2
    have pos1 : 0 < r1.length := g1.pos
    have pos2 : 0 < r2.length := g2.pos
    -- the pairs come to
    refine ⟨_, rfl, _, rfl, (by show 2 ≤ sizeLine; decide), fun z0 nz0 => ?_⟩
    have e0 := Ex.new (o := .tup [.int 0, .int 0]) nz0
    refine ⟨m1, m2, z0, n, o, r1, r2, (0, 0), rfl, h1.ex e0, h2.ex e0, upd_same, pos1, pos2, few, fun t' D ps vs ws y H1 e1 ht' po hy => ?_⟩
    have eA := e0.trans e1
    refine ⟨t', _, rfl, SqT.of ht', rfl, _, _, rfl, _, _, rfl, rfl, ?_⟩
    have hpA := hp.ex eA
    have b1 : Bs [p] p H (hidL [p] H1) H1 := ((Bs.init hp).ext eA).again.1
    have hm1 := mod_hid (h1.ex eA) hpA
    have hm2 := mod_hid (h2.ex eA) hpA
    have hD := hid_dT hpA po.dict
    have dW : DpAll K (hidL [p] H1) vs (ws.map (wordD n)) := p_dpAll hpA but_hid (npDs_map (f := wordD n) (np_wdL n) ws) po.words
    have lps : ps.length ≤ 60 := Nat.le_trans (pairs_few po.nd po.rng) few
    have lkv : (kvP ps vs).length = ps.length := by unfold kvP; rw [List.length_map, List.length_zip, po.lv]; omega
    have hal := alike_prT ps
    rw [← kvP_keys po.lv] at hal
    refine ⟨_, rfl, D, kvP ps vs, rfl, .inl po.dict, by omega, hal.1, hal.2, fun q hq => ?_, fun S bs nS ik => ?_⟩
    · have : keysD q.1 ∈ (kvP ps vs).map fun p => keysD p.1 := List.mem_map.mpr ⟨q, hq, rfl⟩
      rw [kvP_keys po.lv] at this
      obtain ⟨r, _, e⟩ := List.mem_map.mp this
      rw [← e, prT_depth]
      decide
    obtain ⟨xS, exS, lxS, pS⟩ := srt_pairs po.lv ik po.rng (by omega) (by omega)
    rw [exS]
    have prS : PrL (hidL [p] H1) xS := fun x hx => by
      obtain ⟨b, q, a, hq, c⟩ := pS x hx
      have := po.rng q hq
      exact ⟨b, q, a, by omega, by omega, hid_tup hpA c⟩
    have l0 : xS ≠ [] := fun z => by
      have h0 := (List.getElem?_eq_some_iff.mp po.hd).1
      rw [z] at lxS
      simp at lxS
      omega
    have l0' : 0 < xS.length := List.length_pos_iff.mpr l0
    have l60 : xS.length ≤ 60 := by omega
    clear exS pS hal ik
    obtain ⟨l1, hl1, dl1, _⟩ := id (h1.ex eA)
    obtain ⟨l2, hl2, dl2, _⟩ := id (h2.ex eA)
    obtain ⟨_, xl1, ee, hxl1, dxl1⟩ := list_of dl1
    cases ee
    obtain ⟨_, xl2, ee, hxl2, dxl2⟩ := list_of dl2
    cases ee
    have lx1 := dp_len dxl1
    have lx2 := dp_len dxl2
    have nSp := b1.lp nS
    have eS := Ex.new (o := .lst xS) nS
    have b2 := b1.ext eS
    refine ⟨_, rfl, m1, _, rfl, kvM_r (eS _ _ hl1), l1, xl1, rfl, .inl (sl_exQ eS hxl1), _, rfl, m2, _, rfl, kvM_r (eS _ _ hl2), l2, xl2, rfl, .inl (sl_exQ eS hxl2), (by show 2 ≤ sizeLine; decide), fun Z nZ => ?_⟩
    rw [lx1, lx2]
    have eZ := Ex.new (o := .lst [.int (r1.length : Nat), .int (r2.length : Nat)]) nZ
    have nZp := b2.lp nZ
    have b3 := b2.ext eZ
    refine ⟨(by show 2 ≤ sizeLine; decide), fun t2 nt2 => ⟨t2, _, rfl, SqT.of upd_same, rfl, _, _, rfl, _, _, rfl, rfl, ?_⟩⟩
    have et := Ex.new (o := .tup [.ref S, .ref Z]) nt2
    have b4 := b3.ext et
    obtain ⟨b5, eB⟩ := b4.again
    have hS : hidL [p] (upd (upd (upd H1 S (.lst xS)) Z (.lst [.int (r1.length : Nat), .int (r2.length : Nat)])) t2 (.tup [.ref S, .ref Z])) S = some (.lst xS) := hid_get (et _ _ (eZ _ _ upd_same)) nSp
    have hZ : hidL [p] (upd (upd (upd H1 S (.lst xS)) Z (.lst [.int (r1.length : Nat), .int (r2.length : Nat)])) t2 (.tup [.ref S, .ref Z])) Z = some (.lst [.int (r1.length : Nat), .int (r2.length : Nat)]) := hid_get (et _ _ upd_same) nZp
    replace hm1 := hm1.ex eB
    replace hm2 := hm2.ex eB
    replace hD := eB _ _ hD
    replace dW := dpAll_ex eB dW
    replace prS := prS.ex eB
    clear b1 b2 b3 b4 eS eZ et hl1 hl2 dl1 dl2 hxl1 hxl2 dxl1 dxl2 eB nS nZ nt2 hpA ht' nz0 e0 e1 eA lx1 lx2
    generalize upd (upd (upd H1 S (.lst xS)) Z (.lst [.int (r1.length : Nat), .int (r2.length : Nat)])) t2 (.tup [.ref S, .ref Z]) = H5 at *
    generalize hidL [p] H5 = B at *
    -- one more pair
    refine ⟨_, rfl, _, rfl, Z, _, 0, .int (r1.length : Nat), rfl, rfl, SqL.of (b5.ex _ _ hZ), rfl, p, (r1.length : Nat), rfl, b5.pot, by omega, by omega, fun c1 H6 c1a c1b e6 hp6 => ?_⟩
    have b6 := b5.but e6 hp6
    refine ⟨_, rfl, _, rfl, Z, _, 1, .int (r2.length : Nat), rfl, rfl, SqL.of (b6.ex _ _ hZ), rfl, p, (r2.length : Nat), rfl, b6.pot, by omega, by omega, fun c2 H7 c2a c2b e7 hp7 => ?_⟩
    have b7 := b6.but e7 hp7
    obtain ⟨c1, rfl⟩ := Int.eq_ofNat_of_zero_le c1a
    obtain ⟨c2, rfl⟩ := Int.eq_ofNat_of_zero_le c2a
    refine ⟨(by show 2 ≤ sizeLine; decide), fun X nX => ?_⟩
    have eX := Ex.new (o := .tup [.int (c1 : Int), .int (c2 : Int)]) nX
    have b8 := b7.ext eX
    have hX0 : (upd H7 X (.tup [.int (c1 : Int), .int (c2 : Int)])) X = some (.tup [.int (c1 : Int), .int (c2 : Int)]) := upd_same
    generalize upd H7 X (.tup [.int (c1 : Int), .int (c2 : Int)]) = H8 at *
    refine ⟨_, rfl, _, rfl, _, rfl, m1, m2, X, n, o, r1, r2, (c1, c2), rfl, hm1.ex b8.ex, hm2.ex b8.ex, hX0, by show c1 < r1.length; omega, by show c2 < r2.length; omega, few, fun t3 D3 ps3 vs3 ws3 y3 H9 e9 ht3 po3 hy3 => ?_⟩
    have b9 := b8.ext e9
    have few3 : ps3.length ≤ 60 := Nat.le_trans (pairs_few po3.nd po3.rng) few
    have lkv3 : (kvP ps3 vs3).length = ps3.length := by unfold kvP; rw [List.length_map, List.length_zip, po3.lv]; omega
    have hal := alike_prT ps3
    rw [← kvP_keys po3.lv] at hal
    refine ⟨_, rfl, _, rfl, t3, _, 0, .ref D3, rfl, rfl, SqT.of ht3, rfl, D3, kvP ps3 vs3, rfl, .inl po3.dict, by omega, hal.1, hal.2, fun q hq => ?_, fun S3 bs3 nS3 ik3 => ?_⟩
    · have : keysD q.1 ∈ (kvP ps3 vs3).map fun p => keysD p.1 := List.mem_map.mpr ⟨q, hq, rfl⟩
      rw [kvP_keys po3.lv] at this
      obtain ⟨r, _, e⟩ := List.mem_map.mp this
      rw [← e, prT_depth]
      decide
    obtain ⟨xT, exT, lxT, pT⟩ := srt_pairs po3.lv ik3 po3.rng (by omega) (by omega)
    rw [exT]
    have prT9 : PrL (hidL [p] H9) xT := fun x hx => by
      obtain ⟨b, q, a, hq, c⟩ := pT x hx
      have := po3.rng q hq
      exact ⟨b, q, a, by omega, by omega, hid_tup b9.pot c⟩
    obtain ⟨b10, eB⟩ := b9.again
    replace hm1 := hm1.ex eB
    replace hm2 := hm2.ex eB
    replace hD := eB _ _ hD
    replace dW := dpAll_ex eB dW
    replace prS := prS.ex eB
    replace hS := eB _ _ hS
    replace hZ := eB _ _ hZ
    have hX : hidL [p] H9 X = some (.tup [.int (c1 : Int), .int (c2 : Int)]) := hid_tup b9.pot (e9 _ _ hX0)
    clear exT pT hal ik3 eB b5 b6 b7 b8 b9 e6 e7 eX c1a c2a nX ht3 e9 hX0
    have eS3 := Ex.new (o := .lst xT) nS3
    have b11 := b10.ext eS3
    have hS3 : (upd H9 S3 (.lst xT)) S3 = some (.lst xT) := upd_same
    generalize upd H9 S3 (.lst xT) = H10 at eS3 b11 hS3 ⊢
    generalize hidL [p] H9 = B1 at *
    clear eS3 nS3
    obtain ⟨qS, dS⟩ := prS.dp (K := K)
    refine ⟨S3, rfl, ⟨_, SqL.of hS3⟩, fun D9 nD9 => ?_⟩
    refine lc_it (g := gName 10) (vs := [10]) (walk_list (K := K) (a := S3) (xs := xT)) (fun i Hc => Ex H10 Hc ∧ ∃ acc, Hc D9 = some (.lst acc) ∧ acc.length ≤ i ∧ ∀ x ∈ acc, x ∈ xT) ⟨Ex.new nD9, [], upd_same, Nat.le_refl _, fun x hx => by cases hx⟩ (fun i Hc _ q => SqL.of (q.1 _ _ hS3)) (fun i x Ha Hb hi q yy => ?_) (fun Hc q => ?_)
    · obtain ⟨rfl, ex⟩ := yy
      obtain ⟨eA, acc, hD9, la, ma⟩ := q
      have hx := List.mem_of_getElem? ex
      obtain ⟨bx, qx, rfl, _, _, hbx⟩ := prT9 x hx
      have eBA := b11.ex.trans eA
      refine ⟨wipe_set _ 10 _, _, rfl, _, rfl, prT qx, false, qS.map prT, ?_, .lst (SqL.of (eBA _ _ hS)) (dpAll_ex eBA dS), prT_shaped _, prTs_shaped false qS, _, rfl, ?_⟩
      · exact .tup (st_of (eBA _ _ hbx)) (.cons (.int _) (.cons (.int _) .nil))
      rw [any_prT]
      cases z : decide (qx ∈ qS) with
      | true => exact ⟨eA, acc, hD9, by omega, ma⟩
      | false =>
        refine ⟨_, rfl, acc, hD9, Nat.lt_of_le_of_lt (show _ ≤ 1000 by omega) (by decide), eA.mut nD9, acc ++ [_], upd_same, by simp; omega, fun y hy => ?_⟩
        rcases List.mem_append.mp hy with h | h
        · exact ma y h
        · rw [List.mem_singleton.mp h]
          exact hx
    · obtain ⟨eA, xW, hD9, lW, mW⟩ := q
      have b := b11.ext eA
      clear b11 eA
      have lx1 : xW.length ≤ 60 := by omega
      refine ⟨S, D9, xS, xW, rfl, rfl, SqL.of (b.ex _ _ hS), SqL.of hD9, Nat.le_trans (show xS.length + xW.length ≤ 1000 by omega) (by decide), fun Wd nWd => ?_⟩
      have prW : PrL B1 (xS ++ xW) := fun x hx => (List.mem_append.mp hx).elim (prS x) fun h => prT9 x (mW x h)
      clear prT9 mW hD9
      obtain ⟨B2, b2, eB, hWd⟩ := b.put (o := (.lst (xS ++ xW))) nWd
      try replace hm1 := hm1.ex eB
      try replace hm2 := hm2.ex eB
      try replace hD := eB _ _ hD
      try replace hS := eB _ _ hS
      try replace hZ := eB _ _ hZ
      try replace hX := eB _ _ hX
      try replace hWd := eB _ _ hWd
      try replace hV := eB _ _ hV
      try replace hT1 := eB _ _ hT1
      try replace hT2 := eB _ _ hT2
      try replace hT3 := eB _ _ hT3
      try replace dW := dpAll_ex eB dW
      try replace prS := prS.ex eB
      try replace prW := prW.ex eB
      try replace ths := ths.ex eB
      try replace odds := odds.ex eB
      try replace hodd := hodd.ex eB
      try replace wds := wds.ex eB
      try replace hwd := hwd.ex eB
      try replace eAll := eAll.trans eB
      clear eB
      clear b nWd
      generalize upd Hc Wd (.lst (xS ++ xW)) = H11 at b2 ⊢
      have b := b2
      clear b2
      refine ⟨_, rfl, _, rfl, S, xS, rfl, .inl (SqL.of (b.ex _ _ hS)), p, ((xS.length : Nat) : Int), rfl, b.pot, (by omega), (by omega), fun a H12 a0 a1 e12 hp12 => ?_⟩
      have b' := b.but e12 hp12
      clear b
      have b := b'
      clear b'
      obtain ⟨a, rfl⟩ := Int.eq_ofNat_of_zero_le a0
      have la : a < xS.length := by omega
      -- the things
      refine ⟨_, rfl, _, rfl, S, xS, rfl, SqL.of (b.ex _ _ hS), fun Tp oT nTp doT => ?_⟩
      obtain ⟨B2, b2, eB, hT1⟩ := b.put (o := (.frz oT (.tup xS))) nTp
      try replace hm1 := hm1.ex eB
      try replace hm2 := hm2.ex eB
      try replace hD := eB _ _ hD
      try replace hS := eB _ _ hS
      try replace hZ := eB _ _ hZ
      try replace hX := eB _ _ hX
      try replace hWd := eB _ _ hWd
      try replace hV := eB _ _ hV
      try replace hT1 := eB _ _ hT1
      try replace hT2 := eB _ _ hT2
      try replace hT3 := eB _ _ hT3
      try replace dW := dpAll_ex eB dW
      try replace prS := prS.ex eB
      try replace prW := prW.ex eB
      try replace ths := ths.ex eB
      try replace odds := odds.ex eB
      try replace hodd := hodd.ex eB
      try replace wds := wds.ex eB
      try replace hwd := hwd.ex eB
      try replace eAll := eAll.trans eB
      clear eB
      clear b nTp
      generalize upd H12 Tp (.frz oT (.tup xS)) = H13 at b2 ⊢
      have b := b2
      clear b2
      have ths : Ths K _ [V.ref Tp] := Ths.cons (thing_items true ⟨oT, hT1, doT⟩ prS.its (by omega)) Ths.nil
      clear hT1
      refine ⟨_, rfl, S, xS, rfl, SqL.of (b.ex _ _ hS), fun R1 nR1 => ?_⟩
      obtain ⟨B2, b2, eB, hT1⟩ := b.put (o := (.lst xS.reverse)) nR1
      try replace hm1 := hm1.ex eB
      try replace hm2 := hm2.ex eB
      try replace hD := eB _ _ hD
      try replace hS := eB _ _ hS
      try replace hZ := eB _ _ hZ
      try replace hX := eB _ _ hX
      try replace hWd := eB _ _ hWd
      try replace hV := eB _ _ hV
      try replace hT1 := eB _ _ hT1
      try replace hT2 := eB _ _ hT2
      try replace hT3 := eB _ _ hT3
      try replace dW := dpAll_ex eB dW
      try replace prS := prS.ex eB
      try replace prW := prW.ex eB
      try replace ths := ths.ex eB
      try replace odds := odds.ex eB
      try replace hodd := hodd.ex eB
      try replace wds := wds.ex eB
      try replace hwd := hwd.ex eB
      try replace eAll := eAll.trans eB
      clear eB
      clear b nR1
      generalize upd H13 R1 (.lst xS.reverse) = H14 at b2 ⊢
      have b := b2
      clear b2
      replace ths := Ths.cons (thing_items false (SqL.of hT1) (prS.its.sub fun y hy => List.mem_reverse.mp hy) (by rw [List.length_reverse]; omega)) ths
      clear hT1
      refine ⟨_, rfl, _, rfl, Wd, _, rfl, SqL.of (b.ex _ _ hWd), fun R2 nR2 => ?_⟩
      obtain ⟨B2, b2, eB, hT1⟩ := b.put (o := (.lst (xS ++ xW).reverse)) nR2
      try replace hm1 := hm1.ex eB
      try replace hm2 := hm2.ex eB
      try replace hD := eB _ _ hD
      try replace hS := eB _ _ hS
      try replace hZ := eB _ _ hZ
      try replace hX := eB _ _ hX
      try replace hWd := eB _ _ hWd
      try replace hV := eB _ _ hV
      try replace hT1 := eB _ _ hT1
      try replace hT2 := eB _ _ hT2
      try replace hT3 := eB _ _ hT3
      try replace dW := dpAll_ex eB dW
      try replace prS := prS.ex eB
      try replace prW := prW.ex eB
      try replace ths := ths.ex eB
      try replace odds := odds.ex eB
      try replace hodd := hodd.ex eB
      try replace wds := wds.ex eB
      try replace hwd := hwd.ex eB
      try replace eAll := eAll.trans eB
      clear eB
      clear b nR2
      generalize upd H14 R2 (.lst (xS ++ xW).reverse) = H15 at b2 ⊢
      have b := b2
      clear b2
      have lWd : (xS ++ xW).length ≤ 120 := by rw [List.length_append]; omega
      replace ths := Ths.cons (thing_items false (SqL.of hT1) (prW.its.sub fun y hy => List.mem_reverse.mp hy) (by rw [List.length_reverse]; omega)) ths
      clear hT1
      have cut : ∀ {lo hi : Option Int} {y : V}, y ∈ cutV xS lo hi → y ∈ xS := fun {lo hi y} h => List.mem_of_mem_drop (List.mem_of_mem_take h)
      have cutl : ∀ (lo hi : Option Int), (cutV xS lo hi).length ≤ 60 := fun lo hi => Nat.le_trans (cutV_length xS lo hi) (by omega)
      refine ⟨_, rfl, _, rfl, (a : Int), rfl, S, xS, rfl, SqL.of (b.ex _ _ hS), fun A1 nA1 => ?_⟩
      obtain ⟨B2, b2, eB, hT1⟩ := b.put (o := (.lst (cutV xS none (some (a : Int))))) nA1
      try replace hm1 := hm1.ex eB
      try replace hm2 := hm2.ex eB
      try replace hD := eB _ _ hD
      try replace hS := eB _ _ hS
      try replace hZ := eB _ _ hZ
      try replace hX := eB _ _ hX
      try replace hWd := eB _ _ hWd
      try replace hV := eB _ _ hV
      try replace hT1 := eB _ _ hT1
      try replace hT2 := eB _ _ hT2
      try replace hT3 := eB _ _ hT3
      try replace dW := dpAll_ex eB dW
      try replace prS := prS.ex eB
      try replace prW := prW.ex eB
      try replace ths := ths.ex eB
      try replace odds := odds.ex eB
      try replace hodd := hodd.ex eB
      try replace wds := wds.ex eB
      try replace hwd := hwd.ex eB
      try replace eAll := eAll.trans eB
      clear eB
      clear b nA1
      generalize upd H15 A1 (.lst (cutV xS none (some (a : Int)))) = H16 at b2 ⊢
      have b := b2
      clear b2
      refine ⟨_, rfl, _, rfl, _, _, rfl, rfl, _, rfl, S, xS, rfl, SqL.of (b.ex _ _ hS), fun A2 nA2 => ?_⟩
      obtain ⟨B2, b2, eB, hT2⟩ := b.put (o := (.lst (cutV xS (some ((a : Int) + 1)) none))) nA2
      try replace hm1 := hm1.ex eB
      try replace hm2 := hm2.ex eB
      try replace hD := eB _ _ hD
      try replace hS := eB _ _ hS
      try replace hZ := eB _ _ hZ
      try replace hX := eB _ _ hX
      try replace hWd := eB _ _ hWd
      try replace hV := eB _ _ hV
      try replace hT1 := eB _ _ hT1
      try replace hT2 := eB _ _ hT2
      try replace hT3 := eB _ _ hT3
      try replace dW := dpAll_ex eB dW
      try replace prS := prS.ex eB
      try replace prW := prW.ex eB
      try replace ths := ths.ex eB
      try replace odds := odds.ex eB
      try replace hodd := hodd.ex eB
      try replace wds := wds.ex eB
      try replace hwd := hwd.ex eB
      try replace eAll := eAll.trans eB
      clear eB
      clear b nA2
      generalize upd H16 A2 (.lst (cutV xS (some ((a : Int) + 1)) none)) = H17 at b2 ⊢
      have b := b2
      clear b2
      refine ⟨A1, A2, _, _, rfl, rfl, SqL.of (b.ex _ _ hT1), SqL.of (b.ex _ _ hT2), Nat.le_trans (show (cutV xS none (some (a : Int))).length + (cutV xS (some ((a : Int) + 1)) none).length ≤ 1000 by have := cutl none (some (a : Int)); have := cutl (some ((a : Int) + 1)) none; omega) (by decide), fun A3 nA3 => ?_⟩
      obtain ⟨B2, b2, eB, hT3⟩ := b.put (o := (.lst (cutV xS none (some (a : Int)) ++ cutV xS (some ((a : Int) + 1)) none))) nA3
      try replace hm1 := hm1.ex eB
      try replace hm2 := hm2.ex eB
      try replace hD := eB _ _ hD
      try replace hS := eB _ _ hS
      try replace hZ := eB _ _ hZ
      try replace hX := eB _ _ hX
      try replace hWd := eB _ _ hWd
      try replace hV := eB _ _ hV
      try replace hT1 := eB _ _ hT1
      try replace hT2 := eB _ _ hT2
      try replace hT3 := eB _ _ hT3
      try replace dW := dpAll_ex eB dW
      try replace prS := prS.ex eB
      try replace prW := prW.ex eB
      try replace ths := ths.ex eB
      try replace odds := odds.ex eB
      try replace hodd := hodd.ex eB
      try replace wds := wds.ex eB
      try replace hwd := hwd.ex eB
      try replace eAll := eAll.trans eB
      clear eB
      clear b nA3
      generalize upd H17 A3 (.lst (cutV xS none (some (a : Int)) ++ cutV xS (some ((a : Int) + 1)) none)) = H18 at b2 ⊢
      have b := b2
      clear b2
      replace ths := Ths.cons (thing_items false (SqL.of hT3) ((prS.its.sub fun y hy => cut hy).append (prS.its.sub fun y hy => cut hy)) (by rw [List.length_append]; have := cutl none (some (a : Int)); have := cutl (some ((a : Int) + 1)) none; omega)) ths
      clear hT1 hT2 hT3
      refine ⟨_, rfl, _, rfl, (by show 1 ≤ sizeLine; decide), fun C1 nC1 => ?_⟩
      obtain ⟨B2, b2, eB, hT1⟩ := b.put (o := (.lst [.ref X])) nC1
      try replace hm1 := hm1.ex eB
      try replace hm2 := hm2.ex eB
      try replace hD := eB _ _ hD
      try replace hS := eB _ _ hS
      try replace hZ := eB _ _ hZ
      try replace hX := eB _ _ hX
      try replace hWd := eB _ _ hWd
      try replace hV := eB _ _ hV
      try replace hT1 := eB _ _ hT1
      try replace hT2 := eB _ _ hT2
      try replace hT3 := eB _ _ hT3
      try replace dW := dpAll_ex eB dW
      try replace prS := prS.ex eB
      try replace prW := prW.ex eB
      try replace ths := ths.ex eB
      try replace odds := odds.ex eB
      try replace hodd := hodd.ex eB
      try replace wds := wds.ex eB
      try replace hwd := hwd.ex eB
      try replace eAll := eAll.trans eB
      clear eB
      clear b nC1
      generalize upd H18 C1 (.lst [.ref X]) = H19 at b2 ⊢
      have b := b2
      clear b2
      refine ⟨S, C1, xS, _, rfl, rfl, SqL.of (b.ex _ _ hS), SqL.of (b.ex _ _ hT1), Nat.le_trans (show xS.length + 1 ≤ 1000 by omega) (by decide), fun C2 nC2 => ?_⟩
      obtain ⟨B2, b2, eB, hT2⟩ := b.put (o := (.lst (xS ++ [.ref X]))) nC2
      try replace hm1 := hm1.ex eB
      try replace hm2 := hm2.ex eB
      try replace hD := eB _ _ hD
      try replace hS := eB _ _ hS
      try replace hZ := eB _ _ hZ
      try replace hX := eB _ _ hX
      try replace hWd := eB _ _ hWd
      try replace hV := eB _ _ hV
      try replace hT1 := eB _ _ hT1
      try replace hT2 := eB _ _ hT2
      try replace hT3 := eB _ _ hT3
      try replace dW := dpAll_ex eB dW
      try replace prS := prS.ex eB
      try replace prW := prW.ex eB
      try replace ths := ths.ex eB
      try replace odds := odds.ex eB
      try replace hodd := hodd.ex eB
      try replace wds := wds.ex eB
      try replace hwd := hwd.ex eB
      try replace eAll := eAll.trans eB
      clear eB
      clear b nC2
      generalize upd H19 C2 (.lst (xS ++ [.ref X])) = H20 at b2 ⊢
      have b := b2
      clear b2
      replace ths := Ths.cons (thing_items false (SqL.of hT2) (prS.its.append (Its.one (it_pair hX (by omega) (by omega)))) (by rw [List.length_append]; show xS.length + 1 ≤ 200; omega)) ths
      clear hT1 hT2
      refine ⟨_, rfl, _, rfl, _, rfl, S, xS, (a : Int), xS[a], rfl, rfl, SqL.of (b.ex _ _ hS), atI_nat (List.getElem?_eq_getElem la), (by show 1 ≤ sizeLine; decide), fun G1 nG1 => ?_⟩
      obtain ⟨B2, b2, eB, hT1⟩ := b.put (o := (.lst [xS[a]])) nG1
      try replace hm1 := hm1.ex eB
      try replace hm2 := hm2.ex eB
      try replace hD := eB _ _ hD
      try replace hS := eB _ _ hS
      try replace hZ := eB _ _ hZ
      try replace hX := eB _ _ hX
      try replace hWd := eB _ _ hWd
      try replace hV := eB _ _ hV
      try replace hT1 := eB _ _ hT1
      try replace hT2 := eB _ _ hT2
      try replace hT3 := eB _ _ hT3
      try replace dW := dpAll_ex eB dW
      try replace prS := prS.ex eB
      try replace prW := prW.ex eB
      try replace ths := ths.ex eB
      try replace odds := odds.ex eB
      try replace hodd := hodd.ex eB
      try replace wds := wds.ex eB
      try replace hwd := hwd.ex eB
      try replace eAll := eAll.trans eB
      clear eB
      clear b nG1
      generalize upd H20 G1 (.lst [xS[a]]) = H21 at b2 ⊢
      have b := b2
      clear b2
      refine ⟨S, G1, xS, _, rfl, rfl, SqL.of (b.ex _ _ hS), SqL.of (b.ex _ _ hT1), Nat.le_trans (show xS.length + 1 ≤ 1000 by omega) (by decide), fun G2 nG2 => ?_⟩
      obtain ⟨B2, b2, eB, hT2⟩ := b.put (o := (.lst (xS ++ [xS[a]]))) nG2
      try replace hm1 := hm1.ex eB
      try replace hm2 := hm2.ex eB
      try replace hD := eB _ _ hD
      try replace hS := eB _ _ hS
      try replace hZ := eB _ _ hZ
      try replace hX := eB _ _ hX
      try replace hWd := eB _ _ hWd
      try replace hV := eB _ _ hV
      try replace hT1 := eB _ _ hT1
      try replace hT2 := eB _ _ hT2
      try replace hT3 := eB _ _ hT3
      try replace dW := dpAll_ex eB dW
      try replace prS := prS.ex eB
      try replace prW := prW.ex eB
      try replace ths := ths.ex eB
      try replace odds := odds.ex eB
      try replace hodd := hodd.ex eB
      try replace wds := wds.ex eB
      try replace hwd := hwd.ex eB
      try replace eAll := eAll.trans eB
      clear eB
      clear b nG2
      generalize upd H21 G2 (.lst (xS ++ [xS[a]])) = H22 at b2 ⊢
      have b := b2
      clear b2
      replace ths := Ths.cons (thing_items false (SqL.of hT2) (prS.its.append (prS.its.sub fun y hy => by rw [List.mem_singleton.mp hy]; exact List.getElem_mem la)) (by rw [List.length_append]; show xS.length + 1 ≤ 200; omega)) ths
      clear hT1 hT2
      replace ths := Ths.cons (thing_items false (SqL.of hS) prS.its (by omega)) (Ths.cons (thing_items false (SqL.of hWd) prW.its (by omega)) ths)
      refine ⟨(by show 8 ≤ sizeLine; decide), fun F nF => ?_⟩
      obtain ⟨bF, nFp⟩ := b.more (o := .lst [.ref S, .ref Tp, .ref R1, .ref Wd, .ref R2, .ref A3, .ref C2, .ref G2]) nF
      have hF : (upd H22 F (.lst [.ref S, .ref Tp, .ref R1, .ref Wd, .ref R2, .ref A3, .ref C2, .ref G2])) F = some (.lst [.ref S, .ref Tp, .ref R1, .ref Wd, .ref R2, .ref A3, .ref C2, .ref G2]) := upd_same
      replace ths : Ths K _ [V.ref S, .ref Tp, .ref R1, .ref Wd, .ref R2, .ref A3, .ref C2, .ref G2] := ths.sub fun y hy => by
        simp only [List.mem_cons, List.not_mem_nil, or_false] at hy ⊢
        rcases hy with rfl | rfl | rfl | rfl | rfl | rfl | rfl | rfl <;> simp
      clear b
      generalize upd H22 F (.lst [.ref S, .ref Tp, .ref R1, .ref Wd, .ref R2, .ref A3, .ref C2, .ref G2]) = H23 at bF hF ⊢
      have b := bF
      clear bF nF
      refine odd_pick (K := K) rfl rfl b hZ (by omega) (by omega) fun v H38 B38 e38 b38 eB odds => ?_
      try replace hm1 := hm1.ex eB
      try replace hm2 := hm2.ex eB
      try replace hD := eB _ _ hD
      try replace hS := eB _ _ hS
      try replace hZ := eB _ _ hZ
      try replace hX := eB _ _ hX
      try replace hWd := eB _ _ hWd
      try replace hV := eB _ _ hV
      try replace hT1 := eB _ _ hT1
      try replace hT2 := eB _ _ hT2
      try replace hT3 := eB _ _ hT3
      try replace dW := dpAll_ex eB dW
      try replace prS := prS.ex eB
      try replace prW := prW.ex eB
      try replace ths := ths.ex eB
      try replace odds := odds.ex eB
      try replace hodd := hodd.ex eB
      try replace wds := wds.ex eB
      try replace hwd := hwd.ex eB
      try replace eAll := eAll.trans eB
      clear eB
      replace hF := e38 _ _ hF nFp
      clear b e38
      have b := b38
      clear b38
      -- put on, and handed back
      try dsimp only [gName, tSeq, tDrop, tAsg, tRet]
      refine ext_1 (K := K) rfl rfl rfl rfl b hF (by simp) nFp hS prS odds (by omega) (by show 8 ≤ 40; decide) fun H39 B39 L1 b39 eB hF9 ths1 lL1 => ?_
      try replace hm1 := hm1.ex eB
      try replace hm2 := hm2.ex eB
      try replace hD := eB _ _ hD
      try replace hS := eB _ _ hS
      try replace hZ := eB _ _ hZ
      try replace hX := eB _ _ hX
      try replace hWd := eB _ _ hWd
      try replace hV := eB _ _ hV
      try replace hT1 := eB _ _ hT1
      try replace hT2 := eB _ _ hT2
      try replace hT3 := eB _ _ hT3
      try replace dW := dpAll_ex eB dW
      try replace prS := prS.ex eB
      try replace prW := prW.ex eB
      try replace ths := ths.ex eB
      try replace odds := odds.ex eB
      try replace hodd := hodd.ex eB
      try replace wds := wds.ex eB
      try replace hwd := hwd.ex eB
      try replace eAll := eAll.trans eB
      clear eB
      clear b hF
      have b := b39
      have hF := hF9
      clear b39 hF9
      replace ths := ths.append ths1
      clear ths1
      try dsimp only [gName, tSeq, tDrop, tAsg, tRet]
      refine every_lc (K := K) (by show 17 < 18; decide) rfl b hZ (by omega) (by omega) pos2 few fun H40 B40 D14 acc e40 b40 eB hV pr40 la40 => ?_
      try replace hm1 := hm1.ex eB
      try replace hm2 := hm2.ex eB
      try replace hD := eB _ _ hD
      try replace hS := eB _ _ hS
      try replace hZ := eB _ _ hZ
      try replace hX := eB _ _ hX
      try replace hWd := eB _ _ hWd
      try replace hV := eB _ _ hV
      try replace hT1 := eB _ _ hT1
      try replace hT2 := eB _ _ hT2
      try replace hT3 := eB _ _ hT3
      try replace dW := dpAll_ex eB dW
      try replace prS := prS.ex eB
      try replace prW := prW.ex eB
      try replace ths := ths.ex eB
      try replace odds := odds.ex eB
      try replace hodd := hodd.ex eB
      try replace wds := wds.ex eB
      try replace hwd := hwd.ex eB
      try replace eAll := eAll.trans eB
      clear eB
      replace hF := e40 _ _ hF
      clear b e40
      have b := b40
      clear b40
      try dsimp only [gName, tSeq, tDrop, tAsg, tRet]
      refine ext_2 (K := K) (by show 10 < 18; decide) rfl rfl rfl b hF (by simp) nFp hS prS hV pr40 (by omega) (by omega) (by rw [List.length_append, lL1]; show 8 + 5 ≤ 40; decide) fun H41 B41 L2 b41 eB hF9 ths2 lL2 => ?_
      try replace hm1 := hm1.ex eB
      try replace hm2 := hm2.ex eB
      try replace hD := eB _ _ hD
      try replace hS := eB _ _ hS
      try replace hZ := eB _ _ hZ
      try replace hX := eB _ _ hX
      try replace hWd := eB _ _ hWd
      try replace hV := eB _ _ hV
      try replace hT1 := eB _ _ hT1
      try replace hT2 := eB _ _ hT2
      try replace hT3 := eB _ _ hT3
      try replace dW := dpAll_ex eB dW
      try replace prS := prS.ex eB
      try replace prW := prW.ex eB
      try replace ths := ths.ex eB
      try replace odds := odds.ex eB
      try replace hodd := hodd.ex eB
      try replace wds := wds.ex eB
      try replace hwd := hwd.ex eB
      try replace eAll := eAll.trans eB
      clear eB
      clear b hF
      have b := b41
      have hF := hF9
      clear b41 hF9
      replace ths := ths.append ths2
      try dsimp only [gName, tSeq, tDrop, tAsg, tRet]
      refine ret_things (K := K) (by show 10 < 18; decide) rfl rfl rfl b hF (by simp) hS prS (by omega) (by rw [List.length_append, List.length_append, lL1, lL2]; show 8 + 5 + 9 ≤ 60; decide) (thing_words hD po.lv lps po.rng (by omega) (by omega) dW g1.hw po.few) ths fun H' B' l xs b' hl nl th lxs => ?_
      refine k l xs H' b'.bt b'.pot hl nl (th.ex ?_) lxs
      exact hidL_of b'.ex fun a ha => b'.no a (by rw [List.mem_singleton.mp ha]; exact b'.mem)
end
end W

set_option Elab.async false
set_option linter.all false
set_option maxRecDepth 100000
set_option maxHeartbeats 16000000
/-! Words that are judged. -/
namespace W
open PySem PySem.Spec PyProof.Rows L2 Evl G NdefX LamX Clo
section
variable {P : Program} {w : World} {K : PySem.W.Frag} {mg : Str → Option Value} {base : Heap} {M P1 P2 : Addr} {H H' B : Hp}
def WIt (K : PySem.W.Frag) (H : Hp) (x : V) (d : PyData) : Prop := Dp K H x d ∧ smT d ∧ Sz 60 3 d
def WIts (K : PySem.W.Frag) (H : Hp) (xs : List V) : Prop := ∀ x ∈ xs, ∃ d, WIt K H x d
theorem WIts.ex {xs : List V} (h : WIts K H xs) (e : Ex H H') : WIts K H' xs := fun x hx => let ⟨d, a, b⟩ := h x hx; ⟨d, dp_ex e a, b⟩
theorem WIts.append {xs ys : List V} (h : WIts K H xs) (g : WIts K H ys) : WIts K H (xs ++ ys) := fun x hx => (List.mem_append.mp hx).elim (h x) (g x)
theorem WIts.sub {xs ys : List V} (h : WIts K H xs) (s : ∀ y ∈ ys, y ∈ xs) : WIts K H ys := fun y hy => h y (s y hy)
theorem WIts.one {x : V} {d : PyData} (h : WIt K H x d) : WIts K H [x] := fun y hy => by rw [List.mem_singleton.mp hy]; exact ⟨d, h⟩
theorem WIts.data {xs : List V} (h : WIts K H xs) : ∃ ds : List PyData, DpAll K H xs ds ∧ (∀ d ∈ ds, smT d ∧ Sz 60 3 d) ∧ ds.length = xs.length := by
  induction xs with
  | nil => exact ⟨[], .nil, fun d hd => (by cases hd), rfl⟩
  | cons x xs ih =>
    obtain ⟨d, h1, h2⟩ := h x List.mem_cons_self
    obtain ⟨ds, h3, h4, h5⟩ := ih fun y hy => h y (List.mem_cons_of_mem _ hy)
    exact ⟨d :: ds, .cons h1 h3, fun e he => (List.mem_cons.mp he).elim (fun z => z ▸ h2) (h4 e), by simp [h5]⟩
def WThing (K : PySem.W.Frag) (H : Hp) (x : V) (d : PyData) : Prop := Dd K H x d ∧ Dq K H x d ∧ smW d ∧ szD d ≤ 100 ∧ Showy d
def WThs (K : PySem.W.Frag) (H : Hp) (xs : List V) : Prop := ∀ x ∈ xs, ∃ d, WThing K H x d
theorem WThing.ex {x : V} {d : PyData} (h : WThing K H x d) (e : Ex H H') : WThing K H' x d := ⟨dd_ex e h.1, h.2.1.ex e, h.2.2⟩
theorem WThs.ex {xs : List V} (h : WThs K H xs) (e : Ex H H') : WThs K H' xs := fun x hx => let ⟨d, q⟩ := h x hx; ⟨d, q.ex e⟩
theorem WThs.append {xs ys : List V} (h : WThs K H xs) (g : WThs K H ys) : WThs K H (xs ++ ys) := fun x hx => (List.mem_append.mp hx).elim (h x) (g x)
theorem WThs.cons {x : V} {xs : List V} (h : ∃ d, WThing K H x d) (g : WThs K H xs) : WThs K H (x :: xs) := fun y hy => (List.mem_cons.mp hy).elim (fun e => e ▸ h) (g y)
theorem WThs.sub {xs ys : List V} (h : WThs K H xs) (s : ∀ y ∈ ys, y ∈ xs) : WThs K H ys := fun y hy => h y (s y hy)
theorem WThs.nil : WThs K H [] := fun y hy => by cases hy
theorem wthing_items {a : Addr} {xs : List V} (hs : SqL K H a xs ∨ SqT K H a xs) (h : WIts K H xs) (few : xs.length ≤ 100) : ∃ d, WThing K H (.ref a) d := by
  obtain ⟨ds, h1, h2, h3⟩ := h.data
  rcases hs with hs | hs
  · refine ⟨.list ds, .dp (.lst hs h1), .lst hs (dqs_of h1), fun es he => ?_, by show ds.length ≤ 100; omega, (Sz.list (m := 100) (fun d hd => (h2 d hd).2) (by omega)).showy (by decide) (by decide)⟩
    cases he
    exact ⟨by omega, fun e he => (h2 e he).1⟩
  · refine ⟨.tuple ds, .dp (.tup hs h1), .tup hs (dqs_of h1), fun es he => ?_, by show ds.length ≤ 100; omega, (Sz.tuple (m := 100) (fun d hd => (h2 d hd).2) (by omega)).showy (by decide) (by decide)⟩
    cases he
    exact ⟨by omega, fun e he => (h2 e he).1⟩
theorem wthing_flat {x : V} {d : PyData} (h : Dp K H x d) (n : itemsD d = none) (s : szB 40 3 d = true) : ∃ d, WThing K H x d :=
  ⟨d, .dp h, dq_of h, fun ds hd => (by rw [n] at hd; cases hd), by cases d <;> first | (cases n; done) | exact Nat.zero_le _, (sz_of s).showy (by decide) (by decide)⟩
theorem wthing_dict {a : Addr} (h : H a = some (.dK [])) : ∃ d, WThing K H (.ref a) d :=
  ⟨.dict [], .dk h .nil, .dK (kvs := []) (ds := []) h .nil, fun ds hd => (by cases hd), Nat.zero_le _, (sz_of (c := 40) (e := 3) (by decide +kernel)).showy (by decide) (by decide)⟩
theorem wit_tup {a : Addr} {xs : List V} {ds : List PyData} (h : H a = some (.tup xs)) (hd : DpAll K H xs ds) (sm : ∀ d ∈ ds, d ∈ smL) (few : ds.length ≤ 5) : WIt K H (.ref a) (.tuple ds) :=
  ⟨.tup (st_of h) hd, fun es he => (by cases he; exact sm), (Sz.tuple (m := 5) (fun d hm => sz_smL d (sm d hm)) few).mono (by decide) (by decide)⟩
theorem wit_else {x : V} {d : PyData} (h : Dp K H x d) (n : ∀ e, d ≠ .tuple e) (s : Sz 60 3 d) : WIt K H x d := ⟨h, fun e he => absurd he (n e), s⟩
theorem bits_sm {n j : Nat} (hn : n ≤ 4) (hj : j < 2 ^ n) : ∀ d ∈ (ltr n j).map PyData.int, d ∈ smL := fun d hd => by
  obtain ⟨b, hb, rfl⟩ := List.mem_map.mp hd
  rcases (ltr_ok hn hj).2.1 b hb with rfl | rfl
  · exact sm_0
  · exact int_smL (i := 1) (by decide)
theorem wit_letter {x : V} {n j : Nat} (hn : n ≤ 4) (hj : j < 2 ^ n) (h : Dp K H x (bitsD (ltr n j))) : WIt K H x (bitsD (ltr n j)) := by
  obtain ⟨f1, f2, _, f4, _⟩ := tl_facts (tl_ltr hn hj)
  exact ⟨h, fun es he => (by unfold bitsD at he; cases he; exact bits_sm hn hj), ⟨f2, Nat.le_trans f4 (by decide), Nat.le_trans f1 (by decide)⟩⟩
/-- a word's letters -/
def Ltl (K : PySem.W.Frag) (H : Hp) (n : Nat) (xs : List V) : Prop := ∀ x ∈ xs, ∃ j, j < 2 ^ n ∧ Dp K H x (bitsD (ltr n j))
theorem Ltl.ex {n : Nat} {xs : List V} (h : Ltl K H n xs) (e : Ex H H') : Ltl K H' n xs := fun x hx => let ⟨j, a, b⟩ := h x hx; ⟨j, a, dp_ex e b⟩
theorem Ltl.its {n : Nat} {xs : List V} (hn : n ≤ 4) (h : Ltl K H n xs) : WIts K H xs := fun x hx => let ⟨j, a, b⟩ := h x hx; ⟨_, wit_letter hn a b⟩
theorem WdAt.ltl {l : Addr} {n : Nat} {js : List Nat} (h : WdAt K H l n js) : ∃ xs, H l = some (.lst xs) ∧ Ltl K H n xs ∧ xs.length = js.length := by
  obtain ⟨xs, h1, h2, h3⟩ := h
  have lx : xs.length = js.length := by rw [dpAll_len h2]; unfold wdL; rw [List.length_map]
  refine ⟨xs, h1, fun x hx => ?_, lx⟩
  obtain ⟨i, hi⟩ := List.getElem?_of_mem hx
  obtain ⟨j, ej, dj⟩ := dp_nth (f := fun j => bitsD (ltr n j)) h2 hi
  exact ⟨j, h3.1 j (List.mem_of_getElem? ej), dj⟩
end
end W

set_option Elab.async false
set_option linter.all false
set_option maxRecDepth 100000
set_option maxHeartbeats 16000000
/-! Words that are judged: the parts. -/
namespace W
open PySem PySem.Spec PyProof.Rows L2 Evl G NdefX LamX Clo
section
variable {K : PySem.W.Frag} {σ : L2.St} {Q : VK} {Sl : List Addr} {p F S : Addr} {H H0 B0 H1 : Hp} {L xS : List V} {n : Nat}
theorem wext_1 (h5 : σ[5]? = some (some (.ref S))) (h3 : σ[3]? = some (some (.ref F))) (bb : Bs Sl p H0 B0 H1) (hF0 : H1 F = some (.lst L)) (hFl : F ∈ Sl) (nFp : F ≠ p)
    (hS0 : B0 S = some (.lst xS)) (prS0 : WIts K B0 xS) (l60 : xS.length ≤ 45) (lL : L.length ≤ 40) (q : ∀ (H' B' : Hp) (L' : List V), Bs Sl p H0 B' H' → Ex B0 B' → H' F = some (.lst (L ++ L')) → WThs K B' L' → L'.length = 6 → Q .non H') :
    tBM K "list" rExtend (tVar 3) (tCons (tLst (tCons (tVar 5) (tCons (tCB (rTup K) (tCons (tVar 5) tNil)) (tCons (tSl (rSlL K) (tVar 5) tNoPart (tPart (tUn (rU fun i => V.int (-i)) (tC (.int 1)))))
      (tCons (tOp (rCatL K) (tVar 5) (tSl (rSlL K) (tVar 5) tNoPart (tPart (tC (.int 1))))) (tCons (tRevL K (tVar 5)) (tCons (tOp (rCatL K) (tVar 5) (tVar 5)) tNil))))))) tNil) σ H1 Q := by
  have b := bb
  have hF := hF0
  have hS := hS0
  have prS := prS0
  have eAll := Ex.refl B0
  clear bb hF0 hS0 prS0
  have cut : ∀ {lo hi : Option Int} {y : V}, y ∈ cutV xS lo hi → y ∈ xS := fun {lo hi y} h => List.mem_of_mem_drop (List.mem_of_mem_take h)
  have cutl : ∀ (lo hi : Option Int), (cutV xS lo hi).length ≤ 45 := fun lo hi => Nat.le_trans (cutV_length xS lo hi) (by omega)
  have big : (1000 : Nat) ≤ sizeLine := by decide
  have ths : WThs K _ [V.ref S] := WThs.cons (wthing_items (.inl (SqL.of hS)) prS (by omega)) WThs.nil
  refine ⟨_, h3, .inl ⟨rfl, _, SqL.of hF⟩, _, h5, _, h5, S, xS, rfl, .inl ⟨SqL.of (b.ex _ _ hS), fun A1 nA1 => ?_⟩⟩
  obtain ⟨B2, b2, eB, hT1⟩ := b.put (o := (.tup xS)) nA1
  try replace hm1 := hm1.ex eB
  try replace hm2 := hm2.ex eB
  try replace hD := eB _ _ hD
  try replace hS := eB _ _ hS
  try replace hZ := eB _ _ hZ
  try replace hX := eB _ _ hX
  try replace hWd := eB _ _ hWd
  try replace hV := eB _ _ hV
  try replace hT1 := eB _ _ hT1
  try replace hT2 := eB _ _ hT2
  try replace hT3 := eB _ _ hT3
  try replace dW := dpAll_ex eB dW
  try replace prS := prS.ex eB
  try replace prW := prW.ex eB
  try replace ths := ths.ex eB
  try replace odds := odds.ex eB
  try replace hodd := hodd.ex eB
  try replace wds := wds.ex eB
  try replace hwd := hwd.ex eB
  try replace eAll := eAll.trans eB
  clear eB
  replace hF := Ex.new (o := (.tup xS)) nA1 _ _ hF
  clear b nA1
  generalize upd H1 A1 (.tup xS) = H2 at b2 hF ⊢
  have b := b2
  clear b2
  replace ths := ths.append (WThs.cons (wthing_items (.inr (SqT.of hT1)) prS (by omega)) WThs.nil)
  clear hT1
  refine ⟨_, h5, 1, rfl, _, rfl, S, xS, rfl, SqL.of (b.ex _ _ hS), fun A2 nA2 => ?_⟩
  obtain ⟨B2, b2, eB, hT1⟩ := b.put (o := (.lst (cutV xS none (some (-1))))) nA2
  try replace hm1 := hm1.ex eB
  try replace hm2 := hm2.ex eB
  try replace hD := eB _ _ hD
  try replace hS := eB _ _ hS
  try replace hZ := eB _ _ hZ
  try replace hX := eB _ _ hX
  try replace hWd := eB _ _ hWd
  try replace hV := eB _ _ hV
  try replace hT1 := eB _ _ hT1
  try replace hT2 := eB _ _ hT2
  try replace hT3 := eB _ _ hT3
  try replace dW := dpAll_ex eB dW
  try replace prS := prS.ex eB
  try replace prW := prW.ex eB
  try replace ths := ths.ex eB
  try replace odds := odds.ex eB
  try replace hodd := hodd.ex eB
  try replace wds := wds.ex eB
  try replace hwd := hwd.ex eB
  try replace eAll := eAll.trans eB
  clear eB
  replace hF := Ex.new (o := (.lst (cutV xS none (some (-1))))) nA2 _ _ hF
  clear b nA2
  generalize upd H2 A2 (.lst (cutV xS none (some (-1)))) = H3 at b2 hF ⊢
  have b := b2
  clear b2
  have c1 := cutl none (some (-1))
  replace ths := ths.append (WThs.cons (wthing_items (.inl (SqL.of hT1)) (prS.sub fun y hy => cut hy) (by omega)) WThs.nil)
  clear hT1
  refine ⟨_, h5, _, h5, 1, rfl, S, xS, rfl, SqL.of (b.ex _ _ hS), fun A3 nA3 => ?_⟩
  obtain ⟨B2, b2, eB, hT1⟩ := b.put (o := (.lst (cutV xS none (some 1)))) nA3
  try replace hm1 := hm1.ex eB
  try replace hm2 := hm2.ex eB
  try replace hD := eB _ _ hD
  try replace hS := eB _ _ hS
  try replace hZ := eB _ _ hZ
  try replace hX := eB _ _ hX
  try replace hWd := eB _ _ hWd
  try replace hV := eB _ _ hV
  try replace hT1 := eB _ _ hT1
  try replace hT2 := eB _ _ hT2
  try replace hT3 := eB _ _ hT3
  try replace dW := dpAll_ex eB dW
  try replace prS := prS.ex eB
  try replace prW := prW.ex eB
  try replace ths := ths.ex eB
  try replace odds := odds.ex eB
  try replace hodd := hodd.ex eB
  try replace wds := wds.ex eB
  try replace hwd := hwd.ex eB
  try replace eAll := eAll.trans eB
  clear eB
  replace hF := Ex.new (o := (.lst (cutV xS none (some 1)))) nA3 _ _ hF
  clear b nA3
  generalize upd H3 A3 (.lst (cutV xS none (some 1))) = H4 at b2 hF ⊢
  have b := b2
  clear b2
  have c2 := cutl none (some 1)
  refine ⟨S, A3, xS, _, rfl, rfl, SqL.of (b.ex _ _ hS), SqL.of (b.ex _ _ hT1), Nat.le_trans (show xS.length + (cutV xS none (some 1)).length ≤ 1000 by omega) big, fun A4 nA4 => ?_⟩
  obtain ⟨B2, b2, eB, hT2⟩ := b.put (o := (.lst (xS ++ cutV xS none (some 1)))) nA4
  try replace hm1 := hm1.ex eB
  try replace hm2 := hm2.ex eB
  try replace hD := eB _ _ hD
  try replace hS := eB _ _ hS
  try replace hZ := eB _ _ hZ
  try replace hX := eB _ _ hX
  try replace hWd := eB _ _ hWd
  try replace hV := eB _ _ hV
  try replace hT1 := eB _ _ hT1
  try replace hT2 := eB _ _ hT2
  try replace hT3 := eB _ _ hT3
  try replace dW := dpAll_ex eB dW
  try replace prS := prS.ex eB
  try replace prW := prW.ex eB
  try replace ths := ths.ex eB
  try replace odds := odds.ex eB
  try replace hodd := hodd.ex eB
  try replace wds := wds.ex eB
  try replace hwd := hwd.ex eB
  try replace eAll := eAll.trans eB
  clear eB
  replace hF := Ex.new (o := (.lst (xS ++ cutV xS none (some 1)))) nA4 _ _ hF
  clear b nA4
  generalize upd H4 A4 (.lst (xS ++ cutV xS none (some 1))) = H5 at b2 hF ⊢
  have b := b2
  clear b2
  replace ths := ths.append (WThs.cons (wthing_items (.inl (SqL.of hT2)) (prS.append (prS.sub fun y hy => cut hy)) (by rw [List.length_append]; omega)) WThs.nil)
  clear hT1 hT2
  refine ⟨_, h5, S, xS, rfl, SqL.of (b.ex _ _ hS), fun A5 nA5 => ?_⟩
  obtain ⟨B2, b2, eB, hT1⟩ := b.put (o := (.lst xS.reverse)) nA5
  try replace hm1 := hm1.ex eB
  try replace hm2 := hm2.ex eB
  try replace hD := eB _ _ hD
  try replace hS := eB _ _ hS
  try replace hZ := eB _ _ hZ
  try replace hX := eB _ _ hX
  try replace hWd := eB _ _ hWd
  try replace hV := eB _ _ hV
  try replace hT1 := eB _ _ hT1
  try replace hT2 := eB _ _ hT2
  try replace hT3 := eB _ _ hT3
  try replace dW := dpAll_ex eB dW
  try replace prS := prS.ex eB
  try replace prW := prW.ex eB
  try replace ths := ths.ex eB
  try replace odds := odds.ex eB
  try replace hodd := hodd.ex eB
  try replace wds := wds.ex eB
  try replace hwd := hwd.ex eB
  try replace eAll := eAll.trans eB
  clear eB
  replace hF := Ex.new (o := (.lst xS.reverse)) nA5 _ _ hF
  clear b nA5
  generalize upd H5 A5 (.lst xS.reverse) = H6 at b2 hF ⊢
  have b := b2
  clear b2
  replace ths := ths.append (WThs.cons (wthing_items (.inl (SqL.of hT1)) (prS.sub fun y hy => List.mem_reverse.mp hy) (by rw [List.length_reverse]; omega)) WThs.nil)
  clear hT1
  refine ⟨_, h5, _, h5, S, S, xS, xS, rfl, rfl, SqL.of (b.ex _ _ hS), SqL.of (b.ex _ _ hS), Nat.le_trans (show xS.length + xS.length ≤ 1000 by omega) big, fun A6 nA6 => ?_⟩
  obtain ⟨B2, b2, eB, hT1⟩ := b.put (o := (.lst (xS ++ xS))) nA6
  try replace hm1 := hm1.ex eB
  try replace hm2 := hm2.ex eB
  try replace hD := eB _ _ hD
  try replace hS := eB _ _ hS
  try replace hZ := eB _ _ hZ
  try replace hX := eB _ _ hX
  try replace hWd := eB _ _ hWd
  try replace hV := eB _ _ hV
  try replace hT1 := eB _ _ hT1
  try replace hT2 := eB _ _ hT2
  try replace hT3 := eB _ _ hT3
  try replace dW := dpAll_ex eB dW
  try replace prS := prS.ex eB
  try replace prW := prW.ex eB
  try replace ths := ths.ex eB
  try replace odds := odds.ex eB
  try replace hodd := hodd.ex eB
  try replace wds := wds.ex eB
  try replace hwd := hwd.ex eB
  try replace eAll := eAll.trans eB
  clear eB
  replace hF := Ex.new (o := (.lst (xS ++ xS))) nA6 _ _ hF
  clear b nA6
  generalize upd H6 A6 (.lst (xS ++ xS)) = H7 at b2 hF ⊢
  have b := b2
  clear b2
  replace ths := ths.append (WThs.cons (wthing_items (.inl (SqL.of hT1)) (prS.append prS) (by rw [List.length_append]; omega)) WThs.nil)
  clear hT1
  refine ⟨(by show 6 ≤ sizeLine; decide), fun E6 nE6 => ?_⟩
  have nEF : E6 ≠ F := fun z => by rw [z, hF] at nE6; cases nE6
  have eE := Ex.new (o := .lst [.ref S, .ref A1, .ref A2, .ref A4, .ref A5, .ref A6]) nE6
  have b' := b.ext eE
  exact ⟨F, E6, L, _, rfl, rfl, eE _ _ hF, upd_same, Nat.le_trans (show L.length + 6 ≤ 1000 by omega) big, q _ _ [.ref S, .ref A1, .ref A2, .ref A4, .ref A5, .ref A6] (b'.mut hFl nFp) eAll upd_same (ths.sub fun y hy => by
    simp only [List.mem_cons, List.mem_append, List.not_mem_nil, or_false] at hy ⊢
    rcases hy with rfl | rfl | rfl | rfl | rfl | rfl <;> simp) rfl⟩
theorem wodd {E : XK} (h0 : σ[0]? = some (some (.ref p))) (bb : Bs Sl p H0 B0 H1) (q : ∀ (v : V) (H' B' : Hp), ExBut p H1 H' → Bs Sl p H0 B' H' → Ex B0 B' → WIts K B' [v] → Q v H') :
    tCall (spPickL K) [] E (tCons (tVar 0) (tCons (tLst (tCons (tOp (rRepA K) (tTup (tCons (tC (.int 2)) tNil)) (tC (.int 3))) (tCons (tOp (rRepA K) (tTup (tCons (tC (.int 0)) tNil)) (tC (.int 5))) (tCons (tC .non) (tCons (tC (.int 0)) (tCons (tLst (tCons (tC (.int 0)) tNil))
      (tCons (tTup (tCons (tC (.bl true)) tNil)) (tCons (tC (.str "0")) (tCons (tTup (tCons (tC (.int 0)) (tCons (tC .non) tNil))) tNil))))))))) tNil)) σ H1 Q := by
  have b := bb
  have eAll := Ex.refl B0
  have eP : ExBut p H1 H1 := fun _ _ h _ => h
  clear bb
  have odds : WIts K B0 [V.non, .int 0, .str "0"] := fun y hy => by
    simp only [List.mem_cons, List.not_mem_nil, or_false] at hy
    rcases hy with rfl | rfl | rfl
    · exact ⟨_, wit_else .non (fun e z => by cases z) (sz_of (by decide +kernel))⟩
    · exact ⟨_, wit_else (.int 0) (fun e z => by cases z) (sz_of (by decide +kernel))⟩
    · exact ⟨_, wit_else (.str "0") (fun e z => by cases z) (sz_of (by decide +kernel))⟩
  have sm2 : PyData.int 2 ∈ smL := int_smL (i := 2) (by decide)
  refine ⟨_, h0, (by show 1 ≤ sizeLine; decide), fun O1 nO1 => ?_⟩
  obtain ⟨B2, b2, eB, hT1⟩ := b.put (o := (.tup [.int 2])) nO1
  try replace hm1 := hm1.ex eB
  try replace hm2 := hm2.ex eB
  try replace hD := eB _ _ hD
  try replace hS := eB _ _ hS
  try replace hZ := eB _ _ hZ
  try replace hX := eB _ _ hX
  try replace hWd := eB _ _ hWd
  try replace hV := eB _ _ hV
  try replace hT1 := eB _ _ hT1
  try replace hT2 := eB _ _ hT2
  try replace hT3 := eB _ _ hT3
  try replace dW := dpAll_ex eB dW
  try replace prS := prS.ex eB
  try replace prW := prW.ex eB
  try replace ths := ths.ex eB
  try replace odds := odds.ex eB
  try replace hodd := hodd.ex eB
  try replace wds := wds.ex eB
  try replace hwd := hwd.ex eB
  try replace eAll := eAll.trans eB
  clear eB
  replace eP := eP.trans (ExBut.of (Ex.new (o := (.tup [.int 2])) nO1))
  clear b nO1
  generalize upd H1 O1 (.tup [.int 2]) = H2 at b2 eP ⊢
  have b := b2
  clear b2
  refine ⟨O1, 3, _, rfl, rfl, SqT.of (b.ex _ _ hT1), by simp, by decide, by decide, by decide, fun z => absurd z (by decide), fun _ O2 nO2 => ?_⟩
  obtain ⟨B2, b2, eB, hT2⟩ := b.put (o := (.tup (List.replicate (3 : Int).toNat [V.int 2]).flatten)) nO2
  try replace hm1 := hm1.ex eB
  try replace hm2 := hm2.ex eB
  try replace hD := eB _ _ hD
  try replace hS := eB _ _ hS
  try replace hZ := eB _ _ hZ
  try replace hX := eB _ _ hX
  try replace hWd := eB _ _ hWd
  try replace hV := eB _ _ hV
  try replace hT1 := eB _ _ hT1
  try replace hT2 := eB _ _ hT2
  try replace hT3 := eB _ _ hT3
  try replace dW := dpAll_ex eB dW
  try replace prS := prS.ex eB
  try replace prW := prW.ex eB
  try replace ths := ths.ex eB
  try replace odds := odds.ex eB
  try replace hodd := hodd.ex eB
  try replace wds := wds.ex eB
  try replace hwd := hwd.ex eB
  try replace eAll := eAll.trans eB
  clear eB
  replace eP := eP.trans (ExBut.of (Ex.new (o := (.tup (List.replicate (3 : Int).toNat [V.int 2]).flatten)) nO2))
  clear b nO2
  generalize upd H2 O2 (.tup (List.replicate (3 : Int).toNat [V.int 2]).flatten) = H3 at b2 eP ⊢
  have b := b2
  clear b2
  replace odds := odds.append (WIts.one (wit_tup (xs := [.int 2, .int 2, .int 2]) hT2 (.cons (.int _) (.cons (.int _) (.cons (.int _) .nil))) (fun d hd => by
    simp only [List.mem_cons, List.not_mem_nil, or_false] at hd
    rcases hd with rfl | rfl | rfl <;> exact sm2) (by decide)))
  clear hT1 hT2
  refine ⟨(by show 1 ≤ sizeLine; decide), fun O3 nO3 => ?_⟩
  obtain ⟨B2, b2, eB, hT1⟩ := b.put (o := (.tup [.int 0])) nO3
  try replace hm1 := hm1.ex eB
  try replace hm2 := hm2.ex eB
  try replace hD := eB _ _ hD
  try replace hS := eB _ _ hS
  try replace hZ := eB _ _ hZ
  try replace hX := eB _ _ hX
  try replace hWd := eB _ _ hWd
  try replace hV := eB _ _ hV
  try replace hT1 := eB _ _ hT1
  try replace hT2 := eB _ _ hT2
  try replace hT3 := eB _ _ hT3
  try replace dW := dpAll_ex eB dW
  try replace prS := prS.ex eB
  try replace prW := prW.ex eB
  try replace ths := ths.ex eB
  try replace odds := odds.ex eB
  try replace hodd := hodd.ex eB
  try replace wds := wds.ex eB
  try replace hwd := hwd.ex eB
  try replace eAll := eAll.trans eB
  clear eB
  replace eP := eP.trans (ExBut.of (Ex.new (o := (.tup [.int 0])) nO3))
  clear b nO3
  generalize upd H3 O3 (.tup [.int 0]) = H4 at b2 eP ⊢
  have b := b2
  clear b2
  refine ⟨O3, 5, _, rfl, rfl, SqT.of (b.ex _ _ hT1), by simp, by decide, by decide, by decide, fun z => absurd z (by decide), fun _ O4 nO4 => ?_⟩
  obtain ⟨B2, b2, eB, hT2⟩ := b.put (o := (.tup (List.replicate (5 : Int).toNat [V.int 0]).flatten)) nO4
  try replace hm1 := hm1.ex eB
  try replace hm2 := hm2.ex eB
  try replace hD := eB _ _ hD
  try replace hS := eB _ _ hS
  try replace hZ := eB _ _ hZ
  try replace hX := eB _ _ hX
  try replace hWd := eB _ _ hWd
  try replace hV := eB _ _ hV
  try replace hT1 := eB _ _ hT1
  try replace hT2 := eB _ _ hT2
  try replace hT3 := eB _ _ hT3
  try replace dW := dpAll_ex eB dW
  try replace prS := prS.ex eB
  try replace prW := prW.ex eB
  try replace ths := ths.ex eB
  try replace odds := odds.ex eB
  try replace hodd := hodd.ex eB
  try replace wds := wds.ex eB
  try replace hwd := hwd.ex eB
  try replace eAll := eAll.trans eB
  clear eB
  replace eP := eP.trans (ExBut.of (Ex.new (o := (.tup (List.replicate (5 : Int).toNat [V.int 0]).flatten)) nO4))
  clear b nO4
  generalize upd H4 O4 (.tup (List.replicate (5 : Int).toNat [V.int 0]).flatten) = H5 at b2 eP ⊢
  have b := b2
  clear b2
  replace odds := odds.append (WIts.one (wit_tup (xs := [.int 0, .int 0, .int 0, .int 0, .int 0]) hT2 (.cons (.int _) (.cons (.int _) (.cons (.int _) (.cons (.int _) (.cons (.int _) .nil))))) (fun d hd => by
    simp only [List.mem_cons, List.not_mem_nil, or_false] at hd
    rcases hd with rfl | rfl | rfl | rfl | rfl <;> exact sm_0) (by decide)))
  clear hT1 hT2
  refine ⟨(by show 1 ≤ sizeLine; decide), fun O5 nO5 => ?_⟩
  obtain ⟨B2, b2, eB, hT1⟩ := b.put (o := (.lst [.int 0])) nO5
  try replace hm1 := hm1.ex eB
  try replace hm2 := hm2.ex eB
  try replace hD := eB _ _ hD
  try replace hS := eB _ _ hS
  try replace hZ := eB _ _ hZ
  try replace hX := eB _ _ hX
  try replace hWd := eB _ _ hWd
  try replace hV := eB _ _ hV
  try replace hT1 := eB _ _ hT1
  try replace hT2 := eB _ _ hT2
  try replace hT3 := eB _ _ hT3
  try replace dW := dpAll_ex eB dW
  try replace prS := prS.ex eB
  try replace prW := prW.ex eB
  try replace ths := ths.ex eB
  try replace odds := odds.ex eB
  try replace hodd := hodd.ex eB
  try replace wds := wds.ex eB
  try replace hwd := hwd.ex eB
  try replace eAll := eAll.trans eB
  clear eB
  replace eP := eP.trans (ExBut.of (Ex.new (o := (.lst [.int 0])) nO5))
  clear b nO5
  generalize upd H5 O5 (.lst [.int 0]) = H6 at b2 eP ⊢
  have b := b2
  clear b2
  replace odds := odds.append (WIts.one (wit_else (.lst (SqL.of hT1) (.cons (.int _) .nil)) (fun e z => by cases z) (sz_of (by decide +kernel))))
  clear hT1
  refine ⟨(by show 1 ≤ sizeLine; decide), fun O6 nO6 => ?_⟩
  obtain ⟨B2, b2, eB, hT1⟩ := b.put (o := (.tup [.bl true])) nO6
  try replace hm1 := hm1.ex eB
  try replace hm2 := hm2.ex eB
  try replace hD := eB _ _ hD
  try replace hS := eB _ _ hS
  try replace hZ := eB _ _ hZ
  try replace hX := eB _ _ hX
  try replace hWd := eB _ _ hWd
  try replace hV := eB _ _ hV
  try replace hT1 := eB _ _ hT1
  try replace hT2 := eB _ _ hT2
  try replace hT3 := eB _ _ hT3
  try replace dW := dpAll_ex eB dW
  try replace prS := prS.ex eB
  try replace prW := prW.ex eB
  try replace ths := ths.ex eB
  try replace odds := odds.ex eB
  try replace hodd := hodd.ex eB
  try replace wds := wds.ex eB
  try replace hwd := hwd.ex eB
  try replace eAll := eAll.trans eB
  clear eB
  replace eP := eP.trans (ExBut.of (Ex.new (o := (.tup [.bl true])) nO6))
  clear b nO6
  generalize upd H6 O6 (.tup [.bl true]) = H7 at b2 eP ⊢
  have b := b2
  clear b2
  replace odds := odds.append (WIts.one (wit_tup hT1 (.cons (.bl _) .nil) (fun d hd => by rw [List.mem_singleton.mp hd]; exact sm_t) (by decide)))
  clear hT1
  refine ⟨(by show 2 ≤ sizeLine; decide), fun O7 nO7 => ?_⟩
  obtain ⟨B2, b2, eB, hT1⟩ := b.put (o := (.tup [.int 0, .non])) nO7
  try replace hm1 := hm1.ex eB
  try replace hm2 := hm2.ex eB
  try replace hD := eB _ _ hD
  try replace hS := eB _ _ hS
  try replace hZ := eB _ _ hZ
  try replace hX := eB _ _ hX
  try replace hWd := eB _ _ hWd
  try replace hV := eB _ _ hV
  try replace hT1 := eB _ _ hT1
  try replace hT2 := eB _ _ hT2
  try replace hT3 := eB _ _ hT3
  try replace dW := dpAll_ex eB dW
  try replace prS := prS.ex eB
  try replace prW := prW.ex eB
  try replace ths := ths.ex eB
  try replace odds := odds.ex eB
  try replace hodd := hodd.ex eB
  try replace wds := wds.ex eB
  try replace hwd := hwd.ex eB
  try replace eAll := eAll.trans eB
  clear eB
  replace eP := eP.trans (ExBut.of (Ex.new (o := (.tup [.int 0, .non])) nO7))
  clear b nO7
  generalize upd H7 O7 (.tup [.int 0, .non]) = H8 at b2 eP ⊢
  have b := b2
  clear b2
  replace odds := odds.append (WIts.one (wit_tup hT1 (.cons (.int _) (.cons .non .nil)) (sm_2 sm_0 sm_n) (by decide)))
  clear hT1
  refine ⟨(by show 8 ≤ sizeLine; decide), fun LO nLO => ?_⟩
  have nLp := b.lp nLO
  have eL := Ex.new (o := .lst [.ref O2, .ref O4, .non, .int 0, .ref O5, .ref O6, .str "0", .ref O7]) nLO
  refine ⟨p, LO, _, rfl, b.pot.ex eL, SqL.of upd_same, nLp, by simp, by show 8 ≤ 100; decide, fun v H38 hv e38 hp38 => ?_⟩
  have b' := (b.ext eL).but e38 hp38
  refine q v H38 _ ((eP.trans (ExBut.of eL)).trans e38) b' eAll (odds.sub fun y hy => ?_)
  rw [List.mem_singleton.mp hy]
  simp only [List.mem_cons, List.mem_append, List.not_mem_nil, or_false] at hv ⊢
  rcases hv with rfl | rfl | rfl | rfl | rfl | rfl | rfl | rfl <;> simp
end
end W

set_option Elab.async false
set_option linter.all false
set_option maxRecDepth 100000
set_option maxHeartbeats 16000000
/-! Words that are judged: more parts. -/
namespace W
open PySem PySem.Spec PyProof.Rows L2 Evl G NdefX LamX Clo
def WI (K : PySem.W.Frag) (B : Hp) (x : V) : Prop := ∃ d, WIt K B x d
theorem WI.mono {K : PySem.W.Frag} (B B' : Hp) (x : V) (e : Ex B B') (h : WI K B x) : WI K B' x := let ⟨d, a, q⟩ := h; ⟨d, dp_ex e a, q⟩
section
variable {K : PySem.W.Frag} {σ : L2.St} {Q : VK} {Sl : List Addr} {p F S : Addr} {H H0 B0 H1 : Hp} {L xS : List V} {n : Nat}
theorem ltl_at (hn : n ≤ 4) {x : V} (h : ∃ j, j < 2 ^ n ∧ Dp K H x (bitsD (ltr n j))) : ∃ t ys ds, x = .ref t ∧ SqT K H t ys ∧ DpAll K H ys ds ∧ (∀ d ∈ ds, d ∈ smL) ∧ ds.length ≤ 4 ∧ ys.length = ds.length := by
  obtain ⟨j, hj, hd⟩ := h
  unfold bitsD at hd
  cases hd with
  | @tup t ys _ hs ha => exact ⟨t, ys, _, rfl, hs, ha, bits_sm hn hj, by rw [List.length_map, (ltr_ok hn hj).1]; exact hn, dpAll_len ha⟩
theorem wext_2 {v : V} (hn : n ≤ 4) (l7 : 7 < σ.length) (h5 : σ[5]? = some (some (.ref S))) (h3 : σ[3]? = some (some (.ref F))) (h6 : σ[6]? = some (some v)) (bb : Bs Sl p H0 B0 H1) (hF0 : H1 F = some (.lst L)) (hFl : F ∈ Sl) (nFp : F ≠ p)
    (hS0 : B0 S = some (.lst xS)) (lt0 : Ltl K B0 n xS) (odd0 : WIts K B0 [v]) (l60 : xS.length ≤ 45) (lL : L.length ≤ 40) (q : ∀ (H' B' : Hp) (L' : List V), Bs Sl p H0 B' H' → Ex B0 B' → H' F = some (.lst (L ++ L')) → WThs K B' L' → L'.length = 4 → Q .non H') :
    tBM K "list" rExtend (tVar 3) (tCons (tLst (tCons (tOp (rCatL K) (tVar 5) (tLst (tCons (tVar 6) tNil))) (tCons (tLst (tCons (tVar 6) tNil))
      (tCons (tLc (iList K (tVar 5)) (gName 7) tYes (tCB (fun xs H Q => ∃ p ys, xs = [V.ref p] ∧ (SqL K H p ys ∨ SqT K H p ys) ∧ ∀ (l : Addr), H l = none → Q (.ref l) (upd H l (.lst ys))) (tCons (tVar 7) tNil)) [7])
      (tCons (tLc (iList K (tVar 5)) (gName 7) tYes (tOp (rCatA K) (tVar 7) (tTup (tCons (tC (.int 0)) tNil))) [7]) tNil))))) tNil) σ H1 Q := by
  have b := bb
  have hF := hF0
  have hS := hS0
  have wds := lt0
  have odds := odd0
  have eAll := Ex.refl B0
  clear bb hF0 hS0 lt0 odd0
  have big : (1000 : Nat) ≤ sizeLine := by decide
  refine ⟨_, h3, .inl ⟨rfl, _, SqL.of hF⟩, _, h5, _, h6, (by show 1 ≤ sizeLine; decide), fun A1 nA1 => ?_⟩
  obtain ⟨B2, b2, eB, hT1⟩ := b.put (o := (.lst [v])) nA1
  try replace hm1 := hm1.ex eB
  try replace hm2 := hm2.ex eB
  try replace hD := eB _ _ hD
  try replace hS := eB _ _ hS
  try replace hZ := eB _ _ hZ
  try replace hX := eB _ _ hX
  try replace hWd := eB _ _ hWd
  try replace hV := eB _ _ hV
  try replace hT1 := eB _ _ hT1
  try replace hT2 := eB _ _ hT2
  try replace hT3 := eB _ _ hT3
  try replace dW := dpAll_ex eB dW
  try replace prS := prS.ex eB
  try replace prW := prW.ex eB
  try replace ths := ths.ex eB
  try replace odds := odds.ex eB
  try replace hodd := hodd.ex eB
  try replace wds := wds.ex eB
  try replace hwd := hwd.ex eB
  try replace eAll := eAll.trans eB
  clear eB
  replace hF := Ex.new (o := (.lst [v])) nA1 _ _ hF
  clear b nA1
  generalize upd H1 A1 (.lst [v]) = H2 at b2 hF ⊢
  have b := b2
  clear b2
  refine ⟨S, A1, xS, _, rfl, rfl, SqL.of (b.ex _ _ hS), SqL.of (b.ex _ _ hT1), Nat.le_trans (show xS.length + 1 ≤ 1000 by omega) big, fun A2 nA2 => ?_⟩
  obtain ⟨B2, b2, eB, hT2⟩ := b.put (o := (.lst (xS ++ [v]))) nA2
  try replace hm1 := hm1.ex eB
  try replace hm2 := hm2.ex eB
  try replace hD := eB _ _ hD
  try replace hS := eB _ _ hS
  try replace hZ := eB _ _ hZ
  try replace hX := eB _ _ hX
  try replace hWd := eB _ _ hWd
  try replace hV := eB _ _ hV
  try replace hT1 := eB _ _ hT1
  try replace hT2 := eB _ _ hT2
  try replace hT3 := eB _ _ hT3
  try replace dW := dpAll_ex eB dW
  try replace prS := prS.ex eB
  try replace prW := prW.ex eB
  try replace ths := ths.ex eB
  try replace odds := odds.ex eB
  try replace hodd := hodd.ex eB
  try replace wds := wds.ex eB
  try replace hwd := hwd.ex eB
  try replace eAll := eAll.trans eB
  clear eB
  replace hF := Ex.new (o := (.lst (xS ++ [v]))) nA2 _ _ hF
  clear b nA2
  generalize upd H2 A2 (.lst (xS ++ [v])) = H3 at b2 hF ⊢
  have b := b2
  clear b2
  have ths : WThs K _ [V.ref A2] := WThs.cons (wthing_items (.inl (SqL.of hT2)) ((wds.its hn).append odds) (by rw [List.length_append]; show xS.length + 1 ≤ 100; omega)) WThs.nil
  clear hT1 hT2
  refine ⟨_, h6, (by show 1 ≤ sizeLine; decide), fun A3 nA3 => ?_⟩
  obtain ⟨B2, b2, eB, hT1⟩ := b.put (o := (.lst [v])) nA3
  try replace hm1 := hm1.ex eB
  try replace hm2 := hm2.ex eB
  try replace hD := eB _ _ hD
  try replace hS := eB _ _ hS
  try replace hZ := eB _ _ hZ
  try replace hX := eB _ _ hX
  try replace hWd := eB _ _ hWd
  try replace hV := eB _ _ hV
  try replace hT1 := eB _ _ hT1
  try replace hT2 := eB _ _ hT2
  try replace hT3 := eB _ _ hT3
  try replace dW := dpAll_ex eB dW
  try replace prS := prS.ex eB
  try replace prW := prW.ex eB
  try replace ths := ths.ex eB
  try replace odds := odds.ex eB
  try replace hodd := hodd.ex eB
  try replace wds := wds.ex eB
  try replace hwd := hwd.ex eB
  try replace eAll := eAll.trans eB
  clear eB
  replace hF := Ex.new (o := (.lst [v])) nA3 _ _ hF
  clear b nA3
  generalize upd H3 A3 (.lst [v]) = H4 at b2 hF ⊢
  have b := b2
  clear b2
  replace ths := ths.append (WThs.cons (wthing_items (.inl (SqL.of hT1)) odds (by show 1 ≤ 100; decide)) WThs.nil)
  clear hT1
  refine ⟨_, h5, S, rfl, ⟨_, SqL.of (b.ex _ _ hS)⟩, fun D1 nD1 => ?_⟩
  have n1 : D1 ∉ Sl := b.lps nD1
  refine lc_I (I := WI K) WI.mono (g := gName 7) (vs := [7]) (walk_list (K := K) (a := S) (xs := xS)) (by omega) b nD1 (fun H' e => SqL.of (e _ _ hS)) (fun i x Ha Hb B' hi b' eB yy Q' rr => ?_) (fun H5 B5 ac b5e b5 eB hD5 it lac => ?_)
  · obtain ⟨rfl, ex⟩ := yy
    obtain ⟨t, ys, ds, rfl, hs, ha, sm, ld, ly⟩ := ltl_at hn ((wds.ex eB) x (List.mem_of_getElem? ex))
    refine ⟨wipe_set σ 7 _, _, get_own l7, t, ys, rfl, .inr (st_exQ b'.ex hs), fun u nu => rr (.ref u) _ (Ex.new nu) ?_⟩
    obtain ⟨B6, b6, eB6, ht⟩ := b'.put (o := .lst ys) nu
    exact ⟨B6, b6, eB6, _, wit_else (.lst (SqL.of ht) (dpAll_ex eB6 ha)) (fun e z => by cases z) ((Sz.list (m := 4) (c := 6) (e := 1) (fun d hd => sz_smL d (sm d hd)) ld).mono (by decide) (by decide))⟩
  · obtain ⟨B6, b6, eB6, hD6⟩ := b5.drop b.mem n1 hD5
    have th1 := wthing_items (K := K) (.inl (SqL.of hD6)) (fun x hx => WI.mono _ _ _ eB6 (it x hx)) (by omega)
    replace hF := b5e _ _ hF
    replace eB := eB.trans eB6
    try replace hm1 := hm1.ex eB
    try replace hm2 := hm2.ex eB
    try replace hD := eB _ _ hD
    try replace hS := eB _ _ hS
    try replace hZ := eB _ _ hZ
    try replace hX := eB _ _ hX
    try replace hWd := eB _ _ hWd
    try replace hV := eB _ _ hV
    try replace hT1 := eB _ _ hT1
    try replace hT2 := eB _ _ hT2
    try replace hT3 := eB _ _ hT3
    try replace dW := dpAll_ex eB dW
    try replace prS := prS.ex eB
    try replace prW := prW.ex eB
    try replace ths := ths.ex eB
    try replace odds := odds.ex eB
    try replace hodd := hodd.ex eB
    try replace wds := wds.ex eB
    try replace hwd := hwd.ex eB
    try replace eAll := eAll.trans eB
    clear eB
    replace ths := ths.append (WThs.cons th1 WThs.nil)
    clear b b5 eB6 it hD6 th1
    have b := b6
    clear b6
    refine ⟨_, h5, S, rfl, ⟨_, SqL.of (b.ex _ _ hS)⟩, fun D2 nD2 => ?_⟩
    have n2 : D2 ∉ Sl := b.lps nD2
    refine lc_I (I := WI K) WI.mono (g := gName 7) (vs := [7]) (walk_list (K := K) (a := S) (xs := xS)) (by omega) b nD2 (fun H' e => SqL.of (e _ _ hS)) (fun i x Ha Hb B' hi b' eB yy Q' rr => ?_) (fun H7 B7 ac7 b7e b7 eB hD7 it lac7 => ?_)
    · obtain ⟨rfl, ex⟩ := yy
      obtain ⟨t, ys, ds, rfl, hs, ha, sm, ld, ly⟩ := ltl_at hn ((wds.ex eB) x (List.mem_of_getElem? ex))
      refine ⟨wipe_set σ 7 _, _, get_own l7, (by show 1 ≤ sizeLine; decide), fun t0 nt0 => ?_⟩
      obtain ⟨B8, b8, eB8, ht0⟩ := b'.put (o := .tup [.int 0]) nt0
      refine ⟨t, t0, ys, _, rfl, rfl, st_exQ (eB8.trans b8.ex) hs, SqT.of upd_same, Nat.le_trans (show ys.length + 1 ≤ 1000 by omega) big, (fun z => rr (.ref t0) _ (Ex.new nt0) ⟨B8, b8, eB8, _, wit_tup ht0 (.cons (.int _) .nil) (fun d hd => by rw [List.mem_singleton.mp hd]; exact sm_0) (by decide)⟩), (fun _ z => by cases z), fun _ _ u nu => rr (.ref u) _ ((Ex.new nt0).trans (Ex.new nu)) ?_⟩
      obtain ⟨B9, b9, eB9, ht⟩ := b8.put (o := .tup (ys ++ [.int 0])) nu
      exact ⟨B9, b9, eB8.trans eB9, _, wit_tup (ds := ds ++ [.int 0]) ht (dpAll_appG (dpAll_ex (eB8.trans eB9) ha) (.cons (.int _) .nil)) (fun d hd => (List.mem_append.mp hd).elim (sm d) (fun h => by rw [List.mem_singleton.mp h]; exact sm_0)) (by rw [List.length_append]; show _ + 1 ≤ 5; omega)⟩
    · obtain ⟨B8, b8, eB8, hD8⟩ := b7.drop b.mem n2 hD7
      have th2 := wthing_items (K := K) (.inl (SqL.of hD8)) (fun x hx => WI.mono _ _ _ eB8 (it x hx)) (by omega)
      replace hF := b7e _ _ hF
      replace eB := eB.trans eB8
      try replace hm1 := hm1.ex eB
      try replace hm2 := hm2.ex eB
      try replace hD := eB _ _ hD
      try replace hS := eB _ _ hS
      try replace hZ := eB _ _ hZ
      try replace hX := eB _ _ hX
      try replace hWd := eB _ _ hWd
      try replace hV := eB _ _ hV
      try replace hT1 := eB _ _ hT1
      try replace hT2 := eB _ _ hT2
      try replace hT3 := eB _ _ hT3
      try replace dW := dpAll_ex eB dW
      try replace prS := prS.ex eB
      try replace prW := prW.ex eB
      try replace ths := ths.ex eB
      try replace odds := odds.ex eB
      try replace hodd := hodd.ex eB
      try replace wds := wds.ex eB
      try replace hwd := hwd.ex eB
      try replace eAll := eAll.trans eB
      clear eB
      replace ths := ths.append (WThs.cons th2 WThs.nil)
      clear b b7 eB8 it hD8 th2
      have b := b8
      clear b8
      refine ⟨(by show 4 ≤ sizeLine; decide), fun E4 nE4 => ?_⟩
      have nEF : E4 ≠ F := fun z => by rw [z, hF] at nE4; cases nE4
      have eE := Ex.new (o := .lst [.ref A2, .ref A3, .ref D1, .ref D2]) nE4
      have b' := b.ext eE
      exact ⟨F, E4, L, _, rfl, rfl, eE _ _ hF, upd_same, Nat.le_trans (show L.length + 4 ≤ 1000 by omega) big, q _ _ [.ref A2, .ref A3, .ref D1, .ref D2] (b'.mut hFl nFp) eAll upd_same (ths.sub fun y hy => by
        simp only [List.mem_cons, List.mem_append, List.not_mem_nil, or_false] at hy ⊢
        rcases hy with rfl | rfl | rfl | rfl <;> simp) rfl⟩
theorem wret (h3 : σ[3]? = some (some (.ref F))) (bb : Bs Sl p H0 B0 H1) (hF0 : H1 F = some (.lst L)) (thL : WThs K B0 L) (lL : L.length ≤ 60) (q : ∀ (H' B' : Hp) (l : Addr) (xs : List V), Bs Sl p H0 B' H' → H' l = some (.lst xs) → l ≠ p → WThs K B' xs → xs.length ≤ 100 → Q (.ref l) H') :
    tOp (rCatL K) (tVar 3) (tLst (tCons (tLst tNil) (tCons (tTup tNil) (tCons (tC .non) (tCons (tC (.int 0)) (tCons (tC (.str "")) (tCons tDNewK (tCons (tC (.bl true)) (tCons (tLst (tCons (tTup tNil) tNil))
      (tCons (tLst (tCons (tTup (tCons (tC (.int 0)) tNil)) tNil)) (tCons (tLst (tCons (tTup (tCons (tC (.int 1)) tNil)) tNil)) (tCons (tLst (tCons (tTup (tCons (tC (.int 0)) (tCons (tC (.int 1)) tNil))) tNil)) tNil)))))))))))) σ H1 Q := by
  have b := bb
  have hF := hF0
  clear bb hF0
  have big : (1000 : Nat) ≤ sizeLine := by decide
  have sm1 : PyData.int 1 ∈ smL := int_smL (i := 1) (by decide)
  have ths : WThs K B0 (L ++ [.non, .int 0, .str "", .bl true]) := thL.append (WThs.cons (wthing_flat .non rfl (by decide +kernel)) (WThs.cons (wthing_flat (.int 0) rfl (by decide +kernel)) (WThs.cons (wthing_flat (.str "") rfl (by decide +kernel)) (WThs.cons (wthing_flat (.bl true) rfl (by decide +kernel)) WThs.nil))))
  clear thL
  refine ⟨_, h3, (by show 0 ≤ sizeLine; decide), fun A1 nA1 => ?_⟩
  obtain ⟨B2, b2, eB, hT1⟩ := b.put (o := (.lst [])) nA1
  try replace hm1 := hm1.ex eB
  try replace hm2 := hm2.ex eB
  try replace hD := eB _ _ hD
  try replace hS := eB _ _ hS
  try replace hZ := eB _ _ hZ
  try replace hX := eB _ _ hX
  try replace hWd := eB _ _ hWd
  try replace hV := eB _ _ hV
  try replace hT1 := eB _ _ hT1
  try replace hT2 := eB _ _ hT2
  try replace hT3 := eB _ _ hT3
  try replace dW := dpAll_ex eB dW
  try replace prS := prS.ex eB
  try replace prW := prW.ex eB
  try replace ths := ths.ex eB
  try replace odds := odds.ex eB
  try replace hodd := hodd.ex eB
  try replace wds := wds.ex eB
  try replace hwd := hwd.ex eB
  try replace eAll := eAll.trans eB
  clear eB
  replace hF := Ex.new (o := (.lst [])) nA1 _ _ hF
  clear b nA1
  generalize upd H1 A1 (.lst []) = H2 at b2 hF ⊢
  have b := b2
  clear b2
  replace ths := ths.append (WThs.cons (wthing_items (.inl (SqL.of hT1)) (fun x hx => by cases hx) (by decide)) WThs.nil)
  clear hT1
  refine ⟨(by show 0 ≤ sizeLine; decide), fun A2 nA2 => ?_⟩
  obtain ⟨B2, b2, eB, hT1⟩ := b.put (o := (.tup [])) nA2
  try replace hm1 := hm1.ex eB
  try replace hm2 := hm2.ex eB
  try replace hD := eB _ _ hD
  try replace hS := eB _ _ hS
  try replace hZ := eB _ _ hZ
  try replace hX := eB _ _ hX
  try replace hWd := eB _ _ hWd
  try replace hV := eB _ _ hV
  try replace hT1 := eB _ _ hT1
  try replace hT2 := eB _ _ hT2
  try replace hT3 := eB _ _ hT3
  try replace dW := dpAll_ex eB dW
  try replace prS := prS.ex eB
  try replace prW := prW.ex eB
  try replace ths := ths.ex eB
  try replace odds := odds.ex eB
  try replace hodd := hodd.ex eB
  try replace wds := wds.ex eB
  try replace hwd := hwd.ex eB
  try replace eAll := eAll.trans eB
  clear eB
  replace hF := Ex.new (o := (.tup [])) nA2 _ _ hF
  clear b nA2
  generalize upd H2 A2 (.tup []) = H3 at b2 hF ⊢
  have b := b2
  clear b2
  replace ths := ths.append (WThs.cons (wthing_items (.inr (SqT.of hT1)) (fun x hx => by cases hx) (by decide)) WThs.nil)
  clear hT1
  refine fun A3 nA3 => ?_
  obtain ⟨B2, b2, eB, hT1⟩ := b.put (o := (.dK [])) nA3
  try replace hm1 := hm1.ex eB
  try replace hm2 := hm2.ex eB
  try replace hD := eB _ _ hD
  try replace hS := eB _ _ hS
  try replace hZ := eB _ _ hZ
  try replace hX := eB _ _ hX
  try replace hWd := eB _ _ hWd
  try replace hV := eB _ _ hV
  try replace hT1 := eB _ _ hT1
  try replace hT2 := eB _ _ hT2
  try replace hT3 := eB _ _ hT3
  try replace dW := dpAll_ex eB dW
  try replace prS := prS.ex eB
  try replace prW := prW.ex eB
  try replace ths := ths.ex eB
  try replace odds := odds.ex eB
  try replace hodd := hodd.ex eB
  try replace wds := wds.ex eB
  try replace hwd := hwd.ex eB
  try replace eAll := eAll.trans eB
  clear eB
  replace hF := Ex.new (o := (.dK [])) nA3 _ _ hF
  clear b nA3
  generalize upd H3 A3 (.dK []) = H4 at b2 hF ⊢
  have b := b2
  clear b2
  replace ths := ths.append (WThs.cons (wthing_dict hT1) WThs.nil)
  clear hT1
  refine ⟨(by show 0 ≤ sizeLine; decide), fun A4 nA4 => ?_⟩
  obtain ⟨B2, b2, eB, hT1⟩ := b.put (o := (.tup [])) nA4
  try replace hm1 := hm1.ex eB
  try replace hm2 := hm2.ex eB
  try replace hD := eB _ _ hD
  try replace hS := eB _ _ hS
  try replace hZ := eB _ _ hZ
  try replace hX := eB _ _ hX
  try replace hWd := eB _ _ hWd
  try replace hV := eB _ _ hV
  try replace hT1 := eB _ _ hT1
  try replace hT2 := eB _ _ hT2
  try replace hT3 := eB _ _ hT3
  try replace dW := dpAll_ex eB dW
  try replace prS := prS.ex eB
  try replace prW := prW.ex eB
  try replace ths := ths.ex eB
  try replace odds := odds.ex eB
  try replace hodd := hodd.ex eB
  try replace wds := wds.ex eB
  try replace hwd := hwd.ex eB
  try replace eAll := eAll.trans eB
  clear eB
  replace hF := Ex.new (o := (.tup [])) nA4 _ _ hF
  clear b nA4
  generalize upd H4 A4 (.tup []) = H5 at b2 hF ⊢
  have b := b2
  clear b2
  have w1 := WIts.one (K := K) (wit_tup hT1 .nil (fun d hd => by cases hd) (by decide))
  clear hT1
  refine ⟨(by show 1 ≤ sizeLine; decide), fun A5 nA5 => ?_⟩
  obtain ⟨Bq, bq, eBq, hA5⟩ := b.put (o := .lst [.ref A4]) nA5
  have t1 := wthing_items (K := K) (.inl (SqL.of hA5)) (w1.ex eBq) (by show 1 ≤ 100; decide)
  replace hF := Ex.new (o := .lst [.ref A4]) nA5 _ _ hF
  replace ths := (ths.ex eBq).append (WThs.cons t1 WThs.nil)
  clear b eBq hA5 t1 w1 nA5
  generalize upd H5 A5 (.lst [.ref A4]) = H6 at bq hF ⊢
  have b := bq
  clear bq
  refine ⟨(by show 1 ≤ sizeLine; decide), fun A6 nA6 => ?_⟩
  obtain ⟨B2, b2, eB, hT1⟩ := b.put (o := (.tup [.int 0])) nA6
  try replace hm1 := hm1.ex eB
  try replace hm2 := hm2.ex eB
  try replace hD := eB _ _ hD
  try replace hS := eB _ _ hS
  try replace hZ := eB _ _ hZ
  try replace hX := eB _ _ hX
  try replace hWd := eB _ _ hWd
  try replace hV := eB _ _ hV
  try replace hT1 := eB _ _ hT1
  try replace hT2 := eB _ _ hT2
  try replace hT3 := eB _ _ hT3
  try replace dW := dpAll_ex eB dW
  try replace prS := prS.ex eB
  try replace prW := prW.ex eB
  try replace ths := ths.ex eB
  try replace odds := odds.ex eB
  try replace hodd := hodd.ex eB
  try replace wds := wds.ex eB
  try replace hwd := hwd.ex eB
  try replace eAll := eAll.trans eB
  clear eB
  replace hF := Ex.new (o := (.tup [.int 0])) nA6 _ _ hF
  clear b nA6
  generalize upd H6 A6 (.tup [.int 0]) = H7 at b2 hF ⊢
  have b := b2
  clear b2
  refine ⟨(by show 1 ≤ sizeLine; decide), fun A7 nA7 => ?_⟩
  obtain ⟨B2, b2, eB, hT2⟩ := b.put (o := (.lst [.ref A6])) nA7
  try replace hm1 := hm1.ex eB
  try replace hm2 := hm2.ex eB
  try replace hD := eB _ _ hD
  try replace hS := eB _ _ hS
  try replace hZ := eB _ _ hZ
  try replace hX := eB _ _ hX
  try replace hWd := eB _ _ hWd
  try replace hV := eB _ _ hV
  try replace hT1 := eB _ _ hT1
  try replace hT2 := eB _ _ hT2
  try replace hT3 := eB _ _ hT3
  try replace dW := dpAll_ex eB dW
  try replace prS := prS.ex eB
  try replace prW := prW.ex eB
  try replace ths := ths.ex eB
  try replace odds := odds.ex eB
  try replace hodd := hodd.ex eB
  try replace wds := wds.ex eB
  try replace hwd := hwd.ex eB
  try replace eAll := eAll.trans eB
  clear eB
  replace hF := Ex.new (o := (.lst [.ref A6])) nA7 _ _ hF
  clear b nA7
  generalize upd H7 A7 (.lst [.ref A6]) = H8 at b2 hF ⊢
  have b := b2
  clear b2
  replace ths := ths.append (WThs.cons (wthing_items (.inl (SqL.of hT2)) (WIts.one (wit_tup hT1 (.cons (.int _) .nil) (fun d hd => by rw [List.mem_singleton.mp hd]; exact sm_0) (by decide))) (by show 1 ≤ 100; decide)) WThs.nil)
  clear hT1 hT2
  refine ⟨(by show 1 ≤ sizeLine; decide), fun A8 nA8 => ?_⟩
  obtain ⟨B2, b2, eB, hT1⟩ := b.put (o := (.tup [.int 1])) nA8
  try replace hm1 := hm1.ex eB
  try replace hm2 := hm2.ex eB
  try replace hD := eB _ _ hD
  try replace hS := eB _ _ hS
  try replace hZ := eB _ _ hZ
  try replace hX := eB _ _ hX
  try replace hWd := eB _ _ hWd
  try replace hV := eB _ _ hV
  try replace hT1 := eB _ _ hT1
  try replace hT2 := eB _ _ hT2
  try replace hT3 := eB _ _ hT3
  try replace dW := dpAll_ex eB dW
  try replace prS := prS.ex eB
  try replace prW := prW.ex eB
  try replace ths := ths.ex eB
  try replace odds := odds.ex eB
  try replace hodd := hodd.ex eB
  try replace wds := wds.ex eB
  try replace hwd := hwd.ex eB
  try replace eAll := eAll.trans eB
  clear eB
  replace hF := Ex.new (o := (.tup [.int 1])) nA8 _ _ hF
  clear b nA8
  generalize upd H8 A8 (.tup [.int 1]) = H9 at b2 hF ⊢
  have b := b2
  clear b2
  refine ⟨(by show 1 ≤ sizeLine; decide), fun A9 nA9 => ?_⟩
  obtain ⟨B2, b2, eB, hT2⟩ := b.put (o := (.lst [.ref A8])) nA9
  try replace hm1 := hm1.ex eB
  try replace hm2 := hm2.ex eB
  try replace hD := eB _ _ hD
  try replace hS := eB _ _ hS
  try replace hZ := eB _ _ hZ
  try replace hX := eB _ _ hX
  try replace hWd := eB _ _ hWd
  try replace hV := eB _ _ hV
  try replace hT1 := eB _ _ hT1
  try replace hT2 := eB _ _ hT2
  try replace hT3 := eB _ _ hT3
  try replace dW := dpAll_ex eB dW
  try replace prS := prS.ex eB
  try replace prW := prW.ex eB
  try replace ths := ths.ex eB
  try replace odds := odds.ex eB
  try replace hodd := hodd.ex eB
  try replace wds := wds.ex eB
  try replace hwd := hwd.ex eB
  try replace eAll := eAll.trans eB
  clear eB
  replace hF := Ex.new (o := (.lst [.ref A8])) nA9 _ _ hF
  clear b nA9
  generalize upd H9 A9 (.lst [.ref A8]) = H10 at b2 hF ⊢
  have b := b2
  clear b2
  replace ths := ths.append (WThs.cons (wthing_items (.inl (SqL.of hT2)) (WIts.one (wit_tup hT1 (.cons (.int _) .nil) (fun d hd => by rw [List.mem_singleton.mp hd]; exact sm1) (by decide))) (by show 1 ≤ 100; decide)) WThs.nil)
  clear hT1 hT2
  refine ⟨(by show 2 ≤ sizeLine; decide), fun A10 nA10 => ?_⟩
  obtain ⟨B2, b2, eB, hT1⟩ := b.put (o := (.tup [.int 0, .int 1])) nA10
  try replace hm1 := hm1.ex eB
  try replace hm2 := hm2.ex eB
  try replace hD := eB _ _ hD
  try replace hS := eB _ _ hS
  try replace hZ := eB _ _ hZ
  try replace hX := eB _ _ hX
  try replace hWd := eB _ _ hWd
  try replace hV := eB _ _ hV
  try replace hT1 := eB _ _ hT1
  try replace hT2 := eB _ _ hT2
  try replace hT3 := eB _ _ hT3
  try replace dW := dpAll_ex eB dW
  try replace prS := prS.ex eB
  try replace prW := prW.ex eB
  try replace ths := ths.ex eB
  try replace odds := odds.ex eB
  try replace hodd := hodd.ex eB
  try replace wds := wds.ex eB
  try replace hwd := hwd.ex eB
  try replace eAll := eAll.trans eB
  clear eB
  replace hF := Ex.new (o := (.tup [.int 0, .int 1])) nA10 _ _ hF
  clear b nA10
  generalize upd H10 A10 (.tup [.int 0, .int 1]) = H11 at b2 hF ⊢
  have b := b2
  clear b2
  refine ⟨(by show 1 ≤ sizeLine; decide), fun A11 nA11 => ?_⟩
  obtain ⟨B2, b2, eB, hT2⟩ := b.put (o := (.lst [.ref A10])) nA11
  try replace hm1 := hm1.ex eB
  try replace hm2 := hm2.ex eB
  try replace hD := eB _ _ hD
  try replace hS := eB _ _ hS
  try replace hZ := eB _ _ hZ
  try replace hX := eB _ _ hX
  try replace hWd := eB _ _ hWd
  try replace hV := eB _ _ hV
  try replace hT1 := eB _ _ hT1
  try replace hT2 := eB _ _ hT2
  try replace hT3 := eB _ _ hT3
  try replace dW := dpAll_ex eB dW
  try replace prS := prS.ex eB
  try replace prW := prW.ex eB
  try replace ths := ths.ex eB
  try replace odds := odds.ex eB
  try replace hodd := hodd.ex eB
  try replace wds := wds.ex eB
  try replace hwd := hwd.ex eB
  try replace eAll := eAll.trans eB
  clear eB
  replace hF := Ex.new (o := (.lst [.ref A10])) nA11 _ _ hF
  clear b nA11
  generalize upd H11 A11 (.lst [.ref A10]) = H12 at b2 hF ⊢
  have b := b2
  clear b2
  replace ths := ths.append (WThs.cons (wthing_items (.inl (SqL.of hT2)) (WIts.one (wit_tup hT1 (.cons (.int _) (.cons (.int _) .nil)) (sm_2 sm_0 sm1) (by decide))) (by show 1 ≤ 100; decide)) WThs.nil)
  clear hT1 hT2
  refine ⟨(by show 11 ≤ sizeLine; decide), fun E nE => ?_⟩
  obtain ⟨B2, b2, eB, hT1⟩ := b.put (o := (.lst [.ref A1, .ref A2, .non, .int 0, .str "", .ref A3, .bl true, .ref A5, .ref A7, .ref A9, .ref A11])) nE
  try replace hm1 := hm1.ex eB
  try replace hm2 := hm2.ex eB
  try replace hD := eB _ _ hD
  try replace hS := eB _ _ hS
  try replace hZ := eB _ _ hZ
  try replace hX := eB _ _ hX
  try replace hWd := eB _ _ hWd
  try replace hV := eB _ _ hV
  try replace hT1 := eB _ _ hT1
  try replace hT2 := eB _ _ hT2
  try replace hT3 := eB _ _ hT3
  try replace dW := dpAll_ex eB dW
  try replace prS := prS.ex eB
  try replace prW := prW.ex eB
  try replace ths := ths.ex eB
  try replace odds := odds.ex eB
  try replace hodd := hodd.ex eB
  try replace wds := wds.ex eB
  try replace hwd := hwd.ex eB
  try replace eAll := eAll.trans eB
  clear eB
  replace hF := Ex.new (o := (.lst [.ref A1, .ref A2, .non, .int 0, .str "", .ref A3, .bl true, .ref A5, .ref A7, .ref A9, .ref A11])) nE _ _ hF
  clear b nE
  generalize upd H12 E (.lst [.ref A1, .ref A2, .non, .int 0, .str "", .ref A3, .bl true, .ref A5, .ref A7, .ref A9, .ref A11]) = H13 at b2 hF ⊢
  have b := b2
  clear b2
  refine ⟨F, E, L, _, rfl, rfl, SqL.of hF, SqL.of (b.ex _ _ hT1), Nat.le_trans (show L.length + 11 ≤ 1000 by omega) big, fun R nR => ?_⟩
  have nRp := b.lp nR
  obtain ⟨B2, b2, eB, hR⟩ := b.put (o := .lst (L ++ [.ref A1, .ref A2, .non, .int 0, .str "", .ref A3, .bl true, .ref A5, .ref A7, .ref A9, .ref A11])) nR
  refine q _ B2 R _ b2 upd_same nRp ((ths.ex eB).sub fun y hy => ?_) (by simp; omega)
  simp only [List.mem_cons, List.mem_append, List.not_mem_nil, or_false] at hy ⊢
  rcases hy with h | rfl | rfl | rfl | rfl | rfl | rfl | rfl | rfl | rfl | rfl | rfl
  · simp [h]
  all_goals simp
end
end W

set_option Elab.async false
set_option linter.all false
set_option maxRecDepth 100000
set_option maxHeartbeats 16000000
/-! Words that are judged: the def. -/
namespace W
open PySem PySem.Spec PyProof.Rows L2 Evl G NdefX LamX Clo
def WdI (K : PySem.W.Frag) (n : Nat) (B : Hp) (x : V) : Prop := ∃ l js, x = .ref l ∧ WdAt K B l n js ∧ js.length ≤ 7
section
variable {P : Program} {w : World} {K : PySem.W.Frag} {mg : Str → Option Value} {base : Heap} {M P1 P2 : Addr} {H H' B : Hp}
theorem WdI.mono {n : Nat} (B B' : Hp) (x : V) (e : Ex B B') (h : WdI K n B x) : WdI K n B' x := let ⟨l, js, a, c, d⟩ := h; ⟨l, js, a, c.ex e, d⟩
theorem hid_bits {S : List Addr} (hl : ∀ a ∈ S, ∃ ys, H a = some (.lst ys)) {x : V} {bs : List Int} (h : Dp K H x (bitsD bs)) : Dp K (hidL S H) x (bitsD bs) := by
  unfold bitsD at h ⊢
  cases h with
  | @tup t ys _ hs ha =>
    have ha' : DpAll K (hidL S H) ys (bs.map PyData.int) := by
      clear hs
      induction bs generalizing ys with
      | nil => cases ha; exact .nil
      | cons b bs ih =>
        cases ha with
        | cons a c =>
          cases a
          exact .cons (.int b) (ih c)
    refine .tup ?_ ha'
    rcases hs with (hs | ⟨o, hs⟩) | hs
    · refine .inl (.inl (hidL_some.mpr ⟨fun z => ?_, hs⟩))
      obtain ⟨zs, hz⟩ := hl t z
      rw [hz] at hs
      cases hs
    · refine .inl (.inr ⟨o, hidL_some.mpr ⟨fun z => ?_, hs⟩⟩)
      obtain ⟨zs, hz⟩ := hl t z
      rw [hz] at hs
      cases hs
    · exact .inr hs
theorem hid_wd {S : List Addr} (hl : ∀ a ∈ S, ∃ ys, H a = some (.lst ys)) {l : Addr} {n : Nat} {js : List Nat} (n1 : l ∉ S) (h : WdAt K H l n js) : WdAt K (hidL S H) l n js := by
  obtain ⟨xs, h1, h2, h3⟩ := h
  refine ⟨xs, hidL_some.mpr ⟨n1, h1⟩, ?_, h3⟩
  clear h1 h3
  unfold wdL at h2 ⊢
  induction js generalizing xs with
  | nil => cases h2; exact .nil
  | cons j js ih =>
    cases h2 with
    | cons a c => exact .cons (hid_bits hl a) (ih _ c)
theorem if_word {σ : L2.St} {Q : VK} {y : V} {W F : Addr} {acc : List V} (h2 : σ[2]? = some (some y)) (h3 : σ[3]? = some (some (.ref F))) (hF : H F = some (.lst acc)) (a : y = .non → acc[0]? = some (.ref W)) (c : y ≠ .non → y = .ref W) (q : Q (.ref W) H) :
    tIf (tB (tNotN (tVar 2))) (tVar 2) (tOp (rIxL K) (tVar 3) (tC (.int 0))) σ H Q := by
  refine ⟨y, h2, _, rfl, ?_⟩
  by_cases z : y = .non
  · rw [decide_eq_true z]
    exact iteF ⟨_, h3, F, acc, 0, .ref W, rfl, rfl, SqL.of hF, atI_nat (j := 0) (a z), q⟩
  · rw [decide_eq_false z]
    refine iteT ⟨y, h2, ?_⟩
    rw [c z]
    exact q
def spLWords (K : PySem.W.Frag) : Sp := fun vs H Q _ => ∃ (p m : Addr) (y : V) (n o : Nat) (r : Rw), vs = [.ref p, .ref m, y] ∧ Pot H p ∧ ModAt K H m n o r ∧ (y = .non ∨ ∃ l js, y = .ref l ∧ WdAt K H l n js ∧ js.length ≤ 45 ∧ l ≠ p) ∧
  ∀ l xs H', ExBut p H H' → Pot H' p → H' l = some (.lst xs) → l ≠ p → WThs K (hidL [p] H') xs → xs.length ≤ 100 → Q (.ref l) H'
abbrev nLWords : List Str := ["_law_pot_here", "_law_model", "_law_parted", "_law_found", "_law_turn", "_law_word_here", "_law_odd", "_law_letter"]
theorem scLWords : FnScope nLWords ["_law_pot_here", "_law_model", "_law_parted"] (defScope dLWords) := ⟨rfl, rfl, rfl, by decide +kernel, rfl, by decide +kernel, by decide +kernel⟩
theorem okLWords {f : Addr} {fd : FuncData} (F : At K mg "_law_words" dLWords ["_law_pot_here", "_law_model", "_law_parted"] f fd) (T : Txt K mg) : FnOk P w K mg base CX0 4 f fd ["_law_pot_here", "_law_model", "_law_parted"] (spLWords K) := by
  obtain ⟨fW, gW, FW⟩ := T.lWord
  obtain ⟨fPk, gPk, FPk⟩ := T.pick
  have GW : FnOk P w K mg base CX0 3 fW gW ["_law_pot_here", "_law_width", "_law_most"] (spLWord K) := okLWord FW T
  have GPk : FnOk P w K mg base CX0 3 fPk gPk ["_law_pot_here", "_law_some"] (spPickL K) := (okPickL FPk T).mono (by decide)
  refine F.fn.ok scLWords (fun vs H Q E h => ?_) (fun cdv A outer s H vs Q E hr h => ?_)
  · obtain ⟨p, m, y, n, o, r, rfl, _⟩ := h
    rfl
  · obtain ⟨p, m, y, n, o, r, rfl, hp, hm, hy, k⟩ := h
    have nds := scLWords.nd
    have hu := hu_of hr
    refine ⟨_, (pss_cons (ps_setLc (i := 3) (own := [("_law_turn", 4)]) (g := (gName 4)) (by rfl) nds rfl rfl (sw_true rfl rfl rfl (by decide +kernel)) (pi_range1 (by rfl) T.range (pa_cons pe_int pa_nil)) (blkOk_by (own := [("_law_turn", 4)]) (N := nLWords) (sc := defScope dLWords) (by decide +kernel))
          (fun _ _ _ _ _ => (pg_name (i := 4) nds rfl (Or.inl rfl))) (fun _ _ _ _ _ => pts_nil) (fun _ _ _ _ _ => (pe_call GW hr (by rfl) FW.gl FW.fn.kp FW.bi .nil pass0 (pa_cons (pv 0) (pa_cons (pe_dget hu (pv 1) pe_str (fun _ _ => rfl)) (pa_cons pe_int pa_nil))))))
      (pss_cons (ps_set (i := 5) nds rfl (Or.inl rfl) (pe_ifExp (pt_cmp (pc_notN (pv 2))) (pv 2) (pe_ix ix_list (pv 3) pe_int (fun _ _ => rfl))))
      (pss_cons (ps_expr (pe_bm PySem.F.plainAttrs_list PySem.F.slot_list_extend PySem.F.type_list_extend mt_extend (pv 3) (pa_cons (pe_lst (pa_cons (pv 5) (pa_cons (pe_callTy (call_tup (K := K)) (by rfl) T.tuple (by decide +kernel) (pa_cons (pv 5) pa_nil)) (pa_cons (pe_slice sl_list (pv 5) po_none (po_some (pe_un un_neg pe_int))) (pa_cons (pe_op (op_catL (K := K)) (pv 5) (pe_slice sl_list (pv 5) po_none (po_some pe_int))) (pa_cons (pe_revL (pv 5)) (pa_cons (pe_op (op_catL (K := K)) (pv 5) (pv 5)) pa_nil))))))) pa_nil)))
      (pss_cons (ps_set (i := 6) nds rfl (Or.inl rfl) (pe_call GPk hr (by rfl) FPk.gl FPk.fn.kp FPk.bi .nil pass0 (pa_cons (pv 0) (pa_cons (pe_lst (pa_cons (pe_op op_repA (pe_tup (pa_cons pe_int pa_nil)) pe_int) (pa_cons (pe_op op_repA (pe_tup (pa_cons pe_int pa_nil)) pe_int) (pa_cons pe_non (pa_cons pe_int (pa_cons (pe_lst (pa_cons pe_int pa_nil)) (pa_cons (pe_tup (pa_cons pe_bl pa_nil)) (pa_cons pe_str (pa_cons (pe_tup (pa_cons pe_int (pa_cons pe_non pa_nil))) pa_nil))))))))) pa_nil))))
      (pss_cons (ps_expr (pe_bm PySem.F.plainAttrs_list PySem.F.slot_list_extend PySem.F.type_list_extend mt_extend (pv 3) (pa_cons (pe_lst (pa_cons (pe_op (op_catL (K := K)) (pv 5) (pe_lst (pa_cons (pv 6) pa_nil))) (pa_cons (pe_lst (pa_cons (pv 6) pa_nil)) (pa_cons (pe_lc (own := [("_law_letter", 7)]) (g := (gName 7)) (by rfl) nds (pi_list (pv 5)) (blkOk_by (own := [("_law_letter", 7)]) (N := nLWords) (sc := defScope dLWords) (by decide +kernel))
          (fun _ _ _ _ _ => (pg_name (i := 7) nds rfl (Or.inl rfl))) (fun _ _ _ _ _ => pts_nil) (fun _ _ _ _ _ => (pe_callTy (call_listK (K := K)) (by rfl) T.list (by decide +kernel) (pa_cons (pv 7) pa_nil)))) (pa_cons (pe_lc (own := [("_law_letter", 7)]) (g := (gName 7)) (by rfl) nds (pi_list (pv 5)) (blkOk_by (own := [("_law_letter", 7)]) (N := nLWords) (sc := defScope dLWords) (by decide +kernel))
          (fun _ _ _ _ _ => (pg_name (i := 7) nds rfl (Or.inl rfl))) (fun _ _ _ _ _ => pts_nil) (fun _ _ _ _ _ => (pe_op (op_catAK (K := K)) (pv 7) (pe_tup (pa_cons pe_int pa_nil))))) pa_nil))))) pa_nil)))
      (pss_one (ps_ret (pe_op (op_catL (K := K)) (pv 3) (pe_lst (pa_cons (pe_lst pa_nil) (pa_cons (pe_tup pa_nil) (pa_cons pe_non (pa_cons pe_int (pa_cons pe_str (pa_cons pe_dnewK (pa_cons pe_bl (pa_cons (pe_lst (pa_cons (pe_tup pa_nil) pa_nil)) (pa_cons (pe_lst (pa_cons (pe_tup (pa_cons pe_int pa_nil)) pa_nil)) (pa_cons (pe_lst (pa_cons (pe_tup (pa_cons pe_int pa_nil)) pa_nil)) (pa_cons (pe_lst (pa_cons (pe_tup (pa_cons pe_int (pa_cons pe_int pa_nil))) pa_nil)) pa_nil)))))))))))))))))))), ?_⟩
    have hn : n ≤ 4 := (id hm).choose_spec.2.2.hw
    have b := Bs.init hp
    have hm1 := mod_hid hm hp
    have hy1 : y = .non ∨ ∃ l js, y = .ref l ∧ WdAt K (hidL [p] H) l n js ∧ js.length ≤ 45 := hy.imp id fun ⟨l, js, a, c, d, e⟩ => ⟨l, js, a, hid_wd (fun a ha => by rw [List.mem_singleton.mp ha]; exact let ⟨i, j, h, _⟩ := hp; ⟨_, h⟩) (by simpa using e) c, d⟩
    generalize hidL [p] H = B at b hm1 hy1
    refine ⟨6, rfl, by decide, by decide, fun Fd nF => ?_⟩
    obtain ⟨bF, nFp⟩ := b.more (o := .lst []) nF
    refine lc_it (g := gName 4) (tt := tYes) (vs := [4]) (walk_range (lo := 0) (n := (6 : Int).toNat)) (fun i Hc => ∃ B' acc, Bs [Fd, p] p H B' Hc ∧ Ex B B' ∧ Hc Fd = some (.lst acc) ∧ (∀ x ∈ acc, WdI K n B' x) ∧ acc.length = i) ⟨B, [], bF, Ex.refl _, upd_same, fun x hx => (by cases hx), rfl⟩ (fun _ _ _ _ => trivial) (fun i x Ha Hb hi q yy => ?_) (fun Hc q => ?_)
    · obtain ⟨rfl, rfl⟩ := yy
      obtain ⟨B', acc, b', eB, hFa, its, la⟩ := q
      obtain ⟨ml, hml, _, _⟩ := id ((hm1.ex eB).ex b'.ex)
      refine ⟨wipe_set _ 4 _, ?_⟩
      refine ⟨_, rfl, _, rfl, m, _, rfl, kvM_w hml, p, n, 7, rfl, b'.pot, hn, by decide, fun l js H4 e4 hp4 nl wd lj => ?_⟩
      have b4 := b'.but e4 hp4
      have hF4 := e4 _ _ hFa nFp
      obtain ⟨b5, eB5⟩ := b4.again
      have hl : ∀ a ∈ [Fd, p], ∃ ys, H4 a = some (.lst ys) := fun a ha => by
        simp only [List.mem_cons, List.not_mem_nil, or_false] at ha
        rcases ha with rfl | rfl
        · exact ⟨_, hF4⟩
        · exact let ⟨i, j, h, _⟩ := hp4; ⟨_, h⟩
      have wd5 := hid_wd hl (b'.lps nl) wd
      refine ⟨acc, hF4, Nat.lt_of_le_of_lt (show acc.length ≤ 1000 by have : i < 6 := hi; omega) (by decide), hidL [Fd, p] H4, acc ++ [.ref l], b5.mut (by simp) nFp, eB.trans eB5, upd_same, fun x hx => ?_, by simp [la]⟩
      rcases List.mem_append.mp hx with h | h
      · exact WdI.mono _ _ _ eB5 (its x h)
      · rw [List.mem_singleton.mp h]
        exact ⟨l, js, rfl, wd5, lj⟩
    · obtain ⟨B1, acc, b1, eB, hF, its, la⟩ := q
      have la6 : acc.length = 6 := la
      have hm2 := hm1.ex eB
      have hy2 : y = .non ∨ ∃ l js, y = .ref l ∧ WdAt K B1 l n js ∧ js.length ≤ 45 := hy1.imp id fun ⟨l, js, a, c, d⟩ => ⟨l, js, a, c.ex eB, d⟩
      clear b bF hm1 hy1 eB nF
      have b := b1
      clear b1
      obtain ⟨W, js, hW, lW, c1, c2⟩ : ∃ W js, WdAt K B1 W n js ∧ js.length ≤ 45 ∧ (y = .non → acc[0]? = some (.ref W)) ∧ (y ≠ .non → y = .ref W) := by
        rcases hy2 with rfl | ⟨l, js, rfl, a, c⟩
        · obtain ⟨x, hx⟩ : ∃ x, acc[0]? = some x := ⟨acc[0]'(by omega), List.getElem?_eq_getElem (by omega)⟩
          obtain ⟨l, js, rfl, a, c⟩ := its x (List.mem_of_getElem? hx)
          exact ⟨l, js, a, by omega, fun _ => hx, fun z => absurd rfl z⟩
        · exact ⟨l, js, a, c, fun z => (by cases z), fun _ => rfl⟩
      have ths : WThs K B1 acc := fun x hx => by
        obtain ⟨l, js, rfl, a, c⟩ := its x hx
        obtain ⟨xs, h1, h2, h3⟩ := a.ltl
        exact wthing_items (.inl (SqL.of h1)) (h2.its hn) (by omega)
      obtain ⟨xS, hS, wds, lxS⟩ := hW.ltl
      clear its hy2 hm2 hW
      dsimp only [gName, tSeq, tDrop, tAsg, tRet]
      refine if_word (K := K) rfl rfl hF c1 c2 ?_
      try dsimp only [gName, tSeq, tDrop, tAsg, tRet]
      refine wext_1 (K := K) rfl rfl b hF (by simp) nFp hS (wds.its hn) (by omega) (by omega) fun H2 B2 L1 b2 eB hF2 ths1 lL1 => ?_
      try replace hm1 := hm1.ex eB
      try replace hm2 := hm2.ex eB
      try replace hD := eB _ _ hD
      try replace hS := eB _ _ hS
      try replace hZ := eB _ _ hZ
      try replace hX := eB _ _ hX
      try replace hWd := eB _ _ hWd
      try replace hV := eB _ _ hV
      try replace hT1 := eB _ _ hT1
      try replace hT2 := eB _ _ hT2
      try replace hT3 := eB _ _ hT3
      try replace dW := dpAll_ex eB dW
      try replace prS := prS.ex eB
      try replace prW := prW.ex eB
      try replace ths := ths.ex eB
      try replace odds := odds.ex eB
      try replace hodd := hodd.ex eB
      try replace wds := wds.ex eB
      try replace hwd := hwd.ex eB
      try replace eAll := eAll.trans eB
      clear eB
      clear b hF
      have b := b2
      have hF := hF2
      clear b2 hF2
      replace ths := ths.append ths1
      clear ths1
      try dsimp only [gName, tSeq, tDrop, tAsg, tRet]
      refine wodd (K := K) rfl b fun v H3 B3 e3 b3 eB odds => ?_
      try replace hm1 := hm1.ex eB
      try replace hm2 := hm2.ex eB
      try replace hD := eB _ _ hD
      try replace hS := eB _ _ hS
      try replace hZ := eB _ _ hZ
      try replace hX := eB _ _ hX
      try replace hWd := eB _ _ hWd
      try replace hV := eB _ _ hV
      try replace hT1 := eB _ _ hT1
      try replace hT2 := eB _ _ hT2
      try replace hT3 := eB _ _ hT3
      try replace dW := dpAll_ex eB dW
      try replace prS := prS.ex eB
      try replace prW := prW.ex eB
      try replace ths := ths.ex eB
      try replace odds := odds.ex eB
      try replace hodd := hodd.ex eB
      try replace wds := wds.ex eB
      try replace hwd := hwd.ex eB
      try replace eAll := eAll.trans eB
      clear eB
      replace hF := e3 _ _ hF nFp
      clear b e3
      have b := b3
      clear b3
      try dsimp only [gName, tSeq, tDrop, tAsg, tRet]
      refine wext_2 (K := K) (n := n) hn (by show 7 < 8; decide) rfl rfl rfl b hF (by simp) nFp hS wds odds (by omega) (by rw [List.length_append, lL1, la6]; decide) fun H4 B4 L2 b4 eB hF4 ths2 lL2 => ?_
      try replace hm1 := hm1.ex eB
      try replace hm2 := hm2.ex eB
      try replace hD := eB _ _ hD
      try replace hS := eB _ _ hS
      try replace hZ := eB _ _ hZ
      try replace hX := eB _ _ hX
      try replace hWd := eB _ _ hWd
      try replace hV := eB _ _ hV
      try replace hT1 := eB _ _ hT1
      try replace hT2 := eB _ _ hT2
      try replace hT3 := eB _ _ hT3
      try replace dW := dpAll_ex eB dW
      try replace prS := prS.ex eB
      try replace prW := prW.ex eB
      try replace ths := ths.ex eB
      try replace odds := odds.ex eB
      try replace hodd := hodd.ex eB
      try replace wds := wds.ex eB
      try replace hwd := hwd.ex eB
      try replace eAll := eAll.trans eB
      clear eB
      clear b hF
      have b := b4
      have hF := hF4
      clear b4 hF4
      replace ths := ths.append ths2
      clear ths2
      try dsimp only [gName, tSeq, tDrop, tAsg, tRet]
      refine wret (K := K) rfl b hF ths (by rw [List.length_append, List.length_append, lL1, lL2, la6]; decide) fun H' B' l xs b' hl nl th lxs => ?_
      refine k l xs H' b'.bt b'.pot hl nl (th.ex ?_) lxs
      exact hidL_of b'.ex fun a ha => b'.no a (by rw [List.mem_singleton.mp ha]; exact b'.mem)
end
end W

set_option Elab.async false
set_option linter.all false
set_option maxRecDepth 100000
set_option maxHeartbeats 16000000
/-! One of three. -/
namespace W
open PySem PySem.Spec PyProof.Rows L2 Evl G NdefX LamX Clo
def gu3 {α : Type} : List α → List α → List α := fun us ws => match us, ws with
  | [], [a, b, c] => [c, b, a]
  | _, _ => []
theorem gu3_rel {vs zs : List V} {us ws : List Value} (h : Vals vs us) (q : Vals zs ws) : Vals (gu3 vs zs) (gu3 us ws) := by
  cases h with
  | cons a b => exact .nil
  | nil =>
    cases q with
    | nil => exact .nil
    | cons a b =>
      cases b with
      | nil => exact .nil
      | cons c d =>
        cases d with
        | nil => exact .nil
        | cons e f =>
          cases f with
          | nil => exact .cons e (.cons c (.cons a .nil))
          | cons g i => exact .nil
theorem kb3 {K : PySem.W.Frag} {x qual p q r : Str} {de : Stmt} {f : Addr} {fd : FuncData} (F : Fun K x qual de f fd)
    (h : ∀ (kV doc pm : Value) (an : Option Addr) (cdv ct a b c : Value), bindArgs (PySem.W.fnOf x qual (defArgs de) (defBody de) (defScope de) .none kV doc pm an cdv ct) ⟨[], [(r, a), (q, b), (p, c)]⟩ = pure [(p, c), (q, b), (r, a)]) : KBinds K fd [p, q, r] [r, q, p] gu3 gu3 := by
  obtain ⟨oc, od, kV, doc, pm, an, cdv, ct, osl, rfl, lk, hcd⟩ := F.ex
  refine ⟨fun s us ws X hl => ?_, gu3_rel⟩
  match us, ws, hl with
  | [], [a, b, c], _ => exact .of_eq (h kV doc pm an cdv ct a b c)
/-- all but the pot and the tables stays -/
def ExtB (p : Addr) (H H' : Hp) : Prop := ∀ b o, H b = some o → b ≠ p → (∀ ps, o ≠ .tbl ps) → H' b = some o
section
variable {P : Program} {w : World} {K : PySem.W.Frag} {mg : Str → Option Value} {base : Heap} {M P1 P2 : Addr} {H H' B H1 H2 : Hp}
theorem ExtB.but {p : Addr} (e : ExtB p H H1) (f : ExBut p H1 H2) : ExtB p H H2 := fun b o h n t => f _ _ (e b o h n t) n
theorem ExtB.ext {p : Addr} (e : ExtB p H H1) (f : LamX.ExtN H1 H2) : ExtB p H H2 := fun b o h n t => f _ _ (e b o h n t) t
theorem tabsN_but {T : List NTab} {p : Addr} (t : TabsN T H) (hp : Pot H p) (e : ExBut p H H1) : TabsN T H1 := fun x hx => by
  obtain ⟨ps, h1, h2, h3⟩ := t x hx
  refine ⟨ps, e _ _ h1 (pot_ne hp h1 fun _ z => by cases z), h2, fun pos cv hc => ?_⟩
  obtain ⟨c, e1, e2⟩ := h3 pos cv hc
  exact ⟨c, e1, e _ _ e2 (pot_ne hp e2 fun _ z => by unfold CodeO at z; cases z)⟩
theorem tabsN_lst {T : List NTab} {l : Addr} {xs : List V} {o : HO} (t : TabsN T H) (h : H l = some (.lst xs)) : TabsN T (upd H l o) := fun p hp => by
  obtain ⟨ps, h1, h2, h3⟩ := t p hp
  have ne : p.1 ≠ l := fun z => by
    rw [z, h] at h1
    cases h1
  refine ⟨ps, by rw [upd_ne ne]; exact h1, h2, fun pos cv hc => ?_⟩
  obtain ⟨c, e1, e2⟩ := h3 pos cv hc
  have ne2 : c ≠ l := fun z => by
    rw [z, h] at e2
    unfold CodeO at e2
    cases e2
  exact ⟨c, e1, by rw [upd_ne ne2]; exact e2⟩
theorem modN {m : Addr} {n o : Nat} {r : Rw} (h : ModAt K H m n o r) (e : LamX.ExtN H H') : ModAt K H' m n o r := by
  obtain ⟨l, h1, h2, h3⟩ := h
  exact ⟨l, e _ _ h1 (fun _ z => by cases z), dp_exN e h2, h3⟩
theorem potN {p : Addr} (h : Pot H p) (e : LamX.ExtN H H') : Pot H' p := by
  obtain ⟨i, j, h1, h2⟩ := h
  exact ⟨i, j, e _ _ h1 (fun _ z => by cases z), h2⟩
theorem thingN {x : V} {d : PyData} (h : Thing K H x d) (e : LamX.ExtN H H') : Thing K H' x d :=
  ⟨thN h.1 e, fun ds hd => let ⟨a, b, c⟩ := h.2.1 ds hd; ⟨a, b, fun q e1 e2 e3 => let ⟨o, u, z, y⟩ := c q e1 e2 e3; ⟨o, u, e _ _ z (fun _ z => by cases z), y⟩⟩, h.2.2⟩
theorem bools_showy (b c : Bool) : Showy (.list [.bool b, .bool c]) := (sz_of (c := 40) (e := 3) (by cases b <;> cases c <;> decide +kernel)).showy (by decide) (by decide)
theorem wd_np {p l : Addr} {n : Nat} {js : List Nat} (h : WdAt K H l n js) (hp : Pot H p) : l ≠ p := fun z => by
  obtain ⟨xs, h1, h2, _⟩ := h
  obtain ⟨i, j, h3, _⟩ := hp
  rw [z, h3] at h1
  cases h1
  unfold wdL at h2
  cases js with
  | nil => cases h2
  | cons j js =>
    cases h2 with
    | cons a _ => cases a
theorem part_K {vs : List V} {Q : VK} {E : XK} {q1 q2 : Addr} {x : V} {d : PyData} {n o : Nat} {r1 r2 : Rw} {b : Bool} (pk : PartK n r1 r2 d b) (ev : vs = [.ref q1, .ref q2, x]) (a1 : MacAt K M H q1 n o r1) (a2 : MacAt K M H q2 n o r2) (hd : Dd K H x d) (sz : szD d ≤ 100) (q : ∀ H', Ex H H' → Q (.bl b) H') : spPart K M vs H Q E := by
  refine ⟨q1, q2, x, d, n, o, r1, r2, ev, a1, a2, hd, sz, ?_⟩
  rcases pk with ⟨w0, rfl⟩ | ⟨js, hj, hd, rfl⟩
  · exact .inl ⟨w0, q⟩
  · exact .inr ⟨js, hj, hd, q⟩
def spRight (T : List NTab) : Sp := fun vs H Q _ => ∃ p : Addr, vs = [.ref p] ∧ Pot H p ∧ TabsN T H ∧ ∀ H', ExtB p H H' → TabsN T H' → Q (.bl true) H'
abbrev nRight : List Str := ["_law_pot_here", "_law_one", "_law_other", "_law_near", "_law_far", "_law_thing", "_law_shown", "_law_due", "_law_told"]
theorem scRight : FnScope nRight ["_law_pot_here"] (defScope dRight) := ⟨rfl, rfl, rfl, by decide +kernel, rfl, by decide +kernel, by decide +kernel⟩
theorem okRight {f fR c fM2 c2 : Addr} {fd gR gM2 : FuncData} (F : At K mg "_law_right" dRight ["_law_pot_here"] f fd) (T : Txt K mg) (MT : MacT K mg M) (FR : At K mg "is_relation" dIsRelation ["one", "other", "value"] fR gR) (TB : LamX.TabB base mg c P2) (hcode : gR.code = .ref c)
    (FV : At K mg "pair_moves" dPairMoves ["one", "other"] fM2 gM2) (TBm : LamX.TabB base mg c2 P1) (hcm : gM2.code = .ref c2) (hP : P1 ≠ P2) : Fn P w K mg base CX0 9 f fd ["_law_pot_here"] (spRight (TN P1 P2)) := by
  obtain ⟨fM, gM, FM⟩ := T.machine
  obtain ⟨fD, gD, FD⟩ := T.draw
  obtain ⟨fPk, gPk, FPk⟩ := T.pick
  obtain ⟨fMt, gMt, FMt⟩ := T.mate
  obtain ⟨fMd, gMd, FMd⟩ := T.made
  obtain ⟨fTh, gTh, FTh⟩ := T.things
  obtain ⟨fWs, gWs, FWs⟩ := T.lWords
  obtain ⟨fPr, gPr, FPr⟩ := T.pairs
  obtain ⟨fLR, gLR, FLR⟩ := T.lIsRel
  obtain ⟨fLP, gLP, FLP⟩ := T.lIsPart
  obtain ⟨fP, gP, FP⟩ := T.isParting
  have GM : FnOk P w K mg base CX0 8 fM gM ["_law_pot_here", "_law_most", "_law_width", "_law_outs"] (spMach K) := (okMach FM T).mono (by decide)
  have GD : FnOk P w K mg base CX0 8 fD gD ["_law_pot_here", "_law_faces"] spDraw := (okDraw FD T).mono (by decide)
  have GPk : FnOk P w K mg base CX0 8 fPk gPk ["_law_pot_here", "_law_some"] (spPickL K) := (okPickL FPk T).mono (by decide)
  have GMt : FnOk P w K mg base CX0 8 fMt gMt ["_law_pot_here", "_law_model"] (spMate K) := (okMate FMt T).mono (by decide)
  have GMd : FnOk P w K mg base CX0 8 fMd gMd ["_law_model"] (spMade K M) := okMade FMd T MT
  have GTh : FnOk P w K mg base CX0 8 fTh gTh ["_law_pot_here", "_law_one", "_law_other"] (spThings K) := (okThings FTh T).mono (by decide)
  have GWs : FnOk P w K mg base CX0 8 fWs gWs ["_law_pot_here", "_law_model", "_law_parted"] (spLWords K) := (okLWords FWs T).mono (by decide)
  have GPr : FnOk P w K mg base CX0 8 fPr gPr ["_law_one", "_law_other", "_law_first"] (spPairs K) := (okPairs FPr T).mono (by decide)
  have GLR : Fn P w K mg base CX0 8 fLR gLR ["_law_one", "_law_other", "_law_value"] (spLRel K) := Fn.mono (okLRel FLR T) (by decide)
  have GLP : Fn P w K mg base CX0 8 fLP gLP ["_law_one", "_law_other", "_law_value"] (spLPart K) := Fn.mono (okLPart FLP T) (by decide)
  have GR : Fn P w K mg base CX0 8 fR gR ["one", "other", "value"] (spRel K M (TN P1 P2)) := Fn.mono (okRel FR T MT TB hcode FV TBm hcm hP) (by decide)
  have GP : Fn P w K mg base CX0 8 fP gP ["one", "other", "value"] (spPart K M) := Fn.of ((okPart FP T MT).mono (by decide))
  have kR : KBinds K gR ["one", "other", "value"] ["value", "other", "one"] gu3 gu3 := kb3 FR.fn fun _ _ _ _ _ _ _ _ _ => rfl
  have kP : KBinds K gP ["one", "other", "value"] ["value", "other", "one"] gu3 gu3 := kb3 FP.fn fun _ _ _ _ _ _ _ _ _ => rfl
  refine okN F.fn scRight (fun vs H Q E h => ?_) (fun cdv A outer s H vs Q E hr h => ?_)
  · obtain ⟨p, rfl, _⟩ := h
    rfl
  · obtain ⟨p, rfl, hp, hT, k⟩ := h
    have nds := scRight.nd
    refine ⟨_, (pss_cons (ps_set (i := 1) nds rfl (Or.inl rfl) (pe_call GM hr.rm (by rfl) FM.gl FM.fn.kp FM.bi .nil pass0 (pa_cons (pv 0) (pa_cons pe_int (pa_cons (pe_call GD hr.rm (by rfl) FD.gl FD.fn.kp FD.bi .nil pass0 (pa_cons (pv 0) (pa_cons pe_int pa_nil))) (pa_cons (pe_call GPk hr.rm (by rfl) FPk.gl FPk.fn.kp FPk.bi .nil pass0 (pa_cons (pv 0) (pa_cons (pe_lst (pa_cons pe_int (pa_cons pe_int (pa_cons pe_int (pa_cons pe_int pa_nil))))) pa_nil))) pa_nil))))))
      (pss_cons (ps_set (i := 2) nds rfl (Or.inl rfl) (pe_call GMt hr.rm (by rfl) FMt.gl FMt.fn.kp FMt.bi .nil pass0 (pa_cons (pv 0) (pa_cons (pv 1) pa_nil))))
      (pss_cons (ps_par (i := 3) (j := 4) rfl nds rfl rfl (by decide) (by rfl) (by rfl) (pa_cons (pe_call GMd hr.rm (by rfl) FMd.gl FMd.fn.kp FMd.bi .nil pass0 (pa_cons (pv 1) pa_nil)) (pa_cons (pe_call GMd hr.rm (by rfl) FMd.gl FMd.fn.kp FMd.bi .nil pass0 (pa_cons (pv 2) pa_nil)) pa_nil)) (by rfl))
      (pss_cons (ps_for PassesOwn.never rfl (pi_list (pe_call GTh hr.rm (by rfl) FTh.gl FTh.fn.kp FTh.bi .nil pass0 (pa_cons (pv 0) (pa_cons (pv 1) (pa_cons (pv 2) pa_nil))))) (pg_name (i := 5) nds rfl (Or.inl rfl))
        (pss_cons (ps_par (i := 6) (j := 7) rfl nds rfl rfl (by decide) (by rfl) (by rfl) (pa_cons (pe_callB (call_rqK (K := K) hr) (by rfl) T.repr (by decide +kernel) (pa_cons (pv 5) pa_nil)) (pa_cons (pc GLR hr (by rfl) FLR.gl FLR.fn.kp FLR.bi .nil pass0 (pa_cons (pv 1) (pa_cons (pv 2) (pa_cons (pv 5) pa_nil)))) pa_nil)) (by rfl))
      (pss_cons (ps_set (i := 8) nds rfl (Or.inl rfl) (pe_lst (pa_cons (pc GR hr (by rfl) FR.gl FR.fn.kp FR.bi .nil pass0 (pa_cons (pv 3) (pa_cons (pv 4) (pa_cons (pv 5) pa_nil)))) (pa_cons (pcK0 GR hr (by rfl) FR.gl FR.fn.kp kR pass0 (pk_cons (pv 5) (pk_cons (pv 4) (pk_cons (pv 3) pk_nil)))) pa_nil))))
      (pss_one (ps_if (PW.pt (pw_or (pt_cmpR op_ne (pe_callB (call_rqK (K := K) hr) (by rfl) T.repr (by decide +kernel) (pa_cons (pv 8) pa_nil)) (pe_callB (call_rqK (K := K) hr) (by rfl) T.repr (by decide +kernel) (pa_cons (pe_lst (pa_cons (pv 7) (pa_cons (pv 7) pa_nil))) pa_nil)) (nomark _)) (pw_or1 (pt_cmpR op_ne (pe_callB (call_rqK (K := K) hr) (by rfl) T.repr (by decide +kernel) (pa_cons (pv 5) pa_nil)) (pv 6) (nomark _)))))
        (pss_one (ps_ret pe_bl)) pss_nil)))))
      (pss_cons (ps_for PassesOwn.never rfl (pi_list (pe_call GWs hr.rm (by rfl) FWs.gl FWs.fn.kp FWs.bi .nil pass0 (pa_cons (pv 0) (pa_cons (pv 1) (pa_cons (pe_ix ix_tup (pe_call GPr hr.rm (by rfl) FPr.gl FPr.fn.kp FPr.bi .nil pass0 (pa_cons (pv 1) (pa_cons (pv 2) (pa_cons (pe_tup (pa_cons pe_int (pa_cons pe_int pa_nil))) pa_nil)))) pe_int (fun _ _ => rfl)) pa_nil))))) (pg_name (i := 5) nds rfl (Or.inl rfl))
        (pss_cons (ps_par (i := 6) (j := 7) rfl nds rfl rfl (by decide) (by rfl) (by rfl) (pa_cons (pe_callB (call_rqK (K := K) hr) (by rfl) T.repr (by decide +kernel) (pa_cons (pv 5) pa_nil)) (pa_cons (pc GLP hr (by rfl) FLP.gl FLP.fn.kp FLP.bi .nil pass0 (pa_cons (pv 1) (pa_cons (pv 2) (pa_cons (pv 5) pa_nil)))) pa_nil)) (by rfl))
      (pss_cons (ps_set (i := 8) nds rfl (Or.inl rfl) (pe_lst (pa_cons (pc GP hr (by rfl) FP.gl FP.fn.kp FP.bi .nil pass0 (pa_cons (pv 3) (pa_cons (pv 4) (pa_cons (pv 5) pa_nil)))) (pa_cons (pcK0 GP hr (by rfl) FP.gl FP.fn.kp kP pass0 (pk_cons (pv 5) (pk_cons (pv 4) (pk_cons (pv 3) pk_nil)))) pa_nil))))
      (pss_one (ps_if (PW.pt (pw_or (pt_cmpR op_ne (pe_callB (call_rqK (K := K) hr) (by rfl) T.repr (by decide +kernel) (pa_cons (pv 8) pa_nil)) (pe_callB (call_rqK (K := K) hr) (by rfl) T.repr (by decide +kernel) (pa_cons (pe_lst (pa_cons (pv 7) (pa_cons (pv 7) pa_nil))) pa_nil)) (nomark _)) (pw_or1 (pt_cmpR op_ne (pe_callB (call_rqK (K := K) hr) (by rfl) T.repr (by decide +kernel) (pa_cons (pv 5) pa_nil)) (pv 6) (nomark _)))))
        (pss_one (ps_ret pe_bl)) pss_nil)))))
      (pss_one (ps_ret pe_bl))))))), ?_⟩
    -- two machines
    refine ⟨_, rfl, _, rfl, p, 3, rfl, hp, by decide, by decide, fun n0 H1 n0a n0b e1 hp1 => ?_⟩
    obtain ⟨n, rfl⟩ := Int.eq_ofNat_of_zero_le n0a
    have eB : ExtB p H H1 := fun b o h nb _ => e1 _ _ h nb
    have hT1 := tabsN_but hT hp e1
    refine ⟨_, rfl, (by show 4 ≤ sizeLine; decide), fun L1 nL1 => ?_⟩
    have eL := Ex.new (o := .lst [.int 0, .int 1, .int 1, .int 2]) nL1
    have nLp : L1 ≠ p := fun z => by obtain ⟨zs, hz⟩ := hp1.lst; rw [z, hz] at nL1; cases nL1
    refine ⟨p, L1, _, rfl, hp1.ex eL, SqL.of upd_same, nLp, by simp, by show 4 ≤ 100; decide, fun v H2 hv e2 hp2 => ?_⟩
    replace eB := (eB.but (ExBut.of eL)).but e2
    have hT2 := tabsN_but (hT1.ext eL) (hp1.ex eL) e2
    obtain ⟨o, rfl, ho⟩ : ∃ o : Nat, v = .int (o : Int) ∧ o ≤ 4 := by
      simp only [List.mem_cons, List.not_mem_nil, or_false] at hv
      rcases hv with rfl | rfl | rfl | rfl
      · exact ⟨0, rfl, by decide⟩
      · exact ⟨1, rfl, by decide⟩
      · exact ⟨1, rfl, by decide⟩
      · exact ⟨2, rfl, by decide⟩
    refine ⟨p, 4, n, o, rfl, hp2, by decide, by decide, by omega, ho, fun m1 r1 H3 e3 hp3 nm1 hm1 l1 => ?_⟩
    replace eB := eB.but e3
    have hT3 := tabsN_but hT2 hp2 e3
    refine ⟨_, rfl, _, rfl, p, m1, n, o, r1, rfl, hp3, hm1, by omega, fun m2 r2 H4 e4 hp4 hm2 l2 => ?_⟩
    replace eB := eB.but e4
    have hT4 := tabsN_but hT3 hp3 e4
    replace hm1 := hm1.pot hp3 e4
    refine ⟨_, rfl, m1, n, o, r1, rfl, hm1, fun q1 H5 e5 nq1 mac1 => ⟨_, rfl, m2, n, o, r2, rfl, hm2.ex e5, fun q2 H6 e6 nq2 mac2 => ?_⟩⟩
    have e46 := e5.trans e6
    replace eB := eB.but (ExBut.of e46)
    have hT6 := hT4.ext e46
    replace hm1 := hm1.ex e46
    replace hm2 := hm2.ex e46
    replace mac1 := mac1.ex e6
    have hp6 := hp4.ex e46
    have few : r1.length * r2.length ≤ 4 * 11 := Nat.mul_le_mul l1 (by omega)
    have g1 := (id hm1).choose_spec.2.2
    have g2 := (id hm2).choose_spec.2.2
    clear hT hT1 hT2 hT3 hT4 hp1 hp2 hp3 hp4 e1 e2 e3 e4 e5 e6 e46 eL hv nL1
    -- relations
    refine ⟨_, _, rfl, _, rfl, _, rfl, _, rfl, p, m1, m2, n, o, r1, r2, rfl, hp6, hm1, hm2, by omega, by omega, by omega, fun l xs H7 e7 hp7 hl nlp ths lxs => ?_⟩
    replace eB := eB.but e7
    have hT7 := tabsN_but hT6 hp6 e7
    replace hm1 := hm1.pot hp6 e7
    replace hm2 := hm2.pot hp6 e7
    replace mac1 := mac1.pot hp6 e7
    replace mac2 := mac2.pot hp6 e7
    replace ths := ths.ex hidL_ex
    clear hT6 hp6 e7
    refine ⟨l, rfl, ⟨_, SqL.of hl⟩, ?_⟩
    refine for_it (walk_list (K := K) (a := l) (xs := xs)) (fun i σ Hc => (∃ v5 v6 v7 v8, σ = [some (.ref p), some (.ref m1), some (.ref m2), some (.ref q1), some (.ref q2), v5, v6, v7, v8]) ∧ LamX.ExtN H7 Hc ∧ TabsN (TN P1 P2) Hc) ⟨⟨_, _, _, _, rfl⟩, fun _ _ h _ => h, hT7⟩ (fun i σ Hc _ q => SqL.of (q.2.1 _ _ hl (fun _ z => by cases z))) (fun i x σ Hc Hc' hi q yy => ?_) (fun σ Hc q => ?_)
    · obtain ⟨rfl, ex⟩ := yy
      obtain ⟨⟨v5, v6, v7, v8, rfl⟩, eN, hTc⟩ := q
      obtain ⟨d, th⟩ := ths x (List.mem_of_getElem? ex)
      replace th := thingN th eN
      have c1 := modN hm1 eN
      have c2 := modN hm2 eN
      have d1 := macN mac1 eN
      have d2 := macN mac2 eN
      refine ⟨_, rfl, x, d, rfl, th.1.dq, th.2.2, _, rfl, _, rfl, _, rfl, m1, m2, x, d, n, o, r1, r2, rfl, c1, c2, th.1.dq, th.2.1, by omega, by omega, fun H8 e8 => ?_⟩
      refine ⟨_, _, rfl, _, rfl, _, rfl, _, rfl, q1, q2, x, d, n, o, r1, r2, rfl, d1.ex e8, d2.ex e8, th.1.ex e8, hTc.ext e8, fun H9 eN9 hT9 _ => ?_⟩
      have d1' := macN (d1.ex e8) eN9
      have d2' := macN (d2.ex e8) eN9
      have th9 := thingN (th.ex e8) eN9
      refine ⟨_, rfl, _, rfl, _, rfl, q1, q2, x, d, n, o, r1, r2, rfl, d1', d2', th9.1, hT9, fun H10 eN10 hT10 _ => ?_⟩
      refine ⟨(by show 2 ≤ sizeLine; decide), fun L nL => ?_⟩
      have eL := Ex.new (o := .lst [.bl (relD n r1 r2 d), .bl (relD n r1 r2 d)]) nL
      have th10 := (thingN th9 eN10).ex eL
      have hL : (upd H10 L (.lst [.bl (relD n r1 r2 d), .bl (relD n r1 r2 d)])) L = some (.lst [.bl (relD n r1 r2 d), .bl (relD n r1 r2 d)]) := upd_same
      have eAll : LamX.ExtN Hc' (upd H10 L (.lst [.bl (relD n r1 r2 d), .bl (relD n r1 r2 d)])) := fun b o h t => eL _ _ (eN10 _ _ (eN9 _ _ (e8 _ _ h) t) t)
      have hTL := hT10.ext eL
      generalize upd H10 L (.lst [.bl (relD n r1 r2 d), .bl (relD n r1 r2 d)]) = H11 at th10 hL eAll hTL ⊢
      refine ⟨_, rfl, .ref L, .list [.bool (relD n r1 r2 d), .bool (relD n r1 r2 d)], rfl, .lst (SqL.of hL) (.cons (.bl _) (.cons (.bl _) .nil)), bools_showy _ _, _, rfl, _, rfl, (by show 2 ≤ sizeLine; decide), fun L2 nL2 => ?_⟩
      have eL2 := Ex.new (o := .lst [.bl (relD n r1 r2 d), .bl (relD n r1 r2 d)]) nL2
      refine ⟨.ref L2, .list [.bool (relD n r1 r2 d), .bool (relD n r1 r2 d)], rfl, .lst (SqL.of upd_same) (.cons (.bl _) (.cons (.bl _) .nil)), bools_showy _ _, rfl, _, rfl, ?_⟩
      rw [show (!decide (V.str (PyData.list [.bool (relD n r1 r2 d), .bool (relD n r1 r2 d)]).shown = V.str (PyData.list [.bool (relD n r1 r2 d), .bool (relD n r1 r2 d)]).shown)) = false by rw [decide_eq_true rfl]; rfl]
      have th12 := th10.ex eL2
      refine iteF ⟨_, rfl, x, d, rfl, th12.1.dq, th12.2.2, _, rfl, rfl, _, rfl, ?_⟩
      rw [show (!decide (V.str d.shown = V.str d.shown)) = false by rw [decide_eq_true rfl]; rfl]
      exact iteF ⟨⟨_, _, _, _, rfl⟩, fun b o h t => eL2 _ _ (eAll _ _ (eN _ _ h t) t), hTL.ext eL2⟩
    · obtain ⟨⟨v5, v6, v7, v8, rfl⟩, eN, hTc⟩ := q
      have c1 := modN hm1 eN
      have c2 := modN hm2 eN
      have d1 := macN mac1 eN
      have d2 := macN mac2 eN
      have hpc := potN hp7 eN
      replace eB := eB.ext eN
      clear hm1 hm2 mac1 mac2 hp7 eN hl ths
      -- partings
      refine ⟨_, rfl, _, rfl, _, rfl, _, rfl, (by show 2 ≤ sizeLine; decide), fun z0 nz0 => ?_⟩
      have e0 := Ex.new (o := .tup [.int 0, .int 0]) nz0
      refine ⟨m1, m2, z0, n, o, r1, r2, (0, 0), rfl, c1.ex e0, c2.ex e0, upd_same, g1.pos, g2.pos, by omega, fun t' D ps vs ws y H8 e8 ht' po hy => ?_⟩
      have e08 := e0.trans e8
      have hp8 := hpc.ex e08
      refine ⟨t', _, 1, y, rfl, rfl, SqT.of ht', rfl, ?_⟩
      refine ⟨p, m1, y, n, o, r1, rfl, hp8, c1.ex e08, hy.imp id (fun ⟨l, js, a, c, d⟩ => ⟨l, js, a, c, by omega, wd_np c hp8⟩), fun l2 xs2 H9 e9 hp9 hl2 nlp2 ths2 lxs2 => ?_⟩
      have f1 := (c1.ex e08).pot hp8 e9
      have f2 := (c2.ex e08).pot hp8 e9
      have a1 := (d1.ex e08).pot hp8 e9
      have a2 := (d2.ex e08).pot hp8 e9
      have hT9 := tabsN_but (hTc.ext e08) hp8 e9
      replace eB := (eB.but (ExBut.of e08)).but e9
      replace ths2 := ths2.ex hidL_ex
      refine ⟨l2, rfl, ⟨_, SqL.of hl2⟩, ?_⟩
      refine for_it (walk_list (K := K) (a := l2) (xs := xs2)) (fun i σ Hc => (∃ v5 v6 v7 v8, σ = [some (.ref p), some (.ref m1), some (.ref m2), some (.ref q1), some (.ref q2), v5, v6, v7, v8]) ∧ Ex H9 Hc) ⟨⟨_, _, _, _, rfl⟩, Ex.refl _⟩ (fun i σ Hc _ q => SqL.of (q.2 _ _ hl2)) (fun i x σ Hd Hd' hi q yy => ?_) (fun σ Hd q => ?_)
      · obtain ⟨rfl, ex⟩ := yy
        obtain ⟨⟨v5, v6, v7, v8, rfl⟩, eN⟩ := q
        obtain ⟨d, th⟩ := ths2 x (List.mem_of_getElem? ex)
        replace th := th.ex eN
        refine ⟨_, rfl, x, d, rfl, th.2.1, th.2.2.2.2, _, rfl, _, rfl, _, rfl, m1, m2, x, d, n, o, r1, r2, rfl, f1.ex eN, f2.ex eN, th.2.1, th.2.2.1, fun bb H10 pk e10 => ?_⟩
        have eA := eN.trans e10
        have th10 := th.ex e10
        refine ⟨_, _, rfl, _, rfl, _, rfl, _, rfl, ?_⟩
        dsimp only [tNil]
        refine part_K pk rfl (a1.ex eA) (a2.ex eA) th10.1 th10.2.2.2.1 fun H11 e11 => ?_
        have eA1 := eA.trans e11
        have th11 := th10.ex e11
        refine ⟨_, rfl, _, rfl, _, rfl, ?_⟩
        dsimp only [tNil]
        refine part_K pk rfl (a1.ex eA1) (a2.ex eA1) th11.1 th11.2.2.2.1 fun H12 e12 => ?_
        have eA2 := eA1.trans e12
        have th12 := th11.ex e12
        refine ⟨(by show 2 ≤ sizeLine; decide), fun L nL => ?_⟩
        have eL := Ex.new (o := .lst [.bl bb, .bl bb]) nL
        refine ⟨_, rfl, .ref L, .list [.bool bb, .bool bb], rfl, .lst (SqL.of upd_same) (.cons (.bl _) (.cons (.bl _) .nil)), bools_showy _ _, _, rfl, _, rfl, (by show 2 ≤ sizeLine; decide), fun L2 nL2 => ?_⟩
        have eL2 := Ex.new (o := .lst [.bl bb, .bl bb]) nL2
        refine ⟨.ref L2, .list [.bool bb, .bool bb], rfl, .lst (SqL.of upd_same) (.cons (.bl _) (.cons (.bl _) .nil)), bools_showy _ _, rfl, _, rfl, ?_⟩
        rw [show (!decide (V.str (PyData.list [.bool bb, .bool bb]).shown = V.str (PyData.list [.bool bb, .bool bb]).shown)) = false by rw [decide_eq_true rfl]; rfl]
        have th14 := (th12.ex eL).ex eL2
        refine iteF ⟨_, rfl, x, d, rfl, th14.2.1, th14.2.2.2.2, _, rfl, rfl, _, rfl, ?_⟩
        rw [show (!decide (V.str d.shown = V.str d.shown)) = false by rw [decide_eq_true rfl]; rfl]
        exact iteF ⟨⟨_, _, _, _, rfl⟩, (eA2.trans eL).trans eL2⟩
      · obtain ⟨⟨v5, v6, v7, v8, rfl⟩, eN⟩ := q
        exact k Hd (eB.but (ExBut.of eN)) (hT9.ext eN)
end
end W

set_option Elab.async false
set_option linter.all false
set_option maxRecDepth 100000
set_option maxHeartbeats 16000000
/-! The law. -/
namespace W
open PySem PySem.Spec PyProof.Rows L2 Evl G NdefX LamX Clo
section
variable {P : Program} {w : World} {K : PySem.W.Frag} {mg : Str → Option Value} {base : Heap} {M P1 P2 : Addr}
theorem rep_all (n : Nat) : (List.replicate n true).all id = true := by simp
def spLaw (K : PySem.W.Frag) (T : List NTab) : Sp := fun vs H Q _ => ∃ (a : Addr) (ns : List Int), vs = [.ref a] ∧ SqL K H a (ns.map V.int) ∧ ns.length ≤ 1000 ∧ TabsN T H ∧ ∀ H', Q (.bl true) H'
abbrev nLaw : List Str := ["_law_script", "_law_k"]
theorem scLaw : FnScope nLaw ["_law_script"] (defScope dLaw) := ⟨rfl, rfl, rfl, by decide +kernel, rfl, by decide +kernel, by decide +kernel⟩
theorem okLaw {f fR c fM2 c2 : Addr} {fd gR gM2 : FuncData} (F : At K mg "law" dLaw ["_law_script"] f fd) (T : Txt K mg) (MT : MacT K mg M) (FR : At K mg "is_relation" dIsRelation ["one", "other", "value"] fR gR) (TB : LamX.TabB base mg c P2) (hcode : gR.code = .ref c)
    (FV : At K mg "pair_moves" dPairMoves ["one", "other"] fM2 gM2) (TBm : LamX.TabB base mg c2 P1) (hcm : gM2.code = .ref c2) (hP : P1 ≠ P2) : Fn P w K mg base CX0 10 f fd ["_law_script"] (spLaw K (TN P1 P2)) := by
  obtain ⟨fP, gP, FP⟩ := T.pot
  obtain ⟨fX, gX, FX⟩ := T.right
  have GP : FnOk P w K mg base CX0 9 fP gP ["_law_script", "_law_k"] (spPot K) := (okPot FP T).mono (by decide)
  have GR : Fn P w K mg base CX0 9 fX gX ["_law_pot_here"] (spRight (TN P1 P2)) := okRight FX T MT FR TB hcode FV TBm hcm hP
  refine G.okN F.fn scLaw (fun vs H Q E h => ?_) (fun cdv A outer s H vs Q E hr h => ?_)
  · obtain ⟨a, ns, rfl, _⟩ := h
    rfl
  · obtain ⟨a, ns, rfl, hs, hl, hT, k⟩ := h
    have nds := scLaw.nd
    refine ⟨_, (pss_one (ps_ret (pe_callB (cr_all rfl) (by rfl) T.all (by decide +kernel) (pa_cons (pe_lc (own := [("_law_k", 1)]) (g := (gName 1)) (by rfl) nds (pi_rangeK (by rfl) T.range (pa_cons (pe_callB (call_max2 rfl) (by rfl) T.max (by decide +kernel) (pa_cons pe_int (pa_cons (pe_callB (call_min2 rfl) (by rfl) T.min (by decide +kernel) (pa_cons (pe_callB call_len_seq (by rfl) T.len PySem.boot_len (pa_cons (pv 0) pa_nil)) (pa_cons pe_int pa_nil))) pa_nil))) pa_nil)) (blkOk_by (own := [("_law_k", 1)]) (N := nLaw) (sc := defScope dLaw) (by decide +kernel))
          (fun _ _ _ _ _ => (pg_name (i := 1) nds rfl (Or.inl rfl))) (fun _ _ _ _ _ => pts_nil) (fun _ _ _ _ _ => (pc GR hr (by rfl) FX.gl FX.fn.kp FX.bi .nil pass0 (pa_cons (pe_call GP hr.rm (by rfl) FP.gl FP.fn.kp FP.bi .nil pass0 (pa_cons (pv 0) (pa_cons (pv 1) pa_nil))) pa_nil)))) pa_nil)))), ?_⟩
    refine ⟨_, rfl, a, _, rfl, .inl hs, _, _, rfl, _, _, rfl, _, rfl, ?_⟩
    have hj : 1 ≤ (if (if (3 : Int) < ((ns.map V.int).length : Int) then (3 : Int) else ((ns.map V.int).length : Int)) > 1 then (if (3 : Int) < ((ns.map V.int).length : Int) then (3 : Int) else ((ns.map V.int).length : Int)) else 1) ∧ (if (if (3 : Int) < ((ns.map V.int).length : Int) then (3 : Int) else ((ns.map V.int).length : Int)) > 1 then (if (3 : Int) < ((ns.map V.int).length : Int) then (3 : Int) else ((ns.map V.int).length : Int)) else 1) ≤ 3 := by
      constructor <;> split <;> (try split) <;> omega
    generalize (if (if (3 : Int) < ((ns.map V.int).length : Int) then (3 : Int) else ((ns.map V.int).length : Int)) > 1 then (if (3 : Int) < ((ns.map V.int).length : Int) then (3 : Int) else ((ns.map V.int).length : Int)) else 1) = j at hj ⊢
    refine ⟨by omega, by omega, fun D nD => ?_⟩
    refine lc_it (g := gName 1) (tt := tYes) (vs := [1]) walk_range (fun i Hc => LamX.ExtN H Hc ∧ TabsN (TN P1 P2) Hc ∧ Hc D = some (.lst ((List.replicate i true).map V.bl))) ⟨.of (Ex.new nD), hT.ext (Ex.new nD), upd_same⟩ (fun i Hc _ _ => trivial) (fun i x Ha Hb hi q yy => ?_) (fun Hc q => ?_)
    · obtain ⟨rfl, rfl⟩ := yy
      obtain ⟨eN, hTa, hD⟩ := q
      refine ⟨wipe_set _ 1 _, ?_⟩
      refine ⟨_, rfl, _, rfl, a, ns, _, rfl, by omega, by omega, sl_exN eN hs, hl, fun p H2 np e2 hp => ?_⟩
      refine ⟨p, rfl, hp, hTa.ext e2, fun H3 eB hT3 => ?_⟩
      have xN : LamX.ExtN Hb H3 := fun b o hb no => eB _ _ (e2 _ _ hb) (fun z => by rw [z, np] at hb; cases hb) no
      have hD3 := xN _ _ hD (fun _ z => by cases z)
      refine ⟨_, hD3, Nat.lt_of_le_of_lt (show _ ≤ 1000 by rw [List.length_map, List.length_replicate]; omega) (by decide), ?_, ?_, ?_⟩
      · intro b u hb no
        rw [upd_ne fun z => by rw [z, nD] at hb; cases hb]
        exact (eN.trans xN) b u hb no
      · exact tabsN_lst hT3 hD3
      · rw [upd_same, List.replicate_succ', List.map_append]
        rfl
    · obtain ⟨_, _, hD⟩ := q
      refine ⟨D, _, rfl, SqL.of hD, ?_⟩
      rw [rep_all]
      exact k Hc
end
end W

set_option Elab.async false
set_option linter.all false
set_option maxRecDepth 100000
set_option maxHeartbeats 4000000
/-! The end of a law whose promise wants that no repr is under way, with tables of code objects. -/
namespace G
open PySem PySem.Spec PyProof.Rows L2
/-- tracked at first: the tables, and the script where it is not written out -/
def hp0 (ts : List Addr) (a : Addr) (u : Option HO) : Hp := fun b => if b ∈ ts then some (.tbl #[]) else if b = a then u else none
section
variable {ts : List Addr} {a : Addr} {u : Option HO}
theorem hp0_t {b : Addr} (h : b ∈ ts) : hp0 ts a u b = some (.tbl #[]) := if_pos h
theorem hp0_a (h : a ∉ ts) : hp0 ts a u a = u := (if_neg h).trans (if_pos rfl)
theorem hp0_is {b : Addr} {o : HO} (e : hp0 ts a u b = some o) : (b ∈ ts ∧ o = .tbl #[]) ∨ (b = a ∧ b ∉ ts ∧ u = some o) := by
  unfold hp0 at e
  by_cases h : b ∈ ts
  · rw [if_pos h] at e
    exact .inl ⟨h, (Option.some.inj e).symm⟩
  · rw [if_neg h] at e
    by_cases h2 : b = a
    · rw [if_pos h2] at e
      exact .inr ⟨h2, h, e⟩
    · rw [if_neg h2] at e
      cases e
end
theorem end_call {P : Program} {w : World} {K : PySem.W.Frag} {mg mb : Str → Option Value} {n : Nat} {fa a : Addr} {cs : List (Addr × Addr)} {fd : FuncData} {x : Str} {pro : Sp} {s1 : Shared} {vs : List Value} {ns : List Int}
    (KX : K.In s1.heap) (hns : s1.heap.Ns mainGlobals mg) (hb : s1.heap.Ns builtinsNs mb) (hbb : ∀ x : Str, x ≠ "__name__" → mb x = bootBuiltins x) (hlim : s1.heap.NoLimit) (hg : s1.gens = #[])
    (hT : ∀ p ∈ cs, s1.heap.get? p.2 = some { cls := .none, data := .fields #[] }) (nT : ∀ p ∈ cs, K.lookup p.2 = none) (hC : ∀ p ∈ cs, PySem.W.CodeHd s1.heap p.1 p.2)
    (hbm : ∃ (bm : Addr) (ob : Obj), mg "__builtins__" = some (.ref bm) ∧ bm ≠ builtinsNs ∧ s1.heap.get? bm = some ob ∧ ob.cls = .type "module" ∧ ob.dict = some builtinsNs ∧ ob.data = .plain)
    (ha : s1.heap.get? a = some { cls := .type "list", data := .seq vs.toArray }) (hi : IntsAre vs ns) (hl : ns.length ≤ sizeLine) (hr : Room n callerA)
    (F : ∀ ba : Heap, K.In ba → ba.Ns mainGlobals mg → (∀ p ∈ cs, LamX.TabB ba mg p.1 p.2) → Fn P w K mg ba CX0 n fa fd [x] pro) (hbind : ∀ (s : Shared) (u : Value), BindsTo s fd ⟨[u], []⟩ [(x, u)])
    (hpro : ∀ H : Hp, (∀ p ∈ cs, H p.2 = some (.tbl #[])) → SqL K H a (ns.map V.int) → pro [.ref a] H (fun v _ => v = .bl true) fun _ _ _ => False) :
    codeAny (model P w) callerA (.call (.ref fa) ⟨[.ref a], []⟩) (fun r s' => r = .ok (.ret (.bool true)) ∧ OldK s1.heap s'.heap ∧ s'.os = s1.os ∧ AllBare s'.gens) s1 := by
  have rel := vals_ints hi
  have vl := hi.length
  have atT : ∀ {b : Addr}, b ∈ cs.map (·.2) → s1.heap.get? b = some { cls := .none, data := .fields #[] } := fun {b} m => by
    obtain ⟨p, hp, e⟩ := List.mem_map.mp m
    rw [← e]
    exact hT p hp
  have aT : a ∉ cs.map (·.2) := fun m => by
    have q := (atT m).symm.trans ha
    exact nomatch (congrArg Obj.data (Option.some.inj q))
  obtain ⟨u, hu, hKa, hseq⟩ : ∃ u : Option HO, (∀ o, u = some o → ∃ xs, o = .frz { cls := .type "list", data := .seq vs.toArray } (.lst xs) ∧ xs = ns.map V.int) ∧ (u ≠ none → K.lookup a = none) ∧ SqL K (hp0 (cs.map (·.2)) a u) a (ns.map V.int) := by
    cases hk : K.lookup a with
    | some o =>
      have e := (KX a o hk).symm.trans ha
      cases e
      exact ⟨none, (fun o z => nomatch z), (fun z => absurd rfl z), .inr ⟨_, vs.toArray, _, hk, rfl, rfl, rfl, by rw [List.size_toArray, vl]; exact hl, by simpa using rel⟩⟩
    | none => exact ⟨some _, (fun o z => ⟨_, (Option.some.inj z).symm, rfl⟩), (fun _ => rfl), .inl (.inr ⟨_, hp0_a aT⟩)⟩
  generalize hH : hp0 (cs.map (·.2)) a u = H at hseq
  have hHt : ∀ {b : Addr}, b ∈ cs.map (·.2) → H b = some (.tbl #[]) := fun m => by rw [← hH]; exact hp0_t m
  have hHis : ∀ {b : Addr} {o : HO}, H b = some o → (b ∈ cs.map (·.2) ∧ o = .tbl #[]) ∨ (b = a ∧ b ∉ cs.map (·.2) ∧ u = some o) := fun e => hp0_is (by rw [hH]; exact e)
  have hok : HOk P w H s1.heap := fun b o e => by
    rcases hHis e with ⟨m, rfl⟩ | ⟨rfl, _, eu⟩
    · exact atT m
    · obtain ⟨xs, rfl, rfl⟩ := hu o eu
      exact ⟨ha, by rw [List.length_map]; exact hl, vs, _, rel, ha⟩
  have un0 : ∀ {b : Addr} {o : Obj}, s1.heap.get? b = some o → (∀ vs n, o.data ≠ .seq vs n) → o.data ≠ .fields #[] → H b = none := fun {b o} e h1 h2 => by
    cases q : H b with
    | none => rfl
    | some z =>
      rcases hHis q with ⟨m, _⟩ | ⟨eb, _, _⟩
      · have e2 := e.symm.trans (atT m)
        cases e2
        exact absurd rfl h2
      · subst eb
        have e2 := e.symm.trans ha
        cases e2
        exact absurd rfl (h1 _ _)
  have keepB : ∀ {b : Addr} {o : Obj}, s1.heap.get? b = some o → (∀ vs n, o.data ≠ .seq vs n) → o.data ≠ .fields #[] → (hidT s1.heap H).get? b = some o := fun e h1 h2 => hidT_get e (un0 e h1 h2)
  have nsB : ∀ {b : Addr} {m : Str → Option Value}, s1.heap.Ns b m → (hidT s1.heap H).Ns b m := fun {b m} ⟨o, es, ep, e, d, r⟩ => ⟨o, es, ep, keepB e (fun vs n z => by rw [d] at z; cases z) (fun z => by rw [d] at z; cases z), d, r⟩
  have KB : K.In (hidT s1.heap H) := fun b o e => hidT_get (KX b o e) (by
    cases q : H b with
    | none => rfl
    | some z =>
      rcases hHis q with ⟨m, _⟩ | ⟨eb, _, eu⟩
      · obtain ⟨p, hp, ep⟩ := List.mem_map.mp m
        rw [← ep, nT p hp] at e
        cases e
      · subst eb
        rw [hKa (by rw [eu]; simp)] at e
        cases e)
  have md : L2.Mod K mg (hidT s1.heap H) := ⟨KB, nsB hns, ⟨mb, nsB hb, hbb⟩, by
    obtain ⟨mc, h1, h2⟩ := hlim
    exact ⟨mc, nsB h1, h2⟩⟩
  have TB : ∀ p ∈ cs, LamX.TabB (hidT s1.heap H) mg p.1 p.2 := fun p hp => by
    have tp := hT p hp
    refine ⟨?_, ?_, fun z => ?_⟩
    · obtain ⟨o, us, file, tf, flags, tg, inF, text, tt, g1, r1, r2, r3, r⟩ := hC p hp
      refine ⟨o, us, file, tf, flags, tg, inF, text, tt, keepB g1 (fun vs n z => by rw [r2] at z; cases z) (fun z => ?_), r1, r2, r3, r⟩
      rw [r2] at z
      cases z
      simp at r3
    · obtain ⟨bm, ob, b1, b2, b3, b4, b5, b6⟩ := hbm
      refine ⟨bm, ob, b1, b2, fun z => ?_, fun z => ?_, keepB b3 (fun vs n z => by rw [b6] at z; cases z) (fun z => by rw [b6] at z; cases z), b4, b5, b6⟩
      · obtain ⟨o, es, ep, e, d, _⟩ := hns
        rw [z, e] at b3
        cases b3
        rw [d] at b6
        cases b6
      · rw [z, tp] at b3
        cases b3
        cases b6
    · obtain ⟨o, es, ep, e, d, _⟩ := hns
      rw [z, tp] at e
      cases e
      cases d
  have e0 : Env0 P w K mg (hidT s1.heap H) callerA [] s1 H := ⟨rfl, md, fun b o e => of_hidT e, Nat.le_of_eq (hidT_size _ _), trivial, fun b hb => (by cases hb), hok, .of_eq hg⟩
  refine codeAny_mono ((F _ KB (nsB hns) TB).go callerA [] s1 H ⟨[.ref a], []⟩ [.ref a] [.ref a] _ _ ⟨hr, rfl⟩ e0 (hbind s1 (.ref a)) (.cons rfl .nil) (hpro H (fun p hp => hHt (List.mem_map.mpr ⟨p, hp, rfl⟩)) hseq)) fun r s' h => ?_
  cases r with
  | error e => exact (show False from h).elim
  | ok fl =>
    cases fl with
    | next => exact False.elim h
    | brk => exact False.elim h
    | cont => exact False.elim h
    | ret z =>
      obtain ⟨v, H', os, bare, un, hok', rz, q⟩ := h
      have q : v = .bl true := q
      subst q
      obtain rfl : z = Value.bool true := rz
      have more : ∀ {b : Addr}, b ∈ cs.map (·.2) → ∃ ms : Array Value, s'.heap.get? b = some { cls := .none, data := .fields ms } := fun {b} m => by
        obtain ⟨ms, e⟩ := un.tbls b #[] (hHt m)
        exact ⟨_, hok' b _ e⟩
      have old : ∀ {b : Addr} {o : Obj}, b ∉ cs.map (·.2) → s1.heap.get? b = some o → s'.heap.get? b = some o := fun {b o} nm e => by
        cases y : H b with
        | none => exact un.keep b o e y (fun z => by cases z) (fun z => by cases z)
        | some t =>
          rcases hHis y with ⟨m, _⟩ | ⟨_, _, eu⟩
          · exact absurd m nm
          · obtain ⟨xs, rfl, _⟩ := hu t eu
            obtain ⟨g1, _⟩ := hok b _ y
            obtain ⟨g2, _⟩ := hok' b _ (un.frzs b _ _ y)
            have := e.symm.trans g1
            cases this
            exact g2
      refine ⟨rfl, ⟨fun b o e => ?_, fun b o e => ?_⟩, os, bare⟩
      · by_cases m : b ∈ cs.map (·.2)
        · obtain ⟨ms, g2⟩ := more m
          obtain ⟨p, hp, ep⟩ := List.mem_map.mp m
          have e2 := e.symm.trans (atT m)
          cases e2
          refine .inr (.inl ⟨?_, rfl, #[], ms, rfl, by rw [Array.empty_append]; exact g2⟩)
          rw [← ep]
          exact ((hC p hp).tab (hT p hp)).isCodeTable
        · exact .inl (old m e)
      · by_cases m : b ∈ cs.map (·.2)
        · obtain ⟨ms, g2⟩ := more m
          exact ⟨_, g2⟩
        · exact ⟨o, old m e⟩
/-- what the head has told of the law's promise -/
def LawAt (l : PySem.W.OpenLaw) (w : World) (K : PySem.W.Frag) (n most : Nat) (x : Str) (mg : Str → Option Value) (fa : Addr) (h : Heap) : Prop :=
  ∃ (fd : FuncData) (cs : List (Addr × Addr)) (pro : Sp), (∀ p ∈ cs, h.get? p.2 = some { cls := .none, data := .fields #[] }) ∧ (∀ p ∈ cs, K.lookup p.2 = none) ∧ (∀ p ∈ cs, PySem.W.CodeHd h p.1 p.2) ∧ (∀ (s : Shared) (u : Value), BindsTo s fd ⟨[u], []⟩ [(x, u)]) ∧
    (∀ (H : Hp) (a : Addr) (ns : List Int), ns.length ≤ most → (∀ z ∈ ns, Builtin.Int.intBits z ≤ 1048576) → (∀ p ∈ cs, H p.2 = some (.tbl #[])) → SqL K H a (ns.map V.int) → pro [.ref a] H (fun v _ => v = .bl true) fun _ _ _ => False) ∧
    ∀ ba : Heap, K.In ba → ba.Ns mainGlobals mg → (∀ p ∈ cs, LamX.TabB ba mg p.1 p.2) → Fn l.prog w K mg ba CX0 n fa fd [x] pro
theorem walk {l : PySem.W.OpenLaw} {most n : Nat} {q : Program} {loose : List Str} {XP : (Str → Option Value) → Heap → Prop} {YP : World → Heap → Prop} {d : DefRec} {K : Params → PySem.W.Frag} {x : Str}
    (hm : l.most = some most) (hm2 : most ≤ sizeLine) (hdf : d.params.defaults = []) (hr : Room n callerA) (hY : ∀ (w : World) (h : Heap), YP w h → (K w.params).In h)
    (F : ∀ (w : World) (mg : Str → Option Value) (fa : Addr) (h : Heap), YP w h → (K w.params).In h → h.Ns mainGlobals mg → mg d.name = some (.ref fa) → LawAt l w (K w.params) n most x mg fa h) :
    PySem.W.WalkO q loose XP YP l.row.toRowW d [] (fun f vs => PySem.call f vs) := by
  refine Att.attach_callB hm hdf fun w s0 s1 mg mb fa o pm cd doc a vs ns G Y ho hd hcd hmg hobj hints hlen hbits hg => ?_
  have KX := hY w _ Y
  obtain ⟨fd, cs, pro, hT, nT, hC, hb, hpro, hF⟩ := F w mg fa _ Y KX G.T.g hmg
  exact end_call KX G.T.g G.T.b G.T.builtins G.T.nolimit hg hT nT hC G.T.bmain hobj hints (Nat.le_trans hlen hm2) hr hF hb fun H h1 h2 => hpro H a ns hlen hbits h1 h2
end G

set_option Elab.async false
set_option linter.all false
set_option maxRecDepth 100000
set_option maxHeartbeats 8000000
/-! What the head tells, put together. -/
namespace W
open PySem PySem.Spec PyProof.Rows L2 Evl G NdefX LamX Clo
section
variable {K : PySem.W.Frag} {h : Heap} {mg : Str → Option Value}
/-- a def of the top, by its four facts -/
theorem at_mk {x : Str} {de : Stmt} {ps : List Str} {f : Addr} {oc kV doc pm cdv ct : Value} {od an : Option Addr} {osl : Array (Option Value)} (X : K.In h) (G : h.Ns mainGlobals mg) (b : ∀ (kV doc pm : Value) (an : Option Addr) (cdv ct : Value) (us : List Value), us.length = ps.length → bindArgs (PySem.W.fnOf x x (defArgs de) (defBody de) (defScope de) .none kV doc pm an cdv ct) ⟨us, []⟩ = pure (ps.zip us))
    (a : PySem.W.nsIn K mainGlobals x = some (some (.ref f)))
    (l : K.lookup f = some ⟨oc, od, .func (PySem.W.fnOf x x (defArgs de) (defBody de) (defScope de) .none kV doc pm an cdv ct), osl⟩) (c : PySem.W.codeIn K cdv x = true) (k : PySem.W.keepIn K (.ref f) = true) : ∃ f fd, At K mg x de ps f fd := by
  have F := fun_mk (st := de) l c k
  exact ⟨f, _, F, PySem.W.mg_of X G a, F.binds b⟩
theorem none_mk {x : Str} (X : K.In h) (G : h.Ns mainGlobals mg) (z : PySem.W.nsIn K mainGlobals x = some none) : mg x = none := PySem.W.mg_none_of X G z
theorem str_mk {x z : Str} {t : Tok} (X : K.In h) (G : h.Ns mainGlobals mg) (a : PySem.W.nsIn K mainGlobals x = some (some (.str z t))) : ∃ t, mg x = some (.str z t) := ⟨t, PySem.W.mg_of X G a⟩
theorem int_mk {x : Str} {i : Int} {t : Tok} (X : K.In h) (G : h.Ns mainGlobals mg) (a : PySem.W.nsIn K mainGlobals x = some (some (.int i t))) : ∃ t, mg x = some (.int i t) := ⟨t, PySem.W.mg_of X G a⟩
end
theorem at_mkC {K : PySem.W.Frag} {h : Heap} {mg : Str → Option Value} {x : Str} {de : Stmt} {ps : List Str} {f c : Addr} {oc kV doc pm ct : Value} {od an : Option Addr} {osl : Array (Option Value)} (X : K.In h) (G : h.Ns mainGlobals mg) (b : ∀ (kV doc pm : Value) (an : Option Addr) (cdv ct : Value) (us : List Value), us.length = ps.length → bindArgs (PySem.W.fnOf x x (defArgs de) (defBody de) (defScope de) .none kV doc pm an cdv ct) ⟨us, []⟩ = pure (ps.zip us))
    (a : PySem.W.nsIn K mainGlobals x = some (some (.ref f)))
    (l : K.lookup f = some ⟨oc, od, .func (PySem.W.fnOf x x (defArgs de) (defBody de) (defScope de) .none kV doc pm an (.ref c) ct), osl⟩) (cd : PySem.W.codeIn K (.ref c) x = true) (k : PySem.W.keepIn K (.ref f) = true) : ∃ f fd, At K mg x de ps f fd ∧ fd.code = .ref c := by
  have F := fun_mk (st := de) l cd k
  exact ⟨f, _, ⟨F, PySem.W.mg_of X G a, F.binds b⟩, rfl⟩
theorem mth_mk {K : PySem.W.Frag} {x qual : Str} {de : Stmt} {ps : List Str} {C f : Addr} {oc kV doc pm cdv ct : Value} {od an : Option Addr} {osl : Array (Option Value)} (b : ∀ (kV doc pm : Value) (an : Option Addr) (cdv ct : Value) (us : List Value), us.length = ps.length → bindArgs (PySem.W.fnOf x qual (defArgs de) (defBody de) (defScope de) .none kV doc pm an cdv ct) ⟨us, []⟩ = pure (ps.zip us))
    (l : K.lookup f = some ⟨oc, od, .func (PySem.W.fnOf x qual (defArgs de) (defBody de) (defScope de) .none kV doc pm an cdv ct), osl⟩) (c : PySem.W.codeIn K cdv qual = true) (k : PySem.W.keepIn K (.ref f) = true) (at_ : PySem.W.findIn K (.ref C) x = some (some (.ref f))) (fn : PySem.W.isFn K (.ref f) = true) : ∃ f fd, MthT K C x qual de ps f fd := by
  have F := fun_mk (st := de) l c k
  exact ⟨f, _, F, ⟨at_, fn, k⟩, F.binds b⟩
theorem init_mk {K : PySem.W.Frag} {x qual : Str} {de : Stmt} {ps : List Str} {C f : Addr} {oc kV doc pm cdv ct : Value} {od an : Option Addr} {osl : Array (Option Value)} (b : ∀ (kV doc pm : Value) (an : Option Addr) (cdv ct : Value) (us : List Value), us.length = ps.length → bindArgs (PySem.W.fnOf x qual (defArgs de) (defBody de) (defScope de) .none kV doc pm an cdv ct) ⟨us, []⟩ = pure (ps.zip us))
    (l : K.lookup f = some ⟨oc, od, .func (PySem.W.fnOf x qual (defArgs de) (defBody de) (defScope de) .none kV doc pm an cdv ct), osl⟩) (c : PySem.W.codeIn K cdv qual = true) (k : PySem.W.keepIn K (.ref f) = true) (at_ : PySem.W.findIn K (.ref C) x = some (some (.ref f))) (fn : PySem.W.isFn K (.ref f) = true) : ∃ f fd, Fun K x qual de f fd ∧ PySem.W.findIn K (.ref C) x = some (some (.ref f)) ∧ PySem.W.isFn K (.ref f) = true ∧ Binds K fd ps [] := by
  have F := fun_mk (st := de) l c k
  exact ⟨f, _, F, at_, fn, F.binds b⟩
theorem prp_mk {K : PySem.W.Frag} {x qual : Str} {de : Stmt} {C p f : Addr} {rest : List Value} {oc kV doc pm cdv ct : Value} {od an : Option Addr} {osl : Array (Option Value)} (b : ∀ (kV doc pm : Value) (an : Option Addr) (cdv ct : Value) (us : List Value), us.length = (["self"] : List Str).length → bindArgs (PySem.W.fnOf x qual (defArgs de) (defBody de) (defScope de) .none kV doc pm an cdv ct) ⟨us, []⟩ = pure ((["self"] : List Str).zip us))
    (at_ : PySem.W.findIn K (.ref C) x = some (some (.ref p))) (ge : PySem.W.specialIn K (.ref p) "__get__" = some (some (.builtin "property.__get__"))) (ta : PySem.W.takesIn K (.ref p) = some true) (re : PySem.W.recIn K p "property" = some (.ref f :: rest))
    (l : K.lookup f = some ⟨oc, od, .func (PySem.W.fnOf x qual (defArgs de) (defBody de) (defScope de) .none kV doc pm an cdv ct), osl⟩) (c : PySem.W.codeIn K cdv qual = true) (k : PySem.W.keepIn K (.ref f) = true) : ∃ p f fd, PrpT K C x qual de p f fd := by
  have F := fun_mk (st := de) l c k
  exact ⟨p, f, _, F, ⟨at_, ge, ta, rest, re⟩, F.binds b⟩
theorem most_mk {K : PySem.W.Frag} {C : Addr} {t : Tok} (a : PySem.W.findCls K (.ref C) (.type "type") "MOST_STATES" = some (.val (.int 64 t))) : ∃ t, PySem.W.findCls K (.ref C) (.type "type") "MOST_STATES" = some (.val (.int 64 t)) := ⟨t, a⟩
theorem facts {K : PySem.W.Frag} {h : Heap} {mg : Str → Option Value} {l : PySem.W.OpenLaw} {w : World} {fa C cA PA cB PB : Addr} {cdA cdB : Option Addr} {cvA cvB : Array Value} {clA clB : Array (Option Value)} (X : K.In h) (G : h.Ns mainGlobals mg) (hfa : mg "law" = some (.ref fa))
    (A_integer : ∃ f fd, At K mg "is_integer" (top 11) ["value"] f fd)
    (A_count : ∃ f fd, At K mg "is_count" (top 12) ["value"] f fd)
    (A_bit : ∃ f fd, At K mg "is_bit" (top 13) ["value"] f fd)
    (A_lst : ∃ f fd, At K mg "is_list" (top 14) ["value"] f fd)
    (A_letter : ∃ f fd, At K mg "is_letter" (top 15) ["value", "width"] f fd)
    (A_word : ∃ f fd, At K mg "is_word" (top 16) ["value", "width"] f fd)
    (A_allBits : ∃ f fd, At K mg "all_bits" (top 17) ["width"] f fd)
    (A_numberOf : ∃ f fd, At K mg "number_of" (top 18) ["bits"] f fd)
    (A_cWidth : ∃ f fd, At K mg "check_small_width" (top 21) ["width"] f fd)
    (A_cNumber : ∃ f fd, At K mg "check_number" (top 22) ["what", "rows", "limit"] f fd)
    (A_unlikeRows : ∃ f fd, At K mg "unlike_rows" (top 24) ["value", "is_row"] f fd)
    (A_isClosed : ∃ f fd, At K mg "is_closed" (top 25) ["rows", "start", "moves"] f fd)
    (A_isGoal : ∃ f fd, At K mg "is_goal" (top 27) ["value", "states", "out_width"] f fd)
    (A_cRows : ∃ f fd, At K mg "check_machine_rows" (top 28) ["rows", "width", "out_width"] f fd)
    (A_cWidths : ∃ f fd, At K mg "check_widths" (top 31) ["one", "other"] f fd)
    (A_pairMoves : ∃ f fd, At K mg "pair_moves" (top 32) ["one", "other"] f fd ∧ fd.code = .ref cA)
    (KA : K.lookup cA = some ⟨.type "code", cdA, .fields cvA, clA⟩)
    (VA : cvA[11]? = some (.ref PA))
    (DA : PySem.W.codeHdIn K cA PA = true)
    (LA : K.lookup PA = none)
    (HA : h.get? PA = some { cls := .none, data := .fields #[] })
    (A_isState : ∃ f fd, At K mg "is_state" (top 33) ["machine", "value"] f fd)
    (A_isRelation : ∃ f fd, At K mg "is_relation" (top 34) ["one", "other", "value"] f fd ∧ fd.code = .ref cB)
    (KB : K.lookup cB = some ⟨.type "code", cdB, .fields cvB, clB⟩)
    (VB : cvB[11]? = some (.ref PB))
    (DB : PySem.W.codeHdIn K cB PB = true)
    (LB : K.lookup PB = none)
    (HB : h.get? PB = some { cls := .none, data := .fields #[] })
    (A_isParting : ∃ f fd, At K mg "is_parting" (top 35) ["one", "other", "value"] f fd)
    (A_pot : ∃ f fd, At K mg "_law_pot" (top 37) ["_law_script", "_law_k"] f fd)
    (A_draw : ∃ f fd, At K mg "_law_draw" (top 38) ["_law_pot_here", "_law_faces"] f fd)
    (A_pick : ∃ f fd, At K mg "_law_pick" (top 39) ["_law_pot_here", "_law_some"] f fd)
    (A_machine : ∃ f fd, At K mg "_law_machine" (top 40) ["_law_pot_here", "_law_most", "_law_width", "_law_outs"] f fd)
    (A_lLetters : ∃ f fd, At K mg "_law_letters" (top 41) ["_law_width"] f fd)
    (A_played : ∃ f fd, At K mg "_law_played" (top 42) ["_law_model", "_law_state", "_law_word_here"] f fd)
    (A_lWord : ∃ f fd, At K mg "_law_word" (top 43) ["_law_pot_here", "_law_width", "_law_most"] f fd)
    (A_made : ∃ f fd, At K mg "_law_made" (top 46) ["_law_model"] f fd)
    (A_pairs : ∃ f fd, At K mg "_law_pairs" (top 47) ["_law_one", "_law_other", "_law_first"] f fd)
    (A_doubled : ∃ f fd, At K mg "_law_doubled" (top 48) ["_law_pot_here", "_law_model"] f fd)
    (A_bent : ∃ f fd, At K mg "_law_bent" (top 49) ["_law_pot_here", "_law_model"] f fd)
    (A_mate : ∃ f fd, At K mg "_law_mate" (top 50) ["_law_pot_here", "_law_model"] f fd)
    (A_isPair : ∃ f fd, At K mg "_law_is_pair" (top 51) ["_law_one", "_law_other", "_law_value"] f fd)
    (A_lIsRel : ∃ f fd, At K mg "_law_is_relation" (top 52) ["_law_one", "_law_other", "_law_value"] f fd)
    (A_lIsLetter : ∃ f fd, At K mg "_law_is_letter" (top 53) ["_law_width", "_law_value"] f fd)
    (A_lIsPart : ∃ f fd, At K mg "_law_is_parting" (top 54) ["_law_one", "_law_other", "_law_value"] f fd)
    (A_things : ∃ f fd, At K mg "_law_things" (top 55) ["_law_pot_here", "_law_one", "_law_other"] f fd)
    (A_lWords : ∃ f fd, At K mg "_law_words" (top 56) ["_law_pot_here", "_law_model", "_law_parted"] f fd)
    (A_right : ∃ f fd, At K mg "_law_right" (top 57) ["_law_pot_here"] f fd)
    (A_law : ∃ f fd, At K mg "law" (top 58) ["_law_script"] f fd)
    (N_isinstance : mg "isinstance" = none)
    (N_int : mg "int" = none)
    (N_bool : mg "bool" = none)
    (N_list : mg "list" = none)
    (N_tuple : mg "tuple" = none)
    (N_len : mg "len" = none)
    (N_all : mg "all" = none)
    (N_abs : mg "abs" = none)
    (N_max : mg "max" = none)
    (N_min : mg "min" = none)
    (N_divmod : mg "divmod" = none)
    (N_range : mg "range" = none)
    (N_repr : mg "repr" = none)
    (N_enumerate : mg "enumerate" = none)
    (N_zip : mg "zip" = none)
    (N_any : mg "any" = none)
    (N_str : mg "str" = none)
    (N_sorted : mg "sorted" = none)
    (N_dict : mg "dict" = none)
    (N_ValueError : mg "ValueError" = none)
    (N_gWidth : ∃ t, mg "GREATEST_SMALL_WIDTH" = some (.int 4 t))
    (aC : PySem.W.nsIn K mainGlobals "Machine" = some (some (.ref C)))
    (c_pg : PySem.W.plainGet K C Str.empty = true)
    (c_hd : PySem.W.hasDictIn K C = true)
    (c_po : PySem.W.plainOver K C = true)
    (c_sa : PySem.W.findIn K (.ref C) "__setattr__" = some (some (.builtin "object.__setattr__")))
    (c_kp : PySem.W.keepIn K (.ref C) = true)
    (c_mk : PySem.W.makesIn K C = true)
    (c_ca : PySem.W.findIn K (.ref C) "__class__" = some (some (.builtin "object.__class__")))
    (c_cn : PySem.W.specialIn K (.builtin "object.__class__") "__get__" = some (some (.builtin "getset_descriptor.__get__")))
    (c_ct : PySem.W.takesIn K (.builtin "object.__class__") = some true)
    (c_cm : PySem.W.mroIn K C (.type "object") = some true)
    (c_rd : PySem.W.readsIn K C (.type "type") = true)
    (c_ga : PySem.W.specialIn K (.ref C) "__getattribute__" = some (some (.builtin "type.__getattribute__")))
    (hP : PA ≠ PB)
    (c_most : ∃ t, PySem.W.findCls K (.ref C) (.type "type") "MOST_STATES" = some (.val (.int 64 t)))
    (c_is : PySem.W.kitOne K (.ref C) (.ref C) = some true)
    (c_n_width : PySem.W.findIn K (.ref C) "_width" = some none)
    (c_n_out_width : PySem.W.findIn K (.ref C) "_out_width" = some none)
    (c_n_rows : PySem.W.findIn K (.ref C) "_rows" = some none)
    (M_letters : ∃ f fd, MthT K C "letters" "Machine.letters" (dM 5) ["self"] f fd)
    (M_rowsM : ∃ f fd, MthT K C "rows" "Machine.rows" (dM 6) ["self"] f fd)
    (M_course : ∃ f fd, MthT K C "course" "Machine.course" (dM 8) ["self", "word"] f fd)
    (M_answer : ∃ f fd, MthT K C "answer" "Machine.answer" (dM 9) ["self", "word"] f fd)
    (M_len : ∃ f fd, MthT K C "__len__" "Machine.__len__" (dM 14) ["self"] f fd)
    (M_init : ∃ f fd, Fun K "__init__" "Machine.__init__" (dM 1) f fd ∧ PySem.W.findIn K (.ref C) "__init__" = some (some (.ref f)) ∧ PySem.W.isFn K (.ref f) = true ∧ Binds K fd ["self", "width", "out_width", "rows"] [])
    (M_widthP : ∃ p f fd, PrpT K C "width" "Machine.width" (dM 3) p f fd)
    (M_out_widthP : ∃ p f fd, PrpT K C "out_width" "Machine.out_width" (dM 4) p f fd) : LawAt l w K 10 63 "_law_script" mg fa h := by
  obtain ⟨f, fd, F⟩ := A_law
  have e := hfa.symm.trans F.gl
  cases e
  have bl : ∀ (s : Shared) (u : Value), BindsTo s fd ⟨[u], []⟩ [("_law_script", u)] := by
    obtain ⟨oc, od, kV, doc, pm, an, cdv, ct, osl, rfl, _, _⟩ := F.fn.ex
    exact fun s u => .of_eq rfl
  obtain ⟨fA, gA, FA, hA⟩ := A_pairMoves
  obtain ⟨fB, gB, FB, hB⟩ := A_isRelation
  have T : Txt K mg := { integer := A_integer, count := A_count, bit := A_bit, lst := A_lst, letter := A_letter, word := A_word, allBits := A_allBits, numberOf := A_numberOf, cWidth := A_cWidth, cNumber := A_cNumber, unlikeRows := A_unlikeRows, isClosed := A_isClosed, isGoal := A_isGoal, cRows := A_cRows, cWidths := A_cWidths, pairMoves := ⟨_, _, FA⟩, isState := A_isState, isRelation := ⟨_, _, FB⟩, isParting := A_isParting, pot := A_pot, draw := A_draw, pick := A_pick, machine := A_machine, lLetters := A_lLetters, played := A_played, lWord := A_lWord, made := A_made, pairs := A_pairs, doubled := A_doubled, bent := A_bent, mate := A_mate, isPair := A_isPair, lIsRel := A_lIsRel, lIsLetter := A_lIsLetter, lIsPart := A_lIsPart, things := A_things, lWords := A_lWords, right := A_right, isinstance := N_isinstance, int := N_int, bool := N_bool, list := N_list, tuple := N_tuple, len := N_len, all := N_all, abs := N_abs, max := N_max, min := N_min, divmod := N_divmod, range := N_range, repr := N_repr, enumerate := N_enumerate, zip := N_zip, any := N_any, str := N_str, sorted := N_sorted, dict := N_dict, ValueError := N_ValueError, gWidth := N_gWidth }
  have KC : Cls K C := ⟨c_pg, c_hd, c_po, c_sa⟩
  have MT : MacT K mg C := { gl := PySem.W.mg_of X G aC, cl := KC, kp := c_kp, makes := c_mk, isC := c_is, ty := fun H a dx fs e => .ins e KC c_ca c_cn c_ct c_cm, rd := ⟨c_rd, c_ga⟩, most := (by obtain ⟨t, q⟩ := c_most; exact ⟨t, q, t, rfl⟩), n_width := c_n_width, n_out_width := c_n_out_width, n_rows := c_n_rows, letters := M_letters, rowsM := M_rowsM, course := M_course, answer := M_answer, len := M_len, init := M_init, widthP := M_widthP, out_widthP := M_out_widthP }
  refine ⟨fd, [(cA, PA), (cB, PB)], spLaw K (TN PA PB), fun p hp => ?_, fun p hp => ?_, fun p hp => ?_, fun s u => bl s u, fun H a ns hl _ ht hs => ?_, fun ba kb gb tb => ?_⟩
  · simp only [List.mem_cons, List.not_mem_nil, or_false] at hp
    rcases hp with rfl | rfl
    · exact HA
    · exact HB
  · simp only [List.mem_cons, List.not_mem_nil, or_false] at hp
    rcases hp with rfl | rfl
    · exact LA
    · exact LB
  · simp only [List.mem_cons, List.not_mem_nil, or_false] at hp
    rcases hp with rfl | rfl
    · exact PySem.W.codeHd_of_K X DA
    · exact PySem.W.codeHd_of_K X DB
  · refine ⟨a, ns, rfl, hs, by omega, fun p hp => ?_, fun _ => rfl⟩
    simp only [TN, List.mem_cons, List.not_mem_nil, or_false] at hp
    rcases hp with rfl | rfl
    · exact .nil (ht (cA, PA) (by simp))
    · exact .nil (ht (cB, PB) (by simp))
  · exact okLaw F T MT FB (tb (cB, PB) (by simp)) hB FA (tb (cA, PA) (by simp)) hA hP
end W

set_option Elab.async false
set_option linter.all false
set_option maxRecDepth 100000
open PySem PySem.W PySem.Calls PyProof.Rows
set_option maxRecDepth 100000 in
set_option maxHeartbeats 0 in
theorem PySem.Challenge.cw_wirewords_k45_relations_and_partings_jud_holds : PySem.Challenge.rw_wirewords_k45_relations_and_partings_jud.Holds := by
  w_on; o_law
  refine W.holdsH (by kernel_rfl) (by assumption) ?hw ?hc
  case hw => w_witness2
  case hc =>
   k_fill
   refine G.walk (l := PySem.Challenge.rw_wirewords_k45_relations_and_partings_jud) (most := 63) (n := 10) (x := "_law_script") rfl (by decide) (by kernel_rfl) ⟨rfl, by decide, by decide⟩ (fun w h Y => km_in_of Y) ?F
   case F =>
    intro w mg fa h Y KX G hmg0
    have hmg : mg ("law" : PySem.Str) = some (.ref fa) := by
      have e : (HandSHeadRun.topDef W.rowH.prog 58).name = ("law" : PySem.Str) := by kernel_rfl
      rw [← e]
      exact hmg0
    refine' W.facts KX G hmg ?z_A_integer ?z_A_count ?z_A_bit ?z_A_lst ?z_A_letter ?z_A_word ?z_A_allBits ?z_A_numberOf ?z_A_cWidth ?z_A_cNumber ?z_A_unlikeRows ?z_A_isClosed ?z_A_isGoal ?z_A_cRows ?z_A_cWidths ?z_A_pairMoves ?z_KA ?z_VA ?z_DA ?z_LA ?z_HA ?z_A_isState ?z_A_isRelation ?z_KB ?z_VB ?z_DB ?z_LB ?z_HB ?z_A_isParting ?z_A_pot ?z_A_draw ?z_A_pick ?z_A_machine ?z_A_lLetters ?z_A_played ?z_A_lWord ?z_A_made ?z_A_pairs ?z_A_doubled ?z_A_bent ?z_A_mate ?z_A_isPair ?z_A_lIsRel ?z_A_lIsLetter ?z_A_lIsPart ?z_A_things ?z_A_lWords ?z_A_right ?z_A_law ?z_N_isinstance ?z_N_int ?z_N_bool ?z_N_list ?z_N_tuple ?z_N_len ?z_N_all ?z_N_abs ?z_N_max ?z_N_min ?z_N_divmod ?z_N_range ?z_N_repr ?z_N_enumerate ?z_N_zip ?z_N_any ?z_N_str ?z_N_sorted ?z_N_dict ?z_N_ValueError ?z_N_gWidth ?z_aC ?z_c_pg ?z_c_hd ?z_c_po ?z_c_sa ?z_c_kp ?z_c_mk ?z_c_ca ?z_c_cn ?z_c_ct ?z_c_cm ?z_c_rd ?z_c_ga ?z_hP ?z_c_most ?z_c_is ?z_c_n_width ?z_c_n_out_width ?z_c_n_rows ?z_M_letters ?z_M_rowsM ?z_M_course ?z_M_answer ?z_M_len ?z_M_init ?z_M_widthP ?z_M_out_widthP
    case z_A_integer =>
      refine' W.at_mk KX G (fun _ _ _ _ _ _ us hl => match us, hl with | [_], _ => rfl) ?a ?l ?c ?k
      (case a => k_is); (case l => k_is); (case c => k_is); (case k => k_is)
    case z_A_count =>
      refine' W.at_mk KX G (fun _ _ _ _ _ _ us hl => match us, hl with | [_], _ => rfl) ?a ?l ?c ?k
      (case a => k_is); (case l => k_is); (case c => k_is); (case k => k_is)
    case z_A_bit =>
      refine' W.at_mk KX G (fun _ _ _ _ _ _ us hl => match us, hl with | [_], _ => rfl) ?a ?l ?c ?k
      (case a => k_is); (case l => k_is); (case c => k_is); (case k => k_is)
    case z_A_lst =>
      refine' W.at_mk KX G (fun _ _ _ _ _ _ us hl => match us, hl with | [_], _ => rfl) ?a ?l ?c ?k
      (case a => k_is); (case l => k_is); (case c => k_is); (case k => k_is)
    case z_A_letter =>
      refine' W.at_mk KX G (fun _ _ _ _ _ _ us hl => match us, hl with | [_, _], _ => rfl) ?a ?l ?c ?k
      (case a => k_is); (case l => k_is); (case c => k_is); (case k => k_is)
    case z_A_word =>
      refine' W.at_mk KX G (fun _ _ _ _ _ _ us hl => match us, hl with | [_, _], _ => rfl) ?a ?l ?c ?k
      (case a => k_is); (case l => k_is); (case c => k_is); (case k => k_is)
    case z_A_allBits =>
      refine' W.at_mk KX G (fun _ _ _ _ _ _ us hl => match us, hl with | [_], _ => rfl) ?a ?l ?c ?k
      (case a => k_is); (case l => k_is); (case c => k_is); (case k => k_is)
    case z_A_numberOf =>
      refine' W.at_mk KX G (fun _ _ _ _ _ _ us hl => match us, hl with | [_], _ => rfl) ?a ?l ?c ?k
      (case a => k_is); (case l => k_is); (case c => k_is); (case k => k_is)
    case z_A_cWidth =>
      refine' W.at_mk KX G (fun _ _ _ _ _ _ us hl => match us, hl with | [_], _ => rfl) ?a ?l ?c ?k
      (case a => k_is); (case l => k_is); (case c => k_is); (case k => k_is)
    case z_A_cNumber =>
      refine' W.at_mk KX G (fun _ _ _ _ _ _ us hl => match us, hl with | [_, _, _], _ => rfl) ?a ?l ?c ?k
      (case a => k_is); (case l => k_is); (case c => k_is); (case k => k_is)
    case z_A_unlikeRows =>
      refine' W.at_mk KX G (fun _ _ _ _ _ _ us hl => match us, hl with | [_, _], _ => rfl) ?a ?l ?c ?k
      (case a => k_is); (case l => k_is); (case c => k_is); (case k => k_is)
    case z_A_isClosed =>
      refine' W.at_mk KX G (fun _ _ _ _ _ _ us hl => match us, hl with | [_, _, _], _ => rfl) ?a ?l ?c ?k
      (case a => k_is); (case l => k_is); (case c => k_is); (case k => k_is)
    case z_A_isGoal =>
      refine' W.at_mk KX G (fun _ _ _ _ _ _ us hl => match us, hl with | [_, _, _], _ => rfl) ?a ?l ?c ?k
      (case a => k_is); (case l => k_is); (case c => k_is); (case k => k_is)
    case z_A_cRows =>
      refine' W.at_mk KX G (fun _ _ _ _ _ _ us hl => match us, hl with | [_, _, _], _ => rfl) ?a ?l ?c ?k
      (case a => k_is); (case l => k_is); (case c => k_is); (case k => k_is)
    case z_A_cWidths =>
      refine' W.at_mk KX G (fun _ _ _ _ _ _ us hl => match us, hl with | [_, _], _ => rfl) ?a ?l ?c ?k
      (case a => k_is); (case l => k_is); (case c => k_is); (case k => k_is)
    case z_A_pairMoves =>
      refine' W.at_mkC KX G (fun _ _ _ _ _ _ us hl => match us, hl with | [_, _], _ => rfl) ?a ?l ?c ?k
      (case a => k_is); (case l => k_is); (case c => k_is); (case k => k_is)
    case z_KA => k_is
    case z_VA => rfl
    case z_DA => kernel_rfl
    case z_LA => first | k_is | rfl | kernel_rfl
    case z_HA => exact km_tabs_of Y _ (by decide)
    case z_A_isState =>
      refine' W.at_mk KX G (fun _ _ _ _ _ _ us hl => match us, hl with | [_, _], _ => rfl) ?a ?l ?c ?k
      (case a => k_is); (case l => k_is); (case c => k_is); (case k => k_is)
    case z_A_isRelation =>
      refine' W.at_mkC KX G (fun _ _ _ _ _ _ us hl => match us, hl with | [_, _, _], _ => rfl) ?a ?l ?c ?k
      (case a => k_is); (case l => k_is); (case c => k_is); (case k => k_is)
    case z_KB => k_is
    case z_VB => rfl
    case z_DB => kernel_rfl
    case z_LB => first | k_is | rfl | kernel_rfl
    case z_HB => exact km_tabs_of Y _ (by decide)
    case z_A_isParting =>
      refine' W.at_mk KX G (fun _ _ _ _ _ _ us hl => match us, hl with | [_, _, _], _ => rfl) ?a ?l ?c ?k
      (case a => k_is); (case l => k_is); (case c => k_is); (case k => k_is)
    case z_A_pot =>
      refine' W.at_mk KX G (fun _ _ _ _ _ _ us hl => match us, hl with | [_, _], _ => rfl) ?a ?l ?c ?k
      (case a => k_is); (case l => k_is); (case c => k_is); (case k => k_is)
    case z_A_draw =>
      refine' W.at_mk KX G (fun _ _ _ _ _ _ us hl => match us, hl with | [_, _], _ => rfl) ?a ?l ?c ?k
      (case a => k_is); (case l => k_is); (case c => k_is); (case k => k_is)
    case z_A_pick =>
      refine' W.at_mk KX G (fun _ _ _ _ _ _ us hl => match us, hl with | [_, _], _ => rfl) ?a ?l ?c ?k
      (case a => k_is); (case l => k_is); (case c => k_is); (case k => k_is)
    case z_A_machine =>
      refine' W.at_mk KX G (fun _ _ _ _ _ _ us hl => match us, hl with | [_, _, _, _], _ => rfl) ?a ?l ?c ?k
      (case a => k_is); (case l => k_is); (case c => k_is); (case k => k_is)
    case z_A_lLetters =>
      refine' W.at_mk KX G (fun _ _ _ _ _ _ us hl => match us, hl with | [_], _ => rfl) ?a ?l ?c ?k
      (case a => k_is); (case l => k_is); (case c => k_is); (case k => k_is)
    case z_A_played =>
      refine' W.at_mk KX G (fun _ _ _ _ _ _ us hl => match us, hl with | [_, _, _], _ => rfl) ?a ?l ?c ?k
      (case a => k_is); (case l => k_is); (case c => k_is); (case k => k_is)
    case z_A_lWord =>
      refine' W.at_mk KX G (fun _ _ _ _ _ _ us hl => match us, hl with | [_, _, _], _ => rfl) ?a ?l ?c ?k
      (case a => k_is); (case l => k_is); (case c => k_is); (case k => k_is)
    case z_A_made =>
      refine' W.at_mk KX G (fun _ _ _ _ _ _ us hl => match us, hl with | [_], _ => rfl) ?a ?l ?c ?k
      (case a => k_is); (case l => k_is); (case c => k_is); (case k => k_is)
    case z_A_pairs =>
      refine' W.at_mk KX G (fun _ _ _ _ _ _ us hl => match us, hl with | [_, _, _], _ => rfl) ?a ?l ?c ?k
      (case a => k_is); (case l => k_is); (case c => k_is); (case k => k_is)
    case z_A_doubled =>
      refine' W.at_mk KX G (fun _ _ _ _ _ _ us hl => match us, hl with | [_, _], _ => rfl) ?a ?l ?c ?k
      (case a => k_is); (case l => k_is); (case c => k_is); (case k => k_is)
    case z_A_bent =>
      refine' W.at_mk KX G (fun _ _ _ _ _ _ us hl => match us, hl with | [_, _], _ => rfl) ?a ?l ?c ?k
      (case a => k_is); (case l => k_is); (case c => k_is); (case k => k_is)
    case z_A_mate =>
      refine' W.at_mk KX G (fun _ _ _ _ _ _ us hl => match us, hl with | [_, _], _ => rfl) ?a ?l ?c ?k
      (case a => k_is); (case l => k_is); (case c => k_is); (case k => k_is)
    case z_A_isPair =>
      refine' W.at_mk KX G (fun _ _ _ _ _ _ us hl => match us, hl with | [_, _, _], _ => rfl) ?a ?l ?c ?k
      (case a => k_is); (case l => k_is); (case c => k_is); (case k => k_is)
    case z_A_lIsRel =>
      refine' W.at_mk KX G (fun _ _ _ _ _ _ us hl => match us, hl with | [_, _, _], _ => rfl) ?a ?l ?c ?k
      (case a => k_is); (case l => k_is); (case c => k_is); (case k => k_is)
    case z_A_lIsLetter =>
      refine' W.at_mk KX G (fun _ _ _ _ _ _ us hl => match us, hl with | [_, _], _ => rfl) ?a ?l ?c ?k
      (case a => k_is); (case l => k_is); (case c => k_is); (case k => k_is)
    case z_A_lIsPart =>
      refine' W.at_mk KX G (fun _ _ _ _ _ _ us hl => match us, hl with | [_, _, _], _ => rfl) ?a ?l ?c ?k
      (case a => k_is); (case l => k_is); (case c => k_is); (case k => k_is)
    case z_A_things =>
      refine' W.at_mk KX G (fun _ _ _ _ _ _ us hl => match us, hl with | [_, _, _], _ => rfl) ?a ?l ?c ?k
      (case a => k_is); (case l => k_is); (case c => k_is); (case k => k_is)
    case z_A_lWords =>
      refine' W.at_mk KX G (fun _ _ _ _ _ _ us hl => match us, hl with | [_, _, _], _ => rfl) ?a ?l ?c ?k
      (case a => k_is); (case l => k_is); (case c => k_is); (case k => k_is)
    case z_A_right =>
      refine' W.at_mk KX G (fun _ _ _ _ _ _ us hl => match us, hl with | [_], _ => rfl) ?a ?l ?c ?k
      (case a => k_is); (case l => k_is); (case c => k_is); (case k => k_is)
    case z_A_law =>
      refine' W.at_mk KX G (fun _ _ _ _ _ _ us hl => match us, hl with | [_], _ => rfl) ?a ?l ?c ?k
      (case a => k_is); (case l => k_is); (case c => k_is); (case k => k_is)
    case z_N_isinstance =>
      refine' W.none_mk KX G ?a
      (case a => k_is)
    case z_N_int =>
      refine' W.none_mk KX G ?a
      (case a => k_is)
    case z_N_bool =>
      refine' W.none_mk KX G ?a
      (case a => k_is)
    case z_N_list =>
      refine' W.none_mk KX G ?a
      (case a => k_is)
    case z_N_tuple =>
      refine' W.none_mk KX G ?a
      (case a => k_is)
    case z_N_len =>
      refine' W.none_mk KX G ?a
      (case a => k_is)
    case z_N_all =>
      refine' W.none_mk KX G ?a
      (case a => k_is)
    case z_N_abs =>
      refine' W.none_mk KX G ?a
      (case a => k_is)
    case z_N_max =>
      refine' W.none_mk KX G ?a
      (case a => k_is)
    case z_N_min =>
      refine' W.none_mk KX G ?a
      (case a => k_is)
    case z_N_divmod =>
      refine' W.none_mk KX G ?a
      (case a => k_is)
    case z_N_range =>
      refine' W.none_mk KX G ?a
      (case a => k_is)
    case z_N_repr =>
      refine' W.none_mk KX G ?a
      (case a => k_is)
    case z_N_enumerate =>
      refine' W.none_mk KX G ?a
      (case a => k_is)
    case z_N_zip =>
      refine' W.none_mk KX G ?a
      (case a => k_is)
    case z_N_any =>
      refine' W.none_mk KX G ?a
      (case a => k_is)
    case z_N_str =>
      refine' W.none_mk KX G ?a
      (case a => k_is)
    case z_N_sorted =>
      refine' W.none_mk KX G ?a
      (case a => k_is)
    case z_N_dict =>
      refine' W.none_mk KX G ?a
      (case a => k_is)
    case z_N_ValueError =>
      refine' W.none_mk KX G ?a
      (case a => k_is)
    case z_N_gWidth =>
      refine' W.int_mk KX G ?a
      (case a => k_is)
    case z_aC => k_is
    case z_c_pg => k_is
    case z_c_hd => k_is
    case z_c_po => k_is
    case z_c_sa => k_is
    case z_c_kp => k_is
    case z_c_mk => k_is
    case z_c_ca => k_is
    case z_c_cn => k_is
    case z_c_ct => k_is
    case z_c_cm => k_is
    case z_c_rd => k_is
    case z_c_ga => k_is
    case z_hP => decide
    case z_c_most =>
      refine' W.most_mk ?a
      (case a => first | k_is | kernel_rfl | rfl)
    case z_c_is => kit_is
    case z_c_n_width => k_is
    case z_c_n_out_width => k_is
    case z_c_n_rows => k_is
    case z_M_letters =>
      refine' W.mth_mk (fun _ _ _ _ _ _ us hl => match us, hl with | [_], _ => rfl) ?l ?c ?k ?fnd ?fn
      (case fnd => k_is); (case l => k_is); (case c => k_is); (case k => k_is); (case fn => k_is)
    case z_M_rowsM =>
      refine' W.mth_mk (fun _ _ _ _ _ _ us hl => match us, hl with | [_], _ => rfl) ?l ?c ?k ?fnd ?fn
      (case fnd => k_is); (case l => k_is); (case c => k_is); (case k => k_is); (case fn => k_is)
    case z_M_course =>
      refine' W.mth_mk (fun _ _ _ _ _ _ us hl => match us, hl with | [_, _], _ => rfl) ?l ?c ?k ?fnd ?fn
      (case fnd => k_is); (case l => k_is); (case c => k_is); (case k => k_is); (case fn => k_is)
    case z_M_answer =>
      refine' W.mth_mk (fun _ _ _ _ _ _ us hl => match us, hl with | [_, _], _ => rfl) ?l ?c ?k ?fnd ?fn
      (case fnd => k_is); (case l => k_is); (case c => k_is); (case k => k_is); (case fn => k_is)
    case z_M_len =>
      refine' W.mth_mk (fun _ _ _ _ _ _ us hl => match us, hl with | [_], _ => rfl) ?l ?c ?k ?fnd ?fn
      (case fnd => k_is); (case l => k_is); (case c => k_is); (case k => k_is); (case fn => k_is)
    case z_M_init =>
      refine' W.init_mk (fun _ _ _ _ _ _ us hl => match us, hl with | [_, _, _, _], _ => rfl) ?l ?c ?k ?fnd ?fn
      (case fnd => k_is); (case l => k_is); (case c => k_is); (case k => k_is); (case fn => k_is)
    case z_M_widthP =>
      refine' W.prp_mk (fun _ _ _ _ _ _ us hl => match us, hl with | [_], _ => rfl) ?fnd ?ge ?ta ?re ?l ?c ?k
      (case fnd => k_is); (case re => k_is); (case ge => k_is); (case ta => k_is); (case l => k_is); (case c => k_is); (case k => k_is)
    case z_M_out_widthP =>
      refine' W.prp_mk (fun _ _ _ _ _ _ us hl => match us, hl with | [_], _ => rfl) ?fnd ?ge ?ta ?re ?l ?c ?k
      (case fnd => k_is); (case re => k_is); (case ge => k_is); (case ta => k_is); (case l => k_is); (case c => k_is); (case k => k_is)

