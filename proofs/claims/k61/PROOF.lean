import PyProof.Rows.All
import Wide.All
import OpenK.AllK
import Wide.FinOn
import HandS.Ends
import KE.OsRunLaw
import HandS.Head2
import PySem.Challenge.RW_wirewords_k61_answers_with_faults
import HandS.ForMost
import HandS.Exc
import HandS.ExcOwn
import HandS.TryOnly
import HandS.TryMany
import HandS.Lambda
import HandS.ExcInit
import HandS.WordsExc
import HandS.IsInst
import HandS.Walk
import HandS.Evl
import HandS.TupMul
import HandS.TupAny
import HandS.ExcField
import HandS.ExcIs
import KE.SortData
import PyProof.WalkLemmas
import HandS.Set
import HandS.SetBool
import HandS.More
import OpenK.KMeth
import HandS.OwnEq
import HandS.DictComp
import HandS.Zip
import HandS.ListItems
import HandS.Defaults
import HandS.Gcd
import KE.KDictZip
import KE.KDictItemsList
import KE.KItemsList
import HandS.Style
import HandS.MakeKw
import HandS.TupLe
import HandS.Finally
import PyProof.SumAny
import KE.DataCmp
import HandS.EndTab
import HandS.Words
set_option Elab.async false
set_option linter.all false
set_option maxRecDepth 100000
section
set_option maxHeartbeats 0
namespace W
def loose0 : List PySem.Str := ["heappop", "heappush", "_wall", "__name__", "WireError", "MissingError", "LimitError", "InvalidInputs", "InvalidGates", "InvalidRegisters", "InvalidOutputs", "InvalidWord", "InvalidState", "InvalidFault", "GateRing", "UnknownWire", "TooMany", "KINDS"]
def loose1 : List PySem.Str := ["MADE", "SMALL", "DIGITS", "LONGEST_NAME", "is_integer", "is_bit", "is_name", "is_list", "is_letter", "is_word", "is_kind", "number_of", "bit_of", "check_inputs", "is_gate", "check_gates", "is_register", "check_registers"]
def loose2 : List PySem.Str := ["check_sources", "check_outputs", "check_number", "sequence_of", "leads_back", "gate_on_ring", "check_no_ring", "check_wire", "check_state", "check_word", "is_fault", "check_stuck", "plan_of", "said_by", "next_state", "course", "check_course", "answer"]
def loose3 : List PySem.Str := ["MOST_INPUTS", "MOST_GATES", "MOST_REGISTERS", "MOST_OUTPUTS", "Circuit", "faults", "check_fault", "shows_at", "_law_pot", "_law_draw", "_law_pick", "_law_model", "_law_wires", "_law_first", "_law_letters", "_law_made", "_law_step", "_law_answer"]
def loose4 : List PySem.Str := ["_law_term", "_law_fault", "_law_word_right", "_law_wide_right", "_law_right"]
def looseH : List PySem.Str := loose0 ++ loose1 ++ loose2 ++ loose3 ++ loose4
end W
namespace W
def asH0 : List PySem.Addr := [2, 3, 43, 45, 46, 48, 49, 50, 57, 58, 59, 60, 63, 70, 71, 72, 73, 76, 83, 84, 85, 86, 89, 96, 98, 99, 101, 102, 103, 104, 105, 108, 115, 117, 118, 120, 121, 122, 123, 124, 127, 134, 136, 137, 139, 140, 141, 142, 143, 146, 153, 155, 156, 158, 159, 160, 161, 162, 165, 172]
def asH1 : List PySem.Addr := [174, 175, 177, 178, 179, 180, 181, 184, 191, 193, 194, 196, 197, 198, 199, 200, 203, 210, 212, 213, 215, 216, 217, 218, 219, 222, 229, 231, 232, 234, 235, 236, 237, 238, 241, 248, 250, 251, 253, 254, 255, 256, 257, 260, 267, 269, 270, 272, 273, 274, 275, 276, 279, 280, 281, 282, 283, 284, 285, 286]
def asH2 : List PySem.Addr := [287, 288, 290, 291, 293, 294, 295, 297, 298, 300, 301, 302, 305, 306, 307, 309, 310, 312, 313, 314, 317, 318, 319, 322, 323, 324, 326, 327, 329, 330, 331, 333, 334, 336, 337, 338, 340, 341, 343, 344, 345, 347, 348, 350, 351, 352, 355, 356, 357, 360, 361, 362, 364, 365, 367, 368, 369, 372, 373, 374]
def asH3 : List PySem.Addr := [376, 377, 379, 380, 381, 383, 384, 386, 387, 388, 390, 391, 393, 394, 395, 398, 399, 400, 402, 403, 405, 406, 407, 410, 411, 412, 414, 415, 417, 418, 419, 421, 422, 424, 425, 426, 428, 429, 431, 432, 433, 435, 436, 438, 439, 440, 442, 443, 445, 446, 447, 449, 450, 452, 453, 454, 457, 458, 459, 462]
def asH4 : List PySem.Addr := [463, 464, 467, 468, 469, 472, 473, 474, 476, 477, 479, 480, 481, 482, 484, 485, 487, 488, 496, 497, 498, 499, 500, 503, 504, 505, 507, 508, 510, 511, 512, 515, 516, 517, 519, 520, 522, 523, 524, 526, 527, 529, 530, 531, 533, 534, 536, 537, 538, 541, 542, 543, 545, 546, 548, 549, 550, 552, 553, 555]
def asH5 : List PySem.Addr := [556, 557, 559, 560, 562, 563, 564, 566, 567, 569, 570, 571, 573, 574, 576, 577, 578, 580, 581, 583, 584, 585, 587, 588, 590, 591, 592, 594, 595, 597, 598, 599, 601, 602, 604, 605, 606, 607, 608, 609, 610, 613, 616, 617, 618, 620, 621, 623, 624, 625, 626, 628, 629, 631, 632, 633, 635, 636, 638, 639]
def asH6 : List PySem.Addr := [640, 642, 643, 645, 646, 647, 649, 650, 652, 653, 654, 657, 658, 659, 662, 663, 664, 667, 668, 669, 672, 673, 674, 676, 677, 679, 680, 681, 684, 685, 686, 688, 689, 691, 692, 693, 696, 697, 705, 707, 708, 710, 711, 712, 715, 716, 717, 720, 721, 722, 725, 726]
def asH : List PySem.Addr := asH0 ++ (asH1 ++ (asH2 ++ (asH3 ++ (asH4 ++ (asH5 ++ (asH6))))))
abbrev rowH : PySem.W.OpenRow := PySem.W.OpenLaw.row PySem.Challenge.rw_wirewords_k61_answers_with_faults
abbrev qH : PySem.Program := PySem.W.view rowH.prog [82]
end W
section
open PySem PySem.W PySem.Calls PyProof.Rows
local macro_rules | `(tactic| o_headL $H) => `(tactic| (have hk := congrArg Hook.says (Eq.refl $H); assumption))
theorem W.headT (h : W.rowH.Holds) : W.rowH.Holds := by
  k_headL
theorem W.ekH : ∀ P, W.asH = (W.headT.heap_1 P).map (·.1) := fun _ => by kernel_rfl
def W.RunH (w : World) : Prop := (HeadRun.wholeF (fun p => HeadRun.stepQ (HeadRun.denQ HeadRun.tabQ) p w) HeadRun.fenceQ 14000 W.rowH.prog).map (fun x => (HeadRun.looksF W.rowH.prog x.1.heap x.2.abs, HeadRun.seenQ W.qH W.looseH (importedModules W.rowH.prog.main.body) (fun s => xlAt W.qH [] s && recOk W.rowH.records s) x.2.abs, W.asH.map (HeadRun.getT x.2))) = some (true, openGood W.qH W.looseH, (W.headT.heap_1 w.params).map fun x => some x.2)
theorem W.run0 (w : World) : W.RunH (w.withFollow "special-get-raises" false) := by
  unfold W.RunH
  kernel_rfl
theorem W.run1 (w : World) : W.RunH (w.withFollow "special-get-raises" true) := by
  unfold W.RunH
  kernel_rfl
theorem W.leftH : LeftO W.rowH.prog W.qH W.looseH (fun s => xlAt W.qH [] s && recOk W.rowH.records s) (Hook.obs (kHook W.headT.heap_1 W.asH W.ekH)) (Hook.val (kHook W.headT.heap_1 W.asH W.ekH)) 14000 true :=
  HeadRun.left_impK (byRow2 "special-get-raises" W.run0 W.run1)
theorem W.holdsH (hp : W.rowH.prog.theDef W.rowH.name = some ((HandSHeadRun.topDef W.rowH.prog 82).params, (HandSHeadRun.topDef W.rowH.prog 82).body, (HandSHeadRun.topDef W.rowH.prog 82).scope)) (said : W.rowH.wellSaid = true) (hw : W.rowH.toRowW.promised)
    (hc : WalkO W.qH W.looseH (XL W.qH []) (kHook W.headT.heap_1 W.asH W.ekH).says W.rowH.toRowW (HandSHeadRun.topDef W.rowH.prog 82) [] fun f vs => PySem.call f vs) : W.rowH.Holds :=
  holds_open (r := W.rowH) (q := W.qH) (loose := W.looseH) (Xt := fun s => xlAt W.qH [] s && recOk W.rowH.records s) (XP := XL W.qH []) (d := HandSHeadRun.topDef W.rowH.prog 82) (kwd := []) W.leftH (Hook.of _) (Hook.keeps _) (fun s e => xl_of s (Bool.and_eq_true_iff.mp e).1) XL.keeps (by kernel_rfl) hp (by kernel_rfl)
    (fun s e => recFacts_of (Bool.and_eq_true_iff.mp e).2) (by rfl) said (by decide +kernel) ⟨rfl, rfl, rfl, rfl, rfl, by decide +kernel⟩ hw hc
end

end

set_option Elab.async false
set_option linter.all false
set_option maxRecDepth 100000
set_option maxHeartbeats 4000000
/-! A def's promise where no repr is under way: what the callers' stack tells of guards is carried with the room. -/
namespace G
open PySem PySem.Spec PyProof.Rows L2

/-- room for n calls, and no repr under way -/
structure Rm (n : Nat) (B : Around) : Prop where
  rm : Room n B
  gd : B.guards = some []
theorem Rm.mono {i n : Nat} {B : Around} (q : Rm n B) (h : i ≤ n) : Rm i B := ⟨q.rm.mono h, q.gd⟩
theorem Rm.deeper {n : Nat} {B : Around} (q : Rm (n + 1) B) (env : Env) : Rm n (B.deeper env) := ⟨q.rm.deeper env, q.gd⟩

/-- the def at fa keeps its promise wherever no repr is under way -/
structure Fn (pr : Program) (wo : World) (KK : PySem.W.Frag) (mm : Str → Option Value) (ba : Heap) (CC : CXT) (n : Nat) (fa : Addr) (fd : FuncData) (pars : List Str) (pro : Sp) : Prop where
  ar : ∀ xs HH QQ EE, pro xs HH QQ EE → xs.length = pars.length
  go : ∀ (B : Around) (out : List Env) (st : Shared) (HH : Hp) (gs : Args) (ys : List Value) (xs : List V) (QQ : VK) (EE : XK), Rm n B → Env0 pr wo KK mm ba B out st HH → BindsTo st fd gs (pars.zip ys) → Vals xs ys → pro xs HH QQ EE →
    codeAny (model pr wo) B (.call (.ref fa) gs) (CR CC out pr wo HH st QQ EE) st
section
variable {pr : Program} {wo : World} {KK : PySem.W.Frag} {mm : Str → Option Value} {ba : Heap} {CC : CXT} {i n : Nat} {fa : Addr} {fd : FuncData} {pars : List Str} {pro : Sp}
theorem Fn.mono (F : Fn pr wo KK mm ba CC i fa fd pars pro) (h : i ≤ n) : Fn pr wo KK mm ba CC n fa fd pars pro :=
  ⟨F.ar, fun B out st HH gs ys xs QQ EE q => F.go B out st HH gs ys xs QQ EE (q.mono h)⟩
/-- one of the layer's own promises -/
theorem Fn.of (F : FnOk pr wo KK mm ba CC n fa fd pars pro) : Fn pr wo KK mm ba CC n fa fd pars pro :=
  ⟨F.len, fun B out st HH gs ys xs QQ EE q => F.run B out st HH gs ys xs QQ EE q.rm⟩
theorem ok {x qual : Str} {de : Stmt} {NN : List Str} (F : Fun KK x qual de fa fd) (S : FnScope NN pars (defScope de)) (ar : ∀ xs HH QQ EE, pro xs HH QQ EE → xs.length = pars.length)
    (body : ∀ (cdv : Value) (B : Around) (out : List Env) (st : Shared) (HH : Hp) (xs : List V) (QQ : VK) (EE : XK), Rm n (B.deeper (envOfC qual (defScope de) st.heap.objs.size fa cdv)) → pro xs HH QQ EE →
      ∃ t, PSs (cxOf CC pr wo KK mm ba NN qual (defScope de) fa cdv B out st HH EE) (defBody de) t ∧ t { nx := fun _ H' => QQ .non H', rt := QQ } (L2.start NN xs) HH) : Fn pr wo KK mm ba CC (n + 1) fa fd pars pro := by
  obtain ⟨oc, od, kV, doc, pm, an, cdv, ct, osl, rfl, lk, hcd⟩ := F.ex
  refine ⟨ar, fun B out st HH gs ys xs QQ EE q e0 hb r hp => ?_⟩
  exact LamX.run_ofS lk hcd S q.rm e0 hb r (ar _ _ _ _ hp) fun _ => body cdv B out st HH xs QQ EE (q.deeper _) hp
/-- nothing leaves it by an exception -/
theorem okN {x qual : Str} {de : Stmt} {NN : List Str} (F : Fun KK x qual de fa fd) (S : FnScope NN pars (defScope de)) (ar : ∀ xs HH QQ EE, pro xs HH QQ EE → xs.length = pars.length)
    (body : ∀ (cdv : Value) (B : Around) (out : List Env) (st : Shared) (HH : Hp) (xs : List V) (QQ : VK) (EE : XK), Rm n (B.deeper (envOfC qual (defScope de) st.heap.objs.size fa cdv)) → pro xs HH QQ EE →
      ∃ t, PSs (cxOf CX0 pr wo KK mm ba NN qual (defScope de) fa cdv B out st HH EE).nox (defBody de) t ∧ t { nx := fun _ H' => QQ .non H', rt := QQ } (L2.start NN xs) HH) : Fn pr wo KK mm ba CX0 (n + 1) fa fd pars pro :=
  ok F S ar fun cdv B out st HH xs QQ EE q hp => by
    obtain ⟨t, a, b⟩ := body cdv B out st HH xs QQ EE q hp
    exact ⟨t, a.nox, b⟩
end

section
variable {X : Cx} {CC : CXT} {n : Nat} {fa : Addr} {fd : FuncData} {pars kw : List Str} {pro : Sp} {dv : List V} {du : List Value} {EE : XK} {x : Str} {p q0 : Pos} {e1 : Expr} {er : List Expr} {ta tk : TA} {kws : List Keyword}
  {gU : List Value → List Value → List Value} {gW : List V → List V → List V}
/-- what a call's end gives the caller -/
theorem ended {pins : List (Addr × Obj)} {σ : L2.St} {HH : Hp} {st : Shared} {QQ : VK} {c : Code} (I : Inv X pins σ HH st) (hx : Passes CC X EE)
    (rc : codeAny (model X.prog X.w) X.A c (CR CC X.stack X.prog X.w HH st QQ EE) st) :
    codeAny (model X.prog X.w) X.A c (fun r s' => match r with
      | .ok (.ret u) => EP X pins σ QQ u s'
      | .ok _ => False
      | .error e => X.xe e s') st := codeAny_mono rc fun r s' hq => by
  match r, hq with
  | .error e, hq => exact hx pins σ HH st e s' I hq
  | .ok (.ret u), hq => exact I.after hq
  | .ok .next, hq => exact hq.elim
  | .ok .brk, hq => exact hq.elim
  | .ok .cont, hq => exact hq.elim
theorem run {pins : List (Addr × Obj)} {σ : L2.St} {HH : Hp} {st : Shared} {QQ : VK} {ys : List Value} {xs : List V} (F : Fn X.prog X.w X.K X.mg X.base CC n fa fd pars pro) (q : Rm n X.A) (hb : Binds X.K fd pars du) (hd : Vals dv du) (hx : Passes CC X EE)
    (I : Inv X pins σ HH st) (r : Vals xs ys) (h : pro (xs ++ dv) HH QQ EE) : wpAny (model X.prog X.w) X.A (call (.ref fa) ys) (EP X pins σ QQ) X.xe st := by
  have both : Vals (xs ++ dv) (ys ++ du) := r.append hd
  have many : (ys ++ du).length = pars.length := both.length.symm.trans (F.ar _ _ _ _ h)
  refine wpAny_call (codeAny_mono (ended I hx (F.go X.A X.stack st HH ⟨ys, []⟩ (ys ++ du) (xs ++ dv) QQ EE q I.env0 (hb st ys I.kIn many) both h)) fun r s' w => ?_)
  match r, w with
  | .error e, w => exact w
  | .ok (.ret u), w => exact w
  | .ok .next, w => exact w.elim
  | .ok .brk, w => exact w.elim
  | .ok .cont, w => exact w.elim
/-- f(a, ..) -/
theorem pc (F : Fn X.prog X.w X.K X.mg X.base CC n fa fd pars pro) (q : Rm n X.A) (hg : Gl X x) (hm : X.mg x = some (.ref fa)) (hk : PySem.W.keepIn X.K (.ref fa) = true) (hb : Binds X.K fd pars du) (hd : Vals dv du) (hx : Passes CC X EE)
    (ha : PA X (e1 :: er) ta) (hdb : (x == ("__debug__" : Str)) = false := by decide) (hs : starEach (e1 :: er) X.env = (false, eval e1 X.env) :: starEach er X.env := by rfl)
    (hp : (backTo q0 (starEach er X.env)).any (·.1) = false := by rfl) : PE X (.Call (.Name x p) (e1 :: er) [] q0) (tCall pro dv EE ta) :=
  ⟨fun pins st σ HH QQ I h => wpAny_Call_Name_kw (ld_glob I hg hm (PySem.W.callWith_K (h₀ := X.base) I.ok.mod.kin hk
    (thn (ha.run q0 pins st σ HH _ I h) fun _ _ ⟨_, _, I1, r, w⟩ => ⟨I1.kIn, run F q hb hd hx I1 r w⟩) hs hp) hdb)⟩
/-- f() -/
theorem pc0 (F : Fn X.prog X.w X.K X.mg X.base CC n fa fd pars pro) (q : Rm n X.A) (hg : Gl X x) (hm : X.mg x = some (.ref fa)) (hk : PySem.W.keepIn X.K (.ref fa) = true) (hb : Binds X.K fd pars du) (hd : Vals dv du) (hx : Passes CC X EE)
    (hdb : (x == ("__debug__" : Str)) = false := by decide) : PE X (.Call (.Name x p) [] [] q0) (tCall pro dv EE tNil) :=
  ⟨fun pins st σ HH QQ I h => wpAny_Call_Name_kw (ld_glob I hg hm (PySem.W.callWith_K0 I.kIn hk (run (ys := []) F q hb hd hx I .nil h)) hdb)⟩
theorem runK {pins : List (Addr × Obj)} {σ : L2.St} {HH : Hp} {st : Shared} {QQ : VK} {ys zs : List Value} {xs ws : List V} (F : Fn X.prog X.w X.K X.mg X.base CC n fa fd pars pro) (q : Rm n X.A) (hb : KBinds X.K fd pars kw gU gW) (hx : Passes CC X EE)
    (I : Inv X pins σ HH st) (r : Vals xs ys) (r2 : Vals ws zs) (h : pro (gW xs ws) HH QQ EE) : wpAny (model X.prog X.w) X.A (call (.ref fa) ys (kw.zip zs)) (EP X pins σ QQ) X.xe st := by
  have both := hb.rel r r2
  have many : (gU ys zs).length = pars.length := both.length.symm.trans (F.ar _ _ _ _ h)
  refine wpAny_call (codeAny_mono (ended I hx (F.go X.A X.stack st HH ⟨ys, kw.zip zs⟩ (gU ys zs) (gW xs ws) QQ EE q I.env0 (hb.to st ys zs I.kIn many) both h)) fun r s' w => ?_)
  match r, w with
  | .error e, w => exact w
  | .ok (.ret u), w => exact w
  | .ok .next, w => exact w.elim
  | .ok .brk, w => exact w.elim
  | .ok .cont, w => exact w.elim
/-- f(a, .., k = b, ..) -/
theorem pcK (F : Fn X.prog X.w X.K X.mg X.base CC n fa fd pars pro) (q : Rm n X.A) (hg : Gl X x) (hm : X.mg x = some (.ref fa)) (hk : PySem.W.keepIn X.K (.ref fa) = true) (hb : KBinds X.K fd pars kw gU gW) (hx : Passes CC X EE)
    (ha : PA X (e1 :: er) ta) (hkw : PK X kws tk) (h1 : (backToKw q0 (keywordEach kws X.env)).all (·.1.isSome) = true := by rfl) (h2 : (backToKw q0 (keywordEach kws X.env)).filterMap (·.1) = kw := by rfl)
    (hdb : (x == ("__debug__" : Str)) = false := by decide) (hs : starEach (e1 :: er) X.env = (false, eval e1 X.env) :: starEach er X.env := by rfl)
    (h3 : ((backTo q0 (starEach (e1 :: er) X.env)).any (·.1) || (backToKw q0 (keywordEach kws X.env)).any (·.1.isNone)) = false := by rfl) :
    PE X (.Call (.Name x p) (e1 :: er) kws q0) (tCallK pro gW EE ta tk) := by
  refine ⟨fun pins st σ HH QQ I h => wpAny_Call_Name_kw (ld_glob I hg hm ?_ hdb)⟩
  refine PySem.W.callWith_KW (h₀ := X.base) I.ok.mod.kin hk h1 (thn (ha.run q0 pins st σ HH _ I h) fun _ s1 ⟨_, H1, I1, r, w⟩ => ?_) h3 hs
  refine thn (hkw.run q0 pins s1 σ H1 _ I1 w) fun _ _ ⟨_, _, I2, r2, w2⟩ => ⟨I2.kIn, ?_⟩
  rw [h2]
  exact runK F q hb hx I2 r r2 w2
/-- f(k = b, ..) -/
theorem pcK0 (F : Fn X.prog X.w X.K X.mg X.base CC n fa fd pars pro) (q : Rm n X.A) (hg : Gl X x) (hm : X.mg x = some (.ref fa)) (hk : PySem.W.keepIn X.K (.ref fa) = true) (hb : KBinds X.K fd pars kw gU gW) (hx : Passes CC X EE)
    (hkw : PK X kws tk) (h1 : (backToKw q0 (keywordEach kws X.env)).all (·.1.isSome) = true := by rfl) (h2 : (backToKw q0 (keywordEach kws X.env)).filterMap (·.1) = kw := by rfl)
    (hdb : (x == ("__debug__" : Str)) = false := by decide) (h3 : (backToKw q0 (keywordEach kws X.env)).any (·.1.isNone) = false := by rfl) :
    PE X (.Call (.Name x p) [] kws q0) (tCallK pro gW EE tNil tk) := by
  refine ⟨fun pins st σ HH QQ I h => wpAny_Call_Name_kw (ld_glob I hg hm ?_ hdb)⟩
  refine PySem.W.callWith_KW0 (h₀ := X.base) I.ok.mod.kin hk h1 ?_ h3
  refine thn (hkw.run q0 pins st σ HH _ I h) fun _ _ ⟨_, _, I2, r2, w2⟩ => ⟨I2.kIn, ?_⟩
  rw [h2]
  exact runK F q hb hx I2 .nil r2 w2
end
end G

set_option Elab.async false
set_option linter.all false
set_option maxRecDepth 100000
set_option maxHeartbeats 4000000
/-! Data: what a value is, its repr, its type. -/
namespace G
open PySem PySem.Spec PyProof.Rows L2 Evl

theorem showsz {d : PyData} (h : d.shown.length ≤ 100000) : d.shown.length ≤ sizeLine := Nat.le_trans h (by decide)

/-- repr(x), x a datum without dicts -/
def rRp (K : PySem.W.Frag) : List V → Hp → VK → Prop := fun xs H Q => ∃ x d, xs = [x] ∧ Dp K H x d ∧ d.showable = true ∧ d.hasDict = false ∧ d.depth ≤ 40 ∧ d.shown.length ≤ 100000 ∧ Q (.str d.shown) H
theorem call_rp {X : Cx} {n : Nat} (q : Rm n X.A) : CallR X (.builtin "repr") (rRp X.K) := by
  intro pins s σ H xs us Q I r h
  obtain ⟨x, d, rfl, hd, h1, h2, h3, h4, k⟩ := h
  obtain ⟨u, rfl, rx⟩ : ∃ u, us = [u] ∧ RelV x u := by
    cases r with
    | cons a b => cases b; exact ⟨_, rfl, a⟩
  have hz := showsz h4
  have hu := q.rm.units
  cases hd with
  | non =>
    cases (show u = Value.none from rx)
    exact P.repr_of_none ⟨.str _, H, I.tok _, ⟨_, rfl⟩, k⟩
  | bl b =>
    cases (show u = Value.bool b from rx)
    refine P.repr_of_bool ⟨.str _, H, I.tok _, ⟨_, rfl⟩, ?_⟩
    cases b <;> exact k
  | int i =>
    obtain ⟨t, rfl⟩ := (show ∃ t, u = Value.int i t from rx)
    exact P.repr_of_int (by simpa [PyData.showable] using h1) ⟨.str _, H, I.tok _, ⟨_, rfl⟩, k⟩
  | str z =>
    obtain ⟨t, rfl⟩ := (show ∃ t, u = Value.str z t from rx)
    exact P.repr_of_str ⟨.str _, H, I.tok _, ⟨_, rfl⟩, k⟩ hz
  | @lst a ys ds hs ha =>
    cases (show u = Value.ref a from rx)
    obtain ⟨as, rd⟩ := Dp.reads I (.list ds) (.ref a) (.ref a) (.lst hs ha) rfl
    exact repr_of_reads' rd h1 (PyData.noDict_hsm h2) q.gd (by omega) (fun _ _ e => e) (fun h' w tk kp => ⟨.str _, H, I.kept kp, ⟨_, rfl⟩, k⟩) hz
  | @tup a ys ds hs ha =>
    cases (show u = Value.ref a from rx)
    obtain ⟨as, rd⟩ := Dp.reads I (.tuple ds) (.ref a) (.ref a) (.tup hs ha) rfl
    exact repr_of_reads' rd h1 (PyData.noDict_hsm h2) q.gd (by omega) (fun _ _ e => e) (fun h' w tk kp => ⟨.str _, H, I.kept kp, ⟨_, rfl⟩, k⟩) hz

/-! ### a dict of scalars -/
def scD : V → Option PyData
  | .non => some .none
  | .bl b => some (.bool b)
  | .int i => some (.int i)
  | .str x => some (.str x)
  | _ => none
def keyD : Key → PyData
  | .inl i => .int i
  | .inr x => .str x
/-- the data of a dict's pairs -/
inductive Kd : List (Key × V) → List (PyData × PyData) → Prop
  | nil : Kd [] []
  | cons {k : Key} {v : V} {d : PyData} {r : List (Key × V)} {ds : List (PyData × PyData)} : scD v = some d → Kd r ds → Kd ((k, v) :: r) ((keyD k, d) :: ds)
theorem scD_reads {v : V} {u : Value} {d : PyData} {h : Heap} (e : scD v = some d) (r : RelV v u) : Reads h u d [] := by
  cases v <;> simp only [scD, Option.some.injEq, reduceCtorEq] at e
  · subst e; cases (show u = Value.none from r); exact .none
  · subst e; cases (show u = Value.bool _ from r); exact .bool _
  · subst e; obtain ⟨t, rfl⟩ := (show ∃ t, u = Value.int _ t from r); exact .int _ _
  · subst e; obtain ⟨t, rfl⟩ := (show ∃ t, u = Value.str _ t from r); exact .str _ _
theorem keyD_reads {k : Key} {u : Value} {h : Heap} (e : keyIs k u = true) : Reads h u (keyD k) [] := by
  rcases keyIs_shape e with ⟨i, t, rfl, rfl⟩ | ⟨x, t, rfl, rfl⟩
  · exact .int _ _
  · exact .str _ _
theorem Kd.reads {pr : Program} {w : World} {h : Heap} : ∀ {kvs : List (Key × V)} {ds : List (PyData × PyData)} {vs : List (Key × Value)} {es : List DictEntry}, Kd kvs ds → KV kvs vs → Pairs (mixKind pr w) es vs →
    ReadsAll h (es.map (·.key)) (ds.map (·.1)) [] ∧ ReadsAll h (es.map (·.val)) (ds.map (·.2)) []
  | _, _, _, _, .nil, r, p => by
    cases r
    cases p
    exact ⟨.nil, .nil⟩
  | _, _, _, _, .cons e k, r, p => by
    cases r with
    | cons r1 r2 =>
      cases p with
      | cons p1 p2 p3 =>
        obtain ⟨a, b⟩ := Kd.reads k r2 p3
        have r0 : RelV _ _ := r1.2
        refine ⟨?_, ?_⟩
        · have q : keyIs _ _ = true := p1
          rw [← r1.1] at q
          exact ReadsAll.cons (as := []) (bs := []) (keyD_reads q) a
        · rw [← p2] at r0
          exact ReadsAll.cons (as := []) (bs := []) (scD_reads e r0) b
/-- repr(d) -/
def rRpD : List V → Hp → VK → Prop := fun xs H Q => ∃ a kvs ds, xs = [.ref a] ∧ Rd H a (.dK kvs) ∧ Kd kvs ds ∧ (PyData.dict ds).showable = true ∧ (PyData.dict ds).depth ≤ 40 ∧ (PyData.dict ds).shown.length ≤ 100000 ∧ Q (.str (PyData.dict ds).shown) H
theorem call_rpD {X : Cx} {n : Nat} (q : Rm n X.A) : CallR X (.builtin "repr") rRpD := by
  intro pins s σ H xs us Q I r h
  obtain ⟨a, kvs, ds, rfl, hd, hk, h1, h3, h4, k⟩ := h
  obtain ⟨u, rfl, rx⟩ : ∃ u, us = [u] ∧ RelV (.ref a) u := by
    cases r with
    | cons a b => cases b; exact ⟨_, rfl, a⟩
  have hz := showsz h4
  have hu := q.rm.units
  cases (show u = Value.ref a from rx)
  obtain ⟨_, hs, vs, rv, o, es, ep, e1, e2, e3, _, e5, _⟩ := (show ObjOk X.prog X.w H s.heap a (.dK kvs) from hd.ok I.hok)
  obtain ⟨r1, r2⟩ := Kd.reads (h := s.heap) hk rv e5
  have rd : Reads s.heap (.ref a) (.dict ds) (a :: [] ++ []) := .dict e1 e2.1 e3 r1 r2
  have nsm : (PyData.dict ds).hasDict = true → sysModules ∉ a :: [] ++ [] := fun _ z => by
    have e : sysModules = a := by simpa using z
    rw [← e] at hs
    simp at hs
  exact repr_of_reads' rd h1 nsm q.gd (by omega) (fun _ _ e => e) (fun h' w tk kp => ⟨.str _, H, I.kept kp, ⟨_, rfl⟩, k⟩) hz

/-! ### data as a whole: what Dp tells, or a dict of scalars -/
inductive Dd (K : PySem.W.Frag) (H : Hp) : V → PyData → Prop
  | dp {x : V} {d : PyData} (h : Dp K H x d) : Dd K H x d
  | dk {a : Addr} {kvs : List (Key × V)} {ds : List (PyData × PyData)} (h : H a = some (.dK kvs)) (k : Kd kvs ds) : Dd K H (.ref a) (.dict ds)
def Showy (d : PyData) : Prop := d.showable = true ∧ d.depth ≤ 40 ∧ d.shown.length ≤ 100000
def rRx (K : PySem.W.Frag) : List V → Hp → VK → Prop := fun xs H Q => ∃ x d, xs = [x] ∧ Dd K H x d ∧ Showy d ∧ Q (.str d.shown) H
mutual
theorem Dp.noD {K : PySem.W.Frag} {H : Hp} : ∀ {d : PyData} {x : V}, Dp K H x d → d.hasDict = false
  | .none, _, _ => rfl
  | .bool _, _, _ => rfl
  | .int _, _, _ => rfl
  | .str _, _, _ => rfl
  | .list ds, _, h => by
    cases h with
    | lst _ a => exact DpAll.noD a
  | .tuple ds, _, h => by
    cases h with
    | tup _ a => exact DpAll.noD a
  | .dict _, _, h => by cases h
theorem DpAll.noD {K : PySem.W.Frag} {H : Hp} : ∀ {ds : List PyData} {xs : List V}, DpAll K H xs ds → PyData.hasDictAll ds = false
  | [], _, _ => rfl
  | d :: ds, _, h => by
    cases h with
    | cons a b =>
      show (d.hasDict || PyData.hasDictAll ds) = false
      rw [Dp.noD a, DpAll.noD b]
      rfl
end
theorem call_rx {X : Cx} {n : Nat} (q : Rm n X.A) : CallR X (.builtin "repr") (rRx X.K) := by
  intro pins s σ H xs us Q I r h
  obtain ⟨x, d, rfl, hd, ⟨h1, h2, h3⟩, k⟩ := h
  cases hd with
  | dp e => exact call_rp q pins s σ H _ us Q I r ⟨x, d, rfl, e, h1, Dp.noD e, h2, h3, k⟩
  | dk e kd => exact call_rpD q pins s σ H _ us Q I r ⟨_, _, _, rfl, .inl e, kd, h1, h2, h3, k⟩

/-! ### types -/
def tyD : PyData → String
  | .none => "NoneType"
  | .bool _ => "bool"
  | .int _ => "int"
  | .str _ => "str"
  | .list _ => "list"
  | .tuple _ => "tuple"
  | .dict _ => "dict"
theorem Dd.ty {K : PySem.W.Frag} {H : Hp} {x : V} {d : PyData} (h : Dd K H x d) : TyX K H x (.type (tyD d)) := by
  cases h with
  | dk e _ => exact .base (.dK e)
  | dp e =>
    cases e with
    | non => exact .base .non
    | bl b => exact .base (.bl b)
    | int i => exact .base (.int i)
    | str z => exact .base (.str z)
    | lst hs _ =>
      rcases hs with (z | ⟨o, z⟩) | ⟨o, _, _, z, c, _⟩
      · exact .base (.lst z)
      · exact .base (.frz z)
      · exact .kList z c
    | tup hs _ =>
      rcases hs with (z | ⟨o, z⟩) | ⟨o, _, _, z, c, _⟩
      · exact .base (.tup z)
      · exact .fTuple z
      · exact .kTuple z c
/-- isinstance(x, T) -/
def isI : PyData → Bool | .bool _ | .int _ => true | _ => false
def isB : PyData → Bool | .bool _ => true | _ => false
def isS : PyData → Bool | .str _ => true | _ => false
def isT : PyData → Bool | .tuple _ => true | _ => false
def isL : PyData → Bool | .list _ => true | _ => false
theorem kit_I (d : PyData) : kitB (tyD d) "int" = some (isI d) := by cases d <;> (simp only [tyD, isI]; decide +kernel)
theorem kit_B (d : PyData) : kitB (tyD d) "bool" = some (isB d) := by cases d <;> (simp only [tyD, isB]; decide +kernel)
theorem kit_S (d : PyData) : kitB (tyD d) "str" = some (isS d) := by cases d <;> (simp only [tyD, isS]; decide +kernel)
theorem kit_T (d : PyData) : kitB (tyD d) "tuple" = some (isT d) := by cases d <;> (simp only [tyD, isT]; decide +kernel)
theorem kit_L (d : PyData) : kitB (tyD d) "list" = some (isL d) := by cases d <;> (simp only [tyD, isL]; decide +kernel)
end G

set_option Elab.async false
set_option linter.all false
set_option maxRecDepth 100000
set_option maxHeartbeats 4000000
/-! Comprehensions that change nothing. -/
namespace G
open PySem PySem.Spec PyProof.Rows L2 Evl
/-- what a comprehension over J asks, its one name in slot j -/
def LcG (J : It) (j : Nat) (te : TE) (σ : L2.St) (H : Hp) (D : Addr) (Qd : Hp → Prop) : Prop :=
  ∃ W : Nat → Nat → Hp → Prop, (∃ m, W 0 m (upd H D (.lst []))) ∧
    ∀ i m Hx, W i m Hx → (J.stop i Hx ∧ Qd Hx) ∨
      (J.go i Hx ∧ ∃ Nx : Hp → Prop, (∀ H', Nx H' → ∃ m', m' < m ∧ W (i + 1) m' H') ∧
        ∀ x H', J.yld i Hx x H' → gName j x (wipe σ [j]) H' fun σ2 H2 =>
          wipe σ2 [j] = wipe σ [j] ∧ tYes σ2 H2 fun b H3 =>
            if b = true then te σ2 H3 fun y H4 => ∃ acc, H4 D = some (.lst acc) ∧ acc.length < sizeLine ∧
              Nx (upd H4 D (.lst (acc ++ [y]))) else Nx H3)
theorem wipe_set (σ : L2.St) (j : Nat) (x : V) : wipe ((wipe σ [j]).set j (some x)) [j] = wipe σ [j] := by
  show ((σ.set j none).set j (some x)).set j none = σ.set j none
  simp
/-- what each turn's item makes is told by f; nothing that was known changes -/
theorem lc_pure {J : It} {n : Nat} {Gd : Hp → Prop} {Y : Nat → Hp → V → Hp → Prop} (W : Walk J n Gd Y) {te : TE} {σ : L2.St} {j : Nat} {H : Hp} {D : Addr} {Qd : Hp → Prop} (f : Nat → V) (hn : n ≤ 100000)
    (hG : ∀ H', Ex H H' → Gd H') (It : Nat → V → Prop) (hY : ∀ i Ha x Hb, i < n → Ex H Ha → Y i Ha x Hb → Hb = Ha ∧ It i x)
    (he : ∀ i x, i < n → It i x → Ev te ((wipe σ [j]).set j (some x)) H (f i))
    (new : H D = none) (hd : ∀ H', Ex H H' → H' D = some (.lst ((List.range n).map f)) → Qd H') : LcG J j te σ H D Qd := by
  refine lc_it (g := gName j) (tt := tYes) (te := te) (vs := [j]) (σ := σ) W (fun i Hc => Ex H Hc ∧ Hc D = some (.lst ((List.range i).map f))) ⟨Ex.new new, upd_same⟩ (fun i Hc _ p => hG Hc p.1) (fun i x Ha Hb hi p y => ?_) (fun Hc p => hd Hc p.1 p.2)
  obtain ⟨e, ix⟩ := hY i Ha x Hb hi p.1 y
  rw [e]
  refine ⟨wipe_set σ j x, ?_⟩
  show te ((wipe σ [j]).set j (some x)) Ha _
  refine he i x hi ix Ha p.1 _ fun H2 e2 => ⟨_, e2 _ _ p.2, ?_, ?_, ?_⟩
  · simp only [List.length_map, List.length_range]
    exact Nat.lt_of_lt_of_le (Nat.lt_of_lt_of_le hi hn) (by decide)
  · exact (p.1.trans e2).mut new
  · rw [upd_same, List.range_succ, List.map_append]
    rfl
/-- .. over the data of a list or tuple: a test of each -/
theorem range_map {α β : Type} (xs : List α) (f : Nat → β) (g : α → β) (h : ∀ i x, xs[i]? = some x → f i = g x) : (List.range xs.length).map f = xs.map g := by
  apply List.ext_getElem?
  intro i
  rw [List.getElem?_map, List.getElem?_map]
  by_cases hi : i < xs.length
  · rw [List.getElem?_range hi, List.getElem?_eq_getElem hi]
    show some (f i) = some (g xs[i])
    rw [h i xs[i] (List.getElem?_eq_getElem hi)]
  · rw [List.getElem?_eq_none (by simpa using Nat.le_of_not_lt hi), List.getElem?_eq_none (Nat.le_of_not_lt hi)]
    rfl
theorem lc_data {K : PySem.W.Frag} {J : It} {xs : List V} {ds : List PyData} {Gd : Hp → Prop} (W : Walk J xs.length Gd (YAt xs)) {te : TE} {σ : L2.St} {j : Nat} {H : Hp} {D : Addr} {Qd : Hp → Prop} (t : PyData → Bool) (hn : xs.length ≤ 100000)
    (hG : ∀ H', Ex H H' → Gd H') (hx : DpAll K H xs ds) (he : ∀ x d, Dp K H x d → Ev te ((wipe σ [j]).set j (some x)) H (.bl (t d)))
    (hK : ∀ (i : Nat) (x : V), xs[i]? = some x → ∃ d, ds[i]? = some d ∧ Dp K H x d)
    (new : H D = none) (hd : ∀ H', Ex H H' → H' D = some (.lst ((ds.map t).map V.bl)) → Qd H') : LcG J j te σ H D Qd := by
  have hl : xs.length = ds.length := by
    clear hG he hK hd W hn new
    induction hx using DpAll.rec (motive_1 := fun _ _ _ => True) <;> simp_all
  refine lc_pure W (fun i => .bl (t (ds.getD i .none))) hn hG (fun i x => xs[i]? = some x) (fun i Ha x Hb _ _ y => ⟨y.1, y.2⟩) (fun i x hi e => ?_) new (fun H' e q => hd H' e ?_)
  · obtain ⟨d, e1, e2⟩ := hK i x e
    have e3 : ds.getD i .none = d := by rw [List.getD_eq_getElem?_getD, e1]; rfl
    rw [e3]
    exact he x d e2
  · rw [q, hl, List.map_map]
    congr 2
    exact range_map ds _ _ fun i d e => by
      show V.bl (t (ds.getD i .none)) = V.bl (t d)
      rw [List.getD_eq_getElem?_getD, e]
      rfl
/-- .. the parts of which have a property -/
theorem lc_dataS {S : PyData → Prop} {K : PySem.W.Frag} {J : It} {xs : List V} {ds : List PyData} {Gd : Hp → Prop} (W : Walk J xs.length Gd (YAt xs)) {te : TE} {σ : L2.St} {j : Nat} {H : Hp} {D : Addr} {Qd : Hp → Prop} (t : PyData → Bool) (hn : xs.length ≤ 100000)
    (hG : ∀ H', Ex H H' → Gd H') (hx : DpAll K H xs ds) (hS : ∀ d ∈ ds, S d) (he : ∀ x d, Dp K H x d → S d → Ev te ((wipe σ [j]).set j (some x)) H (.bl (t d)))
    (hK : ∀ (i : Nat) (x : V), xs[i]? = some x → ∃ d, ds[i]? = some d ∧ Dp K H x d)
    (new : H D = none) (hd : ∀ H', Ex H H' → H' D = some (.lst ((ds.map t).map V.bl)) → Qd H') : LcG J j te σ H D Qd := by
  have hl : xs.length = ds.length := by
    clear hG he hK hd W hn new hS
    induction hx using DpAll.rec (motive_1 := fun _ _ _ => True) <;> simp_all
  refine lc_pure W (fun i => .bl (t (ds.getD i .none))) hn hG (fun i x => xs[i]? = some x) (fun i Ha x Hb _ _ y => ⟨y.1, y.2⟩) (fun i x hi e => ?_) new (fun H' e q => hd H' e ?_)
  · obtain ⟨d, e1, e2⟩ := hK i x e
    have e3 : ds.getD i .none = d := by rw [List.getD_eq_getElem?_getD, e1]; rfl
    rw [e3]
    exact he x d e2 (hS d (List.mem_of_getElem? e1))
  · rw [q, hl, List.map_map]
    congr 2
    exact range_map ds _ _ fun i d e => by
      show V.bl (t (ds.getD i .none)) = V.bl (t d)
      rw [List.getD_eq_getElem?_getD, e]
      rfl
end G

set_option Elab.async false
set_option linter.all false
set_option maxRecDepth 100000
set_option maxHeartbeats 4000000
/-! A tuple once, or not at all: t * 1, t * 0. -/
namespace G
open PySem PySem.Spec PyProof.Rows L2 Evl
theorem tmul_one (l : Addr) (items : Array Value) (n : Nat) (sl : Array (Option Value)) (u : Tok) (dd : Option Addr) :
    Meets (Builtin.«tuple.__mul__» ⟨[.ref l, .int 1 u], []⟩) (fun _ R s => s.heap.get? l = some { cls := .type "tuple", dict := dd, data := .seq items n, slots := sl } ∧ R (.ok (.ret (Value.ref l))) s) :=
  .of_wp fun prog w A R s h => by
    obtain ⟨hp, g, d, tk, os⟩ := s
    obtain ⟨hl, h⟩ := h
    have f1 := AutoSeq1.idx_int
    wp_walk using wpAny_loadPart' hl
    exact ⟨_, rfl, h⟩
theorem tmul_zero (l : Addr) (items : Array Value) (n : Nat) (sl : Array (Option Value)) (u : Tok) (dd : Option Addr) (hi : items.isEmpty = false) :
    Meets (Builtin.«tuple.__mul__» ⟨[.ref l, .int 0 u], []⟩) (fun _ R s => s.heap.get? l = some { cls := .type "tuple", dict := dd, data := .seq items n, slots := sl } ∧
      R (.ok (.ret (Value.ref s.heap.objs.size))) { s with heap := s.heap.push { cls := Value.type "tuple", data := Data.seq #[] }, toks := s.toks }) :=
  .of_wp fun prog w A R s h => by
    obtain ⟨hp, g, d, tk, os⟩ := s
    obtain ⟨hl, h⟩ := h
    have f1 := AutoSeq1.idx_int
    wp_walk using wpAny_loadPart' hl
    exact ⟨_, rfl, h⟩
/-- t * k, 0 ≤ k -/
def rRepA (K : PySem.W.Frag) : R2 := fun x y H Q => ∃ l k xs, x = .ref l ∧ y = .int k ∧ SqT K H l xs ∧ xs ≠ [] ∧ 0 ≤ k ∧ k ≤ 1000 ∧ xs.length ≤ 1000 ∧ (k = 1 → Q (.ref l) H) ∧ (k ≠ 1 → ∀ p, H p = none → Q (.ref p) (upd H p (.tup (List.replicate k.toNat xs).flatten)))
theorem op_repA {X : Cx} : OpR X (binaryOp .Mult) (rRepA X.K) := by
  intro pins s σ H x y v u Q I rx ry h
  obtain ⟨l, k, xs, rfl, rfl, hT, hne, h0, h1, hz, q1, q2⟩ := h
  by_cases c2 : 2 ≤ k
  · exact op_repT pins s σ H _ _ v u Q I rx ry ⟨l, k, xs, rfl, rfl, hT, hne, c2, h1, hz, q2 (by omega)⟩
  · cases rx
    obtain ⟨t, rfl⟩ := ry
    obtain ⟨its, r, ⟨⟨cl, dd, dat, sl⟩, ho, hc, n, hd⟩, hs⟩ := I.tuple hT
    simp only at hc hd
    subst hc hd
    have hi : its.toArray.isEmpty = false := by
      cases its with
      | nil =>
        cases r
        exact absurd rfl hne
      | cons a b => rfl
    by_cases c1 : k = 1
    · subst c1
      refine wpAny_binaryOp_repeat_ref (T := "tuple") (U := "int") (by decide) ⟨_, ho, rfl⟩ (fun s' => typeIs_int s' 1 t) noFill_tuple_mul F.fills_int_mul F.slot_int_rmul repeat_tuple F.slot_int_index.lookup ?_
      refine call_meets F.slot_int_rmul (typeIs_int s 1 t) F.entry_int_rmul (F.args_int_rmul_2 _ _) (int_rmul_tuple 1 t l its.toArray n dd sl) ⟨ho, rfl, ⟨_, ho, rfl⟩, ?_⟩
      exact call_meets F.slot_tuple_mul ⟨_, ho, rfl⟩ F.entry_tuple_mul (F.args_tuple_mul_2 _ _) (tmul_one l its.toArray n sl t dd) ⟨ho, .ref l, H, I.tok _, rfl, q1 rfl⟩
    · obtain rfl : k = 0 := by omega
      refine wpAny_binaryOp_repeat_ref (T := "tuple") (U := "int") (by decide) ⟨_, ho, rfl⟩ (fun s' => typeIs_int s' 0 t) noFill_tuple_mul F.fills_int_mul F.slot_int_rmul repeat_tuple F.slot_int_index.lookup ?_
      refine call_meets F.slot_int_rmul (typeIs_int s 0 t) F.entry_int_rmul (F.args_int_rmul_2 _ _) (int_rmul_tuple 0 t l its.toArray n dd sl) ⟨ho, rfl, ⟨_, ho, rfl⟩, ?_⟩
      refine call_meets F.slot_tuple_mul ⟨_, ho, rfl⟩ F.entry_tuple_mul (F.args_tuple_mul_2 _ _) (tmul_zero l its.toArray n sl t dd hi) ⟨ho, ?_⟩
      refine ⟨.ref s.heap.objs.size, _, I.laid (t' := s.toks) (o := .tup (List.replicate (0 : Int).toNat xs).flatten) (fun b ob q => Heap.get?_push_of_some _ q) (Nat.le_refl _) ?_, rfl, q2 (by decide) _ (I.hok.fresh (Nat.le_refl _))⟩
      exact ⟨Nat.zero_le _, [], .nil, IsTup.new _ _⟩
end G

set_option Elab.async false
set_option linter.all false
set_option maxRecDepth 100000
set_option maxHeartbeats 4000000
/-! What is written out as data: everything in it is new. -/
namespace G
open PySem PySem.Spec PyProof.Rows L2 Evl
/-- what H' has and H had not -/
def nw (H H' : Hp) : Hp := fun b => if H b = none then H' b else none
theorem nw_some {H H' : Hp} {b : Addr} {o : HO} : nw H H' b = some o ↔ H b = none ∧ H' b = some o := by
  unfold nw
  by_cases h : H b = none
  · rw [if_pos h]; exact ⟨fun e => ⟨h, e⟩, fun e => e.2⟩
  · rw [if_neg h]; exact ⟨fun e => (by cases e), fun e => absurd e.1 h⟩
theorem nw_ex {H H1 H2 : Hp} (e : Ex H1 H2) : Ex (nw H H1) (nw H H2) := fun b o h => by
  rw [nw_some] at h ⊢
  exact ⟨h.1, e b o h.2⟩
theorem nw_back {H H1 H2 : Hp} (e : Ex H H1) : Ex (nw H1 H2) (nw H H2) := fun b o h => by
  rw [nw_some] at h ⊢
  exact ⟨fresh_back e h.1, h.2⟩
theorem nw_out {H H' : Hp} : Ex (nw H H') H' := fun b o h => (nw_some.mp h).2
mutual
theorem dp_exG {K : PySem.W.Frag} {H H' : Hp} (e : Ex H H') : ∀ {d : PyData} {x : V}, Dp K H x d → Dp K H' x d
  | .none, _, h => by cases h; exact .non
  | .bool b, _, h => by cases h; exact .bl b
  | .int i, _, h => by cases h; exact .int i
  | .str z, _, h => by cases h; exact .str z
  | .list ds, _, h => by
    cases h with
    | lst hs a => exact .lst (ex_l e hs) (dpAll_exG e a)
  | .tuple ds, _, h => by
    cases h with
    | tup hs a => exact .tup (ex_t e hs) (dpAll_exG e a)
  | .dict _, _, h => by cases h
theorem dpAll_exG {K : PySem.W.Frag} {H H' : Hp} (e : Ex H H') : ∀ {ds : List PyData} {xs : List V}, DpAll K H xs ds → DpAll K H' xs ds
  | [], _, h => by cases h; exact .nil
  | d :: ds, _, h => by
    cases h with
    | cons a b => exact .cons (dp_exG e a) (dpAll_exG e b)
end
theorem dd_exG {K : PySem.W.Frag} {H H' : Hp} {x : V} {d : PyData} (e : Ex H H') (h : Dd K H x d) : Dd K H' x d := by
  cases h with
  | dp q => exact .dp (dp_exG e q)
  | dk q k => exact .dk (e _ _ q) k
inductive DdAll (K : PySem.W.Frag) (H : Hp) : List V → List PyData → Prop
  | nil : DdAll K H [] []
  | cons {x : V} {d : PyData} {xs : List V} {ds : List PyData} : Dd K H x d → DdAll K H xs ds → DdAll K H (x :: xs) (d :: ds)
theorem DdAll.ex {K : PySem.W.Frag} {H H' : Hp} (e : Ex H H') {xs : List V} {ds : List PyData} (h : DdAll K H xs ds) : DdAll K H' xs ds := by
  induction h with
  | nil => exact .nil
  | cons a _ ih => exact .cons (dd_exG e a) ih
theorem DdAll.len {K : PySem.W.Frag} {H : Hp} {xs : List V} {ds : List PyData} (h : DdAll K H xs ds) : xs.length = ds.length := by
  induction h with
  | nil => rfl
  | cons _ _ ih => simp [ih]
theorem DdAll.append {K : PySem.W.Frag} {H : Hp} {xs ys : List V} {ds es : List PyData} (h : DdAll K H xs ds) (q : DdAll K H ys es) : DdAll K H (xs ++ ys) (ds ++ es) := by
  induction h with
  | nil => exact q
  | cons a _ ih => exact .cons a ih
theorem DdAll.at {K : PySem.W.Frag} {H : Hp} {xs : List V} {ds : List PyData} (h : DdAll K H xs ds) : ∀ {i : Nat} {x : V}, xs[i]? = some x → ∃ d, ds[i]? = some d ∧ Dd K H x d := by
  induction h with
  | nil => intro i x e; simp at e
  | cons a _ ih =>
    intro i x e
    cases i with
    | zero =>
      simp at e
      subst e
      exact ⟨_, rfl, a⟩
    | succ i =>
      obtain ⟨d, e1, e2⟩ := ih (by simpa using e)
      exact ⟨d, by simpa using e1, e2⟩
/-- te gives a new datum -/
def Nd (K : PySem.W.Frag) (te : TE) (d : PyData) : Prop := ∀ σ H (Q : VK), (∀ x H', Ex H H' → Dp K (nw H H') x d → Q x H') → te σ H Q
def Nds (K : PySem.W.Frag) (ta : TA) (ds : List PyData) : Prop := ∀ σ H (Q : List V → Hp → Prop), (∀ xs H', Ex H H' → DpAll K (nw H H') xs ds → Q xs H') → ta σ H Q
def Ndd (K : PySem.W.Frag) (te : TE) (d : PyData) : Prop := ∀ σ H (Q : VK), (∀ x H', Ex H H' → Dd K (nw H H') x d → Q x H') → te σ H Q
def Ndds (K : PySem.W.Frag) (ta : TA) (ds : List PyData) : Prop := ∀ σ H (Q : List V → Hp → Prop), (∀ xs H', Ex H H' → DdAll K (nw H H') xs ds → Q xs H') → ta σ H Q
section
variable {K : PySem.W.Frag} {te : TE} {ta : TA} {d : PyData} {ds : List PyData}
theorem nd_non : Nd K (tC .non) .none := fun _ H _ q => q _ H (Ex.refl H) .non
theorem nd_bl {b : Bool} : Nd K (tC (.bl b)) (.bool b) := fun _ H _ q => q _ H (Ex.refl H) (.bl b)
theorem nd_int {i : Int} : Nd K (tC (.int i)) (.int i) := fun _ H _ q => q _ H (Ex.refl H) (.int i)
theorem nd_str {z : Str} : Nd K (tC (.str z)) (.str z) := fun _ H _ q => q _ H (Ex.refl H) (.str z)
theorem nd_neg {i : Int} : Nd K (tUn (rU fun i => .int (-i)) (tC (.int i))) (.int (-i)) := fun _ H _ q => ⟨i, rfl, q _ H (Ex.refl H) (.int (-i))⟩
theorem nds_nil : Nds K tNil [] := fun _ H _ q => q _ H (Ex.refl H) .nil
theorem nds_cons (a : Nd K te d) (b : Nds K ta ds) : Nds K (tCons te ta) (d :: ds) := fun σ H Q q =>
  a σ H _ fun x H1 e1 h1 => b σ H1 _ fun xs H2 e2 h2 => q _ H2 (e1.trans e2) (.cons (dp_exG (nw_ex e2) h1) (dpAll_exG (nw_back e1) h2))
theorem DpAll.lenG {H : Hp} : ∀ {ds : List PyData} {xs : List V}, DpAll K H xs ds → xs.length = ds.length
  | [], _, h => by cases h; rfl
  | _ :: _, _, h => by
    cases h with
    | cons _ b => simp [DpAll.lenG b]
theorem nd_tup (a : Nds K ta ds) (hl : ds.length ≤ 1000) : Nd K (tTup ta) (.tuple ds) := fun σ H Q q =>
  a σ H _ fun xs H1 e1 h1 => ⟨Nat.le_trans (by rw [DpAll.lenG h1]; exact hl) (show 1000 ≤ sizeLine by decide), fun p hp => by
    have e2 : Ex H1 (upd H1 p (.tup xs)) := Ex.new hp
    refine q _ _ (e1.trans e2) (.tup (xs := xs) (.inl (.inl ?_)) (dpAll_exG (nw_ex e2) h1))
    rw [nw_some]
    exact ⟨fresh_back e1 hp, upd_same⟩⟩
theorem nd_lst (a : Nds K ta ds) (hl : ds.length ≤ 1000) : Nd K (tLst ta) (.list ds) := fun σ H Q q =>
  a σ H _ fun xs H1 e1 h1 => ⟨Nat.le_trans (by rw [DpAll.lenG h1]; exact hl) (show 1000 ≤ sizeLine by decide), fun p hp => by
    have e2 : Ex H1 (upd H1 p (.lst xs)) := Ex.new hp
    refine q _ _ (e1.trans e2) (.lst (xs := xs) (.inl (.inl ?_)) (dpAll_exG (nw_ex e2) h1))
    rw [nw_some]
    exact ⟨fresh_back e1 hp, upd_same⟩⟩
theorem ndd_of (a : Nd K te d) : Ndd K te d := fun σ H Q q => a σ H Q fun x H' e h => q x H' e (.dp h)
theorem ndds_nil : Ndds K tNil [] := fun _ H _ q => q _ H (Ex.refl H) .nil
theorem ndds_cons (a : Ndd K te d) (b : Ndds K ta ds) : Ndds K (tCons te ta) (d :: ds) := fun σ H Q q =>
  a σ H _ fun x H1 e1 h1 => b σ H1 _ fun xs H2 e2 h2 => q _ H2 (e1.trans e2) (.cons (dd_exG (nw_ex e2) h1) (h2.ex (nw_back e1)))
theorem ndd_empty : Ndd K tDNewK (.dict []) := fun σ H Q q p hp => q _ _ (Ex.new hp) (.dk (kvs := []) (nw_some.mpr ⟨hp, upd_same⟩) .nil)
/-- a list of data, written out: l is new -/
theorem rd_data {σ : L2.St} {H : Hp} {Q : VK} (a : Ndds K ta ds) (hl : ds.length ≤ 1000) (q : ∀ l xs H', H l = none → Ex H H' → H' l = some (.lst xs) → DdAll K (nw H H') xs ds → Q (.ref l) H') : tLst ta σ H Q :=
  a σ H _ fun xs H1 e1 h1 => ⟨Nat.le_trans (by rw [h1.len]; exact hl) (show 1000 ≤ sizeLine by decide), fun p hp =>
    q p xs _ (fresh_back e1 hp) (e1.trans (Ex.new hp)) upd_same (h1.ex (nw_ex (Ex.new hp)))⟩
end
end G

set_option Elab.async false
set_option linter.all false
set_option maxRecDepth 100000
set_option maxHeartbeats 4000000
/-! Values without changes: more of what evaluates to what. -/
namespace G
open PySem PySem.Spec PyProof.Rows L2 Evl
/-- a list, new or not -/
def EvLs (te : TE) (σ : L2.St) (H : Hp) (xs : List V) : Prop := ∀ H1, Ex H H1 → ∀ Q : VK, (∀ p H2, Ex H1 H2 → H2 p = some (.lst xs) → Q (.ref p) H2) → te σ H1 Q
section
variable {K : PySem.W.Frag} {σ : L2.St} {H : Hp} {ta tb te : TE} {xs ys : List V} {x y z v : V}
theorem EvLs.of (h : EvL te σ H xs) : EvLs te σ H xs := fun H1 e Q q => h H1 e Q fun p H2 _ e2 h2 => q p H2 e2 h2
theorem evs_var {i : Nat} {a : Addr} (hs : σ[i]? = some (some (.ref a))) (hl : H a = some (.lst xs)) : EvLs (tVar i) σ H xs := fun H1 e Q q => ⟨_, hs, q a H1 (Ex.refl H1) (e _ _ hl)⟩
theorem el_cat (ha : EvLs ta σ H xs) (hb : EvLs tb σ H ys) (hz : xs.length + ys.length ≤ 100000) : EvL (tOp rCat ta tb) σ H (xs ++ ys) := fun H1 e Q q =>
  ha H1 e _ fun p H2 e2 h2 => hb H2 (e.trans e2) _ fun p' H3 e3 h3 => ⟨p, p', xs, ys, rfl, rfl, e3 _ _ h2, h3, sz_of hz, fun c hc => q c _ (fresh_back (e2.trans e3) hc) ((e2.trans e3).trans (Ex.new hc)) upd_same⟩
theorem ev_callK {pro : Sp} {gW : List V → List V → List V} {E : XK} {tk : TA} {vs : List V} (h : EvA tk σ H vs) (hs : SpV pro (gW [] vs) H z) : Ev (tCallK pro gW E tNil tk) σ H z := fun H1 e Q q =>
  h H1 e _ fun H2 e2 => hs H2 (e.trans e2) Q (fun H3 e3 => q H3 (e2.trans e3)) E
theorem ea_2 {t1 t2 : TE} (h1 : Ev t1 σ H x) (h2 : Ev t2 σ H y) : EvA (tCons t1 (tCons t2 tNil)) σ H [x, y] := ea_cons h1 (ea_cons h2 ea_nil)
theorem ea_1 {t1 : TE} (h1 : Ev t1 σ H x) : EvA (tCons t1 tNil) σ H [x] := ea_cons h1 ea_nil
theorem el_rep {n : Nat} (ha : EvLs ta σ H xs) (hz : xs.length * n ≤ 100000) (hn : n ≤ 100000) : EvL (tOp rRep ta (tC (.int (n : Int)))) σ H (List.replicate n xs).flatten := fun H1 e Q q =>
  ha H1 e _ fun p H2 e2 h2 => ⟨p, (n : Int), xs, rfl, rfl, h2, by omega, by omega, by
    have : ((n : Int)).toNat = n := by omega
    rw [this]
    exact sz_of hz, fun c hc => by
    have : ((n : Int)).toNat = n := by omega
    rw [this]
    exact q c _ (fresh_back e2 hc) (e2.trans (Ex.new hc)) upd_same⟩
/-- a new list, then what follows -/
theorem rd_l {Q : VK} (xs : List V) (h : EvL te σ H xs) (q : ∀ p H1, H p = none → Ex H H1 → H1 p = some (.lst xs) → Q (.ref p) H1) : te σ H Q := h H (Ex.refl H) Q q
theorem rd_v {Q : VK} (v : V) (h : Ev te σ H v) (q : ∀ H1, Ex H H1 → Q v H1) : te σ H Q := h H (Ex.refl H) Q q
variable {u : TS} {D : Ends} {i j : Nat}
theorem q_asgL (xs : List V) (h : EvL te σ H xs) (k : ∀ p H1, H p = none → Ex H H1 → H1 p = some (.lst xs) → u D (σ.set i (some (.ref p))) H1) : tSeq (tAsg te (gName i)) u D σ H := h H (Ex.refl H) _ fun p H1 a b c => k p H1 a b c
theorem q_asgV (v : V) (h : Ev te σ H v) (k : ∀ H1, Ex H H1 → u D (σ.set i (some v)) H1) : tSeq (tAsg te (gName i)) u D σ H := h H (Ex.refl H) _ fun H1 a => k H1 a
theorem q_par {ta : TA} (v z : V) (h : EvA ta σ H [v, z]) (k : ∀ H1, Ex H H1 → u D ((σ.set i (some v)).set j (some z)) H1) : tSeq (tPar i j ta) u D σ H := h H (Ex.refl H) _ fun H1 a => ⟨v, z, rfl, k H1 a⟩
/-- for x in range(n), n written -/
theorem q_forR {tb : TS} {n : Nat} (hn : n ≤ 100000) (Pv : Nat → L2.St → Hp → Prop) (h0 : Pv 0 σ H)
    (hs : ∀ (i : Nat) (σ' : L2.St) (H' : Hp), i < n → Pv i σ' H' → tb { D with nx := Pv (i + 1), ct := Pv (i + 1), bk := u D } (σ'.set j (some (.int (i : Int)))) H') (hd : ∀ σ' H', Pv n σ' H' → u D σ' H') :
    tSeq (tFor (iRng1 (tCons (tC (.int (n : Int))) tNil)) (gName j) tb) u D σ H :=
  ⟨(n : Int), rfl, by omega, by omega, for_range (lo := 0) (n := (n : Int).toNat) Pv h0 (fun i σ' H' hi p => by
    have e0 : (0 : Int) + (i : Int) = (i : Int) := Int.zero_add _
    show tb { D with nx := Pv (i + 1), ct := Pv (i + 1), bk := u D } (σ'.set j (some (.int ((0 : Int) + (i : Int))))) H'
    rw [e0]
    exact hs i σ' H' (by omega) p) (fun σ' H' p => hd σ' H' (by simpa using p))⟩
end
end G

set_option Elab.async false
set_option linter.all false
set_option maxRecDepth 100000
set_option maxHeartbeats 4000000
/-! Comprehensions that make data. -/
namespace G
open PySem PySem.Spec PyProof.Rows L2 Evl
/-- H without D -/
def hid (D : Addr) (H : Hp) : Hp := fun b => if b = D then none else H b
theorem hid_some {D b : Addr} {H : Hp} {o : HO} : hid D H b = some o ↔ b ≠ D ∧ H b = some o := by
  unfold hid
  by_cases h : b = D
  · rw [if_pos h]; exact ⟨fun e => (by cases e), fun e => absurd h e.1⟩
  · rw [if_neg h]; exact ⟨fun e => ⟨h, e⟩, fun e => e.2⟩
theorem hid_ex {D : Addr} {H H' : Hp} (e : Ex H H') : Ex (hid D H) (hid D H') := fun b o q => hid_some.mpr ⟨(hid_some.mp q).1, e b o (hid_some.mp q).2⟩
theorem hid_upd {D : Addr} {H : Hp} {o : HO} : Ex (hid D H) (hid D (upd H D o)) := fun b u q => by
  rw [hid_some] at q ⊢
  exact ⟨q.1, by rw [upd_ne q.1]; exact q.2⟩
theorem hid_out {D : Addr} {H : Hp} : Ex (hid D H) H := fun b o q => (hid_some.mp q).2
theorem hid_nw {D : Addr} {Ha H' : Hp} (h : Ha D ≠ none) : Ex (nw Ha H') (hid D H') := fun b o q => by
  rw [nw_some] at q
  exact hid_some.mpr ⟨fun z => h (by rw [← z]; exact q.1), q.2⟩
theorem hid_old {D : Addr} {H Ha : Hp} (h : H D = none) (e : Ex H Ha) : Ex H (hid D Ha) := fun b o q => hid_some.mpr ⟨ne_of_none q h, e b o q⟩
theorem dpAll_appG {K : PySem.W.Frag} {H : Hp} : ∀ {xs ys : List V} {ds es : List PyData}, DpAll K H xs ds → DpAll K H ys es → DpAll K H (xs ++ ys) (ds ++ es)
  | [], _, _, _, h, q => by cases h; exact q
  | _ :: _, _, _, _, h, q => by
    cases h with
    | cons a b => exact .cons a (dpAll_appG b q)
theorem tVar_eq {i : Nat} {v : V} {σ : L2.St} {H : Hp} (h : σ[i]? = some (some v)) : tVar i σ H = fun R => R v H := by
  funext R
  refine propext ⟨fun ⟨v', e, q⟩ => ?_, fun q => ⟨v, h, q⟩⟩
  rw [h] at e
  cases e
  exact q
theorem pi_tupK {Y : Cx} {K : PySem.W.Frag} {tg l : Expr} {tl : TE} (hl : PE Y l tl) (h : Y.K = K := by rfl) : PI Y tg l (iTup K tl) := by
  subst h
  exact pi_tup hl
/-- [e for x in xs for b in (0, 1)]: what it asks, slots j and j2; each e makes a new datum -/
theorem lc2_new {K : PySem.W.Frag} {a : Addr} {xs : List V} {te : TE} {σ : L2.St} {j j2 : Nat} {H : Hp} {Q : VK} (f : Nat → Nat → PyData) (hx : SqL K H a xs) (hz : xs.length ≤ 1000) {tl : TE} (hl : tl σ H = fun R => R (.ref a) H) (hjj : j ≠ j2)
    (he : ∀ (i c : Nat) (x : V), xs[i]? = some x → c < 2 → ∀ Ha, Ex H Ha → ∀ Q1 : VK, (∀ v H', Ex Ha H' → Dp K (nw Ha H') v (f i c) → Q1 v H') → te (((wipe σ [j, j2]).set j (some x)).set j2 (some (.int (c : Int)))) Ha Q1)
    (hd : ∀ D vs H', H D = none → Ex H H' → H' D = some (.lst vs) → DpAll K (hid D H') vs ((List.range xs.length).flatMap fun i => [f i 0, f i 1]) → Q (.ref D) H') :
    tLc2 (iList K tl) (gName j) tYes (iTup K (tTup (tCons (tC (.int 0)) (tCons (tC (.int 1)) tNil)))) (gName j2) tYes te [j, j2] [j2] σ H Q := by
  show iList K tl σ H _
  unfold iList
  rw [hl]
  refine ⟨a, rfl, ⟨xs, hx⟩, fun D new => ?_⟩
  have w0 : ∀ x, wipe ((wipe σ [j, j2]).set j (some x)) [j, j2] = wipe σ [j, j2] := fun x => by
    show ((((σ.set j2 none).set j none).set j (some x)).set j2 none).set j none = (σ.set j2 none).set j none
    rw [List.set_set, List.set_comm _ _ hjj, List.set_set, List.set_set]
  refine ⟨fun i m Hc => m = xs.length - i ∧ i ≤ xs.length ∧ Ex H Hc ∧ ∃ vs, Hc D = some (.lst vs) ∧ DpAll K (hid D Hc) vs ((List.range i).flatMap fun i => [f i 0, f i 1]) ∧ vs.length = 2 * i, ⟨xs.length, by simp, Nat.zero_le _, Ex.new new, [], upd_same, .nil, rfl⟩, ?_⟩
  rintro i m Hc ⟨rfl, hi, e, vs, hD, hv, hvl⟩
  by_cases hlt : i < xs.length
  · refine .inr ⟨⟨xs, xs[i], ex_l e hx, by simp [hlt]⟩, fun H' => Ex H H' ∧ ∃ vs, H' D = some (.lst vs) ∧ DpAll K (hid D H') vs ((List.range (i + 1)).flatMap fun i => [f i 0, f i 1]) ∧ vs.length = 2 * (i + 1), fun H' p => ⟨xs.length - (i + 1), by omega, rfl, hlt, p⟩, fun x H' y => ?_⟩
    have hxi : xs[i]? = some x := y.2 xs (ex_l e hx)
    obtain rfl : H' = Hc := y.1
    refine ⟨w0 x, ?_⟩
    unfold tYes
    dsimp only
    rw [if_pos rfl]
    refine ⟨(by show 2 ≤ sizeLine; decide), fun t ht => ⟨t, rfl, ⟨_, st_of upd_same⟩, ?_⟩⟩
    have e1 : Ex H' (upd H' t (.tup [.int 0, .int 1])) := Ex.new ht
    have hv1 := dpAll_exG (hid_ex (D := D) e1) hv
    refine ⟨fun c k Hc => k = 2 - c ∧ c ≤ 2 ∧ Ex H Hc ∧ Hc t = some (.tup [.int 0, .int 1]) ∧ ∃ vs, Hc D = some (.lst vs) ∧ DpAll K (hid D Hc) vs (((List.range i).flatMap fun i => [f i 0, f i 1]) ++ (List.range c).map (f i)) ∧ vs.length = 2 * i + c,
      ⟨2, rfl, Nat.zero_le _, e.trans e1, upd_same, vs, e1 _ _ hD, by simpa using hv1, hvl⟩, ?_⟩
    rintro c k Hd ⟨rfl, hc, e2, ht2, ws, hD2, hw, hwl⟩
    by_cases hc2 : c < 2
    · refine .inr ⟨⟨[.int 0, .int 1], [V.int 0, V.int 1][c], st_of ht2, by simp [hc2]⟩, fun H' => Ex H H' ∧ H' t = some (.tup [.int 0, .int 1]) ∧ ∃ vs, H' D = some (.lst vs) ∧ DpAll K (hid D H') vs (((List.range i).flatMap fun i => [f i 0, f i 1]) ++ (List.range (c + 1)).map (f i)) ∧ vs.length = 2 * i + (c + 1), fun H' p => ⟨2 - (c + 1), by omega, rfl, hc2, p⟩, fun b Hb yb => ?_⟩
      have hb : [V.int 0, V.int 1][c]? = some b := yb.2 _ (st_of ht2)
      obtain rfl : Hb = Hd := yb.1
      have hb2 : b = .int (c : Int) := by
        match c, hc2, hb with
        | 0, _, hb => simpa using hb.symm
        | 1, _, hb => simpa using hb.symm
      subst hb2
      refine ⟨?_, ?_⟩
      · show ((((wipe σ [j, j2]).set j (some x)).set j2 none).set j2 (some (.int (c : Int)))).set j2 none = ((wipe σ [j, j2]).set j (some x)).set j2 none
        simp
      rw [if_pos rfl]
      have es : (((wipe σ [j, j2]).set j (some x)).set j2 none).set j2 (some (V.int (c : Int))) = ((wipe σ [j, j2]).set j (some x)).set j2 (some (.int (c : Int))) := by simp
      have es2 : (List.set (wipe (List.set (wipe σ [j, j2]) j (some x)) [j2]) j2 (some (V.int (c : Int)))) = ((wipe σ [j, j2]).set j (some x)).set j2 (some (.int (c : Int))) := es
      rw [es2]
      refine he i c x hxi hc2 Hb e2 _ fun v He e3 dv => ⟨ws, e3 _ _ hD2, ?_, ?_, ?_, ws ++ [v], upd_same, ?_, ?_⟩
      · exact Nat.lt_of_lt_of_le (show ws.length < 3000 by omega) (by decide)
      · exact (e2.trans e3).mut new
      · rw [upd_ne (fun z => by rw [z, hD2] at ht2; cases ht2)]
        exact e3 _ _ ht2
      · rw [List.range_succ, List.map_append, ← List.append_assoc]
        refine dpAll_appG (dpAll_exG hid_upd (dpAll_exG (hid_ex e3) hw)) (.cons (dp_exG hid_upd (dp_exG (hid_nw (by rw [hD2]; simp)) dv)) .nil)
      · simp [hwl]
        omega
    · have : c = 2 := by omega
      subst this
      refine .inl ⟨⟨_, st_of ht2, Nat.le_refl _⟩, e2, ws, hD2, ?_, by omega⟩
      rw [List.range_succ, List.flatMap_append]
      have r2 : (List.range 2).map (f i) = [f i 0, f i 1] := rfl
      rw [r2] at hw
      simpa using hw
  · have : i = xs.length := by omega
    subst this
    exact .inl ⟨⟨xs, ex_l e hx, Nat.le_refl _⟩, hd D vs Hc new e hD hv⟩
end G

set_option Elab.async false
set_option linter.all false
set_option maxRecDepth 100000
set_option maxHeartbeats 4000000
/-! try with several clauses, each one with the same name behind «as». -/
namespace G
open PySem PySem.Spec PyProof.Rows L2 Evl
/-- the ends within a suite: its name, slot i, is gone behind it -/
def endsAs (i : Nat) (D : Ends) : Ends := { nx := fun σ' H' => D.nx (σ'.set i none) H', rt := D.rt, bk := fun σ' H' => D.bk (σ'.set i none) H', ct := fun σ' H' => D.ct (σ'.set i none) H' }
/-- what the clauses wish of an exception, one behind the other -/
def wAll (K : PySem.W.Frag) (i : Nat) (Wo : WX) (D : Ends) : List (Value × (Addr → Value → Option Addr → TS)) → WX
  | [] => Wo
  | (c, ts) :: r => fun cls d σ H => ∃ b, PySem.W.exmOne K cls c = some b ∧ (b = true → ∀ a, H a = none → ts a cls d (endsAs i D) (σ.set i (some (.ref a))) H) ∧ (b = false → wAll K i Wo D r cls d σ H)
/-- the clauses of a try, each with its class and its suite's reading -/
inductive Cls' (X : Cx) (n : Str) : List ExceptHandler → List (Value × (Addr → Value → Option Addr → TS)) → Prop
  | nil : Cls' X n [] []
  | cons {x : Str} {c : Value} {ts : Addr → Value → Option Addr → TS} {b0 : Stmt} {su : List Stmt} {q1 q2 : Pos} {hs : List ExceptHandler} {l : List (Value × (Addr → Value → Option Addr → TS))} (hc : Names X x c)
      (hsu : ∀ (a : Addr) (oe : Obj) (cls : Value) (d : Option Addr) (pn : List (Addr × Obj)), Zc cls d oe → (∃ vs, oe.data = .fields vs) → PSs (X.suite a ((a, oe) :: pn)) (b0 :: su) (ts a cls d))
      (r : Cls' X n hs l) : Cls' X n (.ExceptHandler (some (.Name x q1)) (some n) (b0 :: su) q2 :: hs) ((c, ts) :: l)
section
variable {X : Cx} {n : Str} {i : Nat} {body : List Stmt} {h0 : ExceptHandler} {hs : List ExceptHandler} {l : List (Value × (Addr → Value → Option Addr → TS))} {pos : Pos} {tb : WX → TS} {Wo : WX}
theorem ps_tries (hst : X.stack = X.env :: X.outer) (hfr : X.env.frame = some X.env.locals) (hN : X.N.Nodup) (hi : X.N[i]? = some n) (hln : X.env.kindOf n = some .local) (tk : Takes X Wo)
    (hb : ∀ (W : WX) (pn : List (Addr × Obj)) (xe : Value → Shared → Prop), Takes (X.tr pn xe) W → PassesOwn (model X.prog X.w) X.A X.env xe → PSs (X.tr pn xe) body (tb W))
    (hh : Cls' X n (h0 :: hs) l) : PS X (.Try body (h0 :: hs) [] [] pos) (fun D σ H => tb (wAll X.K i Wo D l) D σ H) := by
  refine ⟨fun pins s σ H D I hyp => ?_⟩
  have okX := I.ok
  have hA : X.A.frames = some (X.env :: X.outer) := okX.frames.trans (by rw [hst])
  have hlc : Loc X.env.scope n := .inl hln
  refine wpAny_Try_except ?_
  have run := (hb (wAll X.K i Wo D l) (X.pn ++ pins)
    (fun e s1 => wpAny (model X.prog X.w) X.A (noteFrame e X.env)
      (fun _ s2 => wpAny (model X.prog X.w) X.A (setFlight e none)
        (fun _ s3 => wpAny (model X.prog X.w) X.A (handleBy e X.env (h0 :: hs)) (SP X pins D) X.xe s3) X.xe s2) X.xe s1)
    (fun u s' xx => ?_) PassesOwn.looking).run [] s σ H D (I.toTry _) hyp
  · refine wpAny_mono run (fun fl s1 hsp => ?_) fun _ _ z => z
    match fl, hsp with
    | .next, ⟨σ', H', J, q⟩ => exact wpAny_execs_nil ⟨σ', H', J.ofTry okX, q⟩
    | .brk, ⟨σ', H', J, q⟩ => exact ⟨σ', H', J.ofTry okX, q⟩
    | .cont, ⟨σ', H', J, q⟩ => exact ⟨σ', H', J.ofTry okX, q⟩
    | .ret _, ⟨v, σ', H', J, r, q⟩ => exact ⟨v, σ', H', J.ofTry okX, r, q⟩
  · obtain ⟨a, B, sI, pins', σ', H', cls, d, rfl, J', nb, up, sky0, na, hos, hag, wish⟩ := xx
    have J : Inv X pins σ' H' sI := J'.ofTry okX
    have sky : Sky B (X.env :: X.outer) a (Zc cls d) X.env.locals s'.heap := hst ▸ sky0
    show wpAny (model X.prog X.w) X.A (noteFrame (.ref a) X.env) _ _ _
    refine Sky.land Zc.steady hA hfr sky fun h3 f3 u3 => ?_
    have J3 : Inv X pins σ' H' { s' with heap := h3 } := J.landed nb f3.1 (up.trans u3) hos hag
    obtain ⟨oe3, vs3, he3, hz3, hd3⟩ := f3.there
    have nofr : a ∉ frs (X.env :: X.outer) := fun hm => by
      obtain ⟨_, o1, e1, hno⟩ := f3.2.2.1.mem hm
      rw [he3] at e1
      cases e1
      exact hno _ hd3
    have nL : a ≠ X.env.locals := fun z => nofr (List.mem_filterMap.mpr ⟨X.env, List.mem_cons_self, by rw [hfr, z]⟩)
    have nF : a ∉ X.fs := fun hm => by
      obtain ⟨ev, hev, hq⟩ := List.mem_filterMap.mp hm
      exact nofr (List.mem_filterMap.mpr ⟨ev, List.mem_cons_of_mem _ hev, hq⟩)
    have S3 := J3.suite he3 hd3 na nL nF
    have LT : PySem.W.Looks (model X.prog X.w) h3 (typeOf (.ref a)) cls := fun A Q E s k q => wpAny_typeOf_ref (k _ _ he3) (by rw [hz3.1]; exact q)
    have try1 : ∀ {hds : List ExceptHandler} {ll : List (Value × (Addr → Value → Option Addr → TS))}, Cls' X n hds ll → wAll X.K i Wo D ll cls d σ' H' →
        wpAny (model X.prog X.w) X.A (handleBy (.ref a) X.env hds) (SP X pins D) X.xe { s' with heap := h3 } := by
      intro hds ll hk
      induction hk with
      | nil =>
        intro wi
        refine wpAny_handleBy_nil ?_
        obtain ⟨_, _, _, oe, vs, TT, oT, ts', he, hz, hd, h1, hr⟩ := id f3
        unfold PySem.passOn
        refine wpAny_bind (wpAny_field he hd h1 ?_)
        rw [if_neg (show ¬ ((Value.ref TT == Value.none) = true) from by simp)]
        have out : wpAny (model X.prog X.w) X.A (setFlight (.ref a) X.env.frame) (fun _ s4 => wpAny (model X.prog X.w) X.A (throw (.ref a) : Sem Flow) (SP X pins D) X.xe s4) X.xe { s' with heap := h3 } := by
          rw [hfr]
          refine HandSPX.setFlight_upZ f3 fun h4 g4 u4 => wpAny_throw (tk _ _ ⟨a, B, sI, pins, σ', H', cls, d, rfl, J, nb, (up.trans u3).trans u4, .inr (.inr (by rw [hst]; exact g4)), na, hos, hag, wi⟩)
        first
          | exact wpAny_bind (wpAny_pure (wpAny_bind out))
          | exact wpAny_bind out
      | @cons x c ts b0 su q1 q2 hs2 l2 hc hsu r ih =>
        intro wi
        obtain ⟨b, hb1, yes, no⟩ := wi
        refine wpAny_handleBy_cons (codeAny_handlers_test ?_) (by intro q; cases q)
        have LM := PySem.W.exm_one (M := model X.prog X.w) (J3.kIn) LT hb1
        have test : ∀ {Q : Value → Shared → Prop} {E : Value → Shared → Prop}, Q c { s' with heap := h3 } →
            wpAny (model X.prog X.w) (X.A.mark (some (.ref a))) (eval (.Name x q1) X.env) Q E { s' with heap := h3 } := fun {Q E} q => by
          obtain ⟨hg, hdbg, hm | ⟨hm, hv, hnn⟩⟩ := hc
          · exact ld_glob (X := X.suite a ((a, oe3) :: (X.pn ++ pins))) S3 hg hm q hdbg
          · exact ld_blt (X := X.suite a ((a, oe3) :: (X.pn ++ pins))) S3 hg hm hv q hnn hdbg
        refine test (LM.here ?_)
        cases b with
        | false => exact ih (no rfl)
        | true =>
          refine codeAny_handlers_suite_as (HandSPX.lands_againZ f3 fun h4 f4 u4 => ?_)
          have J4 : Inv X pins σ' H' { s' with heap := h4 } := J.landed nb f4.1 ((up.trans u3).trans u4) hos hag
          obtain ⟨oe4, vs4, he4, hz4, hd4⟩ := f4.there
          have S4 := J4.suite he4 hd4 na nL nF
          refine store_ok (X := X.suite a ((a, oe4) :: (X.pn ++ pins))) (v := .ref a) S4 hN hi hlc rfl (fun s5 S5 => ?_) (.inr hln)
          refine wpAny_mono ((hsu a oe4 cls d (X.pn ++ pins) hz4 ⟨_, hd4⟩).run [] s5 _ H' _ S5 (yes rfl a na)) (fun fl s6 hsp => ?_) (fun _ _ z => z.elim)
          have gone : ∀ {σ6 : L2.St} {H6 : Hp} {Q : Shared → Prop}, Inv (X.suite a ((a, oe4) :: (X.pn ++ pins))) [] σ6 H6 s6 → (∀ s7, Inv X pins (σ6.set i none) H6 s7 → Q s7) →
              wpAny (model X.prog X.w) X.A (do bindName X.env n .none; unbindBehindTheSuite X.env n q2) (fun _ s7 => Q s7) X.xe s6 := fun {σ6 H6 Q} S6 hq => gone_ok (S6.unsuite okX) hN hi hln hq
          match fl, hsp with
          | .next, ⟨_, _, S6, q6⟩ => exact gone S6 fun s7 J7 => ⟨_, _, J7, q6⟩
          | .brk, ⟨_, _, S6, q6⟩ => exact gone S6 fun s7 J7 => ⟨_, _, J7, q6⟩
          | .cont, ⟨_, _, S6, q6⟩ => exact gone S6 fun s7 J7 => ⟨_, _, J7, q6⟩
          | .ret _, ⟨_, _, _, S6, r6, q6⟩ => exact gone S6 fun s7 J7 => ⟨_, _, _, J7, r6, q6⟩
    exact try1 hh wish
end
end G

set_option Elab.async false
set_option linter.all false
set_option maxRecDepth 100000
set_option maxHeartbeats 4000000
/-! sorted(xs), xs a list of alike data: the very order. -/
namespace G
open PySem PySem.Spec PyProof.Rows L2 Evl
/-- the pairs of what stands in the list and its data, sorted by the data -/
def srt (xs : List V) (ds : List PyData) : List (V × PyData) := (xs.zip ds).mergeSort (PySem.W.dataLe false Prod.snd)
def rSrt (K : PySem.W.Frag) : List V → Hp → VK → Prop := fun vs H Q => ∃ (a : Addr) (xs : List V) (ds : List PyData), vs = [.ref a] ∧ SqL K H a xs ∧ DpAll K H xs ds ∧ PySem.W.AllAlike ds ∧ PySem.W.Sortable ds ∧ ds.length ≤ 1000 ∧ (∀ d ∈ ds, d.depth ≤ 50) ∧
  ∀ p, H p = none → Q (.ref p) (upd H p (.lst ((srt xs ds).map Prod.fst)))
theorem dpAll_pair {K : PySem.W.Frag} {H : Hp} : ∀ {xs : List V} {ds : List PyData}, DpAll K H xs ds → ∀ p ∈ xs.zip ds, Dp K H p.1 p.2
  | _, _, .nil, p, h => by cases h
  | _, _, .cons a b, p, h => by
    rcases List.mem_cons.mp h with rfl | h
    · exact a
    · exact dpAll_pair b p h
theorem zip_snd {K : PySem.W.Frag} {H : Hp} : ∀ {xs : List V} {ds : List PyData}, DpAll K H xs ds → (xs.zip ds).map Prod.snd = ds
  | _, _, .nil => rfl
  | _, _, .cons _ b => by simp [zip_snd b]
theorem zip_fst {K : PySem.W.Frag} {H : Hp} : ∀ {xs : List V} {ds : List PyData}, DpAll K H xs ds → (xs.zip ds).map Prod.fst = xs
  | _, _, .nil => rfl
  | _, _, .cons _ b => by simp [zip_fst b]
theorem srt_perm (xs : List V) (ds : List PyData) : (srt xs ds).Perm (xs.zip ds) := List.mergeSort_perm _ _
theorem srt_dp {K : PySem.W.Frag} {H : Hp} {xs : List V} {ds : List PyData} (h : DpAll K H xs ds) : DpAll K H ((srt xs ds).map Prod.fst) ((srt xs ds).map Prod.snd) := by
  have all : ∀ p ∈ srt xs ds, Dp K H p.1 p.2 := fun p hp => dpAll_pair h p ((srt_perm xs ds).mem_iff.mp hp)
  generalize srt xs ds = l at all
  induction l with
  | nil => exact .nil
  | cons p r ih => exact .cons (all p List.mem_cons_self) (ih fun q hq => all q (List.mem_cons_of_mem _ hq))
theorem each_vals : ∀ {out : List Value} {ps : List (V × PyData)}, PySem.W.EachIs (fun v (p : V × PyData) => RelV p.1 v) out ps → Vals (ps.map Prod.fst) out
  | _, _, .nil => .nil
  | _, _, .cons a b => .cons a (each_vals b)
theorem cr_srt {X : Cx} (hu : X.A.units + 64 < cLine) : CallR X (.builtin "sorted") (rSrt X.K) := by
  intro pins s σ H vs us Q I r h
  obtain ⟨a, xs, ds, rfl, hs, hd, hal, hk, hz, hdep, q⟩ := h
  obtain ⟨its, rel, hl, _⟩ := I.list hs
  rw [Vals.ref1 r]
  have hlen := G.DpAll.lenG hd
  have e1 : ∀ {xs : List V} {ds : List PyData} {its : List Value}, DpAll X.K H xs ds → Vals xs its → PySem.W.EachIs (fun v (p : V × PyData) => RelV p.1 v ∧ ∃ as, Reads s.heap v p.2 as) its (xs.zip ds) := by
    intro xs ds its hd rel
    induction rel generalizing ds with
    | nil => cases hd; exact .nil
    | cons a b ih =>
      cases hd with
      | cons c d => exact .cons ⟨a, Dp.reads I _ _ _ c a⟩ (ih d)
  have ee := e1 hd rel
  refine PySem.W.sorted_data (R := fun v (p : V × PyData) => RelV p.1 v) (bs := xs.zip ds) (enc := Prod.snd) hl.isList (ee.mono fun _ _ z => z.1) (ee.mono fun _ _ z => z.2) (by rw [zip_snd hd]; exact hal) (by rw [zip_snd hd]; exact hk)
    (Nat.le_trans (by rw [List.length_zip, hlen]; omega) (show 1000 ≤ sizeLine by decide)) (fun p hp => ?_) fun out hlo ho => ?_
  · have : p.2 ∈ ds := by
      rw [← zip_snd hd]
      exact List.mem_map.mpr ⟨p, hp, rfl⟩
    have := hdep _ this
    omega
  · obtain ⟨ep, he⟩ := PyProof.Rows.sortedAll_at s.heap its out.toArray
    have vo : Vals ((srt xs ds).map Prod.fst) out := each_vals ho
    have z : ((srt xs ds).map Prod.fst).length ≤ sizeLine := Nat.le_trans (by rw [List.length_map, (srt_perm xs ds).length_eq, List.length_zip, hlen]; omega) (show 1000 ≤ sizeLine by decide)
    exact ⟨.ref _, upd H (s.heap.objs.size + 1) (.lst ((srt xs ds).map Prod.fst)), I.laid (t' := s.toks) (fun _ _ => PyProof.Rows.sortedAll_old) (Nat.le_succ _) ⟨z, out, ep, vo, by simpa using he⟩, rfl, q _ (I.hok.fresh (Nat.le_succ _))⟩
end G

set_option Elab.async false
set_option linter.all false
set_option maxRecDepth 100000
set_option maxHeartbeats 4000000
namespace G
open PySem PySem.Spec PyProof.Rows L2 Evl
theorem entry_sift : entryFor table "_heapq.heapify.sift" = some Builtin.«_heapq.heapify.sift» := entryFor_of_tree (by kernel_rfl)
theorem plain_sift : plainId "_heapq.heapify.sift" = true := by decide +kernel
theorem quiet_sift (args : Args) : (Code.builtin "_heapq.heapify.sift" args).quiet = true := Code.quiet_builtin args (by decide +kernel)
theorem rc_lt {prog : Program} {w : World} {A : Around} {E : Value → Shared → Prop} {s : Shared} {x y : Str} {t u : Tok} {Q : Value → Shared → Prop} (h : Q (.bool (x.cps.toList < y.cps.toList)) s) : wpAny (model prog w) A (richCompare .Lt (.str x t) (.str y u)) Q E s := PySem.P.lt_str h
theorem swap_perm {its : Array Value} {i j : Nat} (hi : i < its.size) (hj : j < its.size) : ((its.setIfInBounds i its[j]).setIfInBounds j its[i]).toList.Perm its.toList := by
  rw [Array.toList_setIfInBounds, Array.toList_setIfInBounds]
  have h1 : i < its.toList.length := by simpa using hi
  have h2 : j < its.toList.length := by simpa using hj
  have q := List.set_set_perm h1 h2
  simpa using q
theorem sift_up {prog : Program} {w : World} {A : Around} {a : Addr} {top : Nat} {res : Value} : ∀ (pos : Nat) {R : Result → Shared → Prop} {its : Array Value} {n : Nat} {s : Shared} {t1 t2 t3 : Tok},
    s.heap.get? a = some { cls := .type "list", data := .seq its n } → pos < its.size → (∀ v ∈ its.toList, ∃ z t, v = .str z t) → its.size ≤ 1000 →
    (∀ (its' : Array Value) (n' : Nat) (h' : Heap) (tk : Nat), its'.toList.Perm its.toList → h'.get? a = some { cls := .type "list", data := .seq its' n' } → (∀ b o, b ≠ a → s.heap.get? b = some o → h'.get? b = some o) → R (.ok (.ret res)) { s with heap := h', toks := tk }) →
    codeAny (model prog w) A (.builtin "_heapq.heapify.sift" ⟨[.ref a, .bool false, .bool false, .int (pos : Int) t1, .int (top : Int) t2, res, .int (-1) t3], []⟩) R s := by
  intro pos
  induction pos using Nat.strongRecOn with
  | ind pos ih =>
  intro R its n s t1 t2 t3 ha hp hs hz hR
  refine codeAny_builtin entry_sift ?_
  unfold Builtin.«_heapq.heapify.sift»
  by_cases hsz : pos > top
  · have hq : (pos - 1) / 2 < its.size := by omega
    obtain ⟨zx, tx, hx⟩ := hs its[pos] (by simp)
    obtain ⟨zp, tp, hy⟩ := hs its[(pos - 1) / 2] (by simp)
    have ex : its[pos]? = some (.str zx tx) := by rw [Array.getElem?_eq_getElem hp, hx]
    have ey : its[(pos - 1) / 2]? = some (.str zp tp) := by rw [Array.getElem?_eq_getElem hq, hy]
    obtain ⟨hp', g, d, tk, os⟩ := s
    dsimp only
    wp_walk using wpAny_seqItems ha rfl
    rw [Int.toNat_natCast, ex]
    dsimp only
    wp_walk
    rw [ey]
    dsimp only
    wp_walk using rc_lt
    cases hlt : decide (zx.cps.toList < zp.cps.toList) with
    | false =>
      wp_walk
      exact hR its n _ tk (List.Perm.refl _) ha fun _ _ _ e => e
    | true =>
      wp_walk using wpAny_seqItems ha rfl
      rw [ey]
      dsimp only
      wp_walk
      rw [ex]
      dsimp only
      wp_walk using (wpAny_updateSeq ha rfl)
      have sw : ((its.setIfInBounds ((pos - 1) / 2) (.str zx tx)).setIfInBounds pos (.str zp tp)).toList.Perm its.toList := by
        have q := swap_perm hq hp
        rw [hx, hy] at q
        exact q
      have up := Heap.get?_update_self (h := hp') (Obj.mapSeq fun xs => (xs.setIfInBounds ((pos - 1) / 2) (.str zx tx)).setIfInBounds pos (.str zp tp)) ha rfl
      have sz : ((its.setIfInBounds ((pos - 1) / 2) (.str zx tx)).setIfInBounds pos (.str zp tp)).size = its.size := by simp
      refine ⟨quiet_sift _, ?_⟩
      rw [Int.toNat_natCast]
      refine ih ((pos - 1) / 2) (by omega) up (by rw [sz]; exact hq) (fun v hv => hs v (sw.mem_iff.mp hv)) (by rw [sz]; exact hz) fun its' n' h' tk' pm hg kp => ?_
      exact hR its' n' h' tk' (pm.trans sw) hg fun b o nb e => kp b o nb (by rw [Heap.get?_update_ne _ _ _ _ nb]; exact e)
  · obtain ⟨hp', g, d, tk, os⟩ := s
    dsimp only
    wp_walk using wpAny_seqItems ha rfl
    exact hR its n _ tk (List.Perm.refl _) ha fun _ _ _ e => e
end G

set_option Elab.async false
set_option linter.all false
set_option maxRecDepth 100000
set_option maxHeartbeats 4000000
namespace G
open PySem PySem.Spec PyProof.Rows L2 Evl
theorem sift_down {prog : Program} {w : World} {A : Around} {a : Addr} {top : Nat} {res : Value} : ∀ (k pos : Nat) {R : Result → Shared → Prop} {its : Array Value} {n : Nat} {s : Shared} {t1 t2 t3 : Tok}, its.size - pos = k →
    s.heap.get? a = some { cls := .type "list", data := .seq its n } → pos < its.size → (∀ v ∈ its.toList, ∃ z t, v = .str z t) → its.size ≤ 1000 →
    (∀ (its' : Array Value) (n' : Nat) (h' : Heap) (tk : Nat), its'.toList.Perm its.toList → h'.get? a = some { cls := .type "list", data := .seq its' n' } → (∀ b o, b ≠ a → s.heap.get? b = some o → h'.get? b = some o) → R (.ok (.ret res)) { s with heap := h', toks := tk }) →
    codeAny (model prog w) A (.builtin "_heapq.heapify.sift" ⟨[.ref a, .bool false, .bool true, .int (pos : Int) t1, .int (top : Int) t2, res, .int (-1) t3], []⟩) R s := by
  intro k
  induction k using Nat.strongRecOn with
  | ind k ih =>
  intro pos R its n s t1 t2 t3 hk ha hp hs hz hR
  refine codeAny_builtin entry_sift ?_
  unfold Builtin.«_heapq.heapify.sift»
  by_cases hsz : pos < its.size / 2
  · have hl : 2 * pos + 1 < its.size := by omega
    -- the swap with the child c
    have go : ∀ (c : Nat) (tk : Nat), pos < c → c < its.size → ∀ (x y : Value), its[c]? = some x → its[pos]? = some y → ∀ (g : Array Value → Array Value), (∀ xs, g xs = (xs.setIfInBounds c y).setIfInBounds pos x) → ∀ (t1 t2 t3 : Tok),
        codeAny (model prog w) A (.builtin "_heapq.heapify.sift" ⟨[.ref a, .bool false, .bool true, .int (c : Int) t1, .int (top : Int) t2, res, .int (-1) t3], []⟩) R { s with heap := s.heap.update a (Obj.mapSeq g), toks := tk } := by
      intro c tk hc1 hc2 x y ex ey g hg t1 t2 t3
      have hx : its[c] = x := by rw [Array.getElem?_eq_getElem hc2] at ex; exact Option.some.inj ex
      have hy : its[pos] = y := by rw [Array.getElem?_eq_getElem hp] at ey; exact Option.some.inj ey
      have sw : (g its).toList.Perm its.toList := by
        rw [hg its, ← hx, ← hy]
        exact swap_perm hc2 hp
      have sz : (g its).size = its.size := by rw [hg its]; simp
      have up := Heap.get?_update_self (h := s.heap) (Obj.mapSeq g) ha rfl
      refine ih (its.size - c) (by omega) c (by rw [sz]) up (by rw [sz]; exact hc2) (fun v hv => hs v (sw.mem_iff.mp hv)) (by rw [sz]; exact hz) fun its' n' h' tk' pm hg2 kp => ?_
      exact hR its' n' h' tk' (pm.trans sw) hg2 fun b o nb e => kp b o nb (by rw [Heap.get?_update_ne _ _ _ _ nb]; exact e)
    obtain ⟨zl, tl, hxl⟩ := hs its[2 * pos + 1] (by simp)
    obtain ⟨zy, ty, hy⟩ := hs its[pos] (by simp)
    have el : its[2 * pos + 1]? = some (.str zl tl) := by rw [Array.getElem?_eq_getElem hl, hxl]
    have ey : its[pos]? = some (.str zy ty) := by rw [Array.getElem?_eq_getElem hp, hy]
    by_cases hr : 2 * pos + 1 + 1 < its.size
    · obtain ⟨zr, tr, hxr⟩ := hs its[2 * pos + 1 + 1] (by simp)
      have er : its[2 * pos + 1 + 1]? = some (.str zr tr) := by rw [Array.getElem?_eq_getElem hr, hxr]
      obtain ⟨hp', g, d, tk, os⟩ := s
      dsimp only
      wp_walk using wpAny_seqItems ha rfl
      rw [Int.toNat_natCast, el]
      dsimp only
      wp_walk
      rw [er]
      dsimp only
      wp_walk using rc_lt, wpAny_seqItems ha rfl
      cases hlt : decide (zl.cps.toList < zr.cps.toList) with
      | false =>
        wp_walk using wpAny_seqItems ha rfl
        rw [er]
        dsimp only
        wp_walk
        rw [ey]
        dsimp only
        wp_walk using (wpAny_updateSeq ha rfl)
        refine ⟨quiet_sift _, ?_⟩
        rw [Int.toNat_natCast]
        exact go (2 * pos + 1 + 1) _ (by omega) hr _ _ er ey _ (fun _ => rfl) _ _ _
      | true =>
        wp_walk using wpAny_seqItems ha rfl
        rw [el]
        dsimp only
        wp_walk
        rw [ey]
        dsimp only
        wp_walk using (wpAny_updateSeq ha rfl)
        refine ⟨quiet_sift _, ?_⟩
        rw [Int.toNat_natCast]
        exact go (2 * pos + 1) _ (by omega) hl _ _ el ey _ (fun _ => rfl) _ _ _
    · obtain ⟨hp', g, d, tk, os⟩ := s
      dsimp only
      wp_walk using wpAny_seqItems ha rfl
      rw [Int.toNat_natCast, el]
      dsimp only
      wp_walk
      rw [ey]
      dsimp only
      wp_walk using (wpAny_updateSeq ha rfl)
      refine ⟨quiet_sift _, ?_⟩
      rw [Int.toNat_natCast]
      exact go (2 * pos + 1) _ (by omega) hl _ _ el ey _ (fun _ => rfl) _ _ _
  · obtain ⟨hp', g, d, tk, os⟩ := s
    dsimp only
    wp_walk using wpAny_seqItems ha rfl
    refine ⟨quiet_sift _, ?_⟩
    rw [Int.toNat_natCast, Int.toNat_natCast]
    exact sift_up pos ha hp hs hz hR
end G

set_option Elab.async false
set_option linter.all false
set_option maxRecDepth 100000
set_option maxHeartbeats 4000000
namespace G
open PySem PySem.Spec PyProof.Rows L2 Evl
theorem entry_push : entryFor table "_heapq.heappush" = some Builtin.«_heapq.heappush» := entryFor_of_tree (by kernel_rfl)
theorem plain_push : plainId "_heapq.heappush" = true := by decide +kernel
theorem chk_push (a v : Value) : checkBuiltinCall "_heapq.heappush" ⟨[a, v], []⟩ = pure () := by kernel_rfl
theorem entry_pop : entryFor table "_heapq.heappop" = some Builtin.«_heapq.heappop» := entryFor_of_tree (by kernel_rfl)
theorem plain_pop : plainId "_heapq.heappop" = true := by decide +kernel
theorem chk_pop (a : Value) : checkBuiltinCall "_heapq.heappop" ⟨[a], []⟩ = pure () := by kernel_rfl
theorem list_list : isSubtype (.type "list") (.type "list") = pure true := by rw [isSubtype_type]; kernel_rfl
theorem code_push {prog : Program} {w : World} {A : Around} {R : Result → Shared → Prop} {a : Addr} {its : Array Value} {n : Nat} {s : Shared} {v : Value}
    (ha : s.heap.get? a = some { cls := .type "list", data := .seq its n }) (hs : ∀ v ∈ its.toList, ∃ z t, v = .str z t) (hv : ∃ z t, v = .str z t) (hz : its.size < 1000)
    (hR : ∀ (its' : Array Value) (n' : Nat) (h' : Heap) (tk : Nat), its'.toList.Perm (its.push v).toList → h'.get? a = some { cls := .type "list", data := .seq its' n' } → (∀ b o, b ≠ a → s.heap.get? b = some o → h'.get? b = some o) → R (.ok (.ret .none)) { s with heap := h', toks := tk }) :
    codeAny (model prog w) A (.call (.builtin "_heapq.heappush") ⟨[.ref a, v], []⟩) R s := by
  refine codeAny_call_builtin plain_push entry_push (wpAny_of_eq (chk_push _ _) ?_)
  have hT : s.TypeIs (.ref a) "list" := ⟨_, ha, rfl⟩
  have hL := list_list
  have up := Heap.get?_update_self (h := s.heap) (Obj.mapSeq (·.push v)) ha rfl
  obtain ⟨hp', g, d, tk, os⟩ := s
  unfold Builtin.«_heapq.heappush»
  dsimp only
  wp_walk using wpAny_seqItems ha rfl, (wpAny_updateSeq ha rfl)
  have sz : (its.push v).size = its.size + 1 := by simp
  refine ⟨quiet_sift _, ?_⟩
  refine sift_up ((its.push v).size - 1) up (by show (its.push v).size - 1 < (its.push v).size; omega) (fun x hx => ?_) (by show (its.push v).size ≤ 1000; omega) fun its' n' h' tk' pm hg kp => ?_
  · rw [Array.toList_push] at hx
    rcases List.mem_append.mp hx with m | m
    · exact hs x m
    · rw [List.mem_singleton.mp m]
      exact hv
  · exact hR its' n' h' tk' pm hg fun b o nb e => kp b o nb (by rw [Heap.get?_update_ne _ _ _ _ nb]; exact e)
theorem code_pop {prog : Program} {w : World} {A : Around} {R : Result → Shared → Prop} {a : Addr} {its : Array Value} {n : Nat} {s : Shared}
    (ha : s.heap.get? a = some { cls := .type "list", data := .seq its n }) (hs : ∀ v ∈ its.toList, ∃ z t, v = .str z t) (h0 : 0 < its.size) (hz : its.size ≤ 1000)
    (hR : ∀ (z : Str) (t : Tok) (its' : Array Value) (n' : Nat) (h' : Heap) (tk : Nat), (Value.str z t :: its'.toList).Perm its.toList → h'.get? a = some { cls := .type "list", data := .seq its' n' } → (∀ b o, b ≠ a → s.heap.get? b = some o → h'.get? b = some o) → R (.ok (.ret (.str z t))) { s with heap := h', toks := tk }) :
    codeAny (model prog w) A (.call (.builtin "_heapq.heappop") ⟨[.ref a], []⟩) R s := by
  refine codeAny_call_builtin plain_pop entry_pop (wpAny_of_eq (chk_pop _) ?_)
  have hT : s.TypeIs (.ref a) "list" := ⟨_, ha, rfl⟩
  have hL := list_list
  obtain ⟨last, eb⟩ : ∃ last, its.back? = some last := by
    rw [Array.back?_eq_getElem?]
    exact ⟨_, Array.getElem?_eq_getElem (by omega)⟩
  have el : its.toList.getLast? = some last := by rw [Array.getLast?_toList]; exact eb
  obtain ⟨hp', g, d, tk, os⟩ := s
  unfold Builtin.«_heapq.heappop»
  have pp := Heap.get?_update_self (h := hp') (Obj.mapSeq (·.pop)) ha rfl
  by_cases h1 : its.size = 1
  · wp_walk using wpAny_seqItems ha rfl
    rw [eb]
    dsimp only
    have e1 : (its.size == 1) = true := by rw [h1]; rfl
    wp_walk using (wpAny_updateSeq ha rfl)
    obtain ⟨y, hy⟩ : ∃ y, its.toList = [y] := by
      have hl : its.toList.length = 1 := by simpa using h1
      match hL2 : its.toList, hl with
      | [y], _ => exact ⟨y, rfl⟩
    obtain ⟨z, t, rfl⟩ := hs y (by rw [hy]; simp)
    have e2 : last = .str z t := by
      rw [hy] at el
      exact (Option.some.inj el).symm
    subst e2
    have ep : its.pop.toList = [] := by
      rw [Array.toList_pop, hy]
      rfl
    refine hR z t its.pop _ _ _ ?_ pp fun b o nb e => by rw [Heap.get?_update_ne _ _ _ _ nb]; exact e
    rw [ep, hy]
  · have e1 : (its.size == 1) = false := by simpa using h1
    obtain ⟨x, y, r, hxy⟩ : ∃ x y r, its.toList = x :: (r ++ [y]) := by
      have hl : 2 ≤ its.toList.length := by
        have : its.toList.length = its.size := by simp
        omega
      match hL2 : its.toList, hl with
      | x :: b :: t, _ => exact ⟨x, (b :: t).getLast (by simp), (b :: t).dropLast, by rw [List.dropLast_concat_getLast]⟩
    have e2 : last = y := by
      rw [hxy] at el
      have q : (x :: (r ++ [y])).getLast? = some y := by simp [List.getLast?_cons, List.getLast?_append]
      rw [q] at el
      exact (Option.some.inj el).symm
    subst e2
    have efirst : its[0]? = some x := by
      have q : its.toList[0]? = its[0]? := Array.getElem?_toList
      rw [hxy] at q
      exact q.symm
    have sz : its.pop.size = its.size - 1 := by simp
    have ep : its.pop.toList = x :: r := by
      rw [Array.toList_pop, hxy]
      simp [List.dropLast_cons_of_ne_nil]
    have es : (its.pop.setIfInBounds 0 last).toList = last :: r := by
      rw [Array.toList_setIfInBounds, ep]
      rfl
    have sz2 : (its.pop.setIfInBounds 0 last).size = its.size - 1 := by simp
    have up2 := Heap.get?_update_self (h := hp'.update a (Obj.mapSeq (·.pop))) (Obj.mapSeq (·.setIfInBounds 0 last)) pp rfl
    obtain ⟨z, t, rfl⟩ := hs x (by rw [hxy]; simp)
    wp_walk using wpAny_seqItems ha rfl
    rw [eb]
    dsimp only
    wp_walk using (wpAny_updateSeq ha rfl)
    rw [efirst]
    dsimp only
    have f1 : its.pop.size ≤ sizeLine := by rw [sz]; exact Nat.le_trans (show its.size - 1 ≤ 1000 by omega) (by decide)
    have f2 : (its.pop.setIfInBounds 0 last).size ≤ sizeLine + 1 := by rw [sz2]; exact Nat.le_trans (show its.size - 1 ≤ 1000 by omega) (by decide)
    refine wpAny_pure (wpAny_bind ?_)
    refine wpAny_updateSeq pp rfl (hz := f1) (_hz' := f2) ?_
    wp_walk
    refine ⟨quiet_sift _, ?_⟩
    refine sift_down ((its.pop.setIfInBounds 0 last).size - 0) 0 rfl up2 (by show 0 < (its.pop.setIfInBounds 0 last).size; omega) (fun v hv => ?_) (by show (its.pop.setIfInBounds 0 last).size ≤ 1000; omega) fun its' n' h' tk' pm hg kp => ?_
    · have hv : v ∈ (its.pop.setIfInBounds 0 last).toList := hv
      rw [es] at hv
      refine hs v ?_
      rw [hxy]
      rcases List.mem_cons.mp hv with rfl | m
      · simp
      · simp [m]
    · have pm : its'.toList.Perm (its.pop.setIfInBounds 0 last).toList := pm
      rw [es] at pm
      refine hR z t its' n' h' tk' ?_ hg fun b o nb e => kp b o nb (by rw [Heap.get?_update_ne _ _ _ _ nb, Heap.get?_update_ne _ _ _ _ nb]; exact e)
      rw [hxy]
      exact .cons _ (pm.trans (List.perm_append_singleton last r).symm)
end G

set_option Elab.async false
set_option linter.all false
set_option maxRecDepth 100000
set_option maxHeartbeats 4000000
/-! heappush, heappop of a list of texts: what comes in goes out, in some sequence. -/
namespace G
open PySem PySem.Spec PyProof.Rows L2 Evl
def strOf : Value → Str
  | .str z _ => z
  | _ => Str.empty
theorem vals_strOf : ∀ {us : List Value}, (∀ v ∈ us, ∃ z t, v = .str z t) → Vals ((us.map strOf).map V.str) us
  | [], _ => .nil
  | u :: us, h => by
    obtain ⟨z, t, rfl⟩ := h u List.mem_cons_self
    exact .cons ⟨t, rfl⟩ (vals_strOf fun v hv => h v (List.mem_cons_of_mem _ hv))
theorem strOf_vals : ∀ {zs : List Str} {us : List Value}, Vals (zs.map V.str) us → us.map strOf = zs ∧ ∀ v ∈ us, ∃ z t, v = .str z t
  | [], _, h => by
    cases h
    exact ⟨rfl, fun v hv => by cases hv⟩
  | z :: zs, _, h => by
    cases h with
    | cons a b =>
      obtain ⟨t, rfl⟩ := a
      obtain ⟨h1, h2⟩ := strOf_vals b
      refine ⟨by simp [strOf, h1], fun v hv => ?_⟩
      rcases List.mem_cons.mp hv with rfl | hv
      · exact ⟨z, t, rfl⟩
      · exact h2 v hv
def rPush : List V → Hp → VK → Prop := fun vs H Q => ∃ (l : Addr) (z : Str) (zs : List Str), vs = [.ref l, .str z] ∧ H l = some (.lst (zs.map V.str)) ∧ zs.length < 900 ∧ ∀ zs' : List Str, zs'.Perm (z :: zs) → Q .non (upd H l (.lst (zs'.map V.str)))
def rPopH : List V → Hp → VK → Prop := fun vs H Q => ∃ (l : Addr) (zs : List Str), vs = [.ref l] ∧ H l = some (.lst (zs.map V.str)) ∧ zs ≠ [] ∧ zs.length < 900 ∧ ∀ (z : Str) (zs' : List Str), (z :: zs').Perm zs → Q (.str z) (upd H l (.lst (zs'.map V.str)))
theorem cr_push {X : Cx} : CallR X (.builtin "_heapq.heappush") rPush := by
  intro pins s σ H vs us Q I r h
  obtain ⟨l, z, zs, rfl, hl, hz, q⟩ := h
  obtain ⟨u1, u2, rfl, r1, r2⟩ := vals2 r
  cases r1
  obtain ⟨t, rfl⟩ := r2
  obtain ⟨_, its, n, rel, ho⟩ := I.hok l _ hl
  obtain ⟨e1, e2⟩ := strOf_vals rel
  have len := rel.length
  rw [List.length_map] at len
  refine wpAny_call (code_push (its := its.toArray) ho (by simpa using e2) ⟨z, t, rfl⟩ (by rw [List.size_toArray, ← len]; omega) fun its' n' h' tk pm hg kp => ?_)
  have pm : its'.toList.Perm (its ++ [.str z t]) := by simpa using pm
  have st : ∀ v ∈ its'.toList, ∃ z t, v = .str z t := fun v hv => by
    rcases List.mem_append.mp (pm.mem_iff.mp hv) with m | m
    · exact e2 v m
    · exact ⟨z, t, by simpa using m⟩
  have pz : (its'.toList.map strOf).Perm (z :: zs) := by
    have p1 := pm.map strOf
    rw [List.map_append, e1] at p1
    exact p1.trans (List.perm_append_singleton _ _)
  have lz : (its'.toList.map strOf).length = zs.length + 1 := by rw [pz.length_eq]; rfl
  have new : ObjOk X.prog X.w (upd H l (.lst ((its'.toList.map strOf).map V.str))) h' l (.lst ((its'.toList.map strOf).map V.str)) := ⟨Nat.le_trans (by rw [List.length_map, lz]; omega) (show 1000 ≤ sizeLine by decide), its'.toList, n', vals_strOf st, hg⟩
  exact ⟨.non, _, I.write (e := l) (t' := tk) (by rw [hl]; trivial) (.inl rfl) (fun b o nb e => kp b o nb e) ⟨_, hg⟩ new, rfl, q _ pz⟩
theorem cr_popH {X : Cx} : CallR X (.builtin "_heapq.heappop") rPopH := by
  intro pins s σ H vs us Q I r h
  obtain ⟨l, zs, rfl, hl, hne, hz, q⟩ := h
  rw [Vals.ref1 r]
  obtain ⟨_, its, n, rel, ho⟩ := I.hok l _ hl
  obtain ⟨e1, e2⟩ := strOf_vals rel
  have len := rel.length
  rw [List.length_map] at len
  have pos : 0 < zs.length := List.length_pos_iff.mpr hne
  refine wpAny_call (code_pop (its := its.toArray) ho (by simpa using e2) (by rw [List.size_toArray, ← len]; exact pos) (by rw [List.size_toArray, ← len]; omega) fun z t its' n' h' tk pm hg kp => ?_)
  have pm : (Value.str z t :: its'.toList).Perm its := by simpa using pm
  have st : ∀ v ∈ its'.toList, ∃ z t, v = .str z t := fun v hv => e2 v (pm.mem_iff.mp (List.mem_cons_of_mem _ hv))
  have pz : (z :: its'.toList.map strOf).Perm zs := by
    have p1 := pm.map strOf
    rw [e1] at p1
    exact p1
  have lz : (its'.toList.map strOf).length + 1 = zs.length := pz.length_eq
  have new : ObjOk X.prog X.w (upd H l (.lst ((its'.toList.map strOf).map V.str))) h' l (.lst ((its'.toList.map strOf).map V.str)) := ⟨Nat.le_trans (by rw [List.length_map]; omega) (show 1000 ≤ sizeLine by decide), its'.toList, n', vals_strOf st, hg⟩
  exact ⟨.str z, _, I.write (e := l) (t' := tk) (by rw [hl]; trivial) (.inl rfl) (fun b o nb e => kp b o nb e) ⟨_, hg⟩ new, ⟨t, rfl⟩, q _ _ pz⟩
end G

set_option Elab.async false
set_option linter.all false
set_option maxRecDepth 100000
set_option maxHeartbeats 4000000
/-! A set of texts: one more, and sorted. -/
namespace G
open PySem PySem.Spec PyProof.Rows L2 Evl
def zOf (e : Int × Value) : Str := strOf e.2
def Ent (w : World) (e : Int × Value) : Prop := ∃ z u, e.2 = Value.str z u ∧ e.1 = hashStr w z
/-- at a stands the set of the texts zs -/
def SetX (w : World) (h : Heap) (a : Addr) (zs : List Str) : Prop :=
  ∃ (o : Obj) (es : Array (Int × Value)) (n : Nat) (T : SetTable), (h.get? a = some o ∧ o.ExactSet ∧ o.data = .set es n T) ∧ ((∀ e ∈ es.toList, Ent w e) ∧ (es.toList.map zOf).Perm zs ∧ zs.Nodup) ∧
    es.size < scanBound ∧ T.fits es.size = true ∧ Ris T.place.toList ∧ (w.params.followText "set-order" = true ∨ T.led = true)
section
variable {P : Program} {w : World} {h h' : Heap} {a : Addr} {zs : List Str}
theorem SetX.kept (R : SetX w h a zs) (k : ∀ o, h.get? a = some o → h'.get? a = some o) : SetX w h' a zs := by
  obtain ⟨o, es, n, T, ⟨q, r⟩, t⟩ := R
  exact ⟨o, es, n, T, ⟨k o q, r⟩, t⟩
theorem ent_elems {l : List (Int × Value)} (g : ∀ e ∈ l, Ent w e) : ElemsOf (strKind P w) l := by
  intro e m
  obtain ⟨z, u, e1, e2⟩ := g e m
  refine ⟨⟨z, ?_, e2⟩, ?_⟩
  · rw [e1]
    exact strKind_is P w z u
  · rw [e1]
    rfl
theorem ent_is {e : Int × Value} (g : Ent w e) (z : Str) : (strKind P w).is z e.2 = true ↔ zOf e = z := by
  obtain ⟨y, u, e1, _⟩ := g
  have q : zOf e = y := by unfold zOf; rw [e1]; rfl
  rw [q, e1]
  constructor
  · intro i
    exact (strKind P w).inj _ y z (strKind_is P w y u) i
  · rintro rfl
    exact strKind_is P w y u
theorem ent_mem {l : List (Int × Value)} (g : ∀ e ∈ l, Ent w e) (z : Str) : z ∈ l.map zOf ↔ ∃ e ∈ l, (strKind P w).is z e.2 = true := by
  rw [List.mem_map]
  exact ⟨fun ⟨e, m, q⟩ => ⟨e, m, (ent_is (g e m) z).mpr q⟩, fun ⟨e, m, q⟩ => ⟨e, m, (ent_is (g e m) z).mp q⟩⟩
theorem SetX.of (R : SetX w h a zs) : h.SetOf (strKind P w) a (fun z => decide (z ∈ zs)) zs.length := by
  obtain ⟨o, es, n, T, ⟨q1, q2, q3⟩, ⟨g, pm, _⟩, b, f, _⟩ := R
  refine ⟨o, es, n, T, q1, q2, q3, ent_elems g, fun z => ?_, b, f, ?_⟩
  · rw [decide_eq_true_iff, ← pm.mem_iff]
    exact ent_mem g z
  · rw [← pm.length_eq, List.length_map, Array.length_toList]
theorem SetX.nil (w : World) (h : Heap) : SetX w (h.push { cls := .type "set", dict := none, data := .set #[] 0 (.fresh 0 0 (!w.params.followText "set-order")) }) h.objs.size [] := by
  refine ⟨_, #[], 0, _, ⟨Heap.get?_push_size _ rfl, ⟨rfl, rfl, rfl⟩, rfl⟩, ⟨fun e m => by simp at m, List.Perm.refl _, List.nodup_nil⟩, by decide, rfl, List.Pairwise.nil, ?_⟩
  cases z : w.params.followText "set-order" with
  | true => exact .inl rfl
  | false => exact .inr rfl
end
def ins (z : Str) (zs : List Str) : List Str := if z ∈ zs then zs else z :: zs
section
variable {P : Program} {w : World} {A : Around} {E : Value → Shared → Prop} {s : Shared} {a : Addr} {zs : List Str}
theorem put_at {h : Heap} {o : Obj} {es fs : Array (Int × Value)} {n : Nat} {T U : SetTable} (q : h.get? a = some o) (d : o.data = .set es n T) :
    (h.update a (Obj.putSet fs U)).get? a = some { o with data := .set fs (n + 1) U } := by
  have r := Heap.get?_update_self (Obj.putSet fs U) q (by rw [putSet_of fs U d]; rfl)
  rw [r, putSet_of fs U d]
/-- what stands behind the laying of a new one -/
theorem laid_more {gv : Bool → Sem Unit} (hgv : ∀ (b : Bool) (s1 : Shared) (R1 : Unit → Shared → Prop), R1 () s1 → wpAny (model P w) A (gv b) R1 E s1)
    {o : Obj} {es fs : Array (Int × Value)} {n : Nat} {T U : SetTable} (q : s.heap.get? a = some o) (ex : o.ExactSet) (d : o.data = .set es n T) (g : ∀ e ∈ fs.toList, Ent w e) (pm : (fs.toList.map zOf).Perm zs) (nd : zs.Nodup)
    (b : fs.size < scanBound) (f : U.fits fs.size = true) (rs : Ris U.place.toList) (ld : w.params.followText "set-order" = true ∨ U.led = true) {wd : Bool} {R : Option Bool → Shared → Prop}
    (k : ∀ h', Heap.SameBut a s.heap h' → SetX w h' a zs → R (some true) { s with heap := h' }) :
    wpAny (model P w) A (do
        storeSet a fs U
        if (!wd && U.tooFull) = true then do
          gv (relayAll U fs (SetTable.grown fs.size)).2.2
          storeSet a (relayAll U fs (SetTable.grown fs.size)).1 (relayAll U fs (SetTable.grown fs.size)).2.1
          pure (some true)
        else pure (some true)) R E s := by
  refine wpAny_bind (wpAny_storeSet_of q d ?_ (fits_of_scanBound b))
  have q1 := put_at (fs := fs) (U := U) q d
  have c1 := Heap.SameBut.update s.heap a (Obj.putSet fs U)
  by_cases full : (!wd && U.tooFull) = true
  · rw [if_pos full]
    have pm2 := relayAll_perm U fs (SetTable.grown fs.size)
    have f2 := relayAll_fits U fs (SetTable.grown fs.size)
    have r2 := relayAll_ris U fs (SetTable.grown fs.size)
    have l2 := relayAll_led U fs (SetTable.grown fs.size)
    revert pm2 f2 r2 l2
    generalize relayAll U fs (SetTable.grown fs.size) = Z
    obtain ⟨gs, W, gave⟩ := Z
    intro pm2 f2 r2 l2
    dsimp only at pm2 f2 r2 l2 ⊢
    have sz : gs.size = fs.size := by
      have := pm2.length_eq
      simpa using this
    have b2 : gs.size < scanBound := sz ▸ b
    refine wpAny_bind (hgv _ _ _ ?_)
    refine wpAny_bind (wpAny_storeSet_of q1 rfl ?_ (fits_of_scanBound b2))
    have q2 := put_at (fs := gs) (U := W) q1 rfl
    refine wpAny_pure (k _ (c1.trans (Heap.SameBut.update _ a _)) ?_)
    refine ⟨_, gs, _, W, ⟨q2, ex, rfl⟩, ⟨fun e m => g e (pm2.mem_iff.mp m), (pm2.map zOf).trans pm, nd⟩, b2, f2, r2, ?_⟩
    rcases ld with ld | ld
    · exact .inl ld
    · exact .inr (l2.trans ld)
  · rw [if_neg full]
    exact wpAny_pure (k _ c1 ⟨_, fs, _, U, ⟨q1, ex, rfl⟩, ⟨g, pm, nd⟩, b, f, rs, ld⟩)
theorem add_hashed {z : Str} {u : Tok} {Q : Bool → Shared → Prop} (R : SetX w s.heap a zs) (room : zs.length + 1 < scanBound)
    (k : ∀ b h', Heap.SameBut a s.heap h' → SetX w h' a (ins z zs) → Q b { s with heap := h' }) :
    wpAny (model P w) A (setAddHashed a (.str z u) (hashStr w z)) Q E s := by
  obtain ⟨o, es, n, T, ⟨q, ex, d⟩, ⟨g, pm, nd⟩, b, f, rs, ld⟩ := id R
  have el : ElemsOf (strKind P w) es.toList := ent_elems g
  have key : (strKind P w).is z (.str z u) = true := strKind_is P w z u
  have sc : (Value.str z u).scannable = true := rfl
  unfold setAddHashed setAddHashedIn
  refine wpAny_holding (wpAny_bind (wpAny_setState_of q d f ?_))
  dsimp only
  rw [byScan_of sc b el]
  simp only [↓reduceIte]
  unfold setAddByScan
  refine wpAny_bind (wpAny_bind (wpAny_rule (wpAny_bind (wpAny_setScan_of key q d f el ?_))))
  cases fi : List.findIdx? (fun e => (strKind P w).is z e.2) es.toList with
  | some j =>
    obtain ⟨jl, jp, _⟩ := List.findIdx?_eq_some_iff_getElem.mp fi
    have zin : z ∈ zs := pm.mem_iff.mp ((ent_mem (P := P) g z).mpr ⟨_, List.getElem_mem jl, jp⟩)
    have r := k false s.heap (Heap.SameBut.refl a s.heap) (by unfold ins; rw [if_pos zin]; exact R)
    exact wpAny_pure (wpAny_pure r)
  | none =>
    have nin : z ∉ es.toList.map zOf := fun m => by
      obtain ⟨e, me, y⟩ := (ent_mem (P := P) g z).mp m
      exact absurd y (by rw [List.findIdx?_eq_none_iff.mp fi e me]; exact Bool.false_ne_true)
    have nz : z ∉ zs := fun m => nin (pm.mem_iff.mpr m)
    have more : ins z zs = z :: zs := by unfold ins; rw [if_neg nz]
    rw [more] at k
    dsimp only
    have gave : ∀ (c : Bool) {s1 : Shared} {R1 : Unit → Shared → Prop}, R1 () s1 → wpAny (model P w) A (match c with | true => rule "set.scan.the-table-gave-way" | false => pure ()) R1 E s1 := by
      intro c s1 R1 y
      cases c
      · exact wpAny_pure y
      · exact wpAny_rule y
    have pm1 := layNew_perm T es ((strKind P w).hash z) (.str z u)
    have f1 := layNew_fits T es ((strKind P w).hash z) (.str z u)
    have r1 := layNew_ris T es ((strKind P w).hash z) (.str z u) rs
    have l1 := layNew_led T es ((strKind P w).hash z) (.str z u)
    revert pm1 f1 r1 l1
    show _ → _ → _ → _ → wpAny _ _ _ _ _ _
    have eh : (strKind P w).hash z = hashStr w z := rfl
    rw [eh]
    generalize layNew T es (hashStr w z) (.str z u) = Z
    obtain ⟨fs, U, wd, gv⟩ := Z
    intro pm1 f1 r1 l1
    dsimp only at pm1 f1 r1 l1 ⊢
    rw [Array.toList_push] at pm1
    have pmc := pm1.trans (List.perm_append_singleton (hashStr w z, Value.str z u) es.toList)
    have pmz : (fs.toList.map zOf).Perm (z :: zs) := (pmc.map zOf).trans (List.Perm.cons z pm)
    have g1 : ∀ e ∈ fs.toList, Ent w e := by
      intro e m
      rcases List.mem_cons.mp (pmc.mem_iff.mp m) with y | y
      · exact ⟨z, u, by rw [y], by rw [y]⟩
      · exact g e y
    have sz : fs.size = zs.length + 1 := by
      have := pmz.length_eq
      simpa using this
    have b1 : fs.size < scanBound := by rw [sz]; exact room
    have nd1 : (z :: zs).Nodup := List.nodup_cons.mpr ⟨nz, nd⟩
    have ld1 : w.params.followText "set-order" = true ∨ U.led = true := ld.imp id fun y => l1.trans y
    refine wpAny_bind (gave _ ?_)
    split
    · refine wpAny_bind ?_
      rw [hashByValue_scannable 8 sc]
      refine wpAny_pure (laid_more ?_ q ex d g1 pmz nd1 b1 ?_ ?_ ?_ ?_)
      · intro c s1 R1 y
        cases c
        · exact wpAny_pure y
        · exact wpAny_rule y
      · first | (split <;> first | exact f1 | exact SetTable.fits_plain_off f1) | exact f1
      · first | (split <;> exact r1) | exact r1
      · first | (split <;> exact ld1) | exact ld1
      · intro h' sb R1
        dsimp only
        exact wpAny_pure (k true h' sb R1)
    · refine wpAny_bind (wpAny_pure ?_)
      simp only [↓reduceIte]
      refine laid_more ?_ q ex d g1 pmz nd1 b1 f1 r1 ld1 ?_
      · intro c s1 R1 y
        cases c
        · exact wpAny_pure y
        · exact wpAny_rule y
      · intro h' sb R1
        dsimp only
        exact wpAny_pure (k true h' sb R1)
theorem add_text {z : Str} {u : Tok} {Q : Value → Shared → Prop} (R : SetX w s.heap a zs) (room : zs.length + 1 < scanBound)
    (k : ∀ h', Heap.SameBut a s.heap h' → SetX w h' a (ins z zs) → Q .none { s with heap := h', toks := s.toks + 1 }) :
    wpAny (model P w) A (call (.builtin "set.add") [.ref a, .str z u]) Q E s := by
  have T0 : s.heap.SetOf (strKind P w) a (fun z => decide (z ∈ zs)) zs.length := R.of
  refine wpAny_call_entry F.slot_set_add T0.typeIs F.entry_set_add ?_ (F.args_set_add_2 _ _)
  unfold Builtin.«set.add» Builtin.Frozenset.oneOther
  simp only [List.isEmpty_nil, bind_assoc]
  unfold Builtin.Frozenset.addrOf setAdd
  refine wpAny_bind (wpAny_pure ?_)
  try dsimp only
  refine wpAny_bind (wpAny_pure ?_)
  try dsimp only
  refine wpAny_bind (wpAny_holding (wpAny_bind ((strKind P w).pyHash (strKind_is P w z u) ?_)))
  refine add_hashed (s := { s with toks := s.toks + 1 }) R room fun b h' sb R1 => ?_
  exact wpAny_pure ⟨_, rfl, k h' sb R1⟩
end
/-- the set of the texts zs at a, as a tracked thing -/
def setO (w : World) (a : Addr) (zs : List Str) : HO := .ext fun h => SetX w h a zs
theorem setO_ok {P : Program} {w : World} {H : Hp} {h : Heap} {a : Addr} {zs : List Str} (R : SetX w h a zs) : ObjOk P w H h a (setO w a zs) := by
  obtain ⟨o, _, _, _, ⟨q, _⟩, _⟩ := id R
  exact ⟨R, ⟨o, q⟩, fun _ _ p k => SetX.kept p k⟩
section
variable {X : Cx} {pins : List (Addr × Obj)} {σ : L2.St} {H : Hp} {s : Shared}
theorem setO_at {a : Addr} {zs : List Str} (I : Inv X pins σ H s) (q : H a = some (setO X.w a zs)) : SetX X.w s.heap a zs := (I.hok a _ q).1
theorem addX_ok {E : Value → Shared → Prop} {D : Addr} {zs : List Str} {z : Str} {u : Tok} {Q : Value → Shared → Prop} (I : Inv X pins σ H s) (q : H D = some (setO X.w D zs)) (room : zs.length + 1 < scanBound)
    (k : ∀ s', Inv X pins σ (upd H D (setO X.w D (ins z zs))) s' → Q .none s') : wpAny (model X.prog X.w) X.A (call (.builtin "set.add") [.ref D, .str z u]) Q E s := by
  refine add_text (setO_at I q) room fun h' sb R1 => k _ ?_
  obtain ⟨o, _, _, _, ⟨q1, _⟩, _⟩ := id R1
  exact I.write (e := D) (t' := s.toks + 1) (by rw [q]; trivial) (.inl rfl) (fun b y nb hy => (sb.2 b nb).trans hy) ⟨o, q1⟩ (setO_ok R1)
end
end G

set_option Elab.async false
set_option linter.all false
set_option maxRecDepth 100000
set_option maxHeartbeats 4000000
/-! {elt for target in iter if ..}, elt a text; sorted of a set of texts. -/
namespace G
open PySem PySem.Spec PyProof.Rows L2 Evl
section
variable {X : Cx}
/-- how one turn goes on -/
def TurnX (w : World) (D : Addr) (g : TG) (tt : TT) (te : TE) (vs : List Nat) (σ : L2.St) (Nx : Hp → Prop) (x : V) (H : Hp) : Prop :=
  g x (wipe σ vs) H fun σ2 H2 => wipe σ2 vs = wipe σ vs ∧ tt σ2 H2 fun b H3 =>
    if b = true then te σ2 H3 fun y H4 => ∃ (z : Str) (zs : List Str), y = .str z ∧ H4 D = some (setO w D zs) ∧ zs.length + 1 < scanBound ∧ Nx (upd H4 D (setO w D (ins z zs))) else Nx H3
/-- how the turns go, J what is walked -/
def WalkX (w : World) (J : It) (D : Addr) (g : TG) (tt : TT) (te : TE) (vs : List Nat) (σ : L2.St) (H0 : Hp) (Qd : Hp → Prop) : Prop :=
  ∃ W : Nat → Nat → Hp → Prop, (∃ m, W 0 m H0) ∧ ∀ i m H, W i m H → (J.stop i H ∧ Qd H) ∨
    (J.go i H ∧ ∃ Nx : Hp → Prop, (∀ H', Nx H' → ∃ m', m' < m ∧ W (i + 1) m' H') ∧ ∀ x H', J.yld i H x H' → TurnX w D g tt te vs σ Nx x H')
def tSx (w : World) (wi : TI) (g : TG) (tt : TT) (te : TE) (vs : List Nat) : TE := fun σ H Q => wi σ H fun J H1 => ∀ D, H1 D = none → WalkX w J D g tt te vs σ (upd H1 D (setO w D [])) fun H' => Q (.ref D) H'
theorem pe_sx {elt tg iter : Expr} {ifs : List Expr} {scope : Scope} {own : List (PySem.Str × Nat)} {pos : Pos} {wi : TI} {g : TG} {tt : TT} {te : TE} (hc : X.calm = true) (nd : X.N.Nodup) (hi : PI X tg iter wi) (ok : BlkOk X.N X.env.scope scope own)
    (hg : ∀ (s : Shared) (H : Hp) (C : Addr) (cl : List (PySem.Str × Addr)) (fp : List Addr), PG (X.blk s H scope (compEnvC scope cl C X.env) fp) tg g)
    (ht : ∀ (s : Shared) (H : Hp) (C : Addr) (cl : List (PySem.Str × Addr)) (fp : List Addr), PTs (X.blk s H scope (compEnvC scope cl C X.env) fp) ifs tt)
    (he : ∀ (s : Shared) (H : Hp) (C : Addr) (cl : List (PySem.Str × Addr)) (fp : List Addr), PE (X.blk s H scope (compEnvC scope cl C X.env) fp) elt te)
    (hf : ∀ x, foldedSetIterable iter X.env x = pure x := by intro _; rfl) : PE X (.SetComp elt [⟨tg, iter, ifs, 0⟩] scope pos) (tSx X.w wi g tt te (own.map (·.2))) := by
  refine ⟨fun pins s σ H Q I h => ?_⟩
  rw [PpSet.eval_SetComp]
  have clo : ∀ y ∈ scope.names, y.2 = .free → ∃ c, X.env.cells.lookup y.1 = some c := by
    intro y m e
    exact (ok.free y m e).elim (fun k => I.ok.has _ (.inl k)) (fun k => I.ok.has _ (.inr k))
  refine wpAny_comprehension_free rfl hf (closure_ok clo) ok.kind (fun y m e => by rw [ok.uniq y m, e]) (thn (hi.run pins s σ H _ I h) fun xv sa ha => thn ha fun iv sb hb => ?_)
  obtain ⟨it, fp, tn, J, HA, rfl, IA, T, stA, fA, turns⟩ := hb
  refine PpSet.newSet_ok (newEnv_comp ?_)
  obtain ⟨W, ⟨m0, w0⟩, turn⟩ := turns sb.heap.objs.size (IA.hok.fresh (Nat.le_refl _))
  have keepA : ∀ (b : Addr) (o : Obj), sb.heap.get? b = some o → (sb.heap.push { cls := .type "set", dict := none, data := .set #[] 0 (.fresh 0 0 (!X.w.params.followText "set-order")) }).get? b = some o := fun b o e => Heap.get?_push_of_some _ e
  have IB : Inv X pins σ (upd HA sb.heap.objs.size (setO X.w sb.heap.objs.size [])) { sb with heap := sb.heap.push { cls := .type "set", dict := none, data := .set #[] 0 (.fresh 0 0 (!X.w.params.followText "set-order")) } } :=
    IA.laid (t' := sb.toks) keepA (Nat.le_refl _) (setO_ok (SetX.nil X.w sb.heap))
  have stB := T.keep _ _ _ stA fun b _ o e => keepA b o e
  generalize eD : sb.heap.objs.size = D at IB w0 turn ⊢
  generalize eB : ({ sb with heap := sb.heap.push { cls := .type "set", dict := none, data := .set #[] 0 (.fresh 0 0 (!X.w.params.followText "set-order")) } } : Shared) = sB at IB
  have eBh : sb.heap.push { cls := .type "set", dict := none, data := .set #[] 0 (.fresh 0 0 (!X.w.params.followText "set-order")) } = sB.heap := by rw [← eB]
  rw [eBh] at stB
  have fpB : ∀ b ∈ fp, FpOk X pins (upd HA D (setO X.w D [])) b ∧ b < sB.heap.objs.size := by
    intro b m
    obtain ⟨o, e, _⟩ := T.obj _ _ stA b m
    have lt := Heap.lt_size e
    refine ⟨⟨?_, (fA b m).2⟩, ?_⟩
    · rw [upd_ne (by rw [← eD]; exact Nat.ne_of_lt lt)]
      exact (fA b m).1
    · rw [← eBh, Heap.size_push]
      exact Nat.lt_succ_of_lt lt
  have IC := block_start IB ok nd fpB
  have pg := hg sB (upd HA D (setO X.w D [])) sB.heap.objs.size (cellsFrom (sB.heap.objs.size + 1) scope.names (cloFrom X.env.cells scope.names [])) fp
  have pt := ht sB (upd HA D (setO X.w D [])) sB.heap.objs.size (cellsFrom (sB.heap.objs.size + 1) scope.names (cloFrom X.env.cells scope.names [])) fp
  have pe := he sB (upd HA D (setO X.w D [])) sB.heap.objs.size (cellsFrom (sB.heap.objs.size + 1) scope.names (cloFrom X.env.cells scope.names [])) fp
  have noB : ∀ b ∈ fp, (upd HA D (setO X.w D [])) b = none := fun b m => (fpB b m).1.1
  show codeAny _ _ (.compStart (.SetComp elt [⟨tg, iter, ifs, 0⟩] scope pos) 0 (.ref it) (.ref D) (compEnvC scope (cellsFrom (sB.heap.objs.size + 1) scope.names (cloFrom X.env.cells scope.names [])) sB.heap.objs.size X.env)) (compPost (model X.prog X.w) X.A X.xe none (EP X pins σ Q) (.ref D) sB.heap.objs.size) { sB with heap := pushCells (sB.heap.push { cls := .type "dict", data := .dict #[] }) scope.names }
  generalize ece : compEnvC scope (cellsFrom (sB.heap.objs.size + 1) scope.names (cloFrom X.env.cells scope.names [])) sB.heap.objs.size X.env = ce at IC pg pt pe ⊢
  have loc : ce.locals = sB.heap.objs.size := by rw [← ece]; rfl
  generalize eH : upd HA D (setO X.w D []) = HB at IB IC pg pt pe w0 noB fpB
  generalize esC : ({ sB with heap := pushCells (sB.heap.push { cls := .type "dict", data := .dict #[] }) scope.names } : Shared) = sC at IC ⊢
  have stC : tn 0 sC.heap := T.keep _ _ _ stB fun b _ o e => by
    rw [← esC]
    exact pushCells_keeps _ _ _ _ (Heap.get?_push_of_some _ e)
  have still : ∀ {σ1 : L2.St} {H1 : Hp} {s1 : Shared}, Inv (X.blk sB HB scope ce fp) [] σ1 H1 s1 → (∀ b ∈ fp, H1 b = none) → ∀ b ∈ fp, FpOk (X.blk sB HB scope ce fp) [] H1 b := by
    intro σ1 H1 s1 I1 no b m
    exact ⟨no b m, (I1.ok.exf b m).1, I1.ok.exfs b m, .inl m, fun x c e => (I1.ok.exf b m).2 x c e, fun p hp => by cases hp⟩
  have main : codeAny (model X.prog X.w) X.A (.compLoop (.SetComp elt [⟨tg, iter, ifs, 0⟩] scope pos) 0 (.ref it) (.ref D) ce) (compPost (model X.prog X.w) X.A X.xe none (EP X pins σ Q) (.ref D) sB.heap.objs.size) sC := by
    refine PpSet.compLoopS_any (fun n s1 => ∃ i H1, Inv (X.blk sB HB scope ce fp) [] (wipe σ (own.map (·.2))) H1 s1 ∧ tn i s1.heap ∧ (∀ b ∈ fp, H1 b = none) ∧ W i n H1) ?_ m0 ⟨0, HB, IC, stC, noB, w0⟩
    rintro n s1 ⟨i, H1, I1, st1, no1, w1⟩
    rcases turn i n H1 w1 with ⟨halt, fin⟩ | ⟨go, Nx, less, step⟩
    · refine thnF (T.done (X.blk sB HB scope ce fp) rfl rfl rfl hc i [] s1 _ H1 (fun _ _ => False) I1 (still I1 no1) st1 halt) fun r s2 ⟨er, I2⟩ => ?_
      subst er
      have I3 : Inv X pins σ H1 s2 := IB.call' (ch := fp) I2.os I2.base I2.hok I2.bare fun b m => ⟨(fpB b m).1.2.2.2.1, (fpB b m).1.2.1, (fpB b m).1.2.2.2.2.1, (fpB b m).1.2.2.2.2.2⟩
      have nC : H1 sB.heap.objs.size = none := by
        have := I2.free
        rw [show (X.blk sB HB scope ce fp).env.locals = ce.locals from rfl, loc] at this
        exact this
      obtain ⟨m, hn, _⟩ := I2.loc
      have hn : s2.heap.Ns ce.locals m := hn
      rw [loc] at hn
      obtain ⟨f0, f1, f2, f3, f4, f5⟩ := IB.fpOk (Nat.le_refl _) nC
      exact ⟨m, hn, fun h2 sm => ⟨.ref D, H1, I3.turned (t' := s2.toks) (fun b o nb e => (sm.2 b nb).trans e) f0 f1 f3 f4 f5, rfl, fin⟩⟩
    · refine thnF (T.item (X.blk sB HB scope ce fp) rfl rfl rfl hc i [] s1 _ H1 (fun _ _ => False) I1 (still I1 no1) st1 go) fun r s2 ⟨u, er, next⟩ => ?_
      subst er
      refine thnF next fun _ s3 ⟨x, H3, I3, r3, y3, st3, no3⟩ => ?_
      have I3p := I3.pinned (still I3 no3) (T.obj _ _ st3)
      refine thnF (pg.run _ s3 _ H3 x u _ I3p r3 (step x H3 y3)) fun _ s4 ⟨σ4, H4, I4, wp4, q4⟩ => ?_
      refine thnF (pt.run _ s4 σ4 H4 _ I4 q4) fun b s5 ⟨H5, I5, q5⟩ => ?_
      have turned : ∀ {s9 : Shared} {H9 : Hp}, Inv (X.blk sB HB scope ce fp) ([] ++ pinsAt fp s3.heap) σ4 H9 s9 → Nx H9 → ∃ m, m < n ∧ ∃ i H1, Inv (X.blk sB HB scope ce fp) [] (wipe σ (own.map (·.2))) H1 s9 ∧ tn i s9.heap ∧ (∀ b ∈ fp, H1 b = none) ∧ W i m H1 := by
        intro s9 H9 I9 nx
        obtain ⟨m, lt, w9⟩ := less H9 nx
        have pin : ∀ b ∈ fp, ∀ o, s3.heap.get? b = some o → s9.heap.get? b = some o ∧ H9 b = none := fun b mb o e =>
          have z := I9.pin (b, o) (List.mem_append_right _ (List.mem_append_right _ (mem_pinsAt mb e)))
          ⟨z.1, z.2.1⟩
        refine ⟨m, lt, i + 1, H9, (I9.unpinned (pins := [])).weak (by rw [← wp4, wipe_length]) (fun j v e => ?_), T.keep _ _ _ st3 fun b mb o e => (pin b mb o e).1, fun b mb => ?_, w9⟩
        · rw [← wp4] at e
          exact (wipe_some e).1
        · obtain ⟨o, e, _⟩ := T.obj _ _ st3 b mb
          exact (pin b mb o e).2
      cases b with
      | false =>
        rw [if_neg (by decide)] at q5
        rw [if_neg (by decide)]
        exact turned I5 q5
      | true =>
        rw [if_pos rfl] at q5
        rw [if_pos rfl]
        refine thnF (pe.run _ s5 σ4 H5 _ I5 q5) fun v s6 ⟨yv, H6, I6, r6, z, zs, ey, hD, room, nx⟩ => ?_
        subst ey
        obtain ⟨u2, rfl⟩ := r6
        exact addX_ok (X := X.blk sB HB scope ce fp) I6 hD room fun s7 I7 => turned I7 nx
  exact PpSet.codeAny_compStart_set main (T.self X.A 0 _ _ _ stC main)
end
/-! ### sorted of a set of texts -/
def rSortX (w : World) : List V → Hp → VK → Prop := fun vs H Q => ∃ (a : Addr) (zs : List Str), vs = [.ref a] ∧ H a = some (setO w a zs) ∧ zs.length < 64 ∧ ∀ (ys : List Str) (p : Addr), ys.Perm zs → H p = none → Q (.ref p) (upd H p (.lst (ys.map V.str)))
end G

set_option Elab.async false
set_option linter.all false
set_option maxRecDepth 100000
set_option maxHeartbeats 4000000
namespace G
open PySem PySem.Spec PyProof.Rows L2 Evl
theorem texts_of {w : World} {es : List (Int × Value)} : ∀ {vs : List Value}, (∀ v ∈ vs, ∃ z u, v = Value.str z u) → StrsAre vs (vs.map strOf)
  | [], _ => .nil
  | v :: vs, h => by
    obtain ⟨z, u, rfl⟩ := h v List.mem_cons_self
    exact .cons z u (texts_of (w := w) (es := es) fun x m => h x (List.mem_cons_of_mem _ m))
/-- sorted(a set of texts) -/
theorem cr_sortX {X : Cx} (hc : X.calm = true) : CallR X (.builtin "sorted") (rSortX X.w) := by
  intro pins s σ H vs us Q I r h
  obtain ⟨a, zs, rfl, ha, few, q⟩ := h
  obtain ⟨o, es, n, T, ⟨q1, q2, q3⟩, ⟨g, pm, _⟩, b, f, rs, ld⟩ := setO_at I ha
  rw [Vals.ref1 r]
  refine Calls.call_function_entry PyProof.Rows.kind_sorted PyProof.Rows.plain_sorted PyProof.Rows.entry_sorted (PyProof.Rows.args_sorted1 _) ?_
  unfold Builtin.«sorted»
  refine wpAny_bind (m := checkCount "sorted" 1 1 _) (wpAny_pure ?_)
  refine wpAny_bind (collect_set (A := X.A.in1) (I.ok.hd hc) ⟨o, q1, q2.1, q3⟩ f b rs ld fun s1 ws k1 z1 g1 o1 pw => ?_)
  have tx : ∀ v ∈ ws, ∃ z u, v = Value.str z u := by
    intro v m
    obtain ⟨e, me, ee⟩ := List.mem_map.mp (pw.mem_iff.mp m)
    obtain ⟨z, u, e1, _⟩ := g e me
    exact ⟨z, u, by rw [← ee, e1]⟩
  have SA : StrsAre ws (ws.map strOf) := texts_of (w := X.w) (es := []) tx
  have pz : (ws.map strOf).Perm zs := by
    have p1 := pw.map strOf
    rw [List.map_map] at p1
    exact p1.trans pm
  have len : ws.length = zs.length := by
    have := pz.length_eq
    simpa using this
  refine wpAny_bind (wpAny_newList ?_ (by rw [len, sizeLine_eq]; omega))
  have hL : (s1.heap.push (seqObj "list" ws.toArray 0)).get? s1.heap.objs.size = some (seqObj "list" ws.toArray 0) := Heap.get?_push_size _ rfl
  refine wpAny_bind (wpAny_holding (wpAny_call_entry PyProof.Rows.slot_list_sort ⟨_, hL, rfl⟩ PyProof.Rows.entry_list_sort
    (list_sort_treeK strKind_oneLt (s := { s1 with heap := s1.heap.push (seqObj "list" ws.toArray 0) }) hL SA.keysOf (fun x y rest e => keyKind_strs (by rw [← e]; exact SA)) (by rw [len]; exact few) fun st hp hs => ⟨_, rfl, ?_⟩) (PyProof.Rows.args_list_sort _)))
  obtain ⟨ys, y1, y2, y3⟩ := sorted_out_str SA hp hs
  obtain ⟨c, hcat⟩ := PyProof.Rows.sortedHeap_at (vs := ws) (out := (arrOf st).map (·.2)) hL
  have yl : (ys.map V.str).length ≤ sizeLine := by
    rw [List.length_map, y2.length_eq, List.length_map, len]
    exact Nat.le_trans (Nat.le_of_lt few) (by decide)
  have I1 : Inv X pins σ H s1 := I.call' (ch := []) o1 (Un.kept k1) (I.hok.kept k1) (by rw [g1]; exact I.bare) (fun _ z => nomatch z)
  have I2 : Inv X pins σ (upd H s1.heap.objs.size (.lst (ys.map V.str))) { s1 with heap := sortedHeap (s1.heap.push (seqObj "list" ws.toArray 0)) s1.heap.objs.size ws ((arrOf st).map (·.2)) } := by
    refine I1.laid (t' := s1.toks) (fun x u e => ?_) (Nat.le_refl _) (show ObjOk X.prog X.w _ _ _ (.lst (ys.map V.str)) from ⟨yl, ((arrOf st).map (·.2)).toList, c, vals_of_strs y1, by rw [Array.toArray_toList]; exact hcat⟩)
    have lt := Heap.lt_size e
    rw [PyProof.Rows.sortedHeap_old (Nat.ne_of_lt lt) (by rw [size_push']; exact Nat.lt_succ_of_lt lt)]
    exact Heap.get?_push_of_some _ e
  exact wpAny_pure ⟨_, rfl, .ref s1.heap.objs.size, _, I2, rfl, q ys _ (y2.trans pz) (I1.hok.fresh (Nat.le_refl _))⟩
/-! ### how the turns of a set's comprehension go over a list -/
section
variable {K : PySem.W.Frag} {w : World}
/-- {z for z in a list of texts if it is kept}: what is kept, once each -/
theorem walks_tup {a D : Addr} {xs : List V} {g : TG} {tt : TT} {te : TE} {vs : List Nat} {σ : L2.St} {H0 : Hp} {Qd : Hp → Prop} (Pv : Nat → Hp → Prop) (h0 : Pv 0 H0) (hl : ∀ i H, i ≤ xs.length → Pv i H → SqT K H a xs)
    (hs : ∀ i x H, xs[i]? = some x → Pv i H → TurnX w D g tt te vs σ (Pv (i + 1)) x H) (hd : ∀ H, Pv xs.length H → Qd H) : WalkX w (Itt K a) D g tt te vs σ H0 Qd := by
  refine ⟨fun i m H => m + i = xs.length ∧ Pv i H, ⟨xs.length, rfl, h0⟩, ?_⟩
  rintro i m H ⟨e, p⟩
  have st := hl i H (by omega) p
  rcases Nat.lt_or_ge i xs.length with lt | ge
  · refine .inr ⟨⟨xs, xs[i], st, by simp [lt]⟩, Pv (i + 1), fun H' p' => ⟨m - 1, by omega, by omega, p'⟩, fun x H' y => ?_⟩
    obtain ⟨rfl, y⟩ := y
    exact hs i x _ (y xs st) p
  · have ei : i = xs.length := by omega
    subst ei
    exact .inl ⟨⟨xs, st, Nat.le_refl _⟩, hd H p⟩
end
end G

set_option Elab.async false
set_option linter.all false
set_option maxRecDepth 100000
set_option maxHeartbeats 4000000
/-! x in o, x not in o by the class's own __contains__. -/
namespace G
open PySem PySem.Spec PyProof.Rows L2 Evl
/-- the def promises a truth value -/
def rInOwn (C : Addr) (sp : Sp) (E : XK) (neg : Bool) : R2 := fun x y H Q => ∃ a dx fs, y = .ref a ∧ H a = some (.ins C dx fs) ∧ sp [.ref a, x] H (fun v H' => ∃ b, v = .bl b ∧ Q (.bl (if neg = true then !b else b)) H') E
section
variable {X : Cx} {CC : CXT} {n : Nat} {C f : Addr} {fd : FuncData} {ps : List Str} {sp : Sp} {E : XK}
theorem op_inOwn (F : FnOk X.prog X.w X.K X.mg X.base CC n f fd ps sp) (hr : Room n X.A) (hs : PySem.W.findIn X.K (.ref C) "__contains__" = some (some (.ref f))) (hf : PySem.W.isFn X.K (.ref f) = true) (hb : Binds X.K fd ps []) (hx : Passes CC X E) :
    OpR X (compareOp .In) (rInOwn C sp E false) := by
  intro pins s σ H x y v u Q I rx ry h
  obtain ⟨a, dx, fs, rfl, ha, h⟩ := h
  cases ry
  obtain ⟨mA, J, _⟩ := ins_get I.hok ha
  obtain ⟨od, J, _⟩ := J.look
  obtain ⟨m, hF⟩ := I.fr
  refine PySem.W.in_K hF I.ok.mod.kin J hs hf (wpAny_mono (run_fn (vs := [.ref a, x]) (us := [.ref a, v]) F hr hb .nil hx I (.cons rfl (.cons rx .nil)) h) (fun r s1 q => ?_) fun _ _ z => z)
  obtain ⟨z, H1, I1, rz, b, rfl, q⟩ := q
  cases rz
  exact wpAny_truthy_bool ⟨.bl b, H1, I1, rfl, q⟩
theorem op_ninOwn (F : FnOk X.prog X.w X.K X.mg X.base CC n f fd ps sp) (hr : Room n X.A) (hs : PySem.W.findIn X.K (.ref C) "__contains__" = some (some (.ref f))) (hf : PySem.W.isFn X.K (.ref f) = true) (hb : Binds X.K fd ps []) (hx : Passes CC X E) :
    OpR X (compareOp .NotIn) (rInOwn C sp E true) := by
  intro pins s σ H x y v u Q I rx ry h
  obtain ⟨a, dx, fs, rfl, ha, h⟩ := h
  cases ry
  obtain ⟨mA, J, _⟩ := ins_get I.hok ha
  obtain ⟨od, J, _⟩ := J.look
  obtain ⟨m, hF⟩ := I.fr
  refine PySem.W.notIn_K hF I.ok.mod.kin J hs hf (wpAny_mono (run_fn (vs := [.ref a, x]) (us := [.ref a, v]) F hr hb .nil hx I (.cons rfl (.cons rx .nil)) h) (fun r s1 q => ?_) fun _ _ z => z)
  obtain ⟨z, H1, I1, rz, b, rfl, q⟩ := q
  cases rz
  exact wpAny_truthy_bool ⟨.bl (!b), H1, I1, rfl, q⟩
end
/-! ### dict comprehensions that only make things -/
/-- what a dict's comprehension over J asks -/
def DcG (J : It) (g : TG) (tt : TT) (tk tv : TE) (vs : List Nat) (σ : L2.St) (H : Hp) (D : Addr) (Qd : Hp → Prop) : Prop :=
  ∃ W : Nat → Nat → Hp → Prop, (∃ m, W 0 m (upd H D (.dK []))) ∧ ∀ i m Hx, W i m Hx →
    (J.stop i Hx ∧ Qd Hx) ∨ (J.go i Hx ∧ ∃ Nx : Hp → Prop, (∀ H', Nx H' → ∃ m', m' < m ∧ W (i + 1) m' H') ∧ ∀ x H', J.yld i Hx x H' → g x (wipe σ vs) H' fun σ2 H2 => wipe σ2 vs = wipe σ vs ∧ tt σ2 H2 fun b H3 =>
      if b = true then tk σ2 H3 fun y H4 => tv σ2 H4 fun z H5 => ∃ kvs k, y = kV k ∧ H5 D = some (.dK kvs) ∧ kvs.length < sizeLine ∧ Nx (upd H5 D (.dK (putK kvs k z))) else Nx H3)
theorem dc_it {J : It} {n : Nat} {Gd : Hp → Prop} {Y : Nat → Hp → V → Hp → Prop} (w : Walk J n Gd Y) {g : TG} {tt : TT} {tk tv : TE} {vs : List Nat} {σ : L2.St} {H : Hp} {D : Addr} {Qd : Hp → Prop} (Pv : Nat → Hp → Prop) (h0 : Pv 0 (upd H D (.dK [])))
    (hG : ∀ i Hx, i ≤ n → Pv i Hx → Gd Hx)
    (hs : ∀ i x Ha Hb, i < n → Pv i Ha → Y i Ha x Hb → g x (wipe σ vs) Hb fun σ2 H2 => wipe σ2 vs = wipe σ vs ∧ tt σ2 H2 fun b H3 =>
      if b = true then tk σ2 H3 fun y H4 => tv σ2 H4 fun z H5 => ∃ kvs k, y = kV k ∧ H5 D = some (.dK kvs) ∧ kvs.length < sizeLine ∧ Pv (i + 1) (upd H5 D (.dK (putK kvs k z))) else Pv (i + 1) H3)
    (hd : ∀ Hx, Pv n Hx → Qd Hx) : DcG J g tt tk tv vs σ H D Qd := by
  refine ⟨fun i m Hx => m + i = n ∧ Pv i Hx, ⟨n, rfl, h0⟩, ?_⟩
  rintro i m Hx ⟨e, p⟩
  have q := hG i Hx (by omega) p
  rcases Nat.lt_or_ge i n with lt | ge
  · exact .inr ⟨w.goes i Hx lt q, Pv (i + 1), fun H' p' => ⟨m - 1, by omega, by omega, p'⟩, fun x H' y => hs i x Hx H' lt p (w.yields i Hx x H' lt q y)⟩
  · have ei : i = n := by omega
    subst ei
    exact .inl ⟨w.stops Hx q, hd Hx p⟩
/-- keys and values are told of each turn's item; nothing that was known changes -/
theorem dc_pure {J : It} {n : Nat} {Gd : Hp → Prop} {Y : Nat → Hp → V → Hp → Prop} (w : Walk J n Gd Y) {tk tv : TE} {σ : L2.St} {j : Nat} {H : Hp} {D : Addr} {Qd : Hp → Prop} (fk : Nat → Key) (fv : Nat → V) (hn : n ≤ 100000)
    (hG : ∀ H', Ex H H' → Gd H') (It : Nat → V → Prop) (hY : ∀ i Ha x Hb, i < n → Ex H Ha → Y i Ha x Hb → Hb = Ha ∧ It i x)
    (hk : ∀ i x, i < n → It i x → Ev tk ((wipe σ [j]).set j (some x)) H (kV (fk i))) (hv : ∀ i x, i < n → It i x → Ev tv ((wipe σ [j]).set j (some x)) H (fv i))
    (nd : ∀ i k, i < n → k < n → fk i = fk k → i = k)
    (new : H D = none) (hd : ∀ H', Ex H H' → H' D = some (.dK ((List.range n).map fun i => (fk i, fv i))) → Qd H') : DcG J (gName j) tYes tk tv [j] σ H D Qd := by
  refine dc_it w (fun i Hc => Ex H Hc ∧ Hc D = some (.dK ((List.range i).map fun i => (fk i, fv i)))) ⟨Ex.new new, upd_same⟩ (fun i Hc _ p => hG Hc p.1) (fun i x Ha Hb hi p y => ?_) (fun Hc p => hd Hc p.1 p.2)
  obtain ⟨e, ix⟩ := hY i Ha x Hb hi p.1 y
  rw [e]
  refine ⟨wipe_set σ j x, ?_⟩
  show tk ((wipe σ [j]).set j (some x)) Ha _
  refine hk i x hi ix Ha p.1 _ fun H2 e2 => hv i x hi ix H2 (p.1.trans e2) _ fun H3 e3 => ?_
  have at3 := e3 _ _ (e2 _ _ p.2)
  refine ⟨_, fk i, rfl, at3, ?_, (p.1.trans (e2.trans e3)).mut new, ?_⟩
  · simp only [List.length_map, List.length_range]
    exact Nat.lt_of_lt_of_le (Nat.lt_of_lt_of_le hi hn) (by decide)
  · rw [upd_same, List.range_succ, List.map_append]
    unfold putK
    rw [if_neg]
    · rfl
    · intro c
      obtain ⟨q, hq, eq⟩ := List.any_eq_true.mp c
      obtain ⟨k, hk', rfl⟩ := List.mem_map.mp hq
      have lt := List.mem_range.mp hk'
      have := nd k i (by omega) hi (of_decide_eq_true eq)
      omega
end G

set_option Elab.async false
set_option linter.all false
set_option maxRecDepth 100000
set_option maxHeartbeats 4000000
/-! name = {k: v for ..} on one line, the name a local. -/
namespace G
open PySem PySem.Spec PyProof.Rows L2 Evl
section
variable {X : Cx}
theorem ps_setDc {i : Nat} {y : Str} {py pos spos : Pos} {kx vx tg iter : Expr} {ifs : List Expr} {scope : Scope} {own : List (Str × Nat)} {wi : TI} {g : TG} {tt : TT} {tk tv : TE} (hc : X.calm = true) (nd : X.N.Nodup) (hy : X.N[i]? = some y) (hl : X.env.scope.names.lookup y = some .local)
    (sw : swapsWith (.DictComp kx vx [⟨tg, iter, ifs, 0⟩] scope pos) (some (.Name y py)) spos.line X.env = pure true) (hi : PI X tg iter wi) (ok : BlkOk X.N X.env.scope scope own)
    (hg : ∀ (s : Shared) (H : Hp) (C : Addr) (cl : List (Str × Addr)) (fp : List Addr), PG (X.blk s H scope (compEnvC scope cl C X.env) fp) tg g)
    (ht : ∀ (s : Shared) (H : Hp) (C : Addr) (cl : List (Str × Addr)) (fp : List Addr), PTs (X.blk s H scope (compEnvC scope cl C X.env) fp) ifs tt)
    (hk : ∀ (s : Shared) (H : Hp) (C : Addr) (cl : List (Str × Addr)) (fp : List Addr), PE (X.blk s H scope (compEnvC scope cl C X.env) fp) kx tk)
    (hv : ∀ (s : Shared) (H : Hp) (C : Addr) (cl : List (Str × Addr)) (fp : List Addr), PE (X.blk s H scope (compEnvC scope cl C X.env) fp) vx tv) (hf : ∀ x, foldedSetIterable iter X.env x = pure x := by intro _; rfl) :
    PS X (.Assign [.Name y py] (.DictComp kx vx [⟨tg, iter, ifs, 0⟩] scope pos) spos) (tAsg (tDc wi g tt tk tv (own.map (·.2))) (gName i)) := by
  refine ⟨fun pins s σ H D I h => ?_⟩
  rw [exec_Assign_Name_used _ _ _ _ sw]
  refine wpAny_bind (wpAny_standAt (wpAny_bind ?_))
  show wpAny _ X.A (do let _ ← comprehension (.DictComp kx vx [⟨tg, iter, ifs, 0⟩] scope pos) scope X.env (firstIterPos [⟨tg, iter, ifs, 0⟩] pos) newDict false (eval iter X.env) (some (assign (.Name y py) X.env))) _ _ s
  have h1 : tDc wi g tt tk tv (own.map (·.2)) σ H (fun x H1 => gName i x σ H1 D.nx) := h
  refine wpAny_bind (thn (dc_core (Qf := fun _ s1 => SP X pins D .next s1) hc nd I hi ok hg ht hk hv hf h1 fun L C s1 m H1 I1 q ns fp => ?_) fun _ s1 q => wpAny_pure (wpAny_pure q))
  show wpAny _ _ (assign (.Name y py) X.env (.ref L)) _ _ _
  refine wpAny_assign_Name (store_ok2 (v := V.ref L) I1 nd hy (.inl hl) rfl (fun s2 I2 ⟨a, same, ha⟩ => ?_) (.inr hl))
  obtain ⟨p0, p1, p2, p3, p4, p5⟩ := fp
  have ne : C ≠ a := fun e => ha.elim (fun z => p1 (e.trans z)) fun z => p4 y a z e.symm
  exact ⟨m, ns.sameBut same ne, fun h3 same3 => ⟨_, H1, I2.turned (t' := s2.toks) (fun b o hb e => (same3.2 b hb).trans e) p0 p1 p3 p4 p5, q⟩⟩
theorem sw_dict {kx vx : Expr} {gs : List Comprehension} {scope : Scope} {pos py : Pos} {y : Str} {l : Nat} {env : Env} (hk : env.scope.kind = .function) (hy : env.scope.names.lookup y = some .local) (hl : (py.line == pos.line) = true)
    (ha : (scope.names.any fun (n, k) => n == y && (k == .local || k == .cell)) = false) : swapsWith (.DictComp kx vx gs scope pos) (some (.Name y py)) l env = pure true := by
  have e1 : env.kindOf y = some .local := hy
  have e2 : env.blockKind = .function := by
    unfold Env.blockKind
    rw [hk]
    rfl
  unfold swapsWith
  simp only [e1, e2, ha, Expr.pos, hl]
  rfl
end
end G

set_option Elab.async false
set_option linter.all false
set_option maxRecDepth 100000
set_option maxHeartbeats 4000000
/-! Comprehensions over a list whose items are told by as and em. -/
namespace G
open PySem PySem.Spec PyProof.Rows L2 Evl
section
variable {α : Type} {J : It} {as : List α} {em : α → V} {Gd : Hp → Prop} {te tk tv : TE} {σ : L2.St} {j : Nat} {H : Hp} {D : Addr} {Qd : Hp → Prop}
theorem nth_map {i : Nat} {x : V} (e : (as.map em)[i]? = some x) : ∃ a, as[i]? = some a ∧ x = em a := by
  rw [List.getElem?_map] at e
  cases q : as[i]? with
  | none => rw [q] at e; cases e
  | some a =>
    rw [q] at e
    exact ⟨a, rfl, (Option.some.inj e).symm⟩
theorem lc_each (W : Walk J (as.map em).length Gd (YAt (as.map em))) (f : α → V) (hn : as.length ≤ 100000) (hG : ∀ H', Ex H H' → Gd H') (he : ∀ a ∈ as, Ev te ((wipe σ [j]).set j (some (em a))) H (f a))
    (new : H D = none) (hd : ∀ H', Ex H H' → H' D = some (.lst (as.map f)) → Qd H') : LcG J j te σ H D Qd := by
  refine lc_pure W (fun i => (as[i]?.map f).getD .non) (by rw [List.length_map]; exact hn) hG (fun i x => (as.map em)[i]? = some x) (fun i Ha x Hb _ _ y => ⟨y.1, y.2⟩) (fun i x hi e => ?_) new (fun H' e q => hd H' e ?_)
  · obtain ⟨a, ha, rfl⟩ := nth_map e
    rw [ha]
    exact he a (List.mem_of_getElem? ha)
  · rw [q, List.length_map]
    congr 2
    exact range_map as _ f fun i x e => by rw [e]; rfl
/-- a dict of it -/
theorem dc_each (W : Walk J (as.map em).length Gd (YAt (as.map em))) (fk : α → Key) (fv : α → V) (hn : as.length ≤ 100000) (hG : ∀ H', Ex H H' → Gd H') (hk : ∀ a ∈ as, Ev tk ((wipe σ [j]).set j (some (em a))) H (kV (fk a)))
    (hv : ∀ a ∈ as, Ev tv ((wipe σ [j]).set j (some (em a))) H (fv a)) (nd : (as.map fk).Nodup) (new : H D = none) (hd : ∀ H', Ex H H' → H' D = some (.dK (as.map fun a => (fk a, fv a))) → Qd H') : DcG J (gName j) tYes tk tv [j] σ H D Qd := by
  have at_ : ∀ (i : Nat) (a : α), as[i]? = some a → (as[i]?.map fk).getD (Sum.inl 0) = fk a := fun i a e => by rw [e]; rfl
  refine dc_pure W (fun i => (as[i]?.map fk).getD (Sum.inl 0)) (fun i => (as[i]?.map fv).getD .non) (by rw [List.length_map]; exact hn) hG (fun i x => (as.map em)[i]? = some x) (fun i Ha x Hb _ _ y => ⟨y.1, y.2⟩) (fun i x hi e => ?_) (fun i x hi e => ?_)
    (fun i k hi hk' e => ?_) new (fun H' e q => hd H' e ?_)
  · obtain ⟨a, ha, rfl⟩ := nth_map e
    rw [ha]
    exact hk a (List.mem_of_getElem? ha)
  · obtain ⟨a, ha, rfl⟩ := nth_map e
    rw [ha]
    exact hv a (List.mem_of_getElem? ha)
  · rw [List.length_map] at hi hk'
    rw [at_ i as[i] (by simp [hi]), at_ k as[k] (by simp [hk'])] at e
    have h1 : (as.map fk)[i]? = (as.map fk)[k]? := by
      rw [List.getElem?_map, List.getElem?_map, List.getElem?_eq_getElem hi, List.getElem?_eq_getElem hk']
      show some (fk as[i]) = some (fk as[k])
      rw [e]
    exact (List.getElem?_inj (by rw [List.length_map]; exact hi) nd).mp h1
  · rw [q, List.length_map]
    congr 2
    exact range_map as _ (fun a => (fk a, fv a)) fun i x e => by rw [e]; rfl
end
/-- under a dict's lock nothing else changes -/
theorem ex_unlock {H H' : Hp} {d : Addr} {u : HO} {o : Obj} (h : H d = some u) (e : Ex (upd H d (.frz o u)) H') : Ex H (upd H' d u) := fun b q hb => by
  by_cases z : b = d
  · subst z
    rw [h] at hb
    rw [upd_same, ← hb]
  · rw [upd_ne z]
    exact e b q (by rw [upd_ne z]; exact hb)
end G

set_option Elab.async false
set_option linter.all false
set_option maxRecDepth 100000
set_option maxHeartbeats 4000000
/-! Circuits by themselves: names, what is asked of one, sequences of gates. -/
namespace C
open PySem
structure Cir where
  ins : List Str
  gates : List (Str × Str × List Str)
  regs : List (Str × Int × Str)
  outs : List Str
def gn (c : Cir) : List Str := c.gates.map fun g => g.1
def rn (c : Cir) : List Str := c.regs.map fun r => r.1
def names (c : Cir) : List Str := c.ins ++ (gn c ++ rn c)
/-- a sequence of gates, each behind those among its sources -/
def Topo (gs : List (Str × List Str)) (seq : List Str) : Prop :=
  seq.Perm (gs.map Prod.fst) ∧ ∀ pre z post, seq = pre ++ z :: post → ∀ zs, (z, zs) ∈ gs → ∀ y ∈ zs, y ∈ gs.map Prod.fst → y ∈ pre
/-- no gate hangs on itself -/
def Ranked (gs : List (Str × List Str)) : Prop := ∃ f : Str → Nat, ∀ g ∈ gs, ∀ y ∈ g.2, y ∈ gs.map Prod.fst → f y < f g.1
def bet (c : Cir) : List (Str × List Str) := c.gates.map fun g => (g.1, g.2.2)
end C

set_option Elab.async false
set_option linter.all false
set_option maxRecDepth 100000
set_option maxHeartbeats 4000000
namespace W
open PySem PySem.Spec PyProof.Rows L2 Evl G
/-- the text by places -/
def top (i : Nat) : Stmt := PySem.Challenge.pw_wirewords_k61_answers_with_faults.main.body.getD i (.Pass ⟨0, 0, 0, 0⟩)
abbrev dInteger : Stmt := top 22
abbrev dBit : Stmt := top 23
abbrev dName : Stmt := top 24
abbrev dList : Stmt := top 25
abbrev dLetter : Stmt := top 26
abbrev dWord : Stmt := top 27
abbrev dKind : Stmt := top 28
abbrev dNumberOf : Stmt := top 29
abbrev dBitOf : Stmt := top 30
abbrev dCInputs : Stmt := top 32
abbrev dIsGate : Stmt := top 33
abbrev dCGates : Stmt := top 34
abbrev dIsReg : Stmt := top 35
abbrev dCRegs : Stmt := top 36
abbrev dCSources : Stmt := top 37
abbrev dCOutputs : Stmt := top 38
abbrev dCNumber : Stmt := top 39
abbrev dSeqOf : Stmt := top 40
abbrev dGateOnRing : Stmt := top 42
abbrev dCNoRing : Stmt := top 43
abbrev dCWire : Stmt := top 44
abbrev dCState : Stmt := top 45
abbrev dCWord : Stmt := top 46
abbrev dIsFault : Stmt := top 47
abbrev dCStuck : Stmt := top 48
abbrev dPlanOf : Stmt := top 50
abbrev dSaidBy : Stmt := top 51
abbrev dNextState : Stmt := top 52
abbrev dCourse : Stmt := top 53
abbrev dCCourse : Stmt := top 54
abbrev dFaults : Stmt := top 63
abbrev dCFault : Stmt := top 64
abbrev dPot : Stmt := top 67
abbrev dDraw : Stmt := top 68
abbrev dPick : Stmt := top 69
abbrev dLModel : Stmt := top 70
abbrev dLWires : Stmt := top 71
abbrev dLFirst : Stmt := top 72
abbrev dLLetters : Stmt := top 73
abbrev dMade : Stmt := top 74
abbrev dLStep : Stmt := top 75
abbrev dLAnswer : Stmt := top 76
abbrev dTerm : Stmt := top 77
abbrev dWordR : Stmt := top 79
abbrev dWideR : Stmt := top 80
abbrev dRight : Stmt := top 81
abbrev dShows : Stmt := top 65
abbrev dAnswer : Stmt := top 55
abbrev dLaw : Stmt := top 82
abbrev dM (i : Nat) : Stmt := inClass (top 61) i
/-- what the top has left of names -/
structure Names (mg : Str → Option Value) : Prop where
  isinstance : mg "isinstance" = none
  int : mg "int" = none
  bool : mg "bool" = none
  str : mg "str" = none
  list : mg "list" = none
  tuple : mg "tuple" = none
  len : mg "len" = none
  all : mg "all" = none
  abs : mg "abs" = none
  max : mg "max" = none
  min : mg "min" = none
  divmod : mg "divmod" = none
  range : mg "range" = none
  repr : mg "repr" = none
  dict : mg "dict" = none
  sorted : mg "sorted" = none
  zip : mg "zip" = none
  enumerate : mg "enumerate" = none
  sum : mg "sum" = none
  push : mg "heappush" = some (.builtin "_heapq.heappush")
  popH : mg "heappop" = some (.builtin "_heapq.heappop")
  small : ∃ t, mg "SMALL" = some (.str "abcdefghijklmnopqrstuvwxyz" t)
  digits : ∃ t, mg "DIGITS" = some (.str "0123456789" t)
  longest : ∃ t, mg "LONGEST_NAME" = some (.int 12 t)
  mInputs : ∃ t, mg "MOST_INPUTS" = some (.int 8 t)
  mGates : ∃ t, mg "MOST_GATES" = some (.int 200 t)
  mRegisters : ∃ t, mg "MOST_REGISTERS" = some (.int 8 t)
  mOutputs : ∃ t, mg "MOST_OUTPUTS" = some (.int 8 t)
/-- a def of the module's top, where it stands -/
structure At (K : PySem.W.Frag) (mg : Str → Option Value) (x : Str) (de : Stmt) (ps : List Str) (f : Addr) (fd : FuncData) : Prop where
  fn : Fun K x x de f fd
  gl : mg x = some (.ref f)
  bi : Binds K fd ps []
/-- a def with defaults -/
structure AtD (K : PySem.W.Frag) (mg : Str → Option Value) (x : Str) (de : Stmt) (dvs : List V) (ps : List Str) (f : Addr) (fd : FuncData) : Prop where
  fn : FunD K x x (defArgs de) (defBody de) (defScope de) dvs [] f fd
  gl : mg x = some (.ref f)
  bi : Binds K fd ps []
/-- a method of the class at C -/
structure MthT (K : PySem.W.Frag) (C : Addr) (x qual : Str) (de : Stmt) (ps : List Str) (f : Addr) (fd : FuncData) : Prop where
  fn : Fun K x qual de f fd
  me : Meth K C x f
  bi : Binds K fd ps []
/-- a test of a datum -/
def spT (K : PySem.W.Frag) (g : PyData → Bool) : Sp := fun vs H Q _ => ∃ x d, vs = [x] ∧ Dd K H x d ∧ ∀ H', Ex H H' → Q (.bl (g d)) H'
/-- a test of a datum, and a width -/
def spW (K : PySem.W.Frag) (g : PyData → Nat → Bool) : Sp := fun vs H Q _ => ∃ (x : V) (d : PyData) (n : Nat), vs = [x, .int (n : Int)] ∧ Dd K H x d ∧ n ≤ 100 ∧ ∀ H', Ex H H' → Q (.bl (g d n)) H'
def isInteger (d : PyData) : Bool := isI d && !isB d
def isBit : PyData → Bool | .int i => decide (0 ≤ i) && decide (i ≤ 1) | _ => false
/-- a built-in type as a value -/
theorem pTy {X : Cx} {x : Str} (T : String) {pos : Pos} (hg : Gl X x) (hm : X.mg x = none) (hv : bootBuiltins x = some (.type T)) (hn : x ≠ "__name__" := by decide) (hd : (x == ("__debug__" : Str)) = false := by decide) : PE X (.Name x pos) (tC (.ty T)) :=
  pe_bltn hg hm hv rfl hn hd
theorem pGs {X : Cx} {x z : Str} {t : Tok} {pos : Pos} (hg : Gl X x) (hm : X.mg x = some (.str z t)) (hd : (x == ("__debug__" : Str)) = false := by decide) : PE X (.Name x pos) (tC (.str z)) := pe_glob hg hm ⟨t, rfl⟩ hd
theorem pGi {X : Cx} {x : Str} {i : Int} {t : Tok} {pos : Pos} (hg : Gl X x) (hm : X.mg x = some (.int i t)) (hd : (x == ("__debug__" : Str)) = false := by decide) : PE X (.Name x pos) (tC (.int i)) := pe_glob hg hm ⟨t, rfl⟩ hd
/-- isinstance(x, T) of two arguments -/
abbrev tIsi (K : PySem.W.Frag) (i : Nat) (T : String) : TE := tCB (rIsi K) (tCons (tVar i) (tCons (tC (.ty T)) tNil))
theorem rd_isi {K : PySem.W.Frag} {i : Nat} {T : String} {σ : L2.St} {H : Hp} {Q : VK} {x : V} {d : PyData} {b : Bool} (hs : σ[i]? = some (some x)) (hd : Dd K H x d) (hk : kitB (tyD d) T = some b) (h : Q (.bl b) H) : tIsi K i T σ H Q :=
  ⟨x, hs, x, _, _, _, b, rfl, .ty _, hd.ty, kit_ty hk, h⟩
/-- what the top has left: the names, the defs -/
structure Txt (K : PySem.W.Frag) (mg : Str → Option Value) : Prop extends Names mg where
  integer : ∃ f fd, At K mg "is_integer" dInteger ["value"] f fd
  bit : ∃ f fd, At K mg "is_bit" dBit ["value"] f fd
  name : ∃ f fd, At K mg "is_name" dName ["value"] f fd
  lst : ∃ f fd, At K mg "is_list" dList ["value"] f fd
  letter : ∃ f fd, At K mg "is_letter" dLetter ["value", "width"] f fd
  word : ∃ f fd, At K mg "is_word" dWord ["value", "width"] f fd
  kind : ∃ f fd, At K mg "is_kind" dKind ["value"] f fd
  numberOf : ∃ f fd, At K mg "number_of" dNumberOf ["bits"] f fd
  bitOf : ∃ f fd, At K mg "bit_of" dBitOf ["kind", "bits"] f fd
  cInputs : ∃ f fd, At K mg "check_inputs" dCInputs ["inputs"] f fd
  isGate : ∃ f fd, At K mg "is_gate" dIsGate ["value"] f fd
  cGates : ∃ f fd, At K mg "check_gates" dCGates ["gates", "inputs"] f fd
  isReg : ∃ f fd, At K mg "is_register" dIsReg ["value"] f fd
  cRegs : ∃ f fd, At K mg "check_registers" dCRegs ["registers", "taken"] f fd
  cSources : ∃ f fd, At K mg "check_sources" dCSources ["sources", "wires"] f fd
  cOutputs : ∃ f fd, At K mg "check_outputs" dCOutputs ["outputs", "wires"] f fd
  cNumber : ∃ f fd, At K mg "check_number" dCNumber ["what", "rows", "limit"] f fd
  seqOf : ∃ f fd, At K mg "sequence_of" dSeqOf ["sources"] f fd
  gateOnRing : ∃ f fd, At K mg "gate_on_ring" dGateOnRing ["sources"] f fd
  cNoRing : ∃ f fd, At K mg "check_no_ring" dCNoRing ["sources"] f fd
  cWire : ∃ f fd, At K mg "check_wire" dCWire ["circuit", "wire"] f fd
  cState : ∃ f fd, At K mg "check_state" dCState ["circuit", "state"] f fd
  cWord : ∃ f fd, At K mg "check_word" dCWord ["circuit", "word"] f fd
  isFault : ∃ f fd, At K mg "is_fault" dIsFault ["circuit", "value"] f fd
  cStuck : ∃ f fd, At K mg "check_stuck" dCStuck ["circuit", "stuck"] f fd
  planOf : ∃ f fd, At K mg "plan_of" dPlanOf ["circuit"] f fd
  saidBy : ∃ f fd, At K mg "said_by" dSaidBy ["circuit", "plan", "state", "letter", "stuck"] f fd
  nextState : ∃ f fd, At K mg "next_state" dNextState ["circuit", "said"] f fd
  course : ∃ f fd, At K mg "course" dCourse ["circuit", "wires", "word", "state", "stuck"] f fd
  cCourse : ∃ f fd, At K mg "check_course" dCCourse ["circuit", "word", "state", "stuck"] f fd
  faults : ∃ f fd, At K mg "faults" dFaults ["circuit"] f fd
  cFault : ∃ f fd, At K mg "check_fault" dCFault ["circuit", "fault"] f fd
  pot : ∃ f fd, At K mg "_law_pot" dPot ["_law_script", "_law_k"] f fd
  draw : ∃ f fd, At K mg "_law_draw" dDraw ["_law_pot_here", "_law_faces"] f fd
  pick : ∃ f fd, At K mg "_law_pick" dPick ["_law_pot_here", "_law_things"] f fd
  lModel : ∃ f fd, At K mg "_law_model" dLModel ["_law_pot_here", "_law_most"] f fd
  lWires : ∃ f fd, At K mg "_law_wires" dLWires ["_law_model_here"] f fd
  lFirst : ∃ f fd, At K mg "_law_first" dLFirst ["_law_model_here"] f fd
  lLetters : ∃ f fd, At K mg "_law_letters" dLLetters ["_law_model_here"] f fd
  made : ∃ f fd, At K mg "_law_made" dMade ["_law_kind", "_law_bits"] f fd
  lStep : ∃ f fd, At K mg "_law_step" dLStep ["_law_model_here", "_law_state", "_law_letter", "_law_stuck"] f fd
  lAnswer : ∃ f fd, At K mg "_law_answer" dLAnswer ["_law_model_here", "_law_term_here", "_law_stuck"] f fd
  term : ∃ f fd, At K mg "_law_term" dTerm ["_law_pot_here", "_law_model_here", "_law_most"] f fd
  wordR : ∃ f fd, At K mg "_law_word_right" dWordR ["_law_model_here", "_law_circuit", "_law_term_here", "_law_one", "_law_far"] f fd
  wideR : ∃ f fd, At K mg "_law_wide_right" dWideR ["_law_pot_here"] f fd
  right : ∃ f fd, At K mg "_law_right" dRight ["_law_pot_here"] f fd
  shows : ∃ f fd, AtD K mg "shows_at" dShows [.non] ["circuit", "word", "fault", "other"] f fd
  answer : ∃ f fd, AtD K mg "answer" dAnswer [.non, .non] ["circuit", "word", "state", "stuck"] f fd
/-- the class -/
structure CirT (K : PySem.W.Frag) (mg : Str → Option Value) (C : Addr) : Prop where
  gl : mg "Circuit" = some (.ref C)
  cl : Cls K C
  kp : PySem.W.keepIn K (.ref C) = true
  makes : PySem.W.makesIn K C = true
  isC : PySem.W.kitOne K (.ref C) (.ref C) = some true
  ty : ∀ (H : Hp) (a dx : Addr) (fs : List (Str × V)), H a = some (.ins C dx fs) → TyOf K H (.ref a) (.ref C)
  eqIn : ∃ f, PySem.W.findIn K (.ref C) "__eq__" = some (some (.ref f))
  n_inputs : NoAttr K C "_inputs"
  n_gates : NoAttr K C "_gates"
  n_registers : NoAttr K C "_registers"
  n_outputs : NoAttr K C "_outputs"
  n_sources : NoAttr K C "_sources"
  n_kinds : NoAttr K C "_kinds"
  n_sequence : NoAttr K C "_sequence"
  init : ∃ f fd dvs, FunD K "__init__" "Circuit.__init__" (defArgs (dM 0)) (defBody (dM 0)) (defScope (dM 0)) dvs [] f fd ∧ PySem.W.findIn K (.ref C) "__init__" = some (some (.ref f)) ∧ PySem.W.isFn K (.ref f) = true ∧ Binds K fd ["self", "inputs", "gates", "registers", "outputs"] []
  inputs : ∃ f fd, MthT K C "inputs" "Circuit.inputs" (dM 1) ["self"] f fd
  gates : ∃ f fd, MthT K C "gates" "Circuit.gates" (dM 2) ["self"] f fd
  registers : ∃ f fd, MthT K C "registers" "Circuit.registers" (dM 3) ["self"] f fd
  outputs : ∃ f fd, MthT K C "outputs" "Circuit.outputs" (dM 4) ["self"] f fd
  wires : ∃ f fd, MthT K C "wires" "Circuit.wires" (dM 5) ["self"] f fd
  first : ∃ f fd, MthT K C "first" "Circuit.first" (dM 6) ["self"] f fd
  kind : ∃ f fd, MthT K C "kind" "Circuit.kind" (dM 7) ["self", "wire"] f fd
  sources : ∃ f fd, MthT K C "sources" "Circuit.sources" (dM 8) ["self", "wire"] f fd
  sequence : ∃ f fd, MthT K C "sequence" "Circuit.sequence" (dM 11) ["self"] f fd
  cont : ∃ f fd, MthT K C "__contains__" "Circuit.__contains__" (dM 13) ["self", "value"] f fd
  eq : ∃ f fd, MthT K C "__eq__" "Circuit.__eq__" (dM 14) ["self", "other"] f fd
section
variable {K : PySem.W.Frag} {H H' : Hp} {x : V} {d : PyData} {σ : L2.St} {Q : VK} {g : PyData → Bool}
mutual
theorem dp_ex (e : Ex H H') : ∀ {d : PyData} {x : V}, Dp K H x d → Dp K H' x d
  | .none, _, h => by cases h; exact .non
  | .bool b, _, h => by cases h; exact .bl b
  | .int i, _, h => by cases h; exact .int i
  | .str z, _, h => by cases h; exact .str z
  | .list ds, _, h => by
    cases h with
    | lst hs a => exact .lst (ex_l e hs) (dpAll_ex e a)
  | .tuple ds, _, h => by
    cases h with
    | tup hs a => exact .tup (ex_t e hs) (dpAll_ex e a)
  | .dict _, _, h => by cases h
theorem dpAll_ex (e : Ex H H') : ∀ {ds : List PyData} {xs : List V}, DpAll K H xs ds → DpAll K H' xs ds
  | [], _, h => by cases h; exact .nil
  | d :: ds, _, h => by
    cases h with
    | cons a b => exact .cons (dp_ex e a) (dpAll_ex e b)
end
theorem dd_ex (e : Ex H H') (h : Dd K H x d) : Dd K H' x d := by
  cases h with
  | dp q => exact .dp (dp_ex e q)
  | dk q k => exact .dk (e _ _ q) k
theorem dpAll_at : ∀ {xs : List V} {ds : List PyData} {i : Nat} {x : V}, DpAll K H xs ds → xs[i]? = some x → ∃ d, ds[i]? = some d ∧ Dp K H x d
  | _, _, _, _, .nil, e => by simp at e
  | _, _, 0, _, .cons a b, e => by
    simp at e
    subst e
    exact ⟨_, rfl, a⟩
  | _, _, i + 1, x, .cons a b, e => by
    obtain ⟨d, e1, e2⟩ := dpAll_at (i := i) (x := x) b (by simpa using e)
    exact ⟨d, by simpa using e1, e2⟩
theorem dpAll_len : ∀ {xs : List V} {ds : List PyData}, DpAll K H xs ds → xs.length = ds.length
  | _, _, .nil => rfl
  | _, _, .cons _ b => by simp [dpAll_len b]
/-- f(x), f a test -/
theorem rd_t {i : Nat} {E : XK} (hs : σ[i]? = some (some x)) (hd : Dd K H x d) (h : ∀ H', Ex H H' → Q (.bl (g d)) H') : tCall (spT K g) [] E (tCons (tVar i) tNil) σ H Q := ⟨x, hs, x, d, rfl, hd, h⟩
end
end W

set_option Elab.async false
set_option linter.all false
set_option maxRecDepth 100000
set_option maxHeartbeats 4000000
namespace W
open PySem PySem.Spec PyProof.Rows L2 Evl G
section
variable {P : Program} {w : World} {K : PySem.W.Frag} {mg : Str → Option Value} {base : Heap}
theorem scInteger : FnScope ["value"] ["value"] (defScope dInteger) := ⟨rfl, rfl, rfl, by decide +kernel, rfl, by decide +kernel, by decide +kernel⟩
theorem okInteger {f : Addr} {fd : FuncData} (F : At K mg "is_integer" dInteger ["value"] f fd) (T : Txt K mg) : FnOk P w K mg base CX0 1 f fd ["value"] (spT K isInteger) := by
  refine F.fn.ok scInteger (fun vs H Q E h => ?_) (fun cdv A outer s H vs Q E hr h => ?_)
  · obtain ⟨x, d, rfl, _⟩ := h
    rfl
  · obtain ⟨x, d, rfl, hd, k⟩ := h
    refine ⟨_, pss_one (ps_ret (pe_and (pe_callB call_isi (by rfl) T.isinstance (by decide +kernel) (pa_cons (pv 0) (pa_cons (pTy "int" (by rfl) T.int (by decide +kernel)) pa_nil)))
      (pe_one (pe_not (pe_callB call_isi (by rfl) T.isinstance (by decide +kernel) (pa_cons (pv 0) (pa_cons (pTy "bool" (by rfl) T.bool (by decide +kernel)) pa_nil))))))), ?_⟩
    refine ⟨_, rfl, x, _, _, _, _, rfl, .ty _, hd.ty, kit_ty (kit_I d), _, rfl, ?_⟩
    cases e : isI d with
    | false =>
      refine iteF ?_
      have e2 : isInteger d = false := by unfold isInteger; rw [e]; rfl
      have q := k H (Ex.refl H)
      rw [e2] at q
      exact q
    | true =>
      refine iteT ?_
      refine ⟨_, rfl, x, _, _, _, _, rfl, .ty _, hd.ty, kit_ty (kit_B d), _, rfl, ?_⟩
      have e2 : isInteger d = !isB d := by unfold isInteger; rw [e]; rfl
      have q := k H (Ex.refl H)
      rw [e2] at q
      exact q
theorem scBit : FnScope ["value"] ["value"] (defScope dBit) := ⟨rfl, rfl, rfl, by decide +kernel, rfl, by decide +kernel, by decide +kernel⟩
theorem okBit {f : Addr} {fd : FuncData} (F : At K mg "is_bit" dBit ["value"] f fd) (T : Txt K mg) : FnOk P w K mg base CX0 2 f fd ["value"] (spT K isBit) := by
  obtain ⟨fI, fdI, FI⟩ := T.integer
  have GI : FnOk P w K mg base CX0 1 fI fdI ["value"] (spT K isInteger) := okInteger FI T
  refine F.fn.ok scBit (fun vs H Q E h => ?_) (fun cdv A outer s H vs Q E hr h => ?_)
  · obtain ⟨x, d, rfl, _⟩ := h
    rfl
  · obtain ⟨x, d, rfl, hd, k⟩ := h
    refine ⟨_, pss_one (ps_ret (pe_and (pe_call GI hr (by rfl) FI.gl FI.fn.kp FI.bi .nil pass0 (pa_cons (pv 0) pa_nil)) (pe_one (pe_chain op_le op_le pe_int (pv 0) pe_int)))), ?_⟩
    refine rd_t rfl hd fun H1 e1 => ⟨_, rfl, ?_⟩
    have kk := k H1 e1
    cases e : isInteger d with
    | false =>
      have e2 : isBit d = false := by cases d <;> first | rfl | (simp [isInteger, isI, isB] at e)
      rw [e2] at kk
      exact iteF kk
    | true =>
      refine iteT ?_
      obtain ⟨i, rfl⟩ : ∃ i, d = .int i := by cases d <;> first | exact ⟨_, rfl⟩ | (simp [isInteger, isI, isB] at e)
      cases hd with
      | dp z =>
        cases z
        have e3 : isBit (.int i) = (decide (0 ≤ i) && decide (i ≤ 1)) := rfl
        rw [e3] at kk
        refine ⟨_, rfl, _, _, rfl, rfl, _, rfl, ?_⟩
        cases e4 : decide ((0 : Int) ≤ i) with
        | false =>
          rw [e4] at kk
          exact iteF kk
        | true =>
          rw [e4] at kk
          exact iteT ⟨_, _, rfl, rfl, kk⟩
end
end W

set_option Elab.async false
set_option linter.all false
set_option maxRecDepth 100000
set_option maxHeartbeats 4000000
namespace W
open PySem PySem.Spec PyProof.Rows L2 Evl G
def isList (d : PyData) : Bool := isL d || isT d
def isLetter (d : PyData) (n : Nat) : Bool := match d with
  | .tuple ds => decide (ds.length = n) && ds.all isBit
  | _ => false
def isWord (d : PyData) (n : Nat) : Bool := match d with
  | .tuple ds => ds.all fun d => isLetter d n
  | .list ds => ds.all fun d => isLetter d n
  | _ => false
section
variable {P : Program} {w : World} {K : PySem.W.Frag} {mg : Str → Option Value} {base : Heap}
theorem scList : FnScope ["value"] ["value"] (defScope dList) := ⟨rfl, rfl, rfl, by decide +kernel, rfl, by decide +kernel, by decide +kernel⟩
theorem okList {f : Addr} {fd : FuncData} (F : At K mg "is_list" dList ["value"] f fd) (T : Txt K mg) : FnOk P w K mg base CX0 1 f fd ["value"] (spT K isList) := by
  refine F.fn.ok scList (fun vs H Q E h => ?_) (fun cdv A outer s H vs Q E hr h => ?_)
  · obtain ⟨x, d, rfl, _⟩ := h
    rfl
  · obtain ⟨x, d, rfl, hd, k⟩ := h
    refine ⟨_, pss_one (ps_ret (pe_callB call_isiT (by rfl) T.isinstance (by decide +kernel) (pa_cons (pv 0) (pa_cons (pe_tup (pa_cons (pTy "list" (by rfl) T.list (by decide +kernel)) (pa_cons (pTy "tuple" (by rfl) T.tuple (by decide +kernel)) pa_nil))) pa_nil)))), ?_⟩
    refine ⟨_, rfl, (by show 2 ≤ sizeLine; decide), fun p hp => ?_⟩
    have e1 : Ex H (upd H p (.tup [.ty "list", .ty "tuple"])) := Ex.new hp
    refine ⟨x, p, _, _, [.type "list", .type "tuple"], isList d, rfl, upd_same, .cons (.ty _) (.cons (.ty _) .nil), (dd_ex e1 hd).ty, ?_, k _ e1⟩
    refine kitAny_cons (kit_ty (kit_L d)) (fun e => kitAny_cons (kit_ty (kit_T d)) (fun e2 => ?_) (fun e2 => ?_)) (fun e => ?_)
    · have z : isList d = false := by unfold isList; rw [e, e2]; rfl
      rw [z]
      exact kitAny_nil
    · unfold isList
      rw [e2]
      simp
    · unfold isList
      rw [e]
      rfl
theorem scLetter : FnScope ["value", "width", "bit"] ["value", "width"] (defScope dLetter) := ⟨rfl, rfl, rfl, by decide +kernel, rfl, by decide +kernel, by decide +kernel⟩
theorem okLetter {f : Addr} {fd : FuncData} (F : At K mg "is_letter" dLetter ["value", "width"] f fd) (T : Txt K mg) : FnOk P w K mg base CX0 3 f fd ["value", "width"] (spW K isLetter) := by
  obtain ⟨fB, fdB, FB⟩ := T.bit
  have GB : FnOk P w K mg base CX0 2 fB fdB ["value"] (spT K isBit) := okBit FB T
  refine F.fn.ok scLetter (fun vs H Q E h => ?_) (fun cdv A outer s H vs Q E hr h => ?_)
  · obtain ⟨x, d, n, rfl, _⟩ := h
    rfl
  · obtain ⟨x, d, n, rfl, hd, hn, k⟩ := h
    refine ⟨_, pss_one (ps_ret (pe_and (pe_callB call_isi (by rfl) T.isinstance (by decide +kernel) (pa_cons (pv 0) (pa_cons (pTy "tuple" (by rfl) T.tuple (by decide +kernel)) pa_nil)))
      (pe_and (pe_cmpR op_eq (pe_callB call_len_seq (by rfl) T.len PySem.boot_len (pa_cons (pv 0) pa_nil)) (pv 1) (nomark _))
      (pe_one (pe_callB (cr_all rfl) (by rfl) T.all (by decide +kernel) (pa_cons (pe_lc (own := [("bit", 2)]) (g := gName 2) (by rfl) scLetter.nd (pi_tup (pv 0)) (blkOk_by (own := [("bit", 2)]) (N := ["value", "width", "bit"]) (sc := defScope dLetter) (by decide +kernel))
        (fun _ _ _ _ _ => pg_name (i := 2) scLetter.nd rfl (Or.inl rfl)) (fun _ _ _ _ _ => pts_nil) (fun _ _ _ _ _ => pe_call GB hr (by rfl) FB.gl FB.fn.kp FB.bi .nil pass0 (pa_cons (pv 2) pa_nil))) pa_nil)))))), ?_⟩
    refine rd_isi (K := K) (i := 0) (T := "tuple") rfl hd (kit_T d) ⟨_, rfl, ?_⟩
    cases e : isT d with
    | false =>
      have kk := k H (Ex.refl H)
      have e2 : isLetter d n = false := by cases d <;> first | rfl | (simp [isT] at e)
      rw [e2] at kk
      exact iteF kk
    | true =>
      obtain ⟨ds, rfl⟩ : ∃ ds, d = .tuple ds := by cases d <;> first | exact ⟨_, rfl⟩ | (simp [isT] at e)
      refine iteT ?_
      cases hd with
      | dp z =>
        cases z with
        | @tup a xs _ hs ha =>
          have hl := dpAll_len ha
          refine ⟨_, rfl, a, xs, rfl, .inr hs, _, rfl, rfl, _, rfl, ?_⟩
          have e3 : isLetter (.tuple ds) n = (decide (ds.length = n) && ds.all isBit) := rfl
          rw [e3] at k
          by_cases c : ds.length = n
          · have c' : decide ((V.int (xs.length : Int)) = V.int (n : Int)) = true := by
              rw [hl, c]
              exact decide_eq_true rfl
            rw [c']
            refine iteT ?_
            rw [decide_eq_true c] at k
            refine ⟨_, rfl, a, rfl, ⟨_, hs⟩, fun D new => ?_⟩
            refine lc_data (K := K) (ds := ds) walk_tup isBit (by omega) (fun H' e => ex_t e hs) ha (fun x d hx => ?_) (fun i x e => dpAll_at ha e) new (fun H' e q => ?_)
            · intro H1 e1 Q1 q1
              exact rd_t (i := 2) rfl (.dp (dp_ex e1 hx)) q1
            · refine ⟨D, ds.map isBit, rfl, .inl (.inl q), ?_⟩
              have kk := k H' e
              have e5 : (ds.map isBit).all id = ds.all isBit := by rw [List.all_map]; rfl
              rw [e5]
              simpa using kk
          · have c' : decide ((V.int (xs.length : Int)) = V.int (n : Int)) = false := by
              rw [hl]
              refine decide_eq_false fun z => c ?_
              have := V.int.inj z
              omega
            rw [c']
            have kk := k H (Ex.refl H)
            rw [decide_eq_false c] at kk
            exact iteF kk
end
end W

set_option Elab.async false
set_option linter.all false
set_option maxRecDepth 100000
set_option maxHeartbeats 4000000
namespace W
open PySem PySem.Spec PyProof.Rows L2 Evl G
def szD : PyData → Nat
  | .list ds => ds.length
  | .tuple ds => ds.length
  | _ => 0
theorem isWord_no {d : PyData} {n : Nat} (e : isL d = false) (e0 : isT d = false) : isWord d n = false := by
  cases d with
  | list ds => cases e
  | tuple ds => cases e0
  | _ => rfl
def spWs (K : PySem.W.Frag) (g : PyData → Nat → Bool) : Sp := fun vs H Q _ => ∃ (x : V) (d : PyData) (n : Nat), vs = [x, .int (n : Int)] ∧ Dd K H x d ∧ n ≤ 100 ∧ szD d ≤ 1000 ∧ ∀ H', Ex H H' → Q (.bl (g d n)) H'
section
variable {P : Program} {w : World} {K : PySem.W.Frag} {mg : Str → Option Value} {base : Heap}
theorem rd_w {H : Hp} {σ : L2.St} {Q : VK} {g : PyData → Nat → Bool} {x : V} {d : PyData} {n : Nat} {i j : Nat} {E : XK} (hs : σ[i]? = some (some x)) (hj : σ[j]? = some (some (.int (n : Int)))) (hd : Dd K H x d) (hn : n ≤ 100) (h : ∀ H', Ex H H' → Q (.bl (g d n)) H') :
    tCall (spW K g) [] E (tCons (tVar i) (tCons (tVar j) tNil)) σ H Q := ⟨x, hs, .int (n : Int), hj, x, d, n, rfl, hd, hn, h⟩
theorem scWord : FnScope ["value", "width", "letter"] ["value", "width"] (defScope dWord) := ⟨rfl, rfl, rfl, by decide +kernel, rfl, by decide +kernel, by decide +kernel⟩
theorem okWord {f : Addr} {fd : FuncData} (F : At K mg "is_word" dWord ["value", "width"] f fd) (T : Txt K mg) : FnOk P w K mg base CX0 4 f fd ["value", "width"] (spWs K isWord) := by
  obtain ⟨fL, fdL, FL⟩ := T.lst
  obtain ⟨fB, fdB, FB⟩ := T.letter
  have GL : FnOk P w K mg base CX0 1 fL fdL ["value"] (spT K isList) := okList FL T
  have GB : FnOk P w K mg base CX0 3 fB fdB ["value", "width"] (spW K isLetter) := okLetter FB T
  refine F.fn.ok scWord (fun vs H Q E h => ?_) (fun cdv A outer s H vs Q E hr h => ?_)
  · obtain ⟨x, d, n, rfl, _⟩ := h
    rfl
  · obtain ⟨x, d, n, rfl, hd, hn, hz, k⟩ := h
    have hr1 : Room 1 _ := hr.mono (by decide)
    cases e : isL d with
    | true =>
      obtain ⟨ds, rfl⟩ : ∃ ds, d = .list ds := by cases d <;> first | exact ⟨_, rfl⟩ | (simp [isL] at e)
      refine ⟨_, pss_one (ps_ret (pe_and (pe_call GL hr1 (by rfl) FL.gl FL.fn.kp FL.bi .nil pass0 (pa_cons (pv 0) pa_nil))
        (pe_one (pe_callB (cr_all rfl) (by rfl) T.all (by decide +kernel) (pa_cons (pe_lc (own := [("letter", 2)]) (g := gName 2) (by rfl) scWord.nd (pi_list (pv 0)) (blkOk_by (own := [("letter", 2)]) (N := ["value", "width", "letter"]) (sc := defScope dWord) (by decide +kernel))
          (fun _ _ _ _ _ => pg_name (i := 2) scWord.nd rfl (Or.inl rfl)) (fun _ _ _ _ _ => pts_nil) (fun _ _ _ _ _ => pe_call GB hr (by rfl) FB.gl FB.fn.kp FB.bi .nil pass0 (pa_cons (pv 2) (pa_cons (pv 1) pa_nil)))) pa_nil))))), ?_⟩
      refine rd_t rfl hd fun H1 e1 => ⟨true, rfl, iteT ?_⟩
      have hd1 := dd_ex e1 hd
      cases hd1 with
      | dp z =>
        cases z with
        | @lst a xs _ hs ha =>
          have hl := dpAll_len ha
          refine ⟨_, rfl, a, rfl, ⟨_, hs⟩, fun D new => ?_⟩
          refine lc_data (K := K) (ds := ds) walk_list (fun d => isLetter d n) (by have : ds.length ≤ 1000 := hz; omega) (fun H' e => ex_l e hs) ha (fun x d hx => ?_) (fun i x e => dpAll_at ha e) new (fun H' e q => ?_)
          · intro H2 e2 Q1 q1
            exact rd_w (i := 2) (j := 1) rfl rfl (.dp (dp_ex e2 hx)) hn q1
          · refine ⟨D, ds.map (fun d => isLetter d n), rfl, .inl (.inl q), ?_⟩
            have kk := k H' (e1.trans e)
            have e5 : (ds.map (fun d => isLetter d n)).all id = ds.all (fun d => isLetter d n) := by rw [List.all_map]; rfl
            rw [e5]
            exact kk
    | false =>
      refine ⟨_, pss_one (ps_ret (pe_and (pe_call GL hr1 (by rfl) FL.gl FL.fn.kp FL.bi .nil pass0 (pa_cons (pv 0) pa_nil))
        (pe_one (pe_callB (cr_all rfl) (by rfl) T.all (by decide +kernel) (pa_cons (pe_lc (own := [("letter", 2)]) (g := gName 2) (by rfl) scWord.nd (pi_tup (pv 0)) (blkOk_by (own := [("letter", 2)]) (N := ["value", "width", "letter"]) (sc := defScope dWord) (by decide +kernel))
          (fun _ _ _ _ _ => pg_name (i := 2) scWord.nd rfl (Or.inl rfl)) (fun _ _ _ _ _ => pts_nil) (fun _ _ _ _ _ => pe_call GB hr (by rfl) FB.gl FB.fn.kp FB.bi .nil pass0 (pa_cons (pv 2) (pa_cons (pv 1) pa_nil)))) pa_nil))))), ?_⟩
      refine rd_t rfl hd fun H1 e1 => ⟨_, rfl, ?_⟩
      cases e0 : isT d with
      | false =>
        have kk := k H1 e1
        have e2 : isWord d n = false := isWord_no e e0
        have e3 : isList d = false := by unfold isList; rw [e, e0]; rfl
        rw [e2] at kk
        rw [e3]
        exact iteF kk
      | true =>
        obtain ⟨ds, rfl⟩ : ∃ ds, d = .tuple ds := by cases d <;> first | exact ⟨_, rfl⟩ | (simp [isT] at e0)
        refine iteT ?_
        have hd1 := dd_ex e1 hd
        cases hd1 with
        | dp z =>
          cases z with
          | @tup a xs _ hs ha =>
            have hl := dpAll_len ha
            refine ⟨_, rfl, a, rfl, ⟨_, hs⟩, fun D new => ?_⟩
            refine lc_data (K := K) (ds := ds) walk_tup (fun d => isLetter d n) (by have : ds.length ≤ 1000 := hz; omega) (fun H' e => ex_t e hs) ha (fun x d hx => ?_) (fun i x e => dpAll_at ha e) new (fun H' e q => ?_)
            · intro H2 e2 Q1 q1
              exact rd_w (i := 2) (j := 1) rfl rfl (.dp (dp_ex e2 hx)) hn q1
            · refine ⟨D, ds.map (fun d => isLetter d n), rfl, .inl (.inl q), ?_⟩
              have kk := k H' (e1.trans e)
              have e5 : (ds.map (fun d => isLetter d n)).all id = ds.all (fun d => isLetter d n) := by rw [List.all_map]; rfl
              rw [e5]
              exact kk
end
end W

set_option Elab.async false
set_option linter.all false
set_option maxRecDepth 100000
set_option maxHeartbeats 4000000
namespace W
open PySem PySem.Spec PyProof.Rows L2 Evl G
def smalls : List Nat := [97, 98, 99, 100, 101, 102, 103, 104, 105, 106, 107, 108, 109, 110, 111, 112, 113, 114, 115, 116, 117, 118, 119, 120, 121, 122]
def digs : List Nat := [48, 49, 50, 51, 52, 53, 54, 55, 56, 57]
/-- a name, by its signs -/
def nameL (l : List Nat) : Bool := match l with
  | [] => false
  | c :: r => decide (r.length < 12) && smalls.contains c && (c :: r).all fun c => smalls.contains c || digs.contains c
def isName : PyData → Bool
  | .str z => nameL z.cps.toList
  | _ => false
theorem small_in (c : Nat) : decide (c ∈ (("abcdefghijklmnopqrstuvwxyz" : Str)).cps.toList) = smalls.contains c := by
  have e : (("abcdefghijklmnopqrstuvwxyz" : Str)).cps.toList = smalls := by decide +kernel
  rw [e, List.contains_eq_mem]
theorem dig_in (c : Nat) : decide (c ∈ (("0123456789" : Str)).cps.toList) = digs.contains c := by
  have e : (("0123456789" : Str)).cps.toList = digs := by decide +kernel
  rw [e, List.contains_eq_mem]
theorem isName_no {d : PyData} (e : isS d = false) : isName d = false := by
  cases d with
  | str z => cases e
  | _ => rfl
def szS : PyData → Nat
  | .str z => z.length
  | _ => 0
def spTs (K : PySem.W.Frag) (g : PyData → Bool) : Sp := fun vs H Q _ => ∃ x d, vs = [x] ∧ Dd K H x d ∧ szS d ≤ 1000 ∧ ∀ H', Ex H H' → Q (.bl (g d)) H'
section
variable {P : Program} {w : World} {K : PySem.W.Frag} {mg : Str → Option Value} {base : Heap}
theorem scName : FnScope ["value", "sign"] ["value"] (defScope dName) := ⟨rfl, rfl, rfl, by decide +kernel, rfl, by decide +kernel, by decide +kernel⟩
theorem okName {f : Addr} {fd : FuncData} (F : At K mg "is_name" dName ["value"] f fd) (T : Txt K mg) : FnOk P w K mg base CX0 1 f fd ["value"] (spTs K isName) := by
  obtain ⟨t1, m1⟩ := T.small
  obtain ⟨t2, m2⟩ := T.digits
  obtain ⟨t3, m3⟩ := T.longest
  refine F.fn.ok scName (fun vs H Q E h => ?_) (fun cdv A outer s H vs Q E hr h => ?_)
  · obtain ⟨x, d, rfl, _⟩ := h
    rfl
  · obtain ⟨x, d, rfl, hd, hz, k⟩ := h
    refine ⟨_, pss_cons (ps_if (PW.pt (pw_or (pt_not (pt_val (pe_callB call_isi (by rfl) T.isinstance (by decide +kernel) (pa_cons (pv 0) (pa_cons (pTy "str" (by rfl) T.str (by decide +kernel)) pa_nil)))))
        (pw_or1 (pt_not (pt_chain op_le op_le pe_int (pe_callB call_len_str (by rfl) T.len PySem.boot_len (pa_cons (pv 0) pa_nil)) (pGi rfl m3)))))) (pss_one (ps_ret pe_bl)) pss_nil)
      (pss_one (ps_ret (pe_and (pe_cmpR op_in_sign (pe_item_str (pv 0) pe_int (fun _ _ => rfl)) (pGs rfl m1) (by rfl))
        (pe_one (pe_callB (cr_all rfl) (by rfl) T.all (by decide +kernel) (pa_cons (pe_lc (own := [("sign", 1)]) (g := gName 1) (by rfl) scName.nd (pi_str (pv 0)) (blkOk_by (own := [("sign", 1)]) (N := ["value", "sign"]) (sc := defScope dName) (by decide +kernel))
          (fun _ _ _ _ _ => pg_name (i := 1) scName.nd rfl (Or.inl rfl)) (fun _ _ _ _ _ => pts_nil) (fun _ _ _ _ _ => pe_or (pe_cmpR op_in_sign (pv 1) (pGs rfl m1) (by rfl)) (pe_one (pe_cmpR op_in_sign (pv 1) (pGs rfl m2) (by rfl))))) pa_nil)))))), ?_⟩
    refine rd_isi (K := K) (i := 0) (T := "str") rfl hd (kit_S d) ⟨_, rfl, ?_⟩
    cases e : isS d with
    | false =>
      have kk := k H (Ex.refl H)
      have e2 : isName d = false := isName_no e
      rw [e2] at kk
      exact iteT (iteT kk)
    | true =>
      obtain ⟨z, rfl⟩ : ∃ z, d = .str z := by cases d <;> first | exact ⟨_, rfl⟩ | (simp [isS] at e)
      cases hd with
      | dp hp =>
        cases hp
        have hz1 : z.length ≤ 1000 := hz
        have hl : z.length = z.cps.toList.length := by rw [Array.length_toList]; rfl
        refine iteF ⟨_, rfl, z, rfl, Nat.le_trans hz1 (by decide), _, _, rfl, rfl, _, rfl, ?_⟩
        have kn : isName (.str z) = nameL z.cps.toList := rfl
        rw [kn] at k
        cases el : z.cps.toList with
        | nil =>
          rw [el] at k hl
          have c : decide ((1 : Int) ≤ (z.length : Int)) = false := by
            rw [hl]
            rfl
          rw [c]
          exact iteF ⟨_, rfl, iteT (k H (Ex.refl H))⟩
        | cons c r =>
          rw [el] at k hl
          have hl2 : z.length = r.length + 1 := hl
          have c1 : decide ((1 : Int) ≤ (z.length : Int)) = true := decide_eq_true (by omega)
          rw [c1]
          refine iteT ⟨_, _, rfl, rfl, _, rfl, ?_⟩
          have kb : nameL (c :: r) = (decide (r.length < 12) && smalls.contains c && (c :: r).all fun c => smalls.contains c || digs.contains c) := rfl
          rw [kb] at k
          by_cases hlen : r.length < 12
          · have c2 : decide ((z.length : Int) ≤ 12) = true := decide_eq_true (by omega)
            rw [c2]
            refine iteF ?_
            have hc0 : z.cps[0]? = some c := by
              have : z.cps.toList[0]? = some c := by rw [el]; rfl
              simpa using this
            refine ⟨_, rfl, z, 0, c, rfl, rfl, by decide, by decide, by omega, hc0, c, _, rfl, rfl, _, rfl, ?_⟩
            rw [small_in]
            rw [decide_eq_true hlen] at k
            cases es : smalls.contains c with
            | false =>
              rw [es] at k
              exact iteF (k H (Ex.refl H))
            | true =>
              rw [es] at k
              refine iteT ⟨_, rfl, z, rfl, fun D new => ?_⟩
              refine lc_pure (walk_str (z := z)) (fun i => .bl ((fun c => smalls.contains c || digs.contains c) (z.cps.toList.getD i 0))) (by have : z.cps.size = z.length := rfl; omega) (fun _ _ => trivial) (fun i v => ∃ c, z.cps[i]? = some c ∧ v = .str ⟨#[c]⟩) (fun i Ha x Hb _ _ y => ⟨y.1, y.2⟩) (fun i v hi hv => ?_) new (fun H' e q => ?_)
              · obtain ⟨c', e1, rfl⟩ := hv
                have e2 : z.cps.toList.getD i 0 = c' := by
                  rw [List.getD_eq_getElem?_getD]
                  have : z.cps.toList[i]? = some c' := by simpa using e1
                  rw [this]
                  rfl
                rw [e2]
                intro H1 _ Q1 q1
                refine ⟨_, rfl, c', _, rfl, rfl, _, rfl, ?_⟩
                rw [small_in]
                show if (smalls.contains c') = true then _ else _
                have qq := q1 H1 (Ex.refl H1)
                cases e3 : smalls.contains c' with
                | true =>
                  simp only [e3, Bool.true_or] at qq
                  exact iteT qq
                | false =>
                  simp only [e3, Bool.false_or] at qq
                  refine iteF ⟨_, rfl, c', _, rfl, rfl, ?_⟩
                  rw [dig_in]
                  exact qq
              · refine ⟨D, (z.cps.toList.map fun c => smalls.contains c || digs.contains c), rfl, .inl (.inl ?_), ?_⟩
                · rw [q, List.map_map]
                  congr 2
                  have hs : z.cps.size = z.cps.toList.length := by simp
                  rw [hs]
                  exact range_map z.cps.toList _ _ fun i c e => by
                    show V.bl _ = V.bl _
                    rw [List.getD_eq_getElem?_getD, e]
                    rfl
                · have kk := k H' e
                  rw [el, List.all_map]
                  simpa using kk
          · have c2 : decide ((z.length : Int) ≤ 12) = false := decide_eq_false (by omega)
            rw [c2]
            rw [decide_eq_false hlen] at k
            exact iteT (k H (Ex.refl H))
end
end W

set_option Elab.async false
set_option linter.all false
set_option maxRecDepth 100000
set_option maxHeartbeats 4000000
namespace W
open PySem PySem.Spec PyProof.Rows L2 Evl G
/-- what KINDS holds, what MADE holds -/
def kindsL : List (Str × Nat) := [("and", 2), ("high", 0), ("low", 0), ("not", 1), ("or", 2), ("pick", 3), ("xor", 2)]
def madeL : List (Str × List Int) := [("and", [0, 0, 0, 1]), ("high", [1]), ("low", [0]), ("not", [1, 0]), ("or", [0, 1, 1, 1]), ("pick", [0, 1, 0, 1, 0, 0, 1, 1]), ("xor", [0, 1, 1, 0])]
/-- the rows of a written dict with text keys, by what V tells of each value -/
inductive KEs {α : Type} (R : α → Value → Prop) : List DictEntry → List (Str × α) → Prop
  | nil : KEs R [] []
  | cons {e : DictEntry} {x : Str} {a : α} {r : List DictEntry} {l : List (Str × α)} (k : ∃ t, e.key = .str x t) (h : R a e.val) (q : KEs R r l) : KEs R (e :: r) ((x, a) :: l)
theorem KEs.some {α : Type} {R : α → Value → Prop} {es : List DictEntry} {l : List (Str × α)} (h : KEs R es l) : ∀ {z : Str} {a : α}, l.lookup z = some a → ∃ e, es.find? (·.key.isStr z) = some e ∧ R a e.val := by
  induction h with
  | nil => intro z a e; cases e
  | @cons e x b r l k h q ih =>
    intro z a f
    obtain ⟨t, hk⟩ := k
    by_cases hz : z = x
    · subst hz
      rw [List.lookup_cons_self] at f
      cases f
      refine ⟨e, ?_, h⟩
      rw [List.find?_cons_of_pos]
      rw [hk]
      simp [Value.isStr]
    · have hb : (z == x) = false := by simpa using hz
      simp only [List.lookup_cons, hb] at f
      obtain ⟨e', h1, h2⟩ := ih f
      refine ⟨e', ?_, h2⟩
      rw [List.find?_cons_of_neg]
      · exact h1
      · rw [hk]
        simpa [Value.isStr] using fun q => hz q.symm
theorem KEs.none {α : Type} {R : α → Value → Prop} {es : List DictEntry} {l : List (Str × α)} (h : KEs R es l) : ∀ {z : Str}, l.lookup z = none → es.find? (·.key.isStr z) = none ∧ es.any (·.refKey) = false := by
  induction h with
  | nil => intro z _; exact ⟨rfl, rfl⟩
  | @cons e x b r l k h q ih =>
    intro z f
    obtain ⟨t, hk⟩ := k
    by_cases hz : z = x
    · subst hz
      rw [List.lookup_cons_self] at f
      cases f
    · have hb : (z == x) = false := by simpa using hz
      simp only [List.lookup_cons, hb] at f
      obtain ⟨h1, h2⟩ := ih f
      constructor
      · rw [List.find?_cons_of_neg]
        · exact h1
        · rw [hk]
          simpa [Value.isStr] using fun q => hz q.symm
      · rw [List.any_cons, h2]
        unfold DictEntry.refKey
        rw [hk]
        rfl
/-- a written dict of the top with text keys -/
structure KD {α : Type} (K : PySem.W.Frag) (w : World) (mg : Str → Option Value) (R : α → Value → Prop) (x : Str) (l : List (Str × α)) (d : Addr) (es : Array DictEntry) (n : Nat) : Prop where
  gl : mg x = some (.ref d)
  dict : KDict K w d es n
  rows : KEs R es.toList l
def isInt (i : Nat) (u : Value) : Prop := ∃ t, u = .int (i : Int) t
def isBits (K : PySem.W.Frag) (bs : List Int) (u : Value) : Prop := ∃ a, u = .ref a ∧ ∀ H, SqT K H a (bs.map V.int)
structure DicT (K : PySem.W.Frag) (w : World) (mg : Str → Option Value) : Prop where
  kinds : ∃ d es n, KD K w mg isInt "KINDS" kindsL d es n
  made : ∃ d es n, KD K w mg (isBits K) "MADE" madeL d es n
section
variable {P : Program} {w : World} {K : PySem.W.Frag} {mg : Str → Option Value} {base : Heap}
theorem KD.hit {α : Type} {R : α → Value → Prop} {x : Str} {l : List (Str × α)} {d : Addr} {es : Array DictEntry} {n : Nat} (D : KD K w mg R x l d es n) {z : Str} {a : α} (h : l.lookup z = some a) : ∃ u, PySem.W.nsIn K d z = some (some u) ∧ R a u := by
  obtain ⟨e, h1, h2⟩ := D.rows.some h
  refine ⟨e.val, ?_, h2⟩
  unfold PySem.W.nsIn
  rw [D.dict.at_]
  dsimp only
  rw [h1]
theorem KD.miss {α : Type} {R : α → Value → Prop} {x : Str} {l : List (Str × α)} {d : Addr} {es : Array DictEntry} {n : Nat} (D : KD K w mg R x l d es n) {z : Str} (h : l.lookup z = none) : PySem.W.nsIn K d z = some none := by
  obtain ⟨h1, h2⟩ := D.rows.none h
  unfold PySem.W.nsIn
  rw [D.dict.at_]
  dsimp only
  rw [h1]
  dsimp only
  rw [h2]
  rfl
def isKind : PyData → Bool | .str z => (kindsL.lookup z).isSome | _ => false
theorem scKind : FnScope ["value"] ["value"] (defScope dKind) := ⟨rfl, rfl, rfl, by decide +kernel, rfl, by decide +kernel, by decide +kernel⟩
theorem okKind {f : Addr} {fd : FuncData} (F : At K mg "is_kind" dKind ["value"] f fd) (T : Txt K mg) (DT : DicT K w mg) : FnOk P w K mg base CX0 1 f fd ["value"] (spT K isKind) := by
  obtain ⟨dk, es, n, D⟩ := DT.kinds
  refine F.fn.ok scKind (fun vs H Q E h => ?_) (fun cdv A outer s H vs Q E hr h => ?_)
  · obtain ⟨x, d, rfl, _⟩ := h
    rfl
  · obtain ⟨x, d, rfl, hd, k⟩ := h
    refine ⟨_, pss_one (ps_ret (pe_and (pe_callB call_isi (by rfl) T.isinstance (by decide +kernel) (pa_cons (pv 0) (pa_cons (pTy "str" (by rfl) T.str (by decide +kernel)) pa_nil)))
      (pe_one (pe_cmpR (op_in_kd D.dict) (pv 0) (pe_glob (v := .ref dk) (by rfl) D.gl rfl) (by rfl))))), ?_⟩
    refine rd_isi rfl hd (kit_S d) ⟨_, rfl, ?_⟩
    have kk := k H (Ex.refl H)
    cases e : isS d with
    | false =>
      have e2 : isKind d = false := by cases d <;> first | rfl | (simp [isS] at e)
      rw [e2] at kk
      exact iteF kk
    | true =>
      obtain ⟨z, rfl⟩ : ∃ z, d = .str z := by cases d <;> first | exact ⟨_, rfl⟩ | (simp [isS] at e)
      have hx : x = .str z := by
        cases hd with
        | dp q => cases q; rfl
      subst hx
      refine iteT ⟨_, rfl, ?_⟩
      cases q : kindsL.lookup z with
      | none =>
        have e2 : isKind (.str z) = false := by show (kindsL.lookup z).isSome = false; rw [q]; rfl
        rw [e2] at kk
        exact ⟨z, none, rfl, rfl, D.miss q, kk⟩
      | some i =>
        have e2 : isKind (.str z) = true := by show (kindsL.lookup z).isSome = true; rw [q]; rfl
        rw [e2] at kk
        obtain ⟨u, h1, _⟩ := D.hit q
        exact ⟨z, some u, rfl, rfl, h1, kk⟩
end
end W

set_option Elab.async false
set_option linter.all false
set_option maxRecDepth 100000
set_option maxHeartbeats 4000000
namespace W
open PySem PySem.Spec PyProof.Rows L2 Evl G
theorem take_more {α : Type} {l : List α} {i : Nat} {x : α} (h : l[i]? = some x) : l.take (i + 1) = l.take i ++ [x] := by
  rw [List.take_succ, h]
  rfl
def num : List Int → Int := List.foldl (fun a b => 2 * a + b) 0
theorem num_snoc (r : List Int) (b : Int) : num (r ++ [b]) = 2 * num r + b := by
  unfold num
  rw [List.foldl_append]
  rfl
theorem ints_back {K : PySem.W.Frag} {H : Hp} : ∀ {ys : List Int} {xs : List V}, DpAll K H xs (ys.map .int) → xs = ys.map V.int
  | [], _, h => by cases h; rfl
  | _ :: _, _, h => by
    cases h with
    | cons a b =>
      cases a
      rw [ints_back b]
      rfl
def spNumberOf (K : PySem.W.Frag) : Sp := fun vs H Q _ => ∃ (y : V) (ys : List Int), vs = [y] ∧ (Dp K H y (.list (ys.map .int)) ∨ Dp K H y (.tuple (ys.map .int))) ∧ Q (.int (num ys)) H
def spBitOf (K : PySem.W.Frag) : Sp := fun vs H Q _ => ∃ (z : Str) (y : V) (ys bs : List Int) (v : V), vs = [.str z, y] ∧ madeL.lookup z = some bs ∧ (Dp K H y (.list (ys.map .int)) ∨ Dp K H y (.tuple (ys.map .int))) ∧ atI (bs.map V.int) (num ys) = some v ∧ Q v H
section
variable {P : Program} {w : World} {K : PySem.W.Frag} {mg : Str → Option Value} {base : Heap}
theorem scNumberOf : FnScope ["bits", "at", "bit"] ["bits"] (defScope dNumberOf) := ⟨rfl, rfl, rfl, by decide +kernel, rfl, by decide +kernel, by decide +kernel⟩
theorem okNumberOf {f : Addr} {fd : FuncData} (F : At K mg "number_of" dNumberOf ["bits"] f fd) : FnOk P w K mg base CX0 1 f fd ["bits"] (spNumberOf K) := by
  refine F.fn.ok scNumberOf (fun vs H Q E h => ?_) (fun cdv A outer s H vs Q E hr h => ?_)
  · obtain ⟨y, ys, rfl, _⟩ := h
    rfl
  · obtain ⟨y, ys, rfl, hy, k⟩ := h
    have turn : ∀ (i : Nat) (x : V), (ys.map V.int)[i]? = some x → ∃ c, x = .int c ∧ ys.take (i + 1) = ys.take i ++ [c] ∧ (ys.take (i + 1)).getLast? = some c := fun i x e => by
      rw [List.getElem?_map] at e
      cases q : ys[i]? with
      | none => rw [q] at e; cases e
      | some c =>
        rw [q] at e
        exact ⟨c, (Option.some.inj e).symm, take_more q, by rw [take_more q]; simp⟩
    rcases hy with hy | hy
    · cases hy with
      | @lst a xs _ hs ha =>
        have e := ints_back ha
        subst e
        refine ⟨_, pss_cons (ps_set (i := 1) scNumberOf.nd rfl (Or.inl rfl) pe_int)
          (pss_cons (ps_for PassesOwn.never rfl (pi_list (pv 0)) (pg_name (i := 2) scNumberOf.nd rfl (Or.inl rfl))
            (pss_one (ps_set (i := 1) scNumberOf.nd rfl (Or.inl rfl) (pe_op op_add (pe_op op_mul pe_int (pv 1)) (pv 2)))))
          (pss_one (ps_ret (pv 1)))), ?_⟩
        refine ⟨_, rfl, a, rfl, ⟨_, hs⟩, for_list (K := K) (a := a) (xs := ys.map V.int) (fun i σ Hc => Hc = H ∧ σ = [some (.ref a), some (.int (num (ys.take i))), (ys.take i).getLast?.map V.int])
          ⟨rfl, rfl⟩ (fun i σ Hc _ inv => by rw [inv.1]; exact hs) (fun i x σ Hc hi inv => ?_) (fun σ Hc inv => ?_)⟩
        · obtain ⟨rfl, rfl⟩ := inv
          obtain ⟨c, rfl, h1, h2⟩ := turn i x hi
          refine ⟨_, rfl, 2, num (ys.take i), rfl, rfl, .inl ⟨by decide, by decide⟩, _, rfl, _, c, rfl, rfl, rfl, ?_⟩
          rw [h2, h1, num_snoc]
          rfl
        · obtain ⟨rfl, rfl⟩ := inv
          rw [List.length_map, List.take_length]
          exact ⟨_, rfl, k⟩
    · cases hy with
      | @tup a xs _ hs ha =>
        have e := ints_back ha
        subst e
        refine ⟨_, pss_cons (ps_set (i := 1) scNumberOf.nd rfl (Or.inl rfl) pe_int)
          (pss_cons (ps_for PassesOwn.never rfl (pi_tup (pv 0)) (pg_name (i := 2) scNumberOf.nd rfl (Or.inl rfl))
            (pss_one (ps_set (i := 1) scNumberOf.nd rfl (Or.inl rfl) (pe_op op_add (pe_op op_mul pe_int (pv 1)) (pv 2)))))
          (pss_one (ps_ret (pv 1)))), ?_⟩
        refine ⟨_, rfl, a, rfl, ⟨_, hs⟩, for_tup (K := K) (a := a) (xs := ys.map V.int) (fun i σ Hc => Hc = H ∧ σ = [some (.ref a), some (.int (num (ys.take i))), (ys.take i).getLast?.map V.int])
          ⟨rfl, rfl⟩ (fun i σ Hc _ inv => by rw [inv.1]; exact hs) (fun i x σ Hc hi inv => ?_) (fun σ Hc inv => ?_)⟩
        · obtain ⟨rfl, rfl⟩ := inv
          obtain ⟨c, rfl, h1, h2⟩ := turn i x hi
          refine ⟨_, rfl, 2, num (ys.take i), rfl, rfl, .inl ⟨by decide, by decide⟩, _, rfl, _, c, rfl, rfl, rfl, ?_⟩
          rw [h2, h1, num_snoc]
          rfl
        · obtain ⟨rfl, rfl⟩ := inv
          rw [List.length_map, List.take_length]
          exact ⟨_, rfl, k⟩
theorem scBitOf : FnScope ["kind", "bits"] ["kind", "bits"] (defScope dBitOf) := ⟨rfl, rfl, rfl, by decide +kernel, rfl, by decide +kernel, by decide +kernel⟩
theorem okBitOf {f : Addr} {fd : FuncData} (F : At K mg "bit_of" dBitOf ["kind", "bits"] f fd) (T : Txt K mg) (DT : DicT K w mg) : FnOk P w K mg base CX0 2 f fd ["kind", "bits"] (spBitOf K) := by
  obtain ⟨dm, es, n, D⟩ := DT.made
  obtain ⟨fN, gN, FN⟩ := T.numberOf
  have GN : FnOk P w K mg base CX0 1 fN gN ["bits"] (spNumberOf K) := okNumberOf FN
  refine F.fn.ok scBitOf (fun vs H Q E h => ?_) (fun cdv A outer s H vs Q E hr h => ?_)
  · obtain ⟨z, y, ys, bs, v, rfl, _⟩ := h
    rfl
  · obtain ⟨z, y, ys, bs, v, rfl, hz, hy, hv, k⟩ := h
    obtain ⟨u, hu, b, rfl, hb⟩ := D.hit hz
    refine ⟨_, pss_one (ps_ret (pe_ix ix_tup (pe_ix ix_kdict (pe_glob (v := .ref dm) (by rfl) D.gl rfl) (pv 0) (fun _ _ => rfl)) (pe_call GN hr (by rfl) FN.gl FN.fn.kp FN.bi .nil pass0 (pa_cons (pv 1) pa_nil)) (fun _ _ => rfl))), ?_⟩
    exact ⟨_, rfl, dm, z, .ref b, rfl, rfl, ⟨es, n, .ref b, D.dict.at_, D.dict.lit, hu, rfl⟩, y, rfl, y, ys, rfl, hy, b, _, num ys, v, rfl, rfl, hb H, hv, k⟩
end
end W

set_option Elab.async false
set_option linter.all false
set_option maxRecDepth 100000
set_option maxHeartbeats 4000000
namespace W
open PySem PySem.Spec PyProof.Rows L2 Evl G C
/-! ### parts of circuits as data -/
abbrev Gt := Str × Str × List Str
abbrev Rg := Str × Int × Str
def txtD (zs : List Str) : List PyData := zs.map .str
def gateD (g : Gt) : PyData := .tuple [.str g.1, .str g.2.1, .list (txtD g.2.2)]
def gateU (g : Gt) : PyData := .tuple [.str g.1, .str g.2.1, .tuple (txtD g.2.2)]
def regD (r : Rg) : PyData := .tuple [.str r.1, .int r.2.1, .str r.2.2]
def nameOk (z : Str) : Prop := nameL z.cps.toList = true
theorem nameOk.short {z : Str} (h : nameOk z) : z.length ≤ 12 := by
  have e : z.length = z.cps.toList.length := by rw [Array.length_toList]; rfl
  unfold nameOk nameL at h
  rw [e]
  cases q : z.cps.toList with
  | nil => simp
  | cons c r =>
    rw [q] at h
    simp only [Bool.and_eq_true, decide_eq_true_eq] at h
    simp only [List.length_cons]
    omega
theorem nameOk.isN {z : Str} (h : nameOk z) : isName (.str z) = true := h
theorem nameOk.szS {z : Str} (h : nameOk z) : szS (.str z) ≤ 1000 := Nat.le_trans h.short (by decide)
section
variable {K : PySem.W.Frag} {H : Hp}
theorem dp_txts : ∀ {zs : List Str}, DpAll K H (zs.map V.str) (txtD zs)
  | [] => .nil
  | _ :: _ => .cons (.str _) dp_txts
theorem txts_dp : ∀ {zs : List Str} {xs : List V}, DpAll K H xs (txtD zs) → xs = zs.map V.str
  | [], _, h => by cases h; rfl
  | _ :: _, _, h => by
    cases h with
    | cons a b =>
      cases a
      rw [txts_dp b]
      rfl
theorem txl_of {v : V} {zs : List Str} (h : Dp K H v (.list (txtD zs))) : ∃ l, v = .ref l ∧ SqL K H l (zs.map V.str) := by
  cases h with
  | @lst a xs _ hs ha =>
    rw [txts_dp ha] at hs
    exact ⟨a, rfl, hs⟩
theorem txt_of {v : V} {zs : List Str} (h : Dp K H v (.tuple (txtD zs))) : ∃ l, v = .ref l ∧ SqT K H l (zs.map V.str) := by
  cases h with
  | @tup a xs _ hs ha =>
    rw [txts_dp ha] at hs
    exact ⟨a, rfl, hs⟩
theorem dp_txl {l : Addr} {zs : List Str} (h : SqL K H l (zs.map V.str)) : Dp K H (.ref l) (.list (txtD zs)) := .lst h dp_txts
theorem dp_txt {l : Addr} {zs : List Str} (h : SqT K H l (zs.map V.str)) : Dp K H (.ref l) (.tuple (txtD zs)) := .tup h dp_txts
theorem gate_of {v : V} {g : Gt} (h : Dp K H v (gateD g)) : ∃ t l, v = .ref t ∧ SqT K H t [.str g.1, .str g.2.1, .ref l] ∧ SqL K H l (g.2.2.map V.str) := by
  cases h with
  | @tup a xs _ hs ha =>
    cases ha with
    | cons a1 r1 =>
      cases r1 with
      | cons a2 r2 =>
        cases r2 with
        | cons a3 r3 =>
          cases r3
          cases a1
          cases a2
          obtain ⟨l, rfl, hl⟩ := txl_of a3
          exact ⟨a, l, rfl, hs, hl⟩
theorem reg_of {v : V} {r : Rg} (h : Dp K H v (regD r)) : ∃ t, v = .ref t ∧ SqT K H t [.str r.1, .int r.2.1, .str r.2.2] := by
  cases h with
  | @tup a xs _ hs ha =>
    cases ha with
    | cons a1 r1 =>
      cases r1 with
      | cons a2 r2 =>
        cases r2 with
        | cons a3 r3 =>
          cases r3
          cases a1
          cases a2
          cases a3
          exact ⟨a, rfl, hs⟩
/-- the i-th of a list of data -/
theorem dp_nth {α : Type} {f : α → PyData} : ∀ {gs : List α} {xs : List V} {i : Nat} {x : V}, DpAll K H xs (gs.map f) → xs[i]? = some x → ∃ g, gs[i]? = some g ∧ Dp K H x (f g)
  | [], _, i, x, h, e => by cases h; simp at e
  | g :: gs, _, 0, x, h, e => by
    cases h with
    | cons a b =>
      simp at e
      subst e
      exact ⟨g, rfl, a⟩
  | g :: gs, _, i + 1, x, h, e => by
    cases h with
    | cons a b =>
      obtain ⟨g', e1, e2⟩ := dp_nth (i := i) (x := x) b (by simpa using e)
      exact ⟨g', by simpa using e1, e2⟩
theorem dp_len {α : Type} {f : α → PyData} {gs : List α} {xs : List V} (h : DpAll K H xs (gs.map f)) : xs.length = gs.length := by
  rw [dpAll_len h, List.length_map]
end
/-! ### dicts from names -/
def kTrue (zs : List Str) : List (Key × V) := zs.map fun z => (Sum.inr z, .bl true)
theorem valV_map {α : Type} (f : α → Key) (g : α → V) : ∀ (l : List α) (k : Key), valV (l.map fun a => (f a, g a)) k = none ↔ ∀ a ∈ l, f a ≠ k
  | [], k => by simp [valV_nil]
  | a :: l, k => by
    have ih := valV_map f g l k
    by_cases e : f a = k
    · rw [List.map_cons, valV_pos e]
      simp [e]
    · have h1 : valV ((a :: l).map fun a => (f a, g a)) k = valV (l.map fun a => (f a, g a)) k := by
        unfold valV
        rw [List.map_cons, List.find?_cons_of_neg]
        simpa using e
      rw [h1, ih]
      simp [e]
theorem valV_hit {α : Type} (f : α → Key) (g : α → V) : ∀ (l : List α) (a : α), a ∈ l → (∀ b ∈ l, f b = f a → b = a) → valV (l.map fun a => (f a, g a)) (f a) = some (g a)
  | [], a, h, _ => by cases h
  | b :: l, a, h, u => by
    by_cases e : f b = f a
    · have := u b List.mem_cons_self e
      subst this
      rw [List.map_cons, valV_pos rfl]
    · have h1 : valV ((b :: l).map fun a => (f a, g a)) (f a) = valV (l.map fun a => (f a, g a)) (f a) := by
        unfold valV
        rw [List.map_cons, List.find?_cons_of_neg]
        simpa using e
      rw [h1]
      rcases List.mem_cons.mp h with h | h
      · subst h
        exact absurd rfl e
      · exact valV_hit f g l a h fun c hc => u c (List.mem_cons_of_mem _ hc)
theorem putK_new {kvs : List (Key × V)} {k : Key} {v : V} (h : valV kvs k = none) : putK kvs k v = kvs ++ [(k, v)] := by
  unfold putK
  rw [if_neg]
  intro c
  obtain ⟨q, hq, e⟩ := List.any_eq_true.mp c
  unfold valV at h
  rw [Option.map_eq_none_iff, List.find?_eq_none] at h
  exact h q hq e
theorem kTrue_none {zs : List Str} {z : Str} (h : z ∉ zs) : valV (kTrue zs) (Sum.inr z) = none := (valV_map _ _ _ _).mpr fun a ha e => h (by cases e; exact ha)
theorem kTrue_put {zs : List Str} {z : Str} (h : z ∉ zs) : putK (kTrue zs) (Sum.inr z) (.bl true) = kTrue (zs ++ [z]) := by
  rw [putK_new (kTrue_none h)]
  simp [kTrue]
theorem not_in_take {α : Type} {l : List α} {i : Nat} {x : α} (nd : l.Nodup) (h : l[i]? = some x) : x ∉ l.take i := by
  intro m
  obtain ⟨j, hj⟩ := List.mem_iff_getElem?.mp m
  rw [List.getElem?_take] at hj
  split at hj
  · next lt =>
    have h1 : i < l.length := (List.getElem?_eq_some_iff.mp h).1
    have := (List.getElem?_inj (by omega) nd).mp (hj.trans h.symm)
    omega
  · cases hj
section
variable {P : Program} {w : World} {K : PySem.W.Frag} {mg : Str → Option Value} {base : Heap}
theorem rd_ts {σ : L2.St} {H : Hp} {Q : VK} {g : PyData → Bool} {x : V} {d : PyData} {i : Nat} {E : XK} (hs : σ[i]? = some (some x)) (hd : Dd K H x d) (hz : szS d ≤ 1000) (h : ∀ H', Ex H H' → Q (.bl (g d)) H') : tCall (spTs K g) [] E (tCons (tVar i) tNil) σ H Q := ⟨x, hs, x, d, rfl, hd, hz, h⟩
/-! ### check_inputs -/
def spCInputs (K : PySem.W.Frag) : Sp := fun vs H Q _ => ∃ (x : V) (zs : List Str), vs = [x] ∧ Dp K H x (.list (txtD zs)) ∧ zs.Nodup ∧ (∀ z ∈ zs, nameOk z) ∧ zs.length ≤ 1000 ∧ ∀ H', Ex H H' → Q .non H'
theorem scCInputs : FnScope ["inputs", "met", "at", "name"] ["inputs"] (defScope dCInputs) := ⟨rfl, rfl, rfl, by decide +kernel, rfl, by decide +kernel, by decide +kernel⟩
theorem okCInputs {f : Addr} {fd : FuncData} (F : At K mg "check_inputs" dCInputs ["inputs"] f fd) (T : Txt K mg) : FnOk P w K mg base CX0 2 f fd ["inputs"] (spCInputs K) := by
  obtain ⟨fL, fdL, FL⟩ := T.lst
  obtain ⟨fN, fdN, FN⟩ := T.name
  have GL : FnOk P w K mg base CX0 1 fL fdL ["value"] (spT K isList) := okList FL T
  have GN : FnOk P w K mg base CX0 1 fN fdN ["value"] (spTs K isName) := okName FN T
  refine F.fn.ok scCInputs (fun vs H Q E h => ?_) (fun cdv A outer s H vs Q E hr h => ?_)
  · obtain ⟨x, zs, rfl, _⟩ := h
    rfl
  · obtain ⟨x, zs, rfl, hd, nd, ok, hz, k⟩ := h
    have hu := hu_of hr
    refine ⟨_, pss_cons (ps_if (pt_not (pt_val (pe_call GL hr (by rfl) FL.gl FL.fn.kp FL.bi .nil pass0 (pa_cons (pv 0) pa_nil)))) (pss_one ps_never) pss_nil)
      (pss_cons (ps_set (i := 1) scCInputs.nd rfl (Or.inl rfl) pe_dnewK)
      (pss_one (ps_for PassesOwn.never rfl (pi_enum (by rfl) T.enumerate (pa_cons (pv 0) pa_nil)) (pg_tup rfl (pgs_cons (pg_name (i := 2) scCInputs.nd rfl (Or.inl rfl)) (pgs_cons (pg_name (i := 3) scCInputs.nd rfl (Or.inl rfl)) pgs_nil)))
        (pss_cons (ps_if (PW.pt (pw_or (pt_not (pt_val (pe_call GN hr (by rfl) FN.gl FN.fn.kp FN.bi .nil pass0 (pa_cons (pv 3) pa_nil)))) (pw_or1 (pt_cmp (pc_din hu (pv 3) (pv 1)))))) (pss_one ps_never) pss_nil)
          (pss_one (ps_dput hu (pv 1) (pv 3) pe_bl rfl)))))), ?_⟩
    refine rd_t (i := 0) rfl (.dp hd) fun H1 e1 => ⟨_, rfl, iteF ?_⟩
    intro D nD
    obtain ⟨a, rfl, hs⟩ := txl_of hd
    have x0 : Ex H (upd H1 D (.dK [])) := e1.trans (Ex.new nD)
    have hD0 : H D = none := by
      cases q : H D with
      | none => rfl
      | some o => rw [e1 _ _ q] at nD; cases nD
    refine ⟨_, rfl, a, zs.map V.str, rfl, ex_l x0 hs, for_it walk_enum (fun i σ Hc => (∃ u v, σ = [some (.ref a), some (.ref D), u, v]) ∧ Ex H Hc ∧ Hc D = some (.dK (kTrue (zs.take i))))
      ⟨⟨_, _, rfl⟩, x0, upd_same⟩ (fun i σ Hc _ p => ex_l p.2.1 hs) (fun i x σ Ha Hb hi p y => ?_) (fun σ Hc p => k Hc p.2.1)⟩
    obtain ⟨⟨u, v, rfl⟩, eA, hD⟩ := p
    obtain ⟨t, y1, y2, rfl, nt, rfl, z1, z2⟩ := y
    cases z1
    have z2 : (zs.map V.str)[i]? = some _ := z2
    rw [List.getElem?_map] at z2
    cases ez : zs[i]? with
    | none => rw [ez] at z2; cases z2
    | some z =>
      rw [ez] at z2
      cases z2
      have zin : z ∈ zs := List.mem_of_getElem? ez
      have znot := not_in_take nd ez
      have eB : Ex Ha (upd Ha t (.tup [.int (i : Nat), .str z])) := Ex.new nt
      refine ⟨t, _, rfl, st_of upd_same, rfl, _, _, rfl, _, _, rfl, rfl, ?_⟩
      have hDb : (upd Ha t (.tup [.int (i : Nat), .str z])) D = some (.dK (kTrue (zs.take i))) := eB _ _ hD
      show tSeq _ _ _ [some (.ref a), some (.ref D), some (.int (i : Nat)), some (.str z)] _
      refine rd_ts (i := 3) rfl (.dp (.str z)) (ok z zin).szS fun H2 e2 => ⟨_, rfl, ?_⟩
      rw [show isName (.str z) = true from ok z zin]
      refine iteF ?_
      refine ⟨_, rfl, _, rfl, D, none, rfl, ?_, _, rfl, iteF ?_⟩
      · have g := DGet.k (k := Sum.inr z) (e2 _ _ hDb)
        rw [kTrue_none znot] at g
        exact g
      · refine ⟨_, rfl, _, rfl, D, _, rfl, DPut.k (k := Sum.inr z) (e2 _ _ hDb) ?_, ⟨_, _, rfl⟩, ?_, ?_⟩
        · simp only [kTrue, List.length_map, List.length_take]
          exact Nat.lt_of_le_of_lt (Nat.le_trans (Nat.min_le_right _ _) hz) (by decide)
        · exact (eA.trans (eB.trans e2)).mut hD0
        · rw [upd_same, kTrue_put znot, ← take_more ez]
end
end W

set_option Elab.async false
set_option linter.all false
set_option maxRecDepth 100000
set_option maxHeartbeats 4000000
namespace W
open PySem PySem.Spec PyProof.Rows L2 Evl G C
def gateOk (g : Gt) : Prop := nameOk g.1 ∧ kindsL.lookup g.2.1 = some g.2.2.length ∧ ∀ z ∈ g.2.2, nameOk z
def regOk (r : Rg) : Prop := nameOk r.1 ∧ (r.2.1 = 0 ∨ r.2.1 = 1) ∧ nameOk r.2.2
theorem kinds_few {k : Str} {n : Nat} (h : kindsL.lookup k = some n) : n ≤ 3 := by
  unfold kindsL at h
  simp only [List.lookup] at h
  repeat' split at h
  all_goals first | (cases h; decide) | cases h
theorem keys_nodup {α : Type} {f : α → Str} {l : List α} (h : (l.map f).Nodup) : (l.map fun a => (Sum.inr (f a) : Key)).Nodup := by
  unfold List.Nodup at h ⊢
  rw [List.pairwise_map] at h ⊢
  exact h.imp fun ne e => ne (Sum.inr.inj e)
theorem ex_none {H H' : Hp} {D : Addr} (e : Ex H H') (h : H' D = none) : H D = none := by
  cases q : H D with
  | none => rfl
  | some o =>
    rw [e _ _ q] at h
    cases h
section
variable {P : Program} {w : World} {K : PySem.W.Frag} {mg : Str → Option Value} {base : Heap}
/-! ### is_gate, is_register -/
def spIsGate (K : PySem.W.Frag) : Sp := fun vs H Q _ => ∃ (x : V) (g : Gt), vs = [x] ∧ Dp K H x (gateD g) ∧ gateOk g ∧ ∀ H', Ex H H' → Q (.bl true) H'
abbrev nIsGate : List Str := ["value", "name", "kind", "sources", "source"]
theorem scIsGate : FnScope nIsGate ["value"] (defScope dIsGate) := ⟨rfl, rfl, rfl, by decide +kernel, rfl, by decide +kernel, by decide +kernel⟩
theorem okIsGate {f : Addr} {fd : FuncData} (F : At K mg "is_gate" dIsGate ["value"] f fd) (T : Txt K mg) (DT : DicT K w mg) : FnOk P w K mg base CX0 2 f fd ["value"] (spIsGate K) := by
  obtain ⟨fL, fdL, FL⟩ := T.lst
  obtain ⟨fN, fdN, FN⟩ := T.name
  obtain ⟨fK, fdK, FK⟩ := T.kind
  obtain ⟨dk, es, n, D⟩ := DT.kinds
  have GL : FnOk P w K mg base CX0 1 fL fdL ["value"] (spT K isList) := okList FL T
  have GN : FnOk P w K mg base CX0 1 fN fdN ["value"] (spTs K isName) := okName FN T
  have GK : FnOk P w K mg base CX0 1 fK fdK ["value"] (spT K isKind) := okKind FK T DT
  refine F.fn.ok scIsGate (fun vs H Q E h => ?_) (fun cdv A outer s H vs Q E hr h => ?_)
  · obtain ⟨x, g, rfl, _⟩ := h
    rfl
  · obtain ⟨x, g, rfl, hd, ⟨o1, o2, o3⟩, k⟩ := h
    refine ⟨_, pss_cons (ps_if (PW.pt (pw_or (pt_not (pt_val (pe_callB call_isi (by rfl) T.isinstance (by decide +kernel) (pa_cons (pv 0) (pa_cons (pTy "tuple" (by rfl) T.tuple (by decide +kernel)) pa_nil)))))
        (pw_or1 (pt_cmpR op_ne (pe_callB call_len_seq (by rfl) T.len PySem.boot_len (pa_cons (pv 0) pa_nil)) pe_int (nomark _))))) (pss_one (ps_ret pe_bl)) pss_nil)
      (pss_cons (ps_asg (pv 0) (pg_tup rfl (pgs_cons (pg_name (i := 1) scIsGate.nd rfl (Or.inl rfl)) (pgs_cons (pg_name (i := 2) scIsGate.nd rfl (Or.inl rfl)) (pgs_cons (pg_name (i := 3) scIsGate.nd rfl (Or.inl rfl)) pgs_nil)))))
      (pss_cons (ps_if (PW.pt (pw_or (pt_not (pt_val (pe_call GN hr (by rfl) FN.gl FN.fn.kp FN.bi .nil pass0 (pa_cons (pv 1) pa_nil)))) (pw_or (pt_not (pt_val (pe_call GK hr (by rfl) FK.gl FK.fn.kp FK.bi .nil pass0 (pa_cons (pv 2) pa_nil))))
          (pw_or1 (pt_not (pt_val (pe_call GL hr (by rfl) FL.gl FL.fn.kp FL.bi .nil pass0 (pa_cons (pv 3) pa_nil)))))))) (pss_one (ps_ret pe_bl)) pss_nil)
      (pss_one (ps_ret (pe_and (pe_cmpR op_eq (pe_callB call_len_seq (by rfl) T.len PySem.boot_len (pa_cons (pv 3) pa_nil)) (pe_ix ix_kdict (pe_glob (v := .ref dk) (by rfl) D.gl rfl) (pv 2) (fun _ _ => rfl)) (nomark _))
        (pe_one (pe_callB (cr_all rfl) (by rfl) T.all (by decide +kernel) (pa_cons (pe_lc (own := [("source", 4)]) (g := gName 4) (by rfl) scIsGate.nd (pi_list (pv 3)) (blkOk_by (own := [("source", 4)]) (N := nIsGate) (sc := defScope dIsGate) (by decide +kernel))
          (fun _ _ _ _ _ => pg_name (i := 4) scIsGate.nd rfl (Or.inl rfl)) (fun _ _ _ _ _ => pts_nil) (fun _ _ _ _ _ => pe_call GN hr (by rfl) FN.gl FN.fn.kp FN.bi .nil pass0 (pa_cons (pv 4) pa_nil))) pa_nil)))))))), ?_⟩
    obtain ⟨t, l, rfl, ht, hl⟩ := gate_of hd
    refine rd_isi (K := K) (i := 0) (T := "tuple") rfl (.dp hd) (kit_T (gateD g)) ⟨_, rfl, ?_⟩
    refine iteF ?_
    refine ⟨_, rfl, t, _, rfl, .inr ht, rfl, _, rfl, ?_⟩
    refine iteF ?_
    refine ⟨_, rfl, t, _, rfl, ht, rfl, _, _, rfl, _, _, rfl, _, _, rfl, rfl, ?_⟩
    show tSeq _ _ _ [some (.ref t), some (.str g.1), some (.str g.2.1), some (.ref l), none] _
    refine rd_ts (i := 1) rfl (.dp (.str g.1)) o1.szS fun H1 e1 => ⟨_, rfl, ?_⟩
    rw [o1.isN]
    refine iteF ?_
    refine rd_t (i := 2) rfl (.dp (.str g.2.1)) fun H2 e2 => ⟨_, rfl, ?_⟩
    rw [show isKind (.str g.2.1) = true by show (kindsL.lookup g.2.1).isSome = true; rw [o2]; rfl]
    refine iteF ?_
    refine rd_t (i := 3) rfl (.dp (dp_txl (ex_l (e1.trans e2) hl))) fun H3 e3 => ⟨_, rfl, ?_⟩
    refine iteF ?_
    have hl3 := ex_l (e1.trans (e2.trans e3)) hl
    obtain ⟨u, hu, tk, rfl⟩ := D.hit o2
    refine ⟨_, rfl, l, _, rfl, .inl hl3, _, rfl, dk, g.2.1, .int _, rfl, rfl, ⟨es, n, _, D.dict.at_, D.dict.lit, hu, ⟨tk, rfl⟩⟩, rfl, _, rfl, ?_⟩
    rw [show decide (V.int ((g.2.2.map V.str).length : Int) = V.int (g.2.2.length : Int)) = true from decide_eq_true (by rw [List.length_map])]
    refine iteT ?_
    refine ⟨_, rfl, l, rfl, ⟨_, hl3⟩, fun N nN => ?_⟩
    refine lc_each (as := g.2.2) (em := V.str) (walk_list (K := K) (a := l)) (fun z => .bl true) (by have := kinds_few o2; omega) (fun H' e => ex_l e hl3) (fun z hz Ha ea Q1 q1 => ?_) nN (fun H' e q => ?_)
    · refine rd_ts (i := 4) rfl (.dp (.str z)) (o3 z hz).szS fun H' e' => ?_
      rw [(o3 z hz).isN]
      exact q1 H' e'
    · refine ⟨N, g.2.2.map (fun _ => true), rfl, .inl (.inl (by rw [q, List.map_map]; rfl)), ?_⟩
      rw [show (g.2.2.map (fun _ => true)).all id = true by rw [List.all_eq_true]; intro b hb; obtain ⟨z, _, rfl⟩ := List.mem_map.mp hb; rfl]
      exact k H' (e1.trans (e2.trans (e3.trans e)))
theorem rd_isGate {σ : L2.St} {H : Hp} {Q : VK} {x : V} {g : Gt} {i : Nat} {E : XK} (hs : σ[i]? = some (some x)) (hd : Dp K H x (gateD g)) (ok : gateOk g) (h : ∀ H', Ex H H' → Q (.bl true) H') : tCall (spIsGate K) [] E (tCons (tVar i) tNil) σ H Q := ⟨x, hs, x, g, rfl, hd, ok, h⟩
/-! ### check_gates -/
def gnm (gs : List Gt) : List Str := gs.map fun g => g.1
def spCGates (K : PySem.W.Frag) : Sp := fun vs H Q _ => ∃ (x y : V) (gs : List Gt) (zs : List Str), vs = [x, y] ∧ Dp K H x (.list (gs.map gateD)) ∧ Dp K H y (.list (txtD zs)) ∧ (zs ++ gnm gs).Nodup ∧ (∀ g ∈ gs, gateOk g) ∧ gs.length ≤ 1000 ∧ zs.length ≤ 1000 ∧ ∀ H', Ex H H' → Q .non H'
abbrev nCGates : List Str := ["gates", "inputs", "met", "at", "gate", "name"]
theorem scCGates : FnScope nCGates ["gates", "inputs"] (defScope dCGates) := ⟨rfl, rfl, rfl, by decide +kernel, rfl, by decide +kernel, by decide +kernel⟩
theorem okCGates {f : Addr} {fd : FuncData} (F : At K mg "check_gates" dCGates ["gates", "inputs"] f fd) (T : Txt K mg) (DT : DicT K w mg) : FnOk P w K mg base CX0 3 f fd ["gates", "inputs"] (spCGates K) := by
  obtain ⟨fL, fdL, FL⟩ := T.lst
  obtain ⟨fG, fdG, FG⟩ := T.isGate
  have GL : FnOk P w K mg base CX0 1 fL fdL ["value"] (spT K isList) := okList FL T
  have GG : FnOk P w K mg base CX0 2 fG fdG ["value"] (spIsGate K) := okIsGate FG T DT
  refine F.fn.ok scCGates (fun vs H Q E h => ?_) (fun cdv A outer s H vs Q E hr h => ?_)
  · obtain ⟨x, y, gs, zs, rfl, _⟩ := h
    rfl
  · obtain ⟨x, y, gs, zs, rfl, hd, hz, nd, ok, lg, lz, k⟩ := h
    have hu := hu_of hr
    have hr1 : Room 1 _ := hr.mono (by decide)
    refine ⟨_, pss_cons (ps_if (pt_not (pt_val (pe_call GL hr1 (by rfl) FL.gl FL.fn.kp FL.bi .nil pass0 (pa_cons (pv 0) pa_nil)))) (pss_one ps_never) pss_nil)
      (pss_cons (ps_setDc (i := 2) (own := [("name", 5)]) (g := gName 5) rfl scCGates.nd rfl rfl (sw_dict rfl rfl rfl (by decide +kernel)) (pi_list (pv 1)) (blkOk_by (own := [("name", 5)]) (N := nCGates) (sc := defScope dCGates) (by decide +kernel))
          (fun _ _ _ _ _ => pg_name (i := 5) scCGates.nd rfl (Or.inl rfl)) (fun _ _ _ _ _ => pts_nil) (fun _ _ _ _ _ => pv 5) (fun _ _ _ _ _ => pe_bl))
      (pss_one (ps_for PassesOwn.never rfl (pi_enum (by rfl) T.enumerate (pa_cons (pv 0) pa_nil)) (pg_tup rfl (pgs_cons (pg_name (i := 3) scCGates.nd rfl (Or.inl rfl)) (pgs_cons (pg_name (i := 4) scCGates.nd rfl (Or.inl rfl)) pgs_nil)))
        (pss_cons (ps_if (PW.pt (pw_or (pt_not (pt_val (pe_call GG hr (by rfl) FG.gl FG.fn.kp FG.bi .nil pass0 (pa_cons (pv 4) pa_nil)))) (pw_or1 (pt_cmp (pc_din hu (pe_ix ix_tup (pv 4) pe_int (fun _ _ => rfl)) (pv 2)))))) (pss_one ps_never) pss_nil)
          (pss_one (ps_dput hu (pv 2) (pe_ix ix_tup (pv 4) pe_int (fun _ _ => rfl)) pe_bl rfl)))))), ?_⟩
    refine rd_t (i := 0) rfl (.dp hd) fun H1 e1 => ⟨_, rfl, iteF ?_⟩
    obtain ⟨b, rfl, hb⟩ := txl_of hz
    refine ⟨_, rfl, b, rfl, ⟨_, ex_l e1 hb⟩, fun D nD => ?_⟩
    refine dc_each (as := zs) (em := V.str) (walk_list (K := K) (a := b)) (fun z => Sum.inr z) (fun _ => .bl true) (by omega) (fun H' e => ex_l (e1.trans e) hb) (fun z hz' => ev_var (i := 5) rfl) (fun z hz' => ev_c) ?_ nD (fun H2 e2 hD => ?_)
    · exact keys_nodup (f := fun z => z) (by rw [List.map_id']; exact (List.nodup_append.mp nd).1)
    cases hd with
    | @lst a xs _ ha da =>
      have len := dp_len da
      have x0 : Ex H H2 := e1.trans e2
      have hD0 : H D = none := ex_none e1 nD
      have grow : ∀ i, (zs ++ gnm (gs.take i)).length ≤ 2000 := fun i => by
        simp only [List.length_append, gnm, List.length_map, List.length_take]
        omega
      refine ⟨_, rfl, a, xs, rfl, ex_l x0 ha, for_it walk_enum (fun i σ Hc => (∃ u v, σ = [some (.ref a), some (.ref b), some (.ref D), u, v, none]) ∧ Ex H Hc ∧ Hc D = some (.dK (kTrue (zs ++ gnm (gs.take i)))))
        ⟨⟨_, _, rfl⟩, x0, ?_⟩ (fun i σ Hc _ p => ex_l p.2.1 ha) (fun i x σ Ha Hb hi p y => ?_) (fun σ Hc p => k Hc p.2.1)⟩
      · rw [hD]
        simp [kTrue, gnm]
      · obtain ⟨⟨u, v, rfl⟩, eA, hDa⟩ := p
        obtain ⟨t, y1, y2, rfl, nt, rfl, z1, z2⟩ := y
        cases z1
        have z2 : xs[i]? = some _ := z2
        obtain ⟨g, eg, dg⟩ := dp_nth da z2
        have gin : g ∈ gs := List.mem_of_getElem? eg
        have gnot : g.1 ∉ zs ++ gnm (gs.take i) := by
          have a1 : (zs ++ gnm gs)[zs.length + i]? = some g.1 := by
            rw [List.getElem?_append_right (by omega)]
            simp [gnm, eg]
          have a2 := not_in_take nd a1
          rwa [List.take_append, List.take_of_length_le (by omega), show zs.length + i - zs.length = i by omega, show (gnm gs).take i = gnm (gs.take i) by simp [gnm, List.map_take]] at a2
        have more : kTrue (zs ++ gnm (gs.take (i + 1))) = kTrue ((zs ++ gnm (gs.take i)) ++ [g.1]) := by
          rw [take_more eg]
          simp [gnm]
        have eB : Ex Ha (upd Ha t (.tup [.int (i : Nat), y2])) := Ex.new nt
        obtain ⟨tg, lg', rfl, htg, _⟩ := gate_of (dp_ex eA dg)
        refine ⟨t, _, rfl, st_of upd_same, rfl, _, _, rfl, _, _, rfl, rfl, ?_⟩
        show tSeq _ _ _ [some (.ref a), some (.ref b), some (.ref D), some (.int (i : Nat)), some (.ref tg), none] _
        refine rd_isGate (i := 4) rfl (dp_ex (eA.trans eB) dg) (ok g gin) fun H3 e3 => ⟨_, rfl, iteF ?_⟩
        have ht3 := ex_t (eB.trans e3) htg
        refine ⟨_, rfl, tg, _, 0, .str g.1, rfl, rfl, ht3, rfl, _, rfl, D, none, rfl, ?_, _, rfl, iteF ?_⟩
        · have q := DGet.k (k := Sum.inr g.1) (e3 _ _ (eB _ _ hDa))
          rw [kTrue_none gnot] at q
          exact q
        · refine ⟨_, rfl, _, rfl, tg, _, 0, .str g.1, rfl, rfl, ht3, rfl, D, _, rfl, DPut.k (k := Sum.inr g.1) (e3 _ _ (eB _ _ hDa)) ?_, ⟨_, _, rfl⟩, ?_, ?_⟩
          · have := grow i
            simp only [kTrue, List.length_map]
            exact Nat.lt_of_le_of_lt this (by decide)
          · exact (eA.trans (eB.trans e3)).mut hD0
          · rw [upd_same, kTrue_put gnot, more]
end
end W

set_option Elab.async false
set_option linter.all false
set_option maxRecDepth 100000
set_option maxHeartbeats 4000000
namespace W
open PySem PySem.Spec PyProof.Rows L2 Evl G C
section
variable {P : Program} {w : World} {K : PySem.W.Frag} {mg : Str → Option Value} {base : Heap}
/-! ### is_register -/
def spIsReg (K : PySem.W.Frag) : Sp := fun vs H Q _ => ∃ (x : V) (r : Rg), vs = [x] ∧ Dp K H x (regD r) ∧ regOk r ∧ ∀ H', Ex H H' → Q (.bl true) H'
abbrev nIsReg : List Str := ["value", "name", "first", "source"]
theorem scIsReg : FnScope nIsReg ["value"] (defScope dIsReg) := ⟨rfl, rfl, rfl, by decide +kernel, rfl, by decide +kernel, by decide +kernel⟩
theorem isBit_of {i : Int} (h : i = 0 ∨ i = 1) : isBit (.int i) = true := by rcases h with rfl | rfl <;> rfl
theorem okIsReg {f : Addr} {fd : FuncData} (F : At K mg "is_register" dIsReg ["value"] f fd) (T : Txt K mg) : FnOk P w K mg base CX0 3 f fd ["value"] (spIsReg K) := by
  obtain ⟨fB, fdB, FB⟩ := T.bit
  obtain ⟨fN, fdN, FN⟩ := T.name
  have GB : FnOk P w K mg base CX0 2 fB fdB ["value"] (spT K isBit) := okBit FB T
  have GN : FnOk P w K mg base CX0 1 fN fdN ["value"] (spTs K isName) := okName FN T
  refine F.fn.ok scIsReg (fun vs H Q E h => ?_) (fun cdv A outer s H vs Q E hr h => ?_)
  · obtain ⟨x, g, rfl, _⟩ := h
    rfl
  · obtain ⟨x, g, rfl, hd, ⟨o1, o2, o3⟩, k⟩ := h
    have hr1 : Room 1 _ := hr.mono (by decide)
    refine ⟨_, pss_cons (ps_if (PW.pt (pw_or (pt_not (pt_val (pe_callB call_isi (by rfl) T.isinstance (by decide +kernel) (pa_cons (pv 0) (pa_cons (pTy "tuple" (by rfl) T.tuple (by decide +kernel)) pa_nil)))))
        (pw_or1 (pt_cmpR op_ne (pe_callB call_len_seq (by rfl) T.len PySem.boot_len (pa_cons (pv 0) pa_nil)) pe_int (nomark _))))) (pss_one (ps_ret pe_bl)) pss_nil)
      (pss_cons (ps_asg (pv 0) (pg_tup rfl (pgs_cons (pg_name (i := 1) scIsReg.nd rfl (Or.inl rfl)) (pgs_cons (pg_name (i := 2) scIsReg.nd rfl (Or.inl rfl)) (pgs_cons (pg_name (i := 3) scIsReg.nd rfl (Or.inl rfl)) pgs_nil)))))
      (pss_one (ps_ret (pe_and (pe_call GN hr1 (by rfl) FN.gl FN.fn.kp FN.bi .nil pass0 (pa_cons (pv 1) pa_nil)) (pe_and (pe_call GB hr (by rfl) FB.gl FB.fn.kp FB.bi .nil pass0 (pa_cons (pv 2) pa_nil))
        (pe_one (pe_call GN hr1 (by rfl) FN.gl FN.fn.kp FN.bi .nil pass0 (pa_cons (pv 3) pa_nil)))))))), ?_⟩
    obtain ⟨t, rfl, ht⟩ := reg_of hd
    refine rd_isi (K := K) (i := 0) (T := "tuple") rfl (.dp hd) (kit_T (regD g)) ⟨_, rfl, ?_⟩
    refine iteF ?_
    refine ⟨_, rfl, t, _, rfl, .inr ht, rfl, _, rfl, ?_⟩
    refine iteF ?_
    refine ⟨_, rfl, t, _, rfl, ht, rfl, _, _, rfl, _, _, rfl, _, _, rfl, rfl, ?_⟩
    refine rd_ts (σ := [some (.ref t), some (.str g.1), some (.int g.2.1), some (.str g.2.2)]) (i := 1) rfl (.dp (.str g.1)) o1.szS fun H1 e1 => ⟨_, rfl, ?_⟩
    rw [o1.isN]
    refine iteT ?_
    refine rd_t (i := 2) rfl (.dp (.int g.2.1)) fun H2 e2 => ⟨_, rfl, ?_⟩
    rw [isBit_of o2]
    refine iteT ?_
    refine rd_ts (i := 3) rfl (.dp (.str g.2.2)) o3.szS fun H3 e3 => ?_
    rw [o3.isN]
    exact k H3 (e1.trans (e2.trans e3))
theorem rd_isReg {σ : L2.St} {H : Hp} {Q : VK} {x : V} {r : Rg} {i : Nat} {E : XK} (hs : σ[i]? = some (some x)) (hd : Dp K H x (regD r)) (ok : regOk r) (h : ∀ H', Ex H H' → Q (.bl true) H') : tCall (spIsReg K) [] E (tCons (tVar i) tNil) σ H Q := ⟨x, hs, x, r, rfl, hd, ok, h⟩
/-! ### check_registers -/
def rnm (rs : List Rg) : List Str := rs.map fun r => r.1
def spCRegs (K : PySem.W.Frag) : Sp := fun vs H Q _ => ∃ (x y : V) (gs : List Rg) (zs : List Str), vs = [x, y] ∧ Dp K H x (.list (gs.map regD)) ∧ Dp K H y (.list (txtD zs)) ∧ (zs ++ rnm gs).Nodup ∧ (∀ g ∈ gs, regOk g) ∧ gs.length ≤ 1000 ∧ zs.length ≤ 1000 ∧ ∀ H', Ex H H' → Q .non H'
abbrev nCRegs : List Str := ["registers", "taken", "met", "at", "row", "name"]
theorem scCRegs : FnScope nCRegs ["registers", "taken"] (defScope dCRegs) := ⟨rfl, rfl, rfl, by decide +kernel, rfl, by decide +kernel, by decide +kernel⟩
theorem okCRegs {f : Addr} {fd : FuncData} (F : At K mg "check_registers" dCRegs ["registers", "taken"] f fd) (T : Txt K mg) : FnOk P w K mg base CX0 4 f fd ["registers", "taken"] (spCRegs K) := by
  obtain ⟨fL, fdL, FL⟩ := T.lst
  obtain ⟨fG, fdG, FG⟩ := T.isReg
  have GL : FnOk P w K mg base CX0 1 fL fdL ["value"] (spT K isList) := okList FL T
  have GG : FnOk P w K mg base CX0 3 fG fdG ["value"] (spIsReg K) := okIsReg FG T
  refine F.fn.ok scCRegs (fun vs H Q E h => ?_) (fun cdv A outer s H vs Q E hr h => ?_)
  · obtain ⟨x, y, gs, zs, rfl, _⟩ := h
    rfl
  · obtain ⟨x, y, gs, zs, rfl, hd, hz, nd, ok, lg, lz, k⟩ := h
    have hu := hu_of hr
    have hr1 : Room 1 _ := hr.mono (by decide)
    refine ⟨_, pss_cons (ps_if (pt_not (pt_val (pe_call GL hr1 (by rfl) FL.gl FL.fn.kp FL.bi .nil pass0 (pa_cons (pv 0) pa_nil)))) (pss_one ps_never) pss_nil)
      (pss_cons (ps_setDc (i := 2) (own := [("name", 5)]) (g := gName 5) rfl scCRegs.nd rfl rfl (sw_dict rfl rfl rfl (by decide +kernel)) (pi_list (pv 1)) (blkOk_by (own := [("name", 5)]) (N := nCRegs) (sc := defScope dCRegs) (by decide +kernel))
          (fun _ _ _ _ _ => pg_name (i := 5) scCRegs.nd rfl (Or.inl rfl)) (fun _ _ _ _ _ => pts_nil) (fun _ _ _ _ _ => pv 5) (fun _ _ _ _ _ => pe_bl))
      (pss_one (ps_for PassesOwn.never rfl (pi_enum (by rfl) T.enumerate (pa_cons (pv 0) pa_nil)) (pg_tup rfl (pgs_cons (pg_name (i := 3) scCRegs.nd rfl (Or.inl rfl)) (pgs_cons (pg_name (i := 4) scCRegs.nd rfl (Or.inl rfl)) pgs_nil)))
        (pss_cons (ps_if (PW.pt (pw_or (pt_not (pt_val (pe_call GG hr (by rfl) FG.gl FG.fn.kp FG.bi .nil pass0 (pa_cons (pv 4) pa_nil)))) (pw_or1 (pt_cmp (pc_din hu (pe_ix ix_tup (pv 4) pe_int (fun _ _ => rfl)) (pv 2)))))) (pss_one ps_never) pss_nil)
          (pss_one (ps_dput hu (pv 2) (pe_ix ix_tup (pv 4) pe_int (fun _ _ => rfl)) pe_bl rfl)))))), ?_⟩
    refine rd_t (i := 0) rfl (.dp hd) fun H1 e1 => ⟨_, rfl, iteF ?_⟩
    obtain ⟨b, rfl, hb⟩ := txl_of hz
    refine ⟨_, rfl, b, rfl, ⟨_, ex_l e1 hb⟩, fun D nD => ?_⟩
    refine dc_each (as := zs) (em := V.str) (walk_list (K := K) (a := b)) (fun z => Sum.inr z) (fun _ => .bl true) (by omega) (fun H' e => ex_l (e1.trans e) hb) (fun z hz' => ev_var (i := 5) rfl) (fun z hz' => ev_c) ?_ nD (fun H2 e2 hD => ?_)
    · exact keys_nodup (f := fun z => z) (by rw [List.map_id']; exact (List.nodup_append.mp nd).1)
    cases hd with
    | @lst a xs _ ha da =>
      have len := dp_len da
      have x0 : Ex H H2 := e1.trans e2
      have hD0 : H D = none := ex_none e1 nD
      have grow : ∀ i, (zs ++ rnm (gs.take i)).length ≤ 2000 := fun i => by
        simp only [List.length_append, rnm, List.length_map, List.length_take]
        omega
      refine ⟨_, rfl, a, xs, rfl, ex_l x0 ha, for_it walk_enum (fun i σ Hc => (∃ u v, σ = [some (.ref a), some (.ref b), some (.ref D), u, v, none]) ∧ Ex H Hc ∧ Hc D = some (.dK (kTrue (zs ++ rnm (gs.take i)))))
        ⟨⟨_, _, rfl⟩, x0, ?_⟩ (fun i σ Hc _ p => ex_l p.2.1 ha) (fun i x σ Ha Hb hi p y => ?_) (fun σ Hc p => k Hc p.2.1)⟩
      · rw [hD]
        simp [kTrue, rnm]
      · obtain ⟨⟨u, v, rfl⟩, eA, hDa⟩ := p
        obtain ⟨t, y1, y2, rfl, nt, rfl, z1, z2⟩ := y
        cases z1
        have z2 : xs[i]? = some _ := z2
        obtain ⟨g, eg, dg⟩ := dp_nth da z2
        have gin : g ∈ gs := List.mem_of_getElem? eg
        have gnot : g.1 ∉ zs ++ rnm (gs.take i) := by
          have a1 : (zs ++ rnm gs)[zs.length + i]? = some g.1 := by
            rw [List.getElem?_append_right (by omega)]
            simp [rnm, eg]
          have a2 := not_in_take nd a1
          rwa [List.take_append, List.take_of_length_le (by omega), show zs.length + i - zs.length = i by omega, show (rnm gs).take i = rnm (gs.take i) by simp [rnm, List.map_take]] at a2
        have more : kTrue (zs ++ rnm (gs.take (i + 1))) = kTrue ((zs ++ rnm (gs.take i)) ++ [g.1]) := by
          rw [take_more eg]
          simp [rnm]
        have eB : Ex Ha (upd Ha t (.tup [.int (i : Nat), y2])) := Ex.new nt
        obtain ⟨tg, rfl, htg⟩ := reg_of (dp_ex eA dg)
        refine ⟨t, _, rfl, st_of upd_same, rfl, _, _, rfl, _, _, rfl, rfl, ?_⟩
        show tSeq _ _ _ [some (.ref a), some (.ref b), some (.ref D), some (.int (i : Nat)), some (.ref tg), none] _
        refine rd_isReg (i := 4) rfl (dp_ex (eA.trans eB) dg) (ok g gin) fun H3 e3 => ⟨_, rfl, iteF ?_⟩
        have ht3 := ex_t (eB.trans e3) htg
        refine ⟨_, rfl, tg, _, 0, .str g.1, rfl, rfl, ht3, rfl, _, rfl, D, none, rfl, ?_, _, rfl, iteF ?_⟩
        · have q := DGet.k (k := Sum.inr g.1) (e3 _ _ (eB _ _ hDa))
          rw [kTrue_none gnot] at q
          exact q
        · refine ⟨_, rfl, _, rfl, tg, _, 0, .str g.1, rfl, rfl, ht3, rfl, D, _, rfl, DPut.k (k := Sum.inr g.1) (e3 _ _ (eB _ _ hDa)) ?_, ⟨_, _, rfl⟩, ?_, ?_⟩
          · have := grow i
            simp only [kTrue, List.length_map]
            exact Nat.lt_of_le_of_lt this (by decide)
          · exact (eA.trans (eB.trans e3)).mut hD0
          · rw [upd_same, kTrue_put gnot, more]
/-! ### check_sources, check_outputs, check_number -/
def has (kvs : List (Key × V)) (z : Str) : Prop := ∃ v, valV kvs (Sum.inr z) = some v
def spCSources (K : PySem.W.Frag) : Sp := fun vs H Q _ => ∃ (l d : Addr) (ys : List Str) (kvs : List (Key × V)), vs = [.ref l, .ref d] ∧ SqL K H l (ys.map V.str) ∧ H d = some (.dK kvs) ∧ (∀ y ∈ ys, has kvs y) ∧ ∀ H', Ex H H' → Q .non H'
theorem scCSources : FnScope ["sources", "wires", "source"] ["sources", "wires"] (defScope dCSources) := ⟨rfl, rfl, rfl, by decide +kernel, rfl, by decide +kernel, by decide +kernel⟩
theorem okCSources {f : Addr} {fd : FuncData} (F : At K mg "check_sources" dCSources ["sources", "wires"] f fd) (T : Txt K mg) : FnOk P w K mg base CX0 1 f fd ["sources", "wires"] (spCSources K) := by
  refine F.fn.ok scCSources (fun vs H Q E h => ?_) (fun cdv A outer s H vs Q E hr h => ?_)
  · obtain ⟨l, d, ys, kvs, rfl, _⟩ := h
    rfl
  · obtain ⟨l, d, ys, kvs, rfl, hl, hd, hy, k⟩ := h
    have hu := hu_of hr
    refine ⟨_, pss_one (ps_for PassesOwn.never rfl (pi_list (pv 0)) (pg_name (i := 2) scCSources.nd rfl (Or.inl rfl))
        (pss_one (ps_if (pt_cmp (pc_dnotin hu (pv 2) (pv 1))) (pss_one ps_never) pss_nil))), ?_⟩
    refine ⟨_, rfl, l, rfl, ⟨_, hl⟩, for_list (K := K) (a := l) (xs := ys.map V.str) (fun i σ Hc => (∃ u, σ = [some (.ref l), some (.ref d), u]) ∧ Hc = H) ⟨⟨_, rfl⟩, rfl⟩ (fun i σ Hc _ p => by rw [p.2]; exact hl) (fun i x σ Hc hi p => ?_) (fun σ Hc p => by rw [p.2]; exact k H (Ex.refl H))⟩
    obtain ⟨⟨u, rfl⟩, rfl⟩ := p
    obtain ⟨y, ey, rfl⟩ := nth_map hi
    obtain ⟨v, hv⟩ := hy y (List.mem_of_getElem? ey)
    refine ⟨_, rfl, _, rfl, d, some v, rfl, ?_, _, rfl, iteF ⟨⟨_, rfl⟩, rfl⟩⟩
    have q := DGet.k (k := Sum.inr y) hd
    rw [hv] at q
    exact q
def spCOutputs (K : PySem.W.Frag) : Sp := fun vs H Q _ => ∃ (x : V) (d : Addr) (ys : List Str) (kvs : List (Key × V)), vs = [x, .ref d] ∧ Dp K H x (.list (txtD ys)) ∧ H d = some (.dK kvs) ∧ (∀ y ∈ ys, has kvs y) ∧ ∀ H', Ex H H' → Q .non H'
theorem scCOutputs : FnScope ["outputs", "wires", "at", "wire"] ["outputs", "wires"] (defScope dCOutputs) := ⟨rfl, rfl, rfl, by decide +kernel, rfl, by decide +kernel, by decide +kernel⟩
theorem okCOutputs {f : Addr} {fd : FuncData} (F : At K mg "check_outputs" dCOutputs ["outputs", "wires"] f fd) (T : Txt K mg) : FnOk P w K mg base CX0 2 f fd ["outputs", "wires"] (spCOutputs K) := by
  obtain ⟨fL, fdL, FL⟩ := T.lst
  have GL : FnOk P w K mg base CX0 1 fL fdL ["value"] (spT K isList) := okList FL T
  refine F.fn.ok scCOutputs (fun vs H Q E h => ?_) (fun cdv A outer s H vs Q E hr h => ?_)
  · obtain ⟨l, d, ys, kvs, rfl, _⟩ := h
    rfl
  · obtain ⟨x, d, ys, kvs, rfl, hx, hd, hy, k⟩ := h
    have hu := hu_of hr
    refine ⟨_, pss_cons (ps_if (pt_not (pt_val (pe_call GL hr (by rfl) FL.gl FL.fn.kp FL.bi .nil pass0 (pa_cons (pv 0) pa_nil)))) (pss_one ps_never) pss_nil)
      (pss_one (ps_for PassesOwn.never rfl (pi_enum (by rfl) T.enumerate (pa_cons (pv 0) pa_nil)) (pg_tup rfl (pgs_cons (pg_name (i := 2) scCOutputs.nd rfl (Or.inl rfl)) (pgs_cons (pg_name (i := 3) scCOutputs.nd rfl (Or.inl rfl)) pgs_nil)))
        (pss_one (ps_if (PW.pt (pw_or (pt_not (pt_val (pe_callB call_isi (by rfl) T.isinstance (by decide +kernel) (pa_cons (pv 3) (pa_cons (pTy "str" (by rfl) T.str (by decide +kernel)) pa_nil)))))
          (pw_or1 (pt_cmp (pc_dnotin hu (pv 3) (pv 1)))))) (pss_one ps_never) pss_nil)))), ?_⟩
    refine rd_t (i := 0) rfl (.dp hx) fun H1 e1 => ⟨_, rfl, iteF ?_⟩
    obtain ⟨l, rfl, hl⟩ := txl_of hx
    refine ⟨_, rfl, l, ys.map V.str, rfl, ex_l e1 hl, for_it walk_enum (fun i σ Hc => (∃ u v, σ = [some (.ref l), some (.ref d), u, v]) ∧ Ex H Hc) ⟨⟨_, _, rfl⟩, e1⟩ (fun i σ Hc _ p => ex_l p.2 hl) (fun i x σ Ha Hb hi p y => ?_) (fun σ Hc p => k Hc p.2)⟩
    obtain ⟨⟨u, v, rfl⟩, eA⟩ := p
    obtain ⟨t, y1, y2, rfl, nt, rfl, z1, z2⟩ := y
    cases z1
    obtain ⟨y, ey, rfl⟩ := nth_map (show (ys.map V.str)[i]? = some _ from z2)
    obtain ⟨v', hv⟩ := hy y (List.mem_of_getElem? ey)
    have eB := eA.trans (Ex.new (o := .tup [.int (i : Nat), .str y]) nt)
    refine ⟨t, _, rfl, st_of upd_same, rfl, _, _, rfl, _, _, rfl, rfl, ?_⟩
    refine rd_isi (K := K) (σ := [some (.ref l), some (.ref d), some (.int (i : Nat)), some (.str y)]) (i := 3) (T := "str") rfl (.dp (.str y)) (kit_S (.str y)) ⟨_, rfl, ?_⟩
    refine iteF ?_
    refine ⟨_, rfl, _, rfl, d, some v', rfl, ?_, _, rfl, iteF ⟨⟨_, _, rfl⟩, eB⟩⟩
    have q := DGet.k (k := Sum.inr y) (eB _ _ hd)
    rw [hv] at q
    exact q
def spCNumber (K : PySem.W.Frag) : Sp := fun vs H Q _ => ∃ (z : Str) (l : Addr) (xs : List V) (n : Nat), vs = [.str z, .ref l, .int (n : Int)] ∧ SqL K H l xs ∧ xs.length ≤ n ∧ Q .non H
theorem scCNumber : FnScope ["what", "rows", "limit"] ["what", "rows", "limit"] (defScope dCNumber) := ⟨rfl, rfl, rfl, by decide +kernel, rfl, by decide +kernel, by decide +kernel⟩
theorem okCNumber {f : Addr} {fd : FuncData} (F : At K mg "check_number" dCNumber ["what", "rows", "limit"] f fd) (T : Txt K mg) : FnOk P w K mg base CX0 1 f fd ["what", "rows", "limit"] (spCNumber K) := by
  refine F.fn.ok scCNumber (fun vs H Q E h => ?_) (fun cdv A outer s H vs Q E hr h => ?_)
  · obtain ⟨z, l, xs, n, rfl, _⟩ := h
    rfl
  · obtain ⟨z, l, xs, n, rfl, hl, le, k⟩ := h
    refine ⟨_, pss_one (ps_if (pt_cmpR op_gt (pe_callB call_len_seq (by rfl) T.len PySem.boot_len (pa_cons (pv 1) pa_nil)) (pv 2) (nomark _)) (pss_one ps_never) pss_nil), ?_⟩
    refine ⟨_, rfl, l, xs, rfl, .inl hl, _, rfl, _, _, rfl, rfl, _, rfl, ?_⟩
    rw [show decide ((n : Int) < (xs.length : Int)) = false from decide_eq_false (by omega)]
    exact iteF k
end
end W

set_option Elab.async false
set_option linter.all false
set_option maxRecDepth 100000
set_option maxHeartbeats 4000000
/-! Gates one behind another, by counting what each still waits for. -/
namespace C
open PySem G
/-- the sources among ks, once each -/
def fz (ks zs : List Str) : List Str := zs.foldl (fun acc z => if z ∈ ks then ins z acc else acc) []
theorem fz_snoc (ks zs : List Str) (z : Str) : fz ks (zs ++ [z]) = if z ∈ ks then ins z (fz ks zs) else fz ks zs := by
  unfold fz
  rw [List.foldl_append]
  rfl
theorem mem_ins {z y : Str} {l : List Str} : y ∈ ins z l ↔ y = z ∨ y ∈ l := by
  unfold ins
  split
  · next h => exact ⟨.inr, fun q => q.elim (fun e => e ▸ h) id⟩
  · exact List.mem_cons
theorem nd_ins {z : Str} {l : List Str} (h : l.Nodup) : (ins z l).Nodup := by
  unfold ins
  split
  · exact h
  · next q => exact List.nodup_cons.mpr ⟨q, h⟩
theorem rev_ind {α : Type} {p : List α → Prop} (h0 : p []) (hs : ∀ l a, p l → p (l ++ [a])) (l : List α) : p l := by
  have q : ∀ r : List α, p r.reverse := by
    intro r
    induction r with
    | nil => exact h0
    | cons a r ih =>
      rw [List.reverse_cons]
      exact hs _ _ ih
  have := q l.reverse
  rwa [List.reverse_reverse] at this
theorem mem_fz {ks zs : List Str} {y : Str} : y ∈ fz ks zs ↔ y ∈ zs ∧ y ∈ ks := by
  induction zs using rev_ind with
  | h0 => simp [fz]
  | hs l a ih =>
    rw [fz_snoc]
    split
    · next h =>
      rw [mem_ins, ih]
      constructor
      · rintro (rfl | ⟨q, r⟩)
        · exact ⟨by simp, h⟩
        · exact ⟨by simp [q], r⟩
      · rintro ⟨q, r⟩
        rcases List.mem_append.mp q with q | q
        · exact .inr ⟨q, r⟩
        · exact .inl (List.mem_singleton.mp q)
    · next h =>
      rw [ih]
      constructor
      · rintro ⟨q, r⟩
        exact ⟨by simp [q], r⟩
      · rintro ⟨q, r⟩
        rcases List.mem_append.mp q with q | q
        · exact ⟨q, r⟩
        · exact absurd (List.mem_singleton.mp q ▸ r) h
theorem nd_fz {ks zs : List Str} : (fz ks zs).Nodup := by
  induction zs using rev_ind with
  | h0 => exact List.nodup_nil
  | hs l a ih =>
    rw [fz_snoc]
    split
    · exact nd_ins ih
    · exact ih
theorem len_fz {ks zs : List Str} : (fz ks zs).length ≤ zs.length := by
  induction zs using rev_ind with
  | h0 => exact Nat.le_refl _
  | hs l a ih =>
    rw [fz_snoc, List.length_append]
    split
    · unfold ins
      split
      · exact Nat.le_trans ih (Nat.le_add_right _ _)
      · exact Nat.succ_le_succ ih
    · exact Nat.le_trans ih (Nat.le_add_right _ _)
section
variable (gs : List (Str × List Str))
def ks : List Str := gs.map Prod.fst
/-- the gates that read z -/
def rdr (z : Str) : List Str := (gs.filter fun g => decide (z ∈ fz (ks gs) g.2)).map Prod.fst
/-- t is told, what stands in y is ready, wf tells for how many each waits -/
structure Half (t y : List Str) (wf : Str → Int) : Prop where
  nd : (t ++ y).Nodup
  sub : ∀ z ∈ t ++ y, z ∈ ks gs
  cnt : ∀ g ∈ gs, wf g.1 = (((fz (ks gs) g.2).filter fun z => decide (z ∉ t)).length : Nat)
  rdy : ∀ g ∈ gs, g.1 ∈ t ++ y ↔ wf g.1 = 0
  tp : ∀ pre z post, t = pre ++ z :: post → ∀ g ∈ gs, g.1 = z → ∀ x ∈ fz (ks gs) g.2, x ∈ pre
variable {gs}
theorem Half.start {y : List Str} {wf : Str → Int} (nd : (ks gs).Nodup) (hw : ∀ g ∈ gs, wf g.1 = ((fz (ks gs) g.2).length : Nat)) (hy : y.Perm ((gs.filter fun g => decide (fz (ks gs) g.2 = [])).map Prod.fst)) : Half gs [] y wf := by
  refine ⟨?_, ?_, ?_, ?_, ?_⟩
  · rw [List.nil_append]
    exact hy.nodup_iff.mpr (nd.sublist (List.filter_sublist.map Prod.fst))
  · intro z hz
    obtain ⟨g, hg, rfl⟩ := List.mem_map.mp (hy.mem_iff.mp hz)
    exact List.mem_map.mpr ⟨g, (List.mem_filter.mp hg).1, rfl⟩
  · intro g hg
    rw [hw g hg, List.filter_eq_self.mpr (fun z hz => by simp)]
  · intro g hg
    rw [List.nil_append, hy.mem_iff, hw g hg]
    constructor
    · intro m
      obtain ⟨g', hg', e⟩ := List.mem_map.mp m
      obtain ⟨h1, h2⟩ := List.mem_filter.mp hg'
      have := eq_of_nd nd h1 hg e
      subst this
      rw [of_decide_eq_true h2]
      rfl
    · intro z
      have : (fz (ks gs) g.2).length = 0 := by omega
      exact List.mem_map.mpr ⟨g, List.mem_filter.mpr ⟨hg, decide_eq_true (List.length_eq_zero_iff.mp this)⟩, rfl⟩
  · intro pre z post e
    simp at e
where
  eq_of_nd {gs : List (Str × List Str)} (nd : (ks gs).Nodup) {a b : Str × List Str} (ha : a ∈ gs) (hb : b ∈ gs) (e : a.1 = b.1) : a = b := by
    induction gs with
    | nil => cases ha
    | cons g r ih =>
      unfold ks at nd
      rw [List.map_cons, List.nodup_cons] at nd
      rcases List.mem_cons.mp ha with ha | ha <;> rcases List.mem_cons.mp hb with hb | hb
      · rw [ha, hb]
      · exact absurd (List.mem_map.mpr ⟨b, hb, by rw [← e, ha]⟩) nd.1
      · exact absurd (List.mem_map.mpr ⟨a, ha, by rw [e, hb]⟩) nd.1
      · exact ih nd.2 ha hb
theorem eq_of_nd (nd : (ks gs).Nodup) {a b : Str × List Str} (ha : a ∈ gs) (hb : b ∈ gs) (e : a.1 = b.1) : a = b := Half.start.eq_of_nd nd ha hb e
theorem mem_rdr (nd : (ks gs).Nodup) {z : Str} {g : Str × List Str} (hg : g ∈ gs) : g.1 ∈ rdr gs z ↔ z ∈ fz (ks gs) g.2 := by
  unfold rdr
  constructor
  · intro m
    obtain ⟨g', hg', e⟩ := List.mem_map.mp m
    obtain ⟨h1, h2⟩ := List.mem_filter.mp hg'
    rw [← eq_of_nd nd h1 hg e]
    exact of_decide_eq_true h2
  · intro m
    exact List.mem_map.mpr ⟨g, List.mem_filter.mpr ⟨hg, decide_eq_true m⟩, rfl⟩
theorem rdr_sub {z x : Str} (h : x ∈ rdr gs z) : ∃ g ∈ gs, g.1 = x ∧ z ∈ fz (ks gs) g.2 := by
  obtain ⟨g, hg, rfl⟩ := List.mem_map.mp h
  obtain ⟨h1, h2⟩ := List.mem_filter.mp hg
  exact ⟨g, h1, rfl, of_decide_eq_true h2⟩
theorem rdr_nd (nd : (ks gs).Nodup) {z : Str} : (rdr gs z).Nodup := nd.sublist (List.filter_sublist.map Prod.fst)
/-- one out less -/
theorem filter_less {l t : List Str} {z : Str} (nd : l.Nodup) (hz : z ∉ t) : (l.filter fun x => decide (x ∉ t ++ [z])).length + (if z ∈ l then 1 else 0) = (l.filter fun x => decide (x ∉ t)).length := by
  induction l with
  | nil => rfl
  | cons a r ih =>
    obtain ⟨n1, n2⟩ := List.nodup_cons.mp nd
    have ih := ih n2
    by_cases e : a = z
    · subst e
      have h1 : decide (a ∉ t ++ [a]) = false := by simp
      have h2 : decide (a ∉ t) = true := by simp [hz]
      rw [List.filter_cons, List.filter_cons, h1, h2, if_neg (by decide), if_pos rfl, if_pos List.mem_cons_self, List.length_cons]
      rw [if_neg n1] at ih
      omega
    · have h1 : decide (a ∉ t ++ [z]) = decide (a ∉ t) := by simp [e]
      have h2 : (z ∈ a :: r) = (z ∈ r) := by
        rw [List.mem_cons]
        exact propext ⟨fun q => q.elim (fun x => absurd x.symm e) id, .inr⟩
      rw [List.filter_cons, List.filter_cons, h1]
      simp only [h2]
      split
      · rw [List.length_cons, List.length_cons]
        omega
      · exact ih
theorem Half.step {t y y1 y2 : List Str} {wf : Str → Int} {z : Str} (h : Half gs t y wf) (nd : (ks gs).Nodup) (hz : (z :: y1).Perm y) (h2 : y2.Perm (y1 ++ (rdr gs z).filter fun g => decide (wf g = 1))) :
    Half gs (t ++ [z]) y2 (fun g => if g ∈ rdr gs z then wf g - 1 else wf g) := by
  have zy : z ∈ y := hz.mem_iff.mp List.mem_cons_self
  have zt : z ∉ t := fun m => (List.nodup_append.mp h.nd).2.2 z m z zy rfl
  have pm : ((t ++ [z]) ++ y1).Perm (t ++ y) := by
    rw [List.append_assoc]
    exact List.Perm.append_left t hz
  have nd1 : ((t ++ [z]) ++ y1).Nodup := pm.nodup_iff.mpr h.nd
  -- a reader of z waits still
  have wait : ∀ g ∈ gs, z ∈ fz (ks gs) g.2 → 1 ≤ wf g.1 := by
    intro g hg m
    have := filter_less (nd_fz (ks := ks gs) (zs := g.2)) zt
    rw [if_pos m] at this
    rw [h.cnt g hg]
    omega
  have new : ∀ x ∈ (rdr gs z).filter (fun g => decide (wf g = 1)), x ∉ t ++ y := by
    intro x hx m
    obtain ⟨h1, _⟩ := List.mem_filter.mp hx
    obtain ⟨g, hg, rfl, hm⟩ := rdr_sub h1
    have := (h.rdy g hg).mp m
    have := wait g hg hm
    omega
  refine ⟨?_, ?_, ?_, ?_, ?_⟩
  · have p2 : ((t ++ [z]) ++ y2).Perm (((t ++ [z]) ++ y1) ++ (rdr gs z).filter fun g => decide (wf g = 1)) := by
      rw [List.append_assoc (t ++ [z]) y1]
      exact List.Perm.append_left _ h2
    rw [p2.nodup_iff]
    refine List.nodup_append.mpr ⟨nd1, (rdr_nd nd).sublist List.filter_sublist, fun a ha b hb e => ?_⟩
    subst e
    exact new a hb (pm.mem_iff.mp ha)
  · intro x hx
    rcases List.mem_append.mp hx with hx | hx
    · rcases List.mem_append.mp hx with hx | hx
      · exact h.sub x (List.mem_append_left _ hx)
      · rw [List.mem_singleton.mp hx]
        exact h.sub z (List.mem_append_right _ zy)
    · rcases List.mem_append.mp (h2.mem_iff.mp hx) with hx | hx
      · exact h.sub x (List.mem_append_right _ (hz.mem_iff.mp (List.mem_cons_of_mem _ hx)))
      · obtain ⟨g, hg, rfl, _⟩ := rdr_sub (List.mem_filter.mp hx).1
        exact List.mem_map.mpr ⟨g, hg, rfl⟩
  · intro g hg
    have q := filter_less (nd_fz (ks := ks gs) (zs := g.2)) zt
    have c := h.cnt g hg
    show (if g.1 ∈ rdr gs z then wf g.1 - 1 else wf g.1) = _
    by_cases m : z ∈ fz (ks gs) g.2
    · rw [if_pos ((mem_rdr nd hg).mpr m)]
      rw [if_pos m] at q
      omega
    · rw [if_neg fun r => m ((mem_rdr nd hg).mp r)]
      rw [if_neg m] at q
      omega
  · intro g hg
    have old := h.rdy g hg
    rw [← pm.mem_iff] at old
    show _ ↔ (if g.1 ∈ rdr gs z then wf g.1 - 1 else wf g.1) = 0
    have split2 : g.1 ∈ (t ++ [z]) ++ y2 ↔ g.1 ∈ (t ++ [z]) ++ y1 ∨ g.1 ∈ (rdr gs z).filter fun g => decide (wf g = 1) := by
      rw [List.mem_append, h2.mem_iff, List.mem_append (s := y1), List.mem_append (t := y1)]
      exact or_assoc.symm
    rw [split2, List.mem_filter, decide_eq_true_eq]
    by_cases m : z ∈ fz (ks gs) g.2
    · have r := (mem_rdr nd hg).mpr m
      rw [if_pos r]
      have := wait g hg m
      constructor
      · rintro (q | ⟨_, q⟩)
        · have := old.mp q
          omega
        · omega
      · intro q
        exact .inr ⟨r, by omega⟩
    · have r : g.1 ∉ rdr gs z := fun r => m ((mem_rdr nd hg).mp r)
      rw [if_neg r]
      exact ⟨fun q => q.elim old.mp fun x => absurd x.1 r, fun q => .inl (old.mpr q)⟩
  · intro pre x post e g hg ex y hy
    rcases List.eq_nil_or_concat post with rfl | ⟨post', b, rfl⟩
    · have e2 : t = pre ∧ z = x := by
        have := List.append_inj' e rfl
        exact ⟨this.1, (List.cons.inj this.2).1⟩
      obtain ⟨rfl, rfl⟩ := e2
      -- z was ready: it waited for nothing
      have : wf g.1 = 0 := (h.rdy g hg).mp (by rw [ex]; exact List.mem_append_right _ zy)
      rw [h.cnt g hg] at this
      have l0 : ((fz (ks gs) g.2).filter fun z => decide (z ∉ t)).length = 0 := by omega
      have := List.length_eq_zero_iff.mp l0
      rw [List.filter_eq_nil_iff] at this
      have := this y hy
      simpa using this
    · have e' : t ++ [z] = (pre ++ x :: post') ++ [b] := by rw [e]; simp
      have := List.append_inj' e' rfl
      exact h.tp pre x post' this.1 g hg ex y hy
theorem Half.done {t : List Str} {wf : Str → Int} (h : Half gs t [] wf) (nd : (ks gs).Nodup) (rk : Ranked gs) : Topo gs t := by
  obtain ⟨f, hf⟩ := rk
  have ndt : t.Nodup := by
    have := h.nd
    rwa [List.append_nil] at this
  have all : ∀ n, ∀ g ∈ gs, f g.1 ≤ n → g.1 ∈ t := by
    intro n
    induction n using Nat.strongRecOn with
    | ind n ih =>
      intro g hg le
      have : wf g.1 = 0 := by
        rw [h.cnt g hg]
        have : ((fz (ks gs) g.2).filter fun z => decide (z ∉ t)) = [] := by
          rw [List.filter_eq_nil_iff]
          intro y hy
          obtain ⟨y1, y2⟩ := mem_fz.mp hy
          have lt := hf g hg y y1 y2
          obtain ⟨g', hg', rfl⟩ := List.mem_map.mp y2
          have := ih (f g'.1) (by omega) g' hg' (Nat.le_refl _)
          simp [this]
        rw [this]
        rfl
      have := (h.rdy g hg).mpr this
      rwa [List.append_nil] at this
  refine ⟨?_, ?_⟩
  · refine (List.perm_ext_iff_of_nodup ndt nd).mpr fun a => ⟨fun m => h.sub a (List.mem_append_left _ m), fun m => ?_⟩
    obtain ⟨g, hg, rfl⟩ := List.mem_map.mp m
    exact all (f g.1) g hg (Nat.le_refl _)
  · intro pre z post e zs hz y hy hk
    exact h.tp pre z post e (z, zs) hz rfl y (mem_fz.mpr ⟨hy, hk⟩)
end
end C

set_option Elab.async false
set_option linter.all false
set_option maxRecDepth 100000
set_option maxHeartbeats 4000000
namespace W
open PySem PySem.Spec PyProof.Rows L2 Evl G C
theorem inj_nd {α β : Type} {f : α → β} : ∀ {l : List α}, (l.map f).Nodup → ∀ {a b : α}, a ∈ l → b ∈ l → f a = f b → a = b
  | [], _, _, _, h, _, _ => by cases h
  | c :: r, nd, a, b, ha, hb, e => by
    rw [List.map_cons, List.nodup_cons] at nd
    rcases List.mem_cons.mp ha with ha | ha <;> rcases List.mem_cons.mp hb with hb | hb
    · rw [ha, hb]
    · exact absurd (List.mem_map.mpr ⟨b, hb, by rw [← e, ha]⟩) nd.1
    · exact absurd (List.mem_map.mpr ⟨a, ha, by rw [e, hb]⟩) nd.1
    · exact inj_nd nd.2 ha hb e
/-! ### dicts from names to tuples of names -/
abbrev Pr := (Str × List Str) × Addr
def kvP (ps : List Pr) : List (Key × V) := ps.map fun p => (Sum.inr p.1.1, V.ref p.2)
structure KvT (K : PySem.W.Frag) (H : Hp) (kvs : List (Key × V)) (gs : List (Str × List Str)) (ps : List Pr) : Prop where
  fst : ps.map Prod.fst = gs
  kv : kvs = kvP ps
  each : ∀ p ∈ ps, SqT K H p.2 (p.1.2.map V.str)
section
variable {K : PySem.W.Frag} {H H' : Hp} {kvs : List (Key × V)} {gs : List (Str × List Str)} {ps : List Pr}
theorem KvT.ext (h : KvT K H kvs gs ps) (e : ∀ a xs, SqT K H a xs → SqT K H' a xs) : KvT K H' kvs gs ps := ⟨h.fst, h.kv, fun p hp => e _ _ (h.each p hp)⟩
theorem KvT.hit (h : KvT K H kvs gs ps) (nd : (ks gs).Nodup) {g : Str × List Str} (m : g ∈ gs) : ∃ t, valV kvs (Sum.inr g.1) = some (.ref t) ∧ SqT K H t (g.2.map V.str) := by
  rw [← h.fst] at m nd
  obtain ⟨p, hp, rfl⟩ := List.mem_map.mp m
  refine ⟨p.2, ?_, h.each p hp⟩
  rw [h.kv]
  refine valV_hit (fun p : Pr => (Sum.inr p.1.1 : Key)) (fun p => V.ref p.2) ps p hp fun b hb e => ?_
  unfold ks at nd
  rw [List.map_map] at nd
  exact inj_nd nd hb hp (Sum.inr.inj e)
theorem KvT.len (h : KvT K H kvs gs ps) : kvs.length = gs.length := by
  rw [h.kv, ← h.fst]
  simp [kvP]
theorem KvT.nth (h : KvT K H kvs gs ps) {i : Nat} {k : Key} {v : V} (e : kvs[i]? = some (k, v)) : ∃ g, gs[i]? = some g ∧ k = Sum.inr g.1 := by
  rw [h.kv] at e
  unfold kvP at e
  rw [List.getElem?_map] at e
  cases q : ps[i]? with
  | none => rw [q] at e; cases e
  | some p =>
    rw [q] at e
    refine ⟨p.1, ?_, ?_⟩
    · rw [← h.fst, List.getElem?_map, q]
      rfl
    · have := Option.some.inj e
      exact (congrArg Prod.fst this).symm
theorem KvT.isSome (h : KvT K H kvs gs ps) (z : Str) : (valV kvs (Sum.inr z)).isSome = decide (z ∈ ks gs) := by
  have q : valV kvs (Sum.inr z) = none ↔ z ∉ ks gs := by
    rw [h.kv]
    unfold kvP
    rw [valV_map (fun p : Pr => (Sum.inr p.1.1 : Key)) (fun p => V.ref p.2)]
    unfold ks
    rw [← h.fst, List.map_map]
    constructor
    · intro a m
      obtain ⟨p, hp, e⟩ := List.mem_map.mp m
      exact a p hp (congrArg Sum.inr e)
    · intro a p hp e
      exact a (List.mem_map.mpr ⟨p, hp, Sum.inr.inj e⟩)
  by_cases m : z ∈ ks gs
  · rw [decide_eq_true m]
    cases v : valV kvs (Sum.inr z) with
    | none => exact absurd m (q.mp v)
    | some _ => rfl
  · rw [decide_eq_false m, q.mpr m]
    rfl
end
/-! ### dicts from names to lists of names of their own -/
def kvR (rs : List (Str × Addr)) : List (Key × V) := rs.map fun r => (Sum.inr r.1, V.ref r.2)
structure RdO (H : Hp) (D : Addr) (rs : List (Str × Addr)) (R : Str → List Str) : Prop where
  at_ : H D = some (.dK (kvR rs))
  nk : (rs.map Prod.fst).Nodup
  na : (rs.map Prod.snd).Nodup
  each : ∀ r ∈ rs, H r.2 = some (.lst ((R r.1).map V.str))
section
variable {H H' : Hp} {D b : Addr} {rs : List (Str × Addr)} {R : Str → List Str} {o : HO}
theorem RdO.hit (h : RdO H D rs R) {r : Str × Addr} (m : r ∈ rs) : valV (kvR rs) (Sum.inr r.1) = some (.ref r.2) :=
  valV_hit (fun r : Str × Addr => (Sum.inr r.1 : Key)) (fun r => V.ref r.2) rs r m fun _ hb e => inj_nd h.nk hb m (Sum.inr.inj e)
theorem RdO.of {z : Str} (m : z ∈ rs.map Prod.fst) : ∃ l, (z, l) ∈ rs := by
  obtain ⟨r, hr, rfl⟩ := List.mem_map.mp m
  exact ⟨r.2, hr⟩
theorem RdO.other (h : RdO H D rs R) (h1 : b ≠ D) (h2 : b ∉ rs.map Prod.snd) : RdO (upd H b o) D rs R := by
  refine ⟨?_, h.nk, h.na, fun r hr => ?_⟩
  · rw [upd_ne (Ne.symm h1)]
    exact h.at_
  · rw [upd_ne fun e => h2 (List.mem_map.mpr ⟨r, hr, e⟩)]
    exact h.each r hr
theorem RdO.ext (h : RdO H D rs R) (e : Ex H H') : RdO H' D rs R := ⟨e _ _ h.at_, h.nk, h.na, fun r hr => e _ _ (h.each r hr)⟩
theorem RdO.put (h : RdO H D rs R) {z x : Str} {l : Addr} (m : (z, l) ∈ rs) : RdO (upd H l (.lst ((R z).map V.str ++ [.str x]))) D rs (fun y => if y = z then R y ++ [x] else R y) := by
  refine ⟨?_, h.nk, h.na, fun r hr => ?_⟩
  · rw [upd_ne fun e => ?_]
    · exact h.at_
    · have := h.each _ m
      rw [← e, h.at_] at this
      cases this
  · by_cases e : r.1 = z
    · have : r = (z, l) := inj_nd h.nk hr m e
      subst this
      rw [upd_same]
      simp
    · rw [upd_ne fun q => e (congrArg Prod.fst (inj_nd h.na hr m q))]
      rw [h.each r hr]
      simp [e]
theorem RdO.congr (h : RdO H D rs R) {R' : Str → List Str} (e : ∀ r ∈ rs, R' r.1 = R r.1) : RdO H D rs R' := ⟨h.at_, h.nk, h.na, fun r hr => by rw [e r hr]; exact h.each r hr⟩
end
/-! ### what sequence_of holds -/
structure Fr (HL : Hp) (W D Y : Addr) (rs : List (Str × Addr)) : Prop where
  wd : W ≠ D
  yr : Y ∉ rs.map Prod.snd
  nw : HL W = none
  nd : HL D = none
  ny : HL Y = none
  nr : ∀ r ∈ rs, HL r.2 = none
structure Sx (HL : Hp) (W D Y : Addr) (rs : List (Str × Addr)) (Hc : Hp) (wl : List (Key × V)) (R : Str → List Str) (y : List Str) : Prop where
  ex : Ex HL Hc
  w : Hc W = some (.dK wl)
  d : RdO Hc D rs R
  y : Hc Y = some (.lst (y.map V.str))
section
variable {HL Hc H' : Hp} {W D Y b : Addr} {rs : List (Str × Addr)} {wl wl' : List (Key × V)} {R : Str → List Str} {y y' : List Str} {o : HO}
theorem Sx.ext (s : Sx HL W D Y rs Hc wl R y) (e : Ex Hc H') : Sx HL W D Y rs H' wl R y := ⟨s.ex.trans e, e _ _ s.w, s.d.ext e, e _ _ s.y⟩
theorem Sx.wr (s : Sx HL W D Y rs Hc wl R y) : W ∉ rs.map Prod.snd := fun m => by
  obtain ⟨r, hr, e⟩ := List.mem_map.mp m
  have := s.d.each r hr
  rw [e, s.w] at this
  cases this
theorem Sx.wy (s : Sx HL W D Y rs Hc wl R y) : W ≠ Y := fun e => by
  have := s.y
  rw [← e, s.w] at this
  cases this
theorem Sx.yd (s : Sx HL W D Y rs Hc wl R y) : Y ≠ D := fun e => by
  have := s.y
  rw [e, s.d.at_] at this
  cases this
theorem Sx.putW (F : Fr HL W D Y rs) (s : Sx HL W D Y rs Hc wl R y) : Sx HL W D Y rs (upd Hc W (.dK wl')) wl' R y :=
  ⟨s.ex.mut F.nw, upd_same, s.d.other F.wd s.wr, by rw [upd_ne (Ne.symm s.wy)]; exact s.y⟩
theorem Sx.putY (F : Fr HL W D Y rs) (s : Sx HL W D Y rs Hc wl R y) : Sx HL W D Y rs (upd Hc Y (.lst (y'.map V.str))) wl R y' :=
  ⟨s.ex.mut F.ny, by rw [upd_ne s.wy]; exact s.w, s.d.other s.yd F.yr, upd_same⟩
theorem Sx.putR (F : Fr HL W D Y rs) (s : Sx HL W D Y rs Hc wl R y) {z x : Str} {l : Addr} (m : (z, l) ∈ rs) : Sx HL W D Y rs (upd Hc l (.lst ((R z).map V.str ++ [.str x]))) wl (fun y => if y = z then R y ++ [x] else R y) y := by
  have lin : l ∈ rs.map Prod.snd := List.mem_map.mpr ⟨_, m, rfl⟩
  refine ⟨s.ex.mut (F.nr _ m), ?_, s.d.put m, ?_⟩
  · rw [upd_ne fun e => s.wr (by rw [e]; exact lin)]
    exact s.w
  · rw [upd_ne fun e => F.yr (by rw [e]; exact lin)]
    exact s.y
theorem Sx.other (s : Sx HL W D Y rs Hc wl R y) (nb : HL b = none) (h1 : b ≠ W) (h2 : b ≠ D) (h3 : b ≠ Y) (h4 : b ∉ rs.map Prod.snd) : Sx HL W D Y rs (upd Hc b o) wl R y :=
  ⟨s.ex.mut nb, by rw [upd_ne (Ne.symm h1)]; exact s.w, s.d.other h2 h4, by rw [upd_ne (Ne.symm h3)]; exact s.y⟩
theorem Sx.congr (s : Sx HL W D Y rs Hc wl R y) {R' : Str → List Str} (e : ∀ r ∈ rs, R' r.1 = R r.1) : Sx HL W D Y rs Hc wl R' y := ⟨s.ex, s.w, s.d.congr e, s.y⟩
end
/-- the numbers that each waits for -/
def kvW (zs : List Str) (wf : Str → Int) : List (Key × V) := zs.map fun z => (Sum.inr z, .int (wf z))
theorem kvW_hit {zs : List Str} {wf : Str → Int} {z : Str} (m : z ∈ zs) : valV (kvW zs wf) (Sum.inr z) = some (.int (wf z)) :=
  valV_hit (fun z : Str => (Sum.inr z : Key)) (fun z => .int (wf z)) zs z m fun _ _ e => Sum.inr.inj e
theorem kvW_put {zs : List Str} {wf : Str → Int} {z : Str} {i : Int} (m : z ∈ zs) : putK (kvW zs wf) (Sum.inr z) (.int i) = kvW zs (fun y => if y = z then i else wf y) := by
  unfold putK
  have q : ((kvW zs wf).any fun kv => decide (kv.1 = (Sum.inr z : Key))) = true := List.any_eq_true.mpr ⟨(Sum.inr z, .int (wf z)), List.mem_map.mpr ⟨z, m, rfl⟩, decide_eq_true rfl⟩
  rw [if_pos q]
  unfold kvW
  rw [List.map_map]
  refine List.map_congr_left fun y _ => ?_
  show (if (Sum.inr y : Key) = Sum.inr z then _ else _) = _
  by_cases e : y = z
  · rw [if_pos (by rw [e])]
    simp [e]
  · rw [if_neg fun q => e (Sum.inr.inj q)]
    simp [e]
theorem kvW_new {zs : List Str} {wf : Str → Int} {z : Str} (m : z ∉ zs) : putK (kvW zs wf) (Sum.inr z) (.int (wf z)) = kvW (zs ++ [z]) wf := by
  have q : valV (kvW zs wf) (Sum.inr z) = none := (valV_map (fun z : Str => (Sum.inr z : Key)) (fun z => V.int (wf z)) zs _).mpr fun a ha e => m (by cases e; exact ha)
  rw [putK_new q]
  simp [kvW]
end W

set_option Elab.async false
set_option linter.all false
set_option maxRecDepth 100000
set_option maxHeartbeats 8000000
namespace W
open PySem PySem.Spec PyProof.Rows L2 Evl G C
def spSeqOf (K : PySem.W.Frag) : Sp := fun vs H Q _ => ∃ (a : Addr) (kvs : List (Key × V)) (gs : List (Str × List Str)) (ps : List Pr), vs = [.ref a] ∧ H a = some (.dK kvs) ∧ KvT K H kvs gs ps ∧ (ks gs).Nodup ∧ Ranked gs ∧ gs.length ≤ 60 ∧ (∀ g ∈ gs, g.2.length ≤ 50) ∧
  ∀ (l : Addr) (seq : List Str) (H' : Hp), Ex H H' → H l = none → H' l = some (.lst (seq.map V.str)) → Topo gs seq → Q (.ref l) H'
theorem len_sub : ∀ {l m : List Str}, l.Nodup → (∀ x ∈ l, x ∈ m) → l.length ≤ m.length
  | [], _, _, _ => Nat.zero_le _
  | x :: r, m, nd, h => by
    obtain ⟨n1, n2⟩ := List.nodup_cons.mp nd
    have hx := h x List.mem_cons_self
    have ih := len_sub (m := m.erase x) n2 fun z hz => (List.mem_erase_of_ne fun e => n1 (by rw [← e]; exact hz)).mpr (h z (List.mem_cons_of_mem _ hz))
    rw [List.length_erase_of_mem hx] at ih
    have := List.length_pos_of_mem hx
    rw [List.length_cons]
    omega
abbrev nSeqOf : List Str := ["sources", "waits", "gate", "readers", "ready", "source", "ahead", "told", "reader"]
section
variable {K : PySem.W.Frag} {w : World} {HL Hc : Hp} {W D Y a p : Addr} {rs : List (Str × Addr)} {wl : List (Key × V)} {R : Str → List Str} {y : List Str} {En : Ends}
/-- readers[source].append(gate) for each of the ahead ones -/
theorem loopA {z : Str} {u5 : Option V} {ys : List Str} (F : Fr HL W D Y rs) (s : Sx HL W D Y rs Hc wl R y) (hp : Hc p = some (.lst (ys.map V.str))) (pr : p ∉ rs.map Prod.snd) (nd : ys.Nodup) (sub : ∀ x ∈ ys, x ∈ rs.map Prod.fst) (sm : ∀ r ∈ rs, (R r.1).length ≤ 1000)
    (k : ∀ H' u, Sx HL W D Y rs H' wl (fun x => if x ∈ ys then R x ++ [z] else R x) y → H' p = some (.lst (ys.map V.str)) → En.nx [some (.ref a), some (.ref W), some (.str z), some (.ref D), some (.ref Y), u, some (.ref p), none, none] H') :
    tFor (iList K (tVar 6)) (gName 5) (tDrop (tBM K "list" rAppend (tDGet (tVar 3) (tVar 5)) (tCons (tVar 2) tNil))) En [some (.ref a), some (.ref W), some (.str z), some (.ref D), some (.ref Y), u5, some (.ref p), none, none] Hc := by
  refine ⟨_, rfl, p, rfl, ⟨_, SqL.of hp⟩, for_list (K := K) (a := p) (xs := ys.map V.str) (fun j σ H' => (∃ u, σ = [some (.ref a), some (.ref W), some (.str z), some (.ref D), some (.ref Y), u, some (.ref p), none, none]) ∧
    Sx HL W D Y rs H' wl (fun x => if x ∈ ys.take j then R x ++ [z] else R x) y ∧ H' p = some (.lst (ys.map V.str))) ⟨⟨_, rfl⟩, s.congr fun r _ => by simp, hp⟩ (fun j σ H' _ q => SqL.of q.2.2) (fun j v σ H' hv q => ?_) (fun σ H' q => ?_)⟩
  · obtain ⟨⟨u, rfl⟩, s1, hp1⟩ := q
    obtain ⟨x, ex, rfl⟩ := nth_map hv
    have xin : x ∈ ys := List.mem_of_getElem? ex
    obtain ⟨l, ml⟩ := RdO.of (sub x xin)
    have notyet := not_in_take nd ex
    have hl := s1.d.each _ ml
    rw [if_neg notyet] at hl
    refine ⟨_, rfl, _, rfl, D, .ref l, rfl, ?_, .inl ⟨rfl, _, SqL.of hl⟩, _, rfl, l, _, _, rfl, rfl, hl, ?_, ⟨_, rfl⟩, ?_, ?_⟩
    · have q := DGet.k (k := Sum.inr x) s1.d.at_
      rw [s1.d.hit ml] at q
      exact q
    · rw [List.length_map]
      exact Nat.lt_of_le_of_lt (sm _ ml) (by decide)
    · have s2 := s1.putR F (x := z) ml
      rw [if_neg notyet] at s2
      refine s2.congr fun r hr => ?_
      rw [take_more ex]
      by_cases e : r.1 = x
      · rw [e]
        simp [notyet]
      · simp [e]
    · rw [upd_ne fun e => pr (by rw [e]; exact List.mem_map.mpr ⟨_, ml, rfl⟩)]
      exact hp1
  · obtain ⟨⟨u, rfl⟩, s1, hp1⟩ := q
    refine k H' u (s1.congr fun r _ => ?_) hp1
    rw [List.length_map, List.take_length]
/-- waits, and what is ready behind it, of each that read it -/
theorem loopB {z : Str} {u8 : Option V} {q : Addr} {zs : List Str} {wf : Str → Int} {t : List Str} {ksl : List Str} (F : Fr HL W D Y rs) (s : Sx HL W D Y rs Hc (kvW ksl wf) R y) (hz : (z, q) ∈ rs) (eR : R z = zs) (nd : zs.Nodup) (sub : ∀ x ∈ zs, x ∈ ksl) (sm : y.length + zs.length ≤ 800)
    (T : Addr) (hT : Hc T = some (.lst (t.map V.str))) (tw : T ≠ W) (ty : T ≠ Y) {u5 u6 : Option V} (few : ksl.length ≤ 1000)
    (k : ∀ H' u y', Sx HL W D Y rs H' (kvW ksl (fun x => if x ∈ zs then wf x - 1 else wf x)) R y' → y'.Perm (y ++ zs.filter fun x => decide (wf x = 1)) → H' T = some (.lst (t.map V.str)) → En.nx [some (.ref a), some (.ref W), some (.str z), some (.ref D), some (.ref Y), u5, u6, some (.ref T), u] H') :
    tFor (iList K (tDGet (tVar 3) (tVar 2))) (gName 8) (tSeq (sDAug (tVar 1) (tVar 8) (tC (.int 1)) rSub) (tIfS (tB (tOp rEq (tDGet (tVar 1) (tVar 8)) (tC (.int 0)))) (tDrop (tCB rPush (tCons (tVar 4) (tCons (tVar 8) tNil)))) tNext)) En
      [some (.ref a), some (.ref W), some (.str z), some (.ref D), some (.ref Y), u5, u6, some (.ref T), u8] Hc := by
  have hq := s.d.each _ hz
  have g0 := DGet.k (k := Sum.inr z) s.d.at_
  rw [s.d.hit hz] at g0
  rw [eR] at hq
  refine ⟨_, rfl, _, rfl, D, .ref q, rfl, g0, q, rfl, ⟨_, SqL.of hq⟩, for_list (K := K) (a := q) (xs := zs.map V.str) (fun j σ H' => (∃ u, σ = [some (.ref a), some (.ref W), some (.str z), some (.ref D), some (.ref Y), u5, u6, some (.ref T), u]) ∧
    (∃ y', Sx HL W D Y rs H' (kvW ksl (fun x => if x ∈ zs.take j then wf x - 1 else wf x)) R y' ∧ y'.Perm (y ++ (zs.take j).filter fun x => decide (wf x = 1))) ∧ H' T = some (.lst (t.map V.str))) ⟨⟨_, rfl⟩, ⟨y, ?_, by simp⟩, hT⟩ (fun j σ H' _ p => ?_) (fun j v σ H' hv p => ?_) (fun σ H' p => ?_)⟩
  · have e : (fun x => if x ∈ zs.take 0 then wf x - 1 else wf x) = wf := by
      funext x
      simp
    rw [e]
    exact s
  · obtain ⟨_, ⟨y', s1, _⟩, _⟩ := p
    have := s1.d.each _ hz
    rw [eR] at this
    exact SqL.of this
  · obtain ⟨⟨u, rfl⟩, ⟨y', s1, pm⟩, hT1⟩ := p
    obtain ⟨x, ex, rfl⟩ := nth_map hv
    have xin : x ∈ zs := List.mem_of_getElem? ex
    have notyet := not_in_take nd ex
    have hx := kvW_hit (wf := fun x => if x ∈ zs.take j then wf x - 1 else wf x) (sub x xin)
    have hx' : valV (kvW ksl fun x => if x ∈ zs.take j then wf x - 1 else wf x) (Sum.inr x) = some (.int (wf x)) := by
      rw [hx]
      simp [notyet]
    have g1 := DGet.k (k := Sum.inr x) s1.w
    rw [hx'] at g1
    have lenW : (kvW ksl fun x => if x ∈ zs.take j then wf x - 1 else wf x).length < sizeLine := by
      unfold kvW
      rw [List.length_map]
      exact Nat.lt_of_le_of_lt few (by decide)
    have same : (fun y_1 => if y_1 = x then wf x - 1 else if y_1 ∈ zs.take j then wf y_1 - 1 else wf y_1) = fun x => if x ∈ zs.take (j + 1) then wf x - 1 else wf x := by
      funext b
      rw [take_more ex]
      by_cases e : b = x
      · subst e
        simp
      · simp [e]
    have s2 : Sx HL W D Y rs (upd H' W (.dK (putK (kvW ksl fun x => if x ∈ zs.take j then wf x - 1 else wf x) (Sum.inr x) (.int (wf x - 1))))) (kvW ksl fun x => if x ∈ zs.take (j + 1) then wf x - 1 else wf x) R y' := by
      rw [kvW_put (sub x xin), same]
      exact s1.putW F
    have g2 := DGet.k (k := Sum.inr x) s2.w
    have hx2 : valV (kvW ksl fun x => if x ∈ zs.take (j + 1) then wf x - 1 else wf x) (Sum.inr x) = some (.int (wf x - 1)) := by
      rw [kvW_hit (sub x xin), take_more ex]
      simp
    rw [hx2] at g2
    have hT2 : (upd H' W (.dK (putK (kvW ksl fun x => if x ∈ zs.take j then wf x - 1 else wf x) (Sum.inr x) (.int (wf x - 1))))) T = some (.lst (t.map V.str)) := by
      rw [upd_ne tw]
      exact hT1
    refine ⟨_, rfl, _, rfl, W, .int (wf x), rfl, g1, wf x, 1, rfl, rfl, _, DPut.k (k := Sum.inr x) s1.w lenW, ?_⟩
    refine ⟨_, rfl, _, rfl, W, .int (wf x - 1), rfl, g2, rfl, _, rfl, ?_⟩
    by_cases e : wf x = 1
    · rw [show decide (V.int (wf x - 1) = V.int 0) = true from decide_eq_true (by rw [e]; rfl)]
      refine iteT ⟨_, rfl, _, rfl, Y, x, y', rfl, s2.y, ?_, fun y2 p2 => ⟨⟨_, rfl⟩, ⟨y2, s2.putY F, ?_⟩, ?_⟩⟩
      · have := pm.length_eq
        have l1 : ((zs.take j).filter fun x => decide (wf x = 1)).length ≤ zs.length := Nat.le_trans (List.length_filter_le _ _) (by rw [List.length_take]; omega)
        rw [List.length_append] at this
        omega
      · rw [take_more ex, List.filter_append]
        have e2 : [x].filter (fun x => decide (wf x = 1)) = [x] := by simp [e]
        rw [e2, ← List.append_assoc]
        exact p2.trans ((List.Perm.cons x pm).trans (List.perm_append_singleton x _).symm)
      · rw [upd_ne ty]
        exact hT2
    · rw [show decide (V.int (wf x - 1) = V.int 0) = false from decide_eq_false fun z => e (by have := V.int.inj z; omega)]
      refine iteF ⟨⟨_, rfl⟩, ⟨y', s2, ?_⟩, hT2⟩
      rw [take_more ex, List.filter_append]
      have e2 : [x].filter (fun x => decide (wf x = 1)) = [] := by simp [e]
      rw [e2, List.append_nil]
      exact pm
  · obtain ⟨⟨u, rfl⟩, ⟨y', s1, pm⟩, hT1⟩ := p
    rw [List.length_map, List.take_length] at s1 pm
    exact k H' u y' s1 pm hT1
end
section
variable {HL H Hc H' : Hp} {W D Y a : Addr} {rs : List (Str × Addr)} {wl : List (Key × V)} {R : Str → List Str} {y : List Str} {u : HO} {o : Obj}
theorem Fr.lock (F : Fr H W D Y rs) (ha : H a = some u) : Fr (upd H a (.frz o u)) W D Y rs := by
  have q : ∀ b, H b = none → (upd H a (.frz o u)) b = none := fun b n => by
    rw [upd_ne (fun e => by rw [e, ha] at n; cases n)]
    exact n
  exact ⟨F.wd, F.yr, q _ F.nw, q _ F.nd, q _ F.ny, fun r hr => q _ (F.nr r hr)⟩
theorem ex_lock (e : Ex H H') (ha : H a = some u) : Ex (upd H a (.frz o u)) (upd H' a (.frz o u)) := fun b v hb => by
  by_cases z : b = a
  · rw [z, upd_same] at hb ⊢
    exact hb
  · rw [upd_ne z] at hb ⊢
    exact e b v hb
theorem Sx.lock (F : Fr H W D Y rs) (s : Sx H W D Y rs Hc wl R y) (ha : H a = some u) : Sx (upd H a (.frz o u)) W D Y rs (upd Hc a (.frz o u)) wl R y := by
  have ne : ∀ b, H b = none → b ≠ a := fun b n e => by rw [e, ha] at n; cases n
  refine ⟨ex_lock s.ex ha, ?_, s.d.other (Ne.symm (ne _ F.nd)) (fun m => ?_), ?_⟩
  · rw [upd_ne (ne _ F.nw)]
    exact s.w
  · obtain ⟨r, hr, e⟩ := List.mem_map.mp m
    exact ne _ (F.nr r hr) e
  · rw [upd_ne (ne _ F.ny)]
    exact s.y
theorem Sx.unlock (F : Fr H W D Y rs) (ha : H a = some u) (s : Sx (upd H a (.frz o u)) W D Y rs Hc wl R y) : Sx H W D Y rs (upd Hc a u) wl R y := by
  have ne : ∀ b, H b = none → b ≠ a := fun b n e => by rw [e, ha] at n; cases n
  refine ⟨ex_unlock ha s.ex, ?_, s.d.other (Ne.symm (ne _ F.nd)) (fun m => ?_), ?_⟩
  · rw [upd_ne (ne _ F.nw)]
    exact s.w
  · obtain ⟨r, hr, e⟩ := List.mem_map.mp m
    exact ne _ (F.nr r hr) e
  · rw [upd_ne (ne _ F.ny)]
    exact s.y
end
def wf0 (gs : List (Str × List Str)) : Str → Int := fun z => match gs.find? fun g => decide (g.1 = z) with
  | some g => ((fz (ks gs) g.2).length : Nat)
  | none => 0
theorem wf0_at {gs : List (Str × List Str)} (nd : (ks gs).Nodup) {g : Str × List Str} (h : g ∈ gs) : wf0 gs g.1 = ((fz (ks gs) g.2).length : Nat) := by
  unfold wf0
  have q : gs.find? (fun x => decide (x.1 = g.1)) = some g := by
    cases e : gs.find? (fun x => decide (x.1 = g.1)) with
    | none =>
      have := List.find?_eq_none.mp e g h
      simp at this
    | some g' =>
      have h1 := List.mem_of_find?_eq_some e
      have h2 := of_decide_eq_true (List.find?_some (p := fun x : Str × List Str => decide (x.1 = g.1)) e)
      rw [eq_of_nd nd h1 h h2]
  rw [q]
section
variable {K : PySem.W.Frag} {w : World} {HL : Hp} {W D Y a : Addr} {rs : List (Str × Addr)} {En : Ends} {gs : List (Str × List Str)} {kvs : List (Key × V)} {ps : List Pr} {od : Obj}
/-- {gate: [] for gate in sources} -/
theorem mkR {Qd : Hp → Prop} (hk : KvT K HL kvs gs ps) (nd : (ks gs).Nodup) (few : gs.length ≤ 1000) (ha : HL a = some (.frz od (.dK kvs))) (nD : HL D = none)
    (hd : ∀ H' rs, Ex HL H' → RdO H' D rs (fun _ => []) → rs.map Prod.fst = ks gs → (∀ r ∈ rs, HL r.2 = none) → Qd H') :
    DcG (Itk a od kvs) (gName 2) tYes (tVar 2) (tLst tNil) [2] [some (.ref a), some (.ref W), none, none, none, none, none, none, none] HL D Qd := by
  have len := hk.len
  have lk : (ks gs).length = gs.length := by unfold ks; rw [List.length_map]
  refine dc_it walk_keys (fun i Hc => Ex HL Hc ∧ ∃ rs, RdO Hc D rs (fun _ => []) ∧ rs.map Prod.fst = (ks gs).take i ∧ ∀ r ∈ rs, HL r.2 = none) ⟨Ex.new nD, [], ⟨upd_same, List.nodup_nil, List.nodup_nil, fun r m => by cases m⟩, by simp, fun r m => by cases m⟩
    (fun i Hx _ p => p.1 _ _ ha) (fun i x Ha Hb hi p yy => ?_) (fun Hx p => ?_)
  · obtain ⟨rfl, k, v, ek, rfl⟩ := yy
    obtain ⟨g, eg, rfl⟩ := hk.nth ek
    obtain ⟨eA, rs, h, hf, hn⟩ := p
    refine ⟨wipe_set _ 2 _, ?_⟩
    refine ⟨_, rfl, by decide, fun q nq => ?_⟩
    have eg' : (ks gs)[i]? = some g.1 := by
      unfold ks
      rw [List.getElem?_map, eg]
      rfl
    have gnot : g.1 ∉ rs.map Prod.fst := by
      rw [hf]
      exact not_in_take nd eg'
    have qD : q ≠ D := fun e => by rw [e, h.at_] at nq; cases nq
    have qr : q ∉ rs.map Prod.snd := fun m => by
      obtain ⟨r, hr, e⟩ := List.mem_map.mp m
      rw [← e, h.each r hr] at nq
      cases nq
    have kn : putK (kvR rs) (Sum.inr g.1) (.ref q) = kvR (rs ++ [(g.1, q)]) := by
      have q0 : valV (kvR rs) (Sum.inr g.1) = none := (valV_map (fun r : Str × Addr => (Sum.inr r.1 : Key)) (fun r => V.ref r.2) rs _).mpr fun r hr e => gnot (List.mem_map.mpr ⟨r, hr, Sum.inr.inj e⟩)
      rw [putK_new q0]
      simp [kvR]
    refine ⟨kvR rs, Sum.inr g.1, rfl, ?_, ?_, ?_, rs ++ [(g.1, q)], ?_, ?_, ?_⟩
    · rw [upd_ne (Ne.symm qD)]
      exact h.at_
    · have := congrArg List.length hf
      rw [List.length_map, List.length_take] at this
      unfold kvR
      rw [List.length_map]
      exact Nat.lt_of_le_of_lt (show rs.length ≤ 1000 by omega) (by decide)
    · exact (eA.trans (Ex.new nq)).mut nD
    · rw [kn]
      refine ⟨upd_same, ?_, ?_, ?_⟩
      · rw [List.map_append]
        exact List.nodup_append.mpr ⟨h.nk, by simp, fun x hx z hz e => by simp at hz; exact gnot (by rw [← hz, ← e]; exact hx)⟩
      · rw [List.map_append]
        exact List.nodup_append.mpr ⟨h.na, by simp, fun x hx z hz e => by simp at hz; exact qr (by rw [← hz, ← e]; exact hx)⟩
      · intro r hr
        rcases List.mem_append.mp hr with hr | hr
        · have := h.each r hr
          rw [upd_ne (fun e => by rw [e, h.at_] at this; cases this), upd_ne (fun e => qr (List.mem_map.mpr ⟨r, hr, e⟩))]
          exact this
        · rw [List.mem_singleton.mp hr, upd_ne qD, upd_same]
          rfl
    · rw [List.map_append, hf, take_more eg']
      rfl
    · intro r hr
      rcases List.mem_append.mp hr with hr | hr
      · exact hn r hr
      · rw [List.mem_singleton.mp hr]
        exact ex_none eA nq
  · obtain ⟨eA, rs, h, hf, hn⟩ := p
    refine hd Hx rs eA h ?_ hn
    rw [hf, len, ← lk, List.take_length]
def Ri (gs : List (Str × List Str)) (i : Nat) : Str → List Str := fun x => ((gs.take i).filter fun g => decide (x ∈ fz (ks gs) g.2)).map Prod.fst
def Yi (gs : List (Str × List Str)) (i : Nat) : List Str := ((gs.take i).filter fun g => decide (fz (ks gs) g.2 = [])).map Prod.fst
theorem Ri_more {i : Nat} {g : Str × List Str} (e : gs[i]? = some g) (x : Str) : Ri gs (i + 1) x = if x ∈ fz (ks gs) g.2 then Ri gs i x ++ [g.1] else Ri gs i x := by
  unfold Ri
  rw [take_more e, List.filter_append, List.map_append]
  by_cases m : x ∈ fz (ks gs) g.2
  · simp [m]
  · simp [m]
theorem Yi_more {i : Nat} {g : Str × List Str} (e : gs[i]? = some g) : Yi gs (i + 1) = if fz (ks gs) g.2 = [] then Yi gs i ++ [g.1] else Yi gs i := by
  unfold Yi
  rw [take_more e, List.filter_append, List.map_append]
  by_cases m : fz (ks gs) g.2 = []
  · simp [m]
  · simp [m]
theorem Ri_len (i : Nat) (x : Str) : (Ri gs i x).length ≤ gs.length := by
  unfold Ri
  rw [List.length_map]
  exact Nat.le_trans (List.length_filter_le _ _) (by rw [List.length_take]; omega)
theorem Yi_len (i : Nat) : (Yi gs i).length ≤ gs.length := by
  unfold Yi
  rw [List.length_map]
  exact Nat.le_trans (List.length_filter_le _ _) (by rw [List.length_take]; omega)
/-- the first walk over the gates -/
theorem loopG {Hc : Hp} {u2 u5 u6 : Option V} {y0 : List Str} (F : Fr HL W D Y rs) (s : Sx HL W D Y rs Hc (kvW [] (wf0 gs)) (Ri gs 0) y0) (hy0 : y0.Perm (Yi gs 0)) (hk : KvT K HL kvs gs ps) (ext : ∀ H', Ex HL H' → KvT K H' kvs gs ps) (nd : (ks gs).Nodup) (hr : rs.map Prod.fst = ks gs) (few : gs.length ≤ 60) (few2 : ∀ g ∈ gs, g.2.length ≤ 50) (ha : HL a = some (.frz od (.dK kvs)))
    (k : ∀ H' u2 u5 u6 y, Sx HL W D Y rs H' (kvW (ks gs) (wf0 gs)) (rdr gs) y → y.Perm ((gs.filter fun g => decide (fz (ks gs) g.2 = [])).map Prod.fst) → En.nx [some (.ref a), some (.ref W), u2, some (.ref D), some (.ref Y), u5, u6, none, none] H') :
    tFor (iKeys (tVar 0)) (gName 2) (tSeq (tAsg (tCB (rSortX w) (tCons (tSx w (iTup K (tDGet (tVar 0) (tVar 2))) (gName 5) (tB (tDIn (tVar 5) (tVar 0))) (tVar 5) [5]) tNil)) (gName 6))
        (tSeq (sDPut (tVar 1) (tVar 2) (tCB (fun xs H Q => ∃ p ys, xs = [V.ref p] ∧ (SqL K H p ys ∨ SqT K H p ys) ∧ Q (V.int (ys.length : Int)) H) (tCons (tVar 6) tNil)))
        (tSeq (tFor (iList K (tVar 6)) (gName 5) (tDrop (tBM K "list" rAppend (tDGet (tVar 3) (tVar 5)) (tCons (tVar 2) tNil))))
          (tIfS (tNot fun σ H Q => tVar 6 σ H fun x H' => ∃ k, TruV K x H' k ∧ Q k H') (tDrop (tCB rPush (tCons (tVar 4) (tCons (tVar 2) tNil)))) tNext)))) En
      [some (.ref a), some (.ref W), u2, some (.ref D), some (.ref Y), u5, u6, none, none] Hc := by
  have len := hk.len
  have lk : (ks gs).length = gs.length := by unfold ks; rw [List.length_map]
  refine ⟨_, rfl, a, od, rfl, .inl ⟨kvs, s.ex _ _ ha, for_it walk_keys (fun i σ H' => (∃ u2 u5 u6, σ = [some (.ref a), some (.ref W), u2, some (.ref D), some (.ref Y), u5, u6, none, none]) ∧
    ∃ y, Sx HL W D Y rs H' (kvW ((ks gs).take i) (wf0 gs)) (Ri gs i) y ∧ y.Perm (Yi gs i)) ⟨⟨_, _, _, rfl⟩, y0, s, hy0⟩ (fun i σ H' _ p => ?_) (fun i x σ Hz Ha hi p yy => ?_) (fun σ H' p => ?_)⟩⟩
  · obtain ⟨_, y, s1, _⟩ := p
    exact s1.ex _ _ ha
  · obtain ⟨rfl, kk, v, ek, rfl⟩ := yy
    obtain ⟨g, eg, rfl⟩ := hk.nth ek
    obtain ⟨⟨u2, u5, u6, rfl⟩, y, s1, pm⟩ := p
    have gin : g ∈ gs := List.mem_of_getElem? eg
    have eg' : (ks gs)[i]? = some g.1 := by
      unfold ks
      rw [List.getElem?_map, eg]
      rfl
    have gnot := not_in_take nd eg'
    obtain ⟨t, ht, hst⟩ := (ext _ s1.ex).hit nd gin
    have frz : ∀ H', Ex Ha H' → H' a = some (.frz od (.dK kvs)) := fun H' e => e _ _ (s1.ex _ _ ha)
    refine ⟨_, rfl, _, rfl, a, .ref t, rfl, .inl ⟨kvs, Sum.inr g.1, .inr ⟨od, frz _ (Ex.refl _)⟩, rfl, ht.symm⟩, t, rfl, ⟨_, hst⟩, fun S nS => ?_⟩
    refine walks_tup (K := K) (w := w) (a := t) (D := S) (xs := g.2.map V.str) (fun j H' => Ex Ha H' ∧ H' S = some (setO w S (fz (ks gs) (g.2.take j)))) ⟨Ex.new nS, upd_same⟩ (fun j H' _ p => ex_t p.1 hst) (fun j x H' hx p => ?_) (fun H2 p => ?_)
    · obtain ⟨e1, hS⟩ := p
      obtain ⟨z, ez, rfl⟩ := nth_map hx
      refine ⟨wipe_set _ 5 _, ?_⟩
      refine ⟨_, rfl, _, rfl, a, _, rfl, .inl ⟨kvs, Sum.inr z, .inr ⟨od, frz _ e1⟩, rfl, rfl⟩, _, rfl, ?_⟩
      rw [hk.isSome z]
      by_cases m : z ∈ ks gs
      · rw [decide_eq_true m]
        refine iteT ⟨_, rfl, z, _, rfl, hS, ?_, e1.mut nS, ?_⟩
        · have := Nat.le_trans (len_fz (ks := ks gs) (zs := g.2.take j)) (show (g.2.take j).length ≤ 50 by rw [List.length_take]; have := few2 g gin; omega)
          have : (50 : Nat) + 1 < scanBound := by decide
          omega
        · rw [upd_same, take_more ez, fz_snoc, if_pos m]
      · rw [decide_eq_false m]
        refine iteF ⟨e1, ?_⟩
        rw [hS, take_more ez, fz_snoc, if_neg m]
    · obtain ⟨e2, hS⟩ := p
      rw [List.length_map, List.take_length] at hS
      have l1 := Nat.le_trans (len_fz (ks := ks gs) (zs := g.2)) (few2 g gin)
      refine ⟨S, _, rfl, hS, by omega, fun ys q pys nq => ?_⟩
      have e3 : Ex Ha (upd H2 q (.lst (ys.map V.str))) := e2.trans (Ex.new nq)
      have s2 := s1.ext e3
      have nq0 : Ha q = none := ex_none e2 nq
      have qr : q ∉ rs.map Prod.snd := fun m => by
        obtain ⟨r, hr, e⟩ := List.mem_map.mp m
        rw [← e, s1.d.each r hr] at nq0
        cases nq0
      have qW : q ≠ W := fun e => by rw [e, s1.w] at nq0; cases nq0
      have hq : (upd H2 q (.lst (ys.map V.str))) q = some (.lst (ys.map V.str)) := upd_same
      generalize upd H2 q (.lst (ys.map V.str)) = H3 at s2 hq e3
      have nys : ys.Nodup := pys.nodup_iff.mpr nd_fz
      refine ⟨_, rfl, q, _, rfl, .inl (SqL.of hq), _, rfl, _, rfl, W, _, rfl, DPut.k (k := Sum.inr g.1) s2.w ?_, ?_⟩
      · unfold kvW
        rw [List.length_map, List.length_take]
        exact Nat.lt_of_le_of_lt (show min i (ks gs).length ≤ 1000 by omega) (by decide)
      · have wl : (V.int ((ys.map V.str).length : Int)) = .int (wf0 gs g.1) := by
          rw [wf0_at nd gin, List.length_map, pys.length_eq]
        rw [wl, kvW_new gnot, ← take_more eg']
        have s3 := s2.putW F (wl' := kvW ((ks gs).take (i + 1)) (wf0 gs))
        refine loopA (z := g.1) (ys := ys) F s3 (by rw [upd_ne qW]; exact hq) qr nys (fun x hx => ?_) (fun r hr => ?_) (fun H4 u s4 hq4 => ?_)
        · rw [hr]
          exact (mem_fz.mp (pys.mem_iff.mp hx)).2
        · have := Ri_len (gs := gs) i r.1
          omega
        · have s5 := s4.congr (R' := Ri gs (i + 1)) fun r hr => by
            rw [Ri_more eg]
            simp only [pys.mem_iff]
          refine ⟨_, rfl, _, .inl ⟨_, SqL.of hq4, rfl⟩, ?_⟩
          by_cases em : fz (ks gs) g.2 = []
          · have ye : ys = [] := List.length_eq_zero_iff.mp (by rw [pys.length_eq, em]; rfl)
            rw [ye]
            refine iteT ⟨_, rfl, _, rfl, Y, g.1, y, rfl, s5.y, ?_, fun y' p' => ⟨⟨_, _, _, rfl⟩, y', s5.putY F, ?_⟩⟩
            · have := Yi_len (gs := gs) i
              rw [← pm.length_eq] at this
              omega
            · rw [Yi_more eg, if_pos em]
              exact p'.trans ((List.Perm.cons _ pm).trans (List.perm_append_singleton _ _).symm)
          · have ye : ys ≠ [] := fun e => em (List.length_eq_zero_iff.mp (by rw [← pys.length_eq, e]; rfl))
            have ye2 : (!(ys.map V.str).isEmpty) = true := by
              cases ys with
              | nil => exact absurd rfl ye
              | cons _ _ => rfl
            rw [ye2]
            refine iteF ⟨⟨_, _, _, rfl⟩, y, s5, ?_⟩
            rw [Yi_more eg, if_neg em]
            exact pm
  · obtain ⟨⟨u2, u5, u6, rfl⟩, y, s1, pm⟩ := p
    rw [len] at s1 pm
    refine k H' u2 u5 u6 y ?_ ?_
    · rw [← lk, List.take_length] at s1
      refine s1.congr fun r _ => ?_
      unfold rdr Ri
      rw [lk, List.take_length]
    · unfold Yi at pm
      rw [List.take_length] at pm
      exact pm
end
section
variable {K : PySem.W.Frag} {HL : Hp} {W D Y T a : Addr} {rs : List (Str × Addr)} {En : Ends} {gs : List (Str × List Str)}
/-- the second walk -/
theorem loopC {Hc : Hp} {u2 u5 u6 u8 : Option V} {y : List Str} {wf : Str → Int} (F : Fr HL W D Y rs) (nT : HL T = none) (tW : T ≠ W) (tD : T ≠ D) (tY : T ≠ Y) (tR : T ∉ rs.map Prod.snd) (s : Sx HL W D Y rs Hc (kvW (ks gs) wf) (rdr gs) y) (hf : Half gs [] y wf)
    (hT : Hc T = some (.lst [])) (nd : (ks gs).Nodup) (hr : rs.map Prod.fst = ks gs) (few : gs.length ≤ 60)
    (k : ∀ H' t wf σ, σ[7]? = some (some (.ref T)) → Ex HL H' → H' T = some (.lst (t.map V.str)) → Half gs t [] wf → En.nx σ H') :
    tWhile (fun σ H Q => tVar 4 σ H fun x H' => ∃ k, TruV K x H' k ∧ Q k H') (tSeq (tAsg (tCB rPopH (tCons (tVar 4) tNil)) (gName 2)) (tSeq (tDrop (tBM K "list" rAppend (tVar 7) (tCons (tVar 2) tNil)))
      (tFor (iList K (tDGet (tVar 3) (tVar 2))) (gName 8) (tSeq (sDAug (tVar 1) (tVar 8) (tC (.int 1)) rSub) (tIfS (tB (tOp rEq (tDGet (tVar 1) (tVar 8)) (tC (.int 0)))) (tDrop (tCB rPush (tCons (tVar 4) (tCons (tVar 8) tNil)))) tNext))))) En
      [some (.ref a), some (.ref W), u2, some (.ref D), some (.ref Y), u5, u6, some (.ref T), u8] Hc := by
  have lk : (ks gs).length = gs.length := by unfold ks; rw [List.length_map]
  refine ⟨fun m σ H' => ∃ u2 u5 u6 u8 t y wf, σ = [some (.ref a), some (.ref W), u2, some (.ref D), some (.ref Y), u5, u6, some (.ref T), u8] ∧ Sx HL W D Y rs H' (kvW (ks gs) wf) (rdr gs) y ∧ Half gs t y wf ∧ H' T = some (.lst (t.map V.str)) ∧ m + t.length = gs.length,
    ⟨gs.length, u2, u5, u6, u8, [], y, wf, rfl, s, hf, hT, rfl⟩, fun m σ H' p => ?_⟩
  obtain ⟨u2, u5, u6, u8, t, y, wf, rfl, s1, hf1, hT1, em⟩ := p
  refine ⟨_, rfl, _, .inl ⟨_, SqL.of s1.y, rfl⟩, ?_⟩
  have lens : t.length + y.length ≤ gs.length := by
    rw [← lk, ← List.length_append]
    exact len_sub hf1.nd hf1.sub
  cases y with
  | nil => exact iteF (k H' t wf _ rfl s1.ex hT1 hf1)
  | cons y0 yr =>
    rw [List.length_cons] at lens
    refine iteT ⟨fun σ H' => ∃ u2 u5 u6 u8 t y wf, σ = [some (.ref a), some (.ref W), u2, some (.ref D), some (.ref Y), u5, u6, some (.ref T), u8] ∧ Sx HL W D Y rs H' (kvW (ks gs) wf) (rdr gs) y ∧ Half gs t y wf ∧ H' T = some (.lst (t.map V.str)) ∧ (m - 1) + t.length = gs.length,
      fun σ' H'' q => ⟨m - 1, by omega, q⟩, ?_⟩
    refine ⟨_, rfl, Y, y0 :: yr, rfl, s1.y, by simp, by rw [List.length_cons]; omega, fun z y1 pm => ?_⟩
    have s2 := s1.putY F (y' := y1)
    have l1 : y1.length = yr.length := by
      have := pm.length_eq
      simpa using this
    have hT2 : (upd H' Y (.lst (y1.map V.str))) T = some (.lst (t.map V.str)) := by
      rw [upd_ne tY]
      exact hT1
    generalize upd H' Y (.lst (y1.map V.str)) = H2 at s2 hT2
    refine ⟨_, rfl, .inl ⟨rfl, _, SqL.of hT2⟩, _, rfl, T, _, _, rfl, rfl, hT2, ?_, ?_⟩
    · rw [List.length_map]
      exact Nat.lt_of_le_of_lt (show t.length ≤ 1000 by omega) (by decide)
    · have s3 : Sx HL W D Y rs (upd H2 T (.lst (t.map V.str ++ [.str z]))) (kvW (ks gs) wf) (rdr gs) y1 := s2.other nT tW tD tY tR
      have hT3 : (upd H2 T (.lst (t.map V.str ++ [.str z]))) T = some (.lst ((t ++ [z]).map V.str)) := by
        rw [upd_same, List.map_append]
        rfl
      generalize upd H2 T (.lst (t.map V.str ++ [.str z])) = H3 at s3 hT3
      have zin : z ∈ ks gs := hf1.sub z (List.mem_append_right _ (pm.mem_iff.mp List.mem_cons_self))
      obtain ⟨q, hq⟩ := RdO.of (rs := rs) (z := z) (by rw [hr]; exact zin)
      have rl : (rdr gs z).length ≤ gs.length := by
        unfold rdr
        rw [List.length_map]
        exact List.length_filter_le _ _
      refine loopB (zs := rdr gs z) (t := t ++ [z]) (ksl := ks gs) (wf := wf) F s3 hq rfl (rdr_nd nd) (fun x hx => ?_) (by omega) T hT3 tW tY (by omega) (fun H4 u y' s4 py hT4 => ?_)
      · obtain ⟨g, hg, rfl, _⟩ := rdr_sub hx
        exact List.mem_map.mpr ⟨g, hg, rfl⟩
      · exact ⟨_, _, _, _, t ++ [z], y', _, rfl, s4, hf1.step nd pm py, hT4, by rw [List.length_append, List.length_singleton]; omega⟩
end
section
variable {P : Program} {w : World} {K : PySem.W.Frag} {mg : Str → Option Value} {base : Heap}
theorem scSeqOf : FnScope nSeqOf ["sources"] (defScope dSeqOf) := ⟨rfl, rfl, rfl, by decide +kernel, rfl, by decide +kernel, by decide +kernel⟩
theorem okSeqOf {f : Addr} {fd : FuncData} (F : At K mg "sequence_of" dSeqOf ["sources"] f fd) (T : Txt K mg) : FnOk P w K mg base CX0 1 f fd ["sources"] (spSeqOf K) := by
  refine F.fn.ok scSeqOf (fun vs H Q E h => ?_) (fun cdv A outer s H vs Q E hr h => ?_)
  · obtain ⟨a, kvs, gs, ps, rfl, _⟩ := h
    rfl
  · obtain ⟨a, kvs, gs, ps, rfl, ha, hk, nd, rk, few, few2, k⟩ := h
    have hu := hu_of hr
    refine ⟨_, pss_cons (ps_set (i := 1) scSeqOf.nd rfl (Or.inl rfl) pe_dnewK)
      (pss_cons (ps_lock (ps_setDc (i := 3) (own := [("gate", 2)]) (g := gName 2) rfl scSeqOf.nd rfl rfl (sw_dict rfl rfl rfl (by decide +kernel)) (pi_keys (pv 0)) (blkOk_by (own := [("gate", 2)]) (N := nSeqOf) (sc := defScope dSeqOf) (by decide +kernel))
          (fun _ _ _ _ _ => pg_name (i := 2) scSeqOf.nd rfl (Or.inl rfl)) (fun _ _ _ _ _ => pts_nil) (fun _ _ _ _ _ => pv 2) (fun _ _ _ _ _ => pe_lst pa_nil)))
      (pss_cons (ps_set (i := 4) scSeqOf.nd rfl (Or.inl rfl) (pe_lst pa_nil))
      (pss_cons (ps_lock (ps_for PassesOwn.never rfl (pi_keys (pv 0)) (pg_name (i := 2) scSeqOf.nd rfl (Or.inl rfl))
        (pss_cons (ps_set (i := 6) scSeqOf.nd rfl (Or.inl rfl) (pe_callB (cr_sortX rfl) (by rfl) T.sorted (by decide +kernel) (pa_cons (pe_sx (own := [("source", 5)]) (g := gName 5) rfl scSeqOf.nd (pi_tup (pe_dget hu (pv 0) (pv 2) (fun _ _ => rfl))) (blkOk_by (own := [("source", 5)]) (N := nSeqOf) (sc := defScope dSeqOf) (by decide +kernel))
            (fun _ _ _ _ _ => pg_name (i := 5) scSeqOf.nd rfl (Or.inl rfl)) (fun _ _ _ _ _ => pts_one (pt_cmp (pc_din hu (pv 5) (pv 0)))) (fun _ _ _ _ _ => pv 5)) pa_nil)))
        (pss_cons (ps_dput hu (pv 1) (pv 2) (pe_callB call_len_seq (by rfl) T.len PySem.boot_len (pa_cons (pv 6) pa_nil)) rfl)
        (pss_cons (ps_for PassesOwn.never rfl (pi_list (pv 6)) (pg_name (i := 5) scSeqOf.nd rfl (Or.inl rfl))
          (pss_one (ps_expr (pe_bm PySem.F.plainAttrs_list PySem.F.slot_list_append PySem.F.type_list_append mt_append (pe_dget hu (pv 3) (pv 5) (fun _ _ => rfl)) (pa_cons (pv 2) pa_nil)))))
        (pss_one (ps_if (pt_not (pt_truth (pv 6) (by intro _; rfl))) (pss_one (ps_expr (pe_callBfun cr_push (by rfl) T.push (pa_cons (pv 4) (pa_cons (pv 2) pa_nil))))) pss_nil)))))))
      (pss_cons (ps_set (i := 7) scSeqOf.nd rfl (Or.inl rfl) (pe_lst pa_nil))
      (pss_cons (ps_while PassesOwn.never (pt_truth (pv 4) (by intro _; rfl))
        (pss_cons (ps_set (i := 2) scSeqOf.nd rfl (Or.inl rfl) (pe_callBfun cr_popH (by rfl) T.popH (pa_cons (pv 4) pa_nil)))
        (pss_cons (ps_expr (pe_bm PySem.F.plainAttrs_list PySem.F.slot_list_append PySem.F.type_list_append mt_append (pv 7) (pa_cons (pv 2) pa_nil)))
        (pss_one (ps_for PassesOwn.never rfl (pi_list (pe_dget hu (pv 3) (pv 2) (fun _ _ => rfl))) (pg_name (i := 8) scSeqOf.nd rfl (Or.inl rfl))
          (pss_cons (ps_daug hu (pv 1) (pv 8) pe_int in_sub (fun _ _ _ => rfl))
          (pss_one (ps_if (pt_cmpR op_eq (pe_dget hu (pv 1) (pv 8) (fun _ _ => rfl)) pe_int (nomark _)) (pss_one (ps_expr (pe_callBfun cr_push (by rfl) T.push (pa_cons (pv 4) (pa_cons (pv 8) pa_nil))))) pss_nil))))))))
      (pss_one (ps_ret (pv 7)))))))), ?_⟩
    intro W nW
    have Wa : W ≠ a := fun e => by rw [e, ha] at nW; cases nW
    have x1 : Ex H (upd H W (.dK [])) := Ex.new nW
    have ha1 := x1 _ _ ha
    have hW1 : (upd H W (.dK [])) W = some (.dK []) := upd_same
    generalize upd H W (.dK []) = H1 at x1 ha1 hW1
    refine ⟨a, _, ha1, trivial, fun od => ?_⟩
    have hfz : (upd H1 a (.frz od (.dK kvs))) a = some (.frz od (.dK kvs)) := upd_same
    have keepT : ∀ {H2 : Hp} {od : Obj}, Ex (upd H a (.frz od (.dK kvs))) H2 → KvT K H2 kvs gs ps := fun {H2 od} e => hk.ext fun b xs hb => by
      rcases hb with (hb | ⟨o, hb⟩) | hb
      · exact .inl (.inl (e _ _ (by rw [upd_ne (fun z => by rw [z, ha] at hb; cases hb)]; exact hb)))
      · exact .inl (.inr ⟨o, e _ _ (by rw [upd_ne (fun z => by rw [z, ha] at hb; cases hb)]; exact hb)⟩)
      · exact .inr hb
    refine ⟨_, rfl, a, od, rfl, .inl ⟨kvs, hfz, fun D nD => ?_⟩⟩
    refine mkR (keepT (ex_lock x1 ha)) nd (by omega) hfz nD fun H2 rs e2 hd hrs hn => ?_
    have x2 := ex_unlock ha1 e2
    have Da : D ≠ a := fun e => by rw [e, hfz] at nD; cases nD
    have DW : D ≠ W := fun e => by
      rw [upd_ne Da, e, hW1] at nD
      cases nD
    have nD1 : H1 D = none := by rwa [upd_ne Da] at nD
    have nrs : ∀ r ∈ rs, r.2 ≠ a ∧ H1 r.2 = none := fun r hr => by
      have q := hn r hr
      have qa : r.2 ≠ a := fun e => by rw [e, hfz] at q; cases q
      rw [upd_ne qa] at q
      exact ⟨qa, q⟩
    have hd2 : RdO (upd H2 a (.dK kvs)) D rs (fun _ => []) := hd.other (Ne.symm Da) fun m => by
      obtain ⟨r, hr, e⟩ := List.mem_map.mp m
      exact (nrs r hr).1 e
    refine ⟨e2 _ _ hfz, ?_⟩
    generalize upd H2 a (.dK kvs) = H3 at x2 hd2
    refine ⟨by decide, fun Y nY => ?_⟩
    have x3 : Ex H1 (upd H3 Y (.lst [])) := x2.trans (Ex.new nY)
    have F0 : Fr H W D Y rs := by
      have nY1 : H1 Y = none := ex_none x2 nY
      refine ⟨Ne.symm DW, fun m => ?_, nW, ex_none x1 nD1, ex_none x1 nY1, fun r hr => ex_none x1 (nrs r hr).2⟩
      obtain ⟨r, hr, e⟩ := List.mem_map.mp m
      have := hd2.each r hr
      rw [e, nY] at this
      cases this
    have s0 : Sx H W D Y rs (upd H3 Y (.lst [])) (kvW [] (wf0 gs)) (Ri gs 0) [] :=
      ⟨x1.trans x3, x3 _ _ hW1, (hd2.ext (Ex.new nY)).congr fun r _ => by simp [Ri], upd_same⟩
    have ha3 := x3 _ _ ha1
    generalize upd H3 Y (.lst []) = H4 at s0 ha3
    refine ⟨a, _, ha3, trivial, fun od2 => ?_⟩
    refine loopG (F0.lock ha) (s0.lock F0 ha) (by simp [Yi]) (keepT (Ex.refl _)) (fun H' e => keepT e) nd hrs few few2 upd_same (fun H5 u2 u5 u6 y s5 py => ?_)
    refine ⟨s5.ex _ _ upd_same, ?_⟩
    have s6 := s5.unlock F0 ha
    generalize upd H5 a (.dK kvs) = H6 at s6
    refine ⟨by decide, fun T nT => ?_⟩
    have s7 := s6.ext (Ex.new (o := .lst []) nT)
    have hT : (upd H6 T (.lst [])) T = some (.lst []) := upd_same
    have tW : T ≠ W := fun e => by rw [e, s6.w] at nT; cases nT
    have tD : T ≠ D := fun e => by rw [e, s6.d.at_] at nT; cases nT
    have tY : T ≠ Y := fun e => by rw [e, s6.y] at nT; cases nT
    have tR : T ∉ rs.map Prod.snd := fun m => by
      obtain ⟨r, hr, e⟩ := List.mem_map.mp m
      rw [← e, s6.d.each r hr] at nT
      cases nT
    have nT0 := ex_none s6.ex nT
    generalize upd H6 T (.lst []) = H7 at s7 hT
    refine loopC F0 nT0 tW tD tY tR s7 (Half.start nd (fun g hg => wf0_at nd hg) py) hT nd hrs few (fun H8 t wf σ hσ e8 hT8 hf => ?_)
    exact ⟨_, hσ, k T t H8 e8 nT0 hT8 (hf.done nd rk)⟩
end
end W

set_option Elab.async false
set_option linter.all false
set_option maxRecDepth 100000
set_option maxHeartbeats 8000000
namespace W
open PySem PySem.Spec PyProof.Rows L2 Evl G C
def spCNoRing (K : PySem.W.Frag) : Sp := fun vs H Q _ => ∃ (a : Addr) (kvs : List (Key × V)) (gs : List (Str × List Str)) (ps : List Pr), vs = [.ref a] ∧ H a = some (.dK kvs) ∧ KvT K H kvs gs ps ∧ (ks gs).Nodup ∧ Ranked gs ∧ gs.length ≤ 60 ∧ (∀ g ∈ gs, g.2.length ≤ 50) ∧
  ∀ (H' : Hp), Ex H H' → Q .non H'
abbrev nGor : List Str := ["sources", "gate", "placed", "left"]
section
variable {P : Program} {w : World} {K : PySem.W.Frag} {mg : Str → Option Value} {base : Heap}
theorem KvT.ex {H H' : Hp} {kvs : List (Key × V)} {gs : List (Str × List Str)} {ps : List Pr} (h : KvT K H kvs gs ps) (e : Ex H H') : KvT K H' kvs gs ps := h.ext fun _ _ q => ex_t e q
theorem scGor : FnScope nGor ["sources"] (defScope dGateOnRing) := ⟨rfl, rfl, rfl, by decide +kernel, rfl, by decide +kernel, by decide +kernel⟩
theorem okGor {f : Addr} {fd : FuncData} (F : At K mg "gate_on_ring" dGateOnRing ["sources"] f fd) (T : Txt K mg) : FnOk P w K mg base CX0 2 f fd ["sources"] (spCNoRing K) := by
  obtain ⟨fS, fdS, FS⟩ := T.seqOf
  have GS : FnOk P w K mg base CX0 1 fS fdS ["sources"] (spSeqOf K) := okSeqOf FS T
  refine F.fn.ok scGor (fun vs H Q E h => ?_) (fun cdv A outer s H vs Q E hr h => ?_)
  · obtain ⟨a, kvs, gs, ps, rfl, _⟩ := h
    rfl
  · obtain ⟨a, kvs, gs, ps, rfl, ha, hk, nd, rk, few, few2, k⟩ := h
    have hu := hu_of hr
    refine ⟨_, pss_cons (ps_set (i := 2) scGor.nd rfl (Or.inr rfl) (pe_dc (own := [("gate", 1)]) (g := gName 1) rfl scGor.nd (pi_list (pe_call GS hr (by rfl) FS.gl FS.fn.kp FS.bi .nil pass0 (pa_cons (pv 0) pa_nil))) (blkOk_by (own := [("gate", 1)]) (N := nGor) (sc := defScope dGateOnRing) (by decide +kernel))
          (fun _ _ _ _ _ => pg_name (i := 1) scGor.nd rfl (Or.inl rfl)) (fun _ _ _ _ _ => pts_nil) (fun _ _ _ _ _ => pv 1) (fun _ _ _ _ _ => pe_bl)))
      (pss_cons (ps_setDc (i := 3) (own := [("gate", 1)]) (g := gName 1) rfl scGor.nd rfl rfl (sw_dict rfl rfl rfl (by decide +kernel)) (pi_list (pe_callB (call_sortedD rfl) (by rfl) T.sorted (by decide +kernel) (pa_cons (pv 0) pa_nil))) (blkOk_by (own := [("gate", 1)]) (N := nGor) (sc := defScope dGateOnRing) (by decide +kernel))
          (fun _ _ _ _ _ => pg_name (i := 1) scGor.nd rfl (Or.inl rfl)) (fun _ _ _ _ _ => pts_one (pt_cmp (pc_dnotin hu (pv 1) (pv 2)))) (fun _ _ _ _ _ => pv 1) (fun _ _ _ _ _ => pe_dget hu (pv 0) (pv 1) (fun _ _ => rfl)))
      (pss_cons (ps_lock (ps_for PassesOwn.never rfl (pi_keys (pv 3)) (pg_name (i := 1) scGor.nd rfl (Or.inl rfl)) (pss_one ps_never))) (pss_one (ps_ret pe_non)))), ?_⟩
    refine ⟨_, rfl, a, kvs, gs, ps, rfl, ha, hk, nd, rk, few, few2, fun l seq H1 e1 nl hl tp => ?_⟩
    refine ⟨l, rfl, ⟨_, SqL.of hl⟩, fun D nD => ?_⟩
    have lseq : seq.length ≤ 60 := by
      rw [tp.1.length_eq, List.length_map]
      exact few
    refine dc_each (as := seq) (em := V.str) (walk_list (K := K) (a := l)) (fun z => Sum.inr z) (fun _ => .bl true) (by omega) (fun H' e => SqL.of (e _ _ hl)) (fun z hz => ev_var (i := 1) rfl) (fun z hz => ev_c) (keys_nodup (f := fun z => z) (by rw [List.map_id']; exact tp.1.nodup_iff.mpr nd)) nD (fun H2 e2 hD => ?_)
    have x2 : Ex H H2 := e1.trans e2
    have ha2 := x2 _ _ ha
    have hk2 := hk.ex x2
    refine ⟨_, rfl, a, kvs, ks gs, rfl, .inl ha2, ?_, by unfold ks; rw [List.length_map]; omega, fun ys p pm _ np => ?_⟩
    · rw [hk.kv]
      unfold kvP ks
      rw [← hk.fst, List.map_map, List.map_map, List.map_map]
      rfl
    · have e3 : Ex H2 (upd H2 p (.lst (ys.map V.str))) := Ex.new np
      have hp : (upd H2 p (.lst (ys.map V.str))) p = some (.lst (ys.map V.str)) := upd_same
      generalize upd H2 p (.lst (ys.map V.str)) = H3 at e3 hp
      refine ⟨p, rfl, ⟨_, SqL.of hp⟩, fun L nL => ?_⟩
      refine dc_it (walk_list (K := K) (a := p) (xs := ys.map V.str)) (fun i Hc => Ex H3 Hc ∧ Hc L = some (.dK [])) ⟨Ex.new nL, upd_same⟩ (fun i Hc _ q => SqL.of (q.1 _ _ hp)) (fun i x Ha Hb hi q yy => ?_) (fun Hc q => ?_)
      · obtain ⟨rfl, ex⟩ := yy
        obtain ⟨z, ez, rfl⟩ := nth_map ex
        have zin : z ∈ seq := tp.1.mem_iff.mpr (pm.mem_iff.mp (List.mem_of_getElem? ez))
        refine ⟨wipe_set _ 1 _, ?_⟩
        have hit := valV_hit (fun z : Str => (Sum.inr z : Key)) (fun _ => V.bl true) seq z zin fun _ _ e => Sum.inr.inj e
        have g := DGet.k (k := Sum.inr z) ((e3.trans q.1) _ _ hD)
        rw [hit] at g
        exact ⟨_, rfl, _, rfl, D, some (.bl true), rfl, g, _, rfl, iteF q⟩
      · refine ⟨L, _, q.2, trivial, fun od => ?_⟩
        refine ⟨_, rfl, L, od, rfl, .inl ⟨[], upd_same, for_it walk_keys (fun i σ Hd => i = 0 ∧ Hd = upd Hc L (.frz od (.dK []))) ⟨rfl, rfl⟩ (fun i σ Hd _ r => by rw [r.2]; exact upd_same) (fun i x σ Ha Hb hi _ _ => absurd hi (Nat.not_lt_zero _)) (fun σ Hd r => ?_)⟩⟩
        rw [r.2]
        refine ⟨upd_same, k _ ?_⟩
        exact (x2.trans e3).trans (q.1.trans (ex_unlock q.2 (Ex.refl _)))
theorem scNoRing : FnScope ["sources", "gate"] ["sources"] (defScope dCNoRing) := ⟨rfl, rfl, rfl, by decide +kernel, rfl, by decide +kernel, by decide +kernel⟩
theorem okNoRing {f : Addr} {fd : FuncData} (F : At K mg "check_no_ring" dCNoRing ["sources"] f fd) (T : Txt K mg) : FnOk P w K mg base CX0 3 f fd ["sources"] (spCNoRing K) := by
  obtain ⟨fS, fdS, FS⟩ := T.gateOnRing
  have GS : FnOk P w K mg base CX0 2 fS fdS ["sources"] (spCNoRing K) := okGor FS T
  refine F.fn.ok scNoRing (fun vs H Q E h => ?_) (fun cdv A outer s H vs Q E hr h => ?_)
  · obtain ⟨a, kvs, gs, ps, rfl, _⟩ := h
    rfl
  · obtain ⟨a, kvs, gs, ps, rfl, ha, hk, nd, rk, few, few2, k⟩ := h
    refine ⟨_, pss_cons (ps_set (i := 1) scNoRing.nd rfl (Or.inl rfl) (pe_call GS hr (by rfl) FS.gl FS.fn.kp FS.bi .nil pass0 (pa_cons (pv 0) pa_nil)))
      (pss_one (ps_if (pt_cmp (pc_notN (pv 1))) (pss_one ps_never) pss_nil)), ?_⟩
    exact ⟨_, rfl, a, kvs, gs, ps, rfl, ha, hk, nd, rk, few, few2, fun H1 e1 => ⟨_, rfl, _, rfl, iteF (k H1 e1)⟩⟩
end
end W

set_option Elab.async false
set_option linter.all false
set_option maxRecDepth 100000
set_option maxHeartbeats 8000000
namespace W
open PySem PySem.Spec PyProof.Rows L2 Evl G C
/-- tuple(list or tuple) -/
def rTup (K : PySem.W.Frag) : List V → Hp → VK → Prop := fun xs H Q => ∃ p ys, xs = [.ref p] ∧ ((SqL K H p ys ∧ ∀ l, H l = none → Q (.ref l) (upd H l (.tup ys))) ∨ (SqT K H p ys ∧ Q (.ref p) H))
theorem call_tup {Y : Cx} {K : PySem.W.Frag} (h : Y.K = K := by rfl) : CallR Y (.type "tuple") (rTup K) := by
  subst h
  exact call_tuple_of
abbrev sgI (p a b c d : Addr) (u5 u6 u7 u8 u9 u10 u11 u12 : Option V) : L2.St := [some (.ref p), some (.ref a), some (.ref b), some (.ref c), some (.ref d), u5, u6, u7, u8, u9, u10, u11, u12, none, none, none]
section
variable {K : PySem.W.Frag} {H Hc H' : Hp} {D a t : Addr} {xs : List V} {kvs : List (Key × V)} {gs pref : List (Str × List Str)} {ps : List Pr} {o : HO} {En : Ends}
theorem st_dict (h : SqT K H a xs) (hD : H D = some (.dK kvs)) : SqT K (upd H D o) a xs := by
  rcases h with (h | ⟨q, h⟩) | h
  · exact .inl (.inl (by rw [upd_ne fun e => by rw [e, hD] at h; cases h]; exact h))
  · exact .inl (.inr ⟨q, by rw [upd_ne fun e => by rw [e, hD] at h; cases h]; exact h⟩)
  · exact .inr h
theorem sl_dict (h : SqL K H a xs) (hD : H D = some (.dK kvs)) : SqL K (upd H D o) a xs := by
  rcases h with (h | ⟨q, h⟩) | h
  · exact .inl (.inl (by rw [upd_ne fun e => by rw [e, hD] at h; cases h]; exact h))
  · exact .inl (.inr ⟨q, by rw [upd_ne fun e => by rw [e, hD] at h; cases h]; exact h⟩)
  · exact .inr h
theorem KvT.none (h : KvT K H kvs gs ps) {z : Str} (m : z ∉ ks gs) : valV kvs (Sum.inr z) = none := by
  have q := h.isSome z
  rw [decide_eq_false m] at q
  exact Option.isSome_eq_false_iff.mp q |> Option.isNone_iff_eq_none.mp
/-- sources[z] = t -/
theorem KvT.put (h : KvT K H kvs gs ps) (hD : H D = some (.dK kvs)) {z : Str} {zs : List Str} (m : z ∉ ks gs) (ht : SqT K H t (zs.map V.str)) :
    (upd H D (.dK (putK kvs (Sum.inr z) (.ref t)))) D = some (.dK (putK kvs (Sum.inr z) (.ref t))) ∧ KvT K (upd H D (.dK (putK kvs (Sum.inr z) (.ref t)))) (putK kvs (Sum.inr z) (.ref t)) (gs ++ [(z, zs)]) (ps ++ [((z, zs), t)]) := by
  refine ⟨upd_same, ?_, ?_, fun p hp => ?_⟩
  · rw [List.map_append, h.fst]
    rfl
  · rw [putK_new (h.none m), h.kv]
    simp [kvP]
  · rcases List.mem_append.mp hp with hp | hp
    · exact st_dict (h.each p hp) hD
    · rw [List.mem_singleton.mp hp]
      exact st_dict ht hD
/-- the dict of sources so far -/
def SrcAt (K : PySem.W.Frag) (H : Hp) (D : Addr) (gs : List (Str × List Str)) : Prop := ∃ kvs ps, H D = some (.dK kvs) ∧ KvT K H kvs gs ps
theorem SrcAt.ex (h : SrcAt K H D gs) (e : Ex H H') : SrcAt K H' D gs := by
  obtain ⟨kvs, ps, h1, h2⟩ := h
  exact ⟨kvs, ps, e _ _ h1, h2.ex e⟩
def bet' (gs : List Gt) : List (Str × List Str) := gs.map fun g => (g.1, g.2.2)
def ber (rs : List Rg) : List (Str × List Str) := rs.map fun r => (r.1, [r.2.2])
theorem ks_app {l m : List (Str × List Str)} : ks (l ++ m) = ks l ++ ks m := by unfold ks; rw [List.map_append]
theorem ks_bet {gs : List Gt} : ks (bet' gs) = gnm gs := by unfold ks bet' gnm; rw [List.map_map]; rfl
theorem ks_ber {rs : List Rg} : ks (ber rs) = rnm rs := by unfold ks ber rnm; rw [List.map_map]; rfl
/-- the turn of a walk that gives each its sources -/
theorem turn_src {z : Str} {zs : List Str} (n : Nat) (e : Ex H Hc) (s : SrcAt K Hc D gs) (nD : H D = none) (m : z ∉ ks gs) (few : gs.length ≤ 1000) (ht : SqT K Hc t (zs.map V.str)) :
    ∃ H4, DPut Hc D (.str z) (.ref t) H4 ∧ Ex H H4 ∧ SrcAt K H4 D (gs ++ [(z, zs)]) := by
  obtain ⟨kvs, ps, h1, h2⟩ := s
  have q := h2.put h1 m ht
  refine ⟨_, DPut.k (k := Sum.inr z) h1 ?_, e.mut nD, _, _, q.1, q.2⟩
  rw [h2.len]
  exact Nat.lt_of_le_of_lt few (by decide)
theorem fresh_next {α : Type} {f : α → Str × List Str} {as : List α} {i : Nat} {x : α} (nd : (ks (pref ++ as.map f)).Nodup) (e : as[i]? = some x) : (f x).1 ∉ ks (pref ++ (as.take i).map f) ∧ pref ++ (as.take (i + 1)).map f = (pref ++ (as.take i).map f) ++ [f x] := by
  constructor
  · rw [ks_app] at nd ⊢
    have e1 : (ks pref ++ ks (as.map f))[(ks pref).length + i]? = some (f x).1 := by
      rw [List.getElem?_append_right (by omega)]
      unfold ks
      rw [Nat.add_sub_cancel_left, List.getElem?_map, List.getElem?_map, e]
      rfl
    have q := not_in_take nd e1
    rw [List.take_append, List.take_of_length_le (by omega), Nat.add_sub_cancel_left] at q
    have t1 : (ks (as.map f)).take i = ks ((as.take i).map f) := by unfold ks; rw [List.map_take, List.map_take]
    rwa [t1] at q
  · rw [take_more e, List.map_append, ← List.append_assoc]
    rfl
section
variable {p b c d : Addr} {u5 u7 u8 u9 u10 u11 u12 : Option V}
/-- {name: () for name in inputs} -/
theorem mkS {zs : List Str} {Qd : Hp → Prop} {σ : L2.St} (hσ : 5 < σ.length) (hl : SqL K H a (zs.map V.str)) (nd : zs.Nodup) (few : zs.length ≤ 1000) (nD : H D = none) (hd : ∀ H', Ex H H' → SrcAt K H' D (zs.map fun z => (z, [])) → Qd H') :
    DcG (Itl K a) (gName 5) tYes (tVar 5) (tTup tNil) [5] σ H D Qd := by
  have nd' : (ks (([] : List (Str × List Str)) ++ zs.map fun z => (z, ([] : List Str)))).Nodup := by
    unfold ks
    rw [List.nil_append, List.map_map]
    exact (by rw [List.map_id'']; exact nd; exact fun _ => rfl)
  refine dc_it (walk_list (K := K) (a := a) (xs := zs.map V.str)) (fun i Hc => Ex H Hc ∧ SrcAt K Hc D ([] ++ (zs.take i).map fun z => (z, []))) ⟨Ex.new nD, [], [], upd_same, rfl, rfl, fun p hp => by cases hp⟩ (fun i Hc _ q => ex_l q.1 hl) (fun i x Ha Hb hi q yy => ?_) (fun Hc q => ?_)
  · obtain ⟨rfl, ex⟩ := yy
    obtain ⟨z, ez, rfl⟩ := nth_map ex
    obtain ⟨n1, n2⟩ := fresh_next (f := fun z => (z, ([] : List Str))) nd' ez
    refine ⟨wipe_set _ 5 _, _, (by show ((wipe σ [5]).set 5 _)[5]? = _; rw [List.getElem?_set_self (by show 5 < (σ.set 5 none).length; rw [List.length_set]; exact hσ)]), by decide, fun t nt => ?_⟩
    have e1 : Ex Hb (upd Hb t (.tup [])) := Ex.new nt
    obtain ⟨kvs, ps, h1, h2⟩ := q.2.ex e1
    have q2 := h2.put (t := t) (zs := []) h1 n1 (st_of upd_same)
    refine ⟨kvs, Sum.inr z, rfl, h1, ?_, (q.1.trans e1).mut nD, _, ps ++ [((z, []), t)], q2.1, ?_⟩
    · rw [h2.len]
      exact Nat.lt_of_le_of_lt (show _ ≤ 1000 by simp; omega) (by decide)
    · rw [n2]
      exact q2.2
  · refine hd Hc q.1 ?_
    have := q.2
    rw [List.length_map, List.take_length, List.nil_append] at this
    exact this
/-- for name, _, wires in gates: sources[name] = tuple(wires) -/
theorem loopS5 {gts : List Gt} (hg : Dp K H (.ref b) (.list (gts.map gateD))) (e : Ex H Hc) (s : SrcAt K Hc D pref) (nD : H D = none) (nd : (ks (pref ++ bet' gts)).Nodup) (few : pref.length ≤ 500) (few2 : gts.length ≤ 500)
    (k : ∀ H' u5 u7 u8, Ex H H' → SrcAt K H' D (pref ++ bet' gts) → En.nx (sgI p a b c d u5 (some (.ref D)) u7 u8 u9 u10 u11 u12) H') :
    tFor (iList K (tVar 2)) (gTup K 3 (gCons (gName 5) (gCons (gName 7) (gCons (gName 8) gNil)))) (sDPut (tVar 6) (tVar 5) (tCB (rTup K) (tCons (tVar 8) tNil))) En (sgI p a b c d u5 (some (.ref D)) u7 u8 u9 u10 u11 u12) Hc := by
  cases hg with
  | @lst b xs _ hb ha =>
    have len := dp_len ha
    refine ⟨_, rfl, b, rfl, ⟨_, ex_l e hb⟩, for_list (K := K) (a := b) (xs := xs) (fun i σ H' => (∃ u5 u7 u8, σ = sgI p a b c d u5 (some (.ref D)) u7 u8 u9 u10 u11 u12) ∧ Ex H H' ∧ SrcAt K H' D (pref ++ bet' (gts.take i))) ⟨⟨_, _, _, rfl⟩, e, by simpa [bet'] using s⟩ (fun i σ H' _ q => ex_l q.2.1 hb) (fun i x σ H' hx q => ?_) (fun σ H' q => ?_)⟩
    · obtain ⟨⟨u5, u7, u8, rfl⟩, e1, s1⟩ := q
      obtain ⟨g, eg, dg⟩ := dp_nth ha hx
      obtain ⟨t, l, rfl, ht, hl⟩ := gate_of (dp_ex e1 dg)
      obtain ⟨n1, n2⟩ := fresh_next (f := fun g : Gt => (g.1, g.2.2)) nd eg
      refine ⟨t, _, rfl, ht, rfl, _, _, rfl, _, _, rfl, _, _, rfl, rfl, ?_⟩
      refine ⟨_, rfl, l, _, rfl, .inl ⟨hl, fun t2 nt => ?_⟩⟩
      have e2 : Ex H' (upd H' t2 (.tup (g.2.2.map V.str))) := Ex.new nt
      obtain ⟨H4, d4, e4, s4⟩ := turn_src (t := t2) (z := g.1) (zs := g.2.2) 0 (e1.trans e2) (s1.ex e2) nD n1 (by simp only [List.length_append, bet', List.length_map, List.length_take]; omega) (st_of upd_same)
      refine ⟨_, rfl, _, rfl, D, H4, rfl, d4, ⟨_, _, _, rfl⟩, e4, ?_⟩
      rw [show bet' (gts.take (i + 1)) = (gts.take (i + 1)).map fun g : Gt => (g.1, g.2.2) from rfl, n2]
      exact s4
    · obtain ⟨⟨u5, u7, u8, rfl⟩, e1, s1⟩ := q
      rw [len, List.take_length] at s1
      exact k H' u5 u7 u8 e1 s1
/-- for name, _, source in registers: sources[name] = (source,) -/
theorem loopS6 {rgs : List Rg} (hg : Dp K H (.ref c) (.list (rgs.map regD))) (e : Ex H Hc) (s : SrcAt K Hc D pref) (nD : H D = none) (nd : (ks (pref ++ ber rgs)).Nodup) (few : pref.length ≤ 500) (few2 : rgs.length ≤ 500)
    (k : ∀ H' u5 u7 u9, Ex H H' → SrcAt K H' D (pref ++ ber rgs) → En.nx (sgI p a b c d u5 (some (.ref D)) u7 u8 u9 u10 u11 u12) H') :
    tFor (iList K (tVar 3)) (gTup K 3 (gCons (gName 5) (gCons (gName 7) (gCons (gName 9) gNil)))) (sDPut (tVar 6) (tVar 5) (tTup (tCons (tVar 9) tNil))) En (sgI p a b c d u5 (some (.ref D)) u7 u8 u9 u10 u11 u12) Hc := by
  cases hg with
  | @lst b' xs _ hb ha =>
    have len := dp_len ha
    refine ⟨_, rfl, c, rfl, ⟨_, ex_l e hb⟩, for_list (K := K) (a := c) (xs := xs) (fun i σ H' => (∃ u5 u7 u9, σ = sgI p a b c d u5 (some (.ref D)) u7 u8 u9 u10 u11 u12) ∧ Ex H H' ∧ SrcAt K H' D (pref ++ ber (rgs.take i))) ⟨⟨_, _, _, rfl⟩, e, by simpa [ber] using s⟩ (fun i σ H' _ q => ex_l q.2.1 hb) (fun i x σ H' hx q => ?_) (fun σ H' q => ?_)⟩
    · obtain ⟨⟨u5, u7, u9, rfl⟩, e1, s1⟩ := q
      obtain ⟨r, er, dr⟩ := dp_nth ha hx
      obtain ⟨t, rfl, ht⟩ := reg_of (dp_ex e1 dr)
      obtain ⟨n1, n2⟩ := fresh_next (f := fun r : Rg => (r.1, [r.2.2])) nd er
      refine ⟨t, _, rfl, ht, rfl, _, _, rfl, _, _, rfl, _, _, rfl, rfl, ?_⟩
      refine ⟨_, rfl, (by show 1 ≤ sizeLine; decide), fun t2 nt => ?_⟩
      have e2 : Ex H' (upd H' t2 (.tup [.str r.2.2])) := Ex.new nt
      obtain ⟨H4, d4, e4, s4⟩ := turn_src (t := t2) (z := r.1) (zs := [r.2.2]) 0 (e1.trans e2) (s1.ex e2) nD n1 (by simp only [List.length_append, ber, List.length_map, List.length_take]; omega) (st_of upd_same)
      refine ⟨_, rfl, _, rfl, D, H4, rfl, d4, ⟨_, _, _, rfl⟩, e4, ?_⟩
      rw [show ber (rgs.take (i + 1)) = (rgs.take (i + 1)).map fun r : Rg => (r.1, [r.2.2]) from rfl, n2]
      exact s4
    · obtain ⟨⟨u5, u7, u9, rfl⟩, e1, s1⟩ := q
      rw [len, List.take_length] at s1
      exact k H' u5 u7 u9 e1 s1
end
end
end W

set_option Elab.async false
set_option linter.all false
set_option maxRecDepth 100000
set_option maxHeartbeats 8000000
namespace W
open PySem PySem.Spec PyProof.Rows L2 Evl G C
section
variable {K : PySem.W.Frag} {H Hc H' : Hp} {D a t p b c d : Addr} {xs : List V} {kvs : List (Key × V)} {gs pref : List (Str × List Str)} {ps : List Pr} {o : HO} {En : Ends} {od : Obj} {u5 u7 u8 u9 u10 u11 u12 : Option V}
theorem flat_len {gs : List (Str × List Str)} (h : ∀ g ∈ gs, g.2.length ≤ 50) : (gs.flatMap Prod.snd).length ≤ 50 * gs.length := by
  induction gs with
  | nil => exact Nat.le_refl _
  | cons g r ih =>
    have := ih fun x hx => h x (List.mem_cons_of_mem _ hx)
    have := h g List.mem_cons_self
    rw [List.flatMap_cons, List.length_append, List.length_cons]
    omega
/-- [wire for name in sources for wire in sources[name]] -/
theorem allS {Q : VK} (hk : KvT K H kvs gs ps) (nd : (ks gs).Nodup) (few : gs.length ≤ 500) (few2 : ∀ g ∈ gs, g.2.length ≤ 50) (hD : H D = some (.frz od (.dK kvs)))
    (hd : ∀ H' L, Ex H H' → H' L = some (.lst ((gs.flatMap Prod.snd).map V.str)) → H L = none → Q (.ref L) H') :
    tLc2 (iKeys (tVar 6)) (gName 5) tYes (iTup K (tDGet (tVar 6) (tVar 5))) (gName 14) tYes (tVar 14) [5, 14] [14] (sgI p a b c d u5 (some (.ref D)) u7 u8 u9 u10 u11 u12) H Q := by
  have len := hk.len
  refine ⟨_, rfl, D, od, rfl, .inl ⟨kvs, hD, fun L nL => ?_⟩⟩
  refine ⟨fun i m Hc => m + i = gs.length ∧ Ex H Hc ∧ Hc L = some (.lst (((gs.take i).flatMap Prod.snd).map V.str)), ⟨gs.length, rfl, Ex.new nL, upd_same⟩, ?_⟩
  rintro i m Hc ⟨em, e1, h1⟩
  have fz := e1 _ _ hD
  rcases Nat.lt_or_ge i gs.length with lt | ge
  · refine .inr ⟨⟨fz, by rw [len]; exact lt⟩, fun H' => Ex H H' ∧ H' L = some (.lst (((gs.take (i + 1)).flatMap Prod.snd).map V.str)), fun H' q => ⟨m - 1, by omega, by omega, q⟩, fun x H' y => ?_⟩
    obtain ⟨rfl, k, v, ek, rfl⟩ := y
    obtain ⟨g, eg, rfl⟩ := hk.nth ek
    have gin : g ∈ gs := List.mem_of_getElem? eg
    obtain ⟨t, ht, hst⟩ := (hk.ex e1).hit nd gin
    refine ⟨rfl, ?_⟩
    refine ⟨_, rfl, _, rfl, D, .ref t, rfl, .inl ⟨kvs, Sum.inr g.1, .inr ⟨od, fz⟩, rfl, ht.symm⟩, t, rfl, ⟨_, hst⟩, ?_⟩
    refine ⟨fun j k H2 => k + j = g.2.length ∧ Ex H H2 ∧ H2 L = some (.lst (((gs.take i).flatMap Prod.snd ++ g.2.take j).map V.str)) ∧ SqT K H2 t (g.2.map V.str), ⟨g.2.length, rfl, e1, by simpa using h1, hst⟩, ?_⟩
    rintro j k H2 ⟨ek2, e2, h2, st2⟩
    rcases Nat.lt_or_ge j g.2.length with lt2 | ge2
    · refine .inr ⟨⟨_, (g.2.map V.str)[j]'(by rw [List.length_map]; exact lt2), st2, by simp [lt2]⟩, fun H3 => Ex H H3 ∧ H3 L = some (.lst (((gs.take i).flatMap Prod.snd ++ g.2.take (j + 1)).map V.str)) ∧ SqT K H3 t (g.2.map V.str), fun H3 q => ⟨k - 1, by omega, by omega, q⟩, fun x H3 y => ?_⟩
      obtain ⟨rfl, y⟩ := y
      obtain ⟨z, ez, rfl⟩ := nth_map (y _ st2)
      refine ⟨rfl, _, rfl, _, h2, ?_, e2.mut nL, ?_, ?_⟩
      · rw [List.length_map, List.length_append]
        have l1 := flat_len (gs := gs.take i) fun g hg => few2 g (List.mem_of_mem_take hg)
        have l2 : (gs.take i).length ≤ 500 := by rw [List.length_take]; omega
        have l3 : (g.2.take j).length ≤ 50 := by rw [List.length_take]; have := few2 g gin; omega
        exact Nat.lt_of_le_of_lt (show _ ≤ 30000 by omega) (by decide)
      · rw [upd_same, take_more ez]
        simp
      · rcases st2 with (q | ⟨q, r⟩) | q
        · exact .inl (.inl (by rw [upd_ne fun e => by rw [e, h2] at q; cases q]; exact q))
        · exact .inl (.inr ⟨q, by rw [upd_ne fun e => by rw [e, h2] at r; cases r]; exact r⟩)
        · exact .inr q
    · have ej : j = g.2.length := by omega
      subst ej
      refine .inl ⟨⟨_, st2, by rw [List.length_map]; exact Nat.le_refl _⟩, e2, ?_⟩
      rw [h2, List.take_length, take_more eg, List.flatMap_append]
      simp
  · have ei : i = gs.length := by omega
    subst ei
    refine .inl ⟨⟨fz, by rw [len]; exact Nat.le_refl _⟩, hd Hc L e1 ?_ nL⟩
    rw [h1, List.take_length]
/-- {gate[0]: sources[gate[0]] for gate in gates} -/
theorem mkB {gts : List Gt} {Qd : Hp → Prop} (hg : Dp K H (.ref b) (.list (gts.map gateD))) (s : SrcAt K H D gs) (nd : (ks gs).Nodup) (sub : ∀ g ∈ gts, (g.1, g.2.2) ∈ gs) (ndg : (gnm gts).Nodup) (few : gts.length ≤ 500) {B : Addr} (nB : H B = none)
    (hd : ∀ H', Ex H H' → SrcAt K H' B (bet' gts) → Qd H') :
    DcG (Itl K b) (gName 13) tYes (tOp (rIxT K) (tVar 13) (tC (.int 0))) (tDGet (tVar 6) (tOp (rIxT K) (tVar 13) (tC (.int 0)))) [13] (sgI p a b c d u5 (some (.ref D)) u7 u8 u9 u10 u11 u12) H B Qd := by
  cases hg with
  | @lst b' xs _ hb ha =>
    have len := dp_len ha
    have nd' : (ks (([] : List (Str × List Str)) ++ gts.map fun g : Gt => (g.1, g.2.2))).Nodup := by
      rw [List.nil_append]
      exact (by rw [show gts.map (fun g : Gt => (g.1, g.2.2)) = bet' gts from rfl, ks_bet]; exact ndg)
    obtain ⟨kvs, ps, h1, h2⟩ := s
    refine dc_it (walk_list (K := K) (a := b) (xs := xs)) (fun i Hc => Ex H Hc ∧ SrcAt K Hc B ([] ++ (gts.take i).map fun g : Gt => (g.1, g.2.2))) ⟨Ex.new nB, [], [], upd_same, rfl, rfl, fun p hp => by cases hp⟩ (fun i Hc _ q => ex_l q.1 hb) (fun i x Ha Hb hi q yy => ?_) (fun Hc q => ?_)
    · obtain ⟨rfl, ex⟩ := yy
      obtain ⟨g, eg, dg⟩ := dp_nth ha ex
      have gin := List.mem_of_getElem? eg
      obtain ⟨tg, l, rfl, htg, hl⟩ := gate_of (dp_ex q.1 dg)
      obtain ⟨n1, n2⟩ := fresh_next (f := fun g : Gt => (g.1, g.2.2)) nd' eg
      obtain ⟨t, ht, hst⟩ := (h2.ex q.1).hit nd (sub g gin)
      have hD := DGet.k (k := Sum.inr g.1) (q.1 _ _ h1)
      rw [ht] at hD
      obtain ⟨kv3, ps3, h3, h4⟩ := q.2
      have q2 := h4.put (t := t) (zs := g.2.2) h3 n1 hst
      refine ⟨wipe_set _ 13 _, _, rfl, tg, _, 0, .str g.1, rfl, rfl, htg, rfl, _, rfl, _, rfl, tg, _, 0, .str g.1, rfl, rfl, htg, rfl, D, .ref t, rfl, hD, kv3, Sum.inr g.1, rfl, h3, ?_, q.1.mut nB, _, ps3 ++ [((g.1, g.2.2), t)], q2.1, ?_⟩
      · rw [h4.len]
        exact Nat.lt_of_le_of_lt (show _ ≤ 1000 by simp; omega) (by decide)
      · rw [n2]
        exact q2.2
    · refine hd Hc q.1 ?_
      have := q.2
      rw [len, List.take_length, List.nil_append] at this
      exact this
end
end W

set_option Elab.async false
set_option linter.all false
set_option maxRecDepth 100000
set_option maxHeartbeats 4000000
/-! sorted of tuples that begin with unlike names: the names rise; two such lists of the same are one. -/
namespace G
open PySem PySem.Spec PyProof.Rows L2 Evl
/-- in the sequence of the names -/
def NameLt (x y : Str) : Prop := x.cps.toList < y.cps.toList
def Rising {α : Type} (nm : α → Str) (l : List α) : Prop := l.Pairwise fun a b => NameLt (nm a) (nm b)
theorem NameLt.asymm {x y : Str} (h : NameLt x y) (g : NameLt y x) : False := List.lt_asymm h g
theorem NameLt.irrefl {x : Str} (h : NameLt x x) : False := h.asymm h
theorem NameLt.of_ne {x y : Str} (h : ¬ NameLt y x) (ne : x ≠ y) : NameLt x y := by
  unfold NameLt at *
  refine Decidable.byContradiction fun q => ne (PySem.W.str_of_cps ?_)
  exact List.le_antisymm (List.not_lt.mp h) (List.not_lt.mp q)
theorem rising_eq {α : Type} {nm : α → Str} : ∀ {l m : List α}, Rising nm l → Rising nm m → l.Perm m → l = m
  | [], m, _, _, p => (List.nil_perm.mp p).symm
  | a :: l, [], _, _, p => absurd (List.perm_nil.mp p) (by simp)
  | a :: l, b :: m, hl, hm, p => by
    obtain ⟨a1, a2⟩ := List.pairwise_cons.mp hl
    obtain ⟨b1, b2⟩ := List.pairwise_cons.mp hm
    have e : a = b := by
      rcases List.mem_cons.mp (p.mem_iff.mp List.mem_cons_self) with z | z
      · exact z
      · rcases List.mem_cons.mp (p.mem_iff.mpr (List.mem_cons_self (a := b) (l := m))) with y | y
        · exact y.symm
        · exact ((b1 a z).asymm (a1 b y)).elim
    subst e
    rw [rising_eq a2 b2 (List.Perm.cons_inv p)]
theorem rising_nodup {α : Type} {nm : α → Str} {l : List α} (h : Rising nm l) : (l.map nm).Nodup := by
  unfold List.Nodup
  rw [List.pairwise_map]
  exact h.imp fun q e => by rw [e] at q; exact q.irrefl
section
variable {α : Type} {nm : α → Str} {f : α → PyData} {rest : α → List PyData}
theorem less_name (hf : ∀ a, f a = .tuple (.str (nm a) :: rest a)) {a b : α} (ne : nm a ≠ nm b) (h : (!PySem.W.dataLt (f b) (f a)) = true) : NameLt (nm a) (nm b) := by
  rw [hf, hf, PySem.W.dataLt_tuple, PySem.W.dataLt_cons (by rfl)] at h
  have e : PyData.eqv (.str (nm b)) (.str (nm a)) = false := by
    show decide (nm b = nm a) = false
    exact decide_eq_false (Ne.symm ne)
  rw [e, if_neg (by decide), PySem.W.dataLt_str] at h
  refine NameLt.of_ne (fun q => ?_) ne
  have q : (nm b).cps.toList < (nm a).cps.toList := q
  rw [decide_eq_true q] at h
  cases h
/-- the items and what they tell, in the sequence of the names -/
theorem srt_names (hf : ∀ a, f a = .tuple (.str (nm a) :: rest a)) {xs : List V} {as : List α} (len : xs.length = as.length) (nd : (as.map nm).Nodup) :
    ∃ sn : List α, sn.Perm as ∧ Rising nm sn ∧ (srt xs (as.map f)).map Prod.snd = sn.map f := by
  have tl := PySem.W.sortLe_total (α := V × α) (PyProof.Rows.listOrd PyProof.Rows.itemOrd) false fun p => PySem.W.keyToks (f p.2)
  have ez : xs.zip (as.map f) = (xs.zip as).map fun p => (p.1, f p.2) := by
    rw [List.zip_map_right]
    rfl
  have em : srt xs (as.map f) = ((xs.zip as).mergeSort (PySem.W.dataLe false fun p => f p.2)).map fun p => (p.1, f p.2) := by
    unfold srt
    rw [ez]
    exact (List.map_mergeSort (r := PySem.W.dataLe false fun p : V × α => f p.2) (s := PySem.W.dataLe false Prod.snd) (f := fun p : V × α => (p.1, f p.2)) (fun a _ b _ => rfl)).symm
  have pm : ((xs.zip as).mergeSort (PySem.W.dataLe false fun p => f p.2)).Perm (xs.zip as) := List.mergeSort_perm _ _
  have pw : ((xs.zip as).mergeSort (PySem.W.dataLe false fun p => f p.2)).Pairwise fun p q => PySem.W.dataLe false (fun p : V × α => f p.2) p q = true :=
    List.pairwise_mergeSort (fun a b c => tl.trans a b c) (fun a b => by rcases tl.total a b with z | z <;> simp [PySem.W.dataLe, z]) _
  have snd : (xs.zip as).map Prod.snd = as := List.map_snd_zip (Nat.le_of_eq len.symm)
  have pa : (((xs.zip as).mergeSort (PySem.W.dataLe false fun p => f p.2)).map Prod.snd).Perm as := by
    have q := pm.map Prod.snd
    rwa [snd] at q
  refine ⟨((xs.zip as).mergeSort (PySem.W.dataLe false fun p => f p.2)).map Prod.snd, pa, ?_, ?_⟩
  · have nd2 : ((((xs.zip as).mergeSort (PySem.W.dataLe false fun p => f p.2)).map Prod.snd).map nm).Nodup := (pa.map nm).nodup_iff.mpr nd
    unfold Rising
    rw [List.pairwise_map]
    unfold List.Nodup at nd2
    rw [List.pairwise_map, List.pairwise_map] at nd2
    exact pw.imp₂ (fun p q h ne => less_name hf ne h) nd2
  · rw [em, List.map_map, List.map_map]
    rfl
end
end G

set_option Elab.async false
set_option linter.all false
set_option maxRecDepth 100000
set_option maxHeartbeats 4000000
/-! zip of two walked things of unlike sorts (a list and a tuple): what its next does. -/
namespace G
open PySem PySem.Spec PyProof.Rows L2 Evl
/-- one side of a zip: the iterator at i over what stands at l -/
structure Side (prog : Program) (w : World) (i l : Addr) (xs : Array Value) where
  St : Nat → Heap → Prop
  near : ∀ {k : Nat} {h h' : Heap}, St k h → (∀ o, h.get? i = some o → h'.get? i = some o) → (∀ o, h.get? l = some o → h'.get? l = some o) → St k h'
  here : ∀ {k : Nat} {h : Heap}, St k h → ∃ o, h.get? i = some o ∧ ∀ v, o.data ≠ .cell v
  item : ∀ {A : Around} {E : Value → Shared → Prop} {s : Shared} {k : Nat} {x : Value} {Q : Value → Shared → Prop}, St k s.heap → xs[k]? = some x → (∀ h', St (k + 1) h' → Heap.SameBut i s.heap h' → Q x { s with heap := h' }) →
    wpAny (model prog w) A (Builtin.SmallTypes.nextOf (.ref i)) Q E s
  done : ∀ {A : Around} {E : Value → Shared → Prop} {s : Shared} {k : Nat} {Q : Value → Shared → Prop}, A.handled = none → St k s.heap → xs[k]? = none →
    (∀ h' e, Heap.ExtBut i s.heap h' → (∃ o, h'.get? e = some o ∧ o.cls = .type "StopIteration") → E (.ref e) { s with heap := h' }) → wpAny (model prog w) A (Builtin.SmallTypes.nextOf (.ref i)) Q E s
section
variable {prog : Program} {w : World} {i l : Addr} {xs : Array Value}
theorem list_near {h h' : Heap} (q : h.IsList l xs) (k : ∀ o, h.get? l = some o → h'.get? l = some o) : h'.IsList l xs := by
  obtain ⟨o, e, r⟩ := q
  exact ⟨o, k o e, r⟩
theorem tuple_near {h h' : Heap} (q : h.IsTuple l xs) (k : ∀ o, h.get? l = some o → h'.get? l = some o) : h'.IsTuple l xs := by
  obtain ⟨o, e, r⟩ := q
  exact ⟨o, k o e, r⟩
def sideL (ne : l ≠ i) : Side prog w i l xs where
  St k h := h.IsListIter i l k ∧ h.IsList l xs
  near q a b := ⟨q.1.at fun o e => a o e, list_near q.2 b⟩
  here q := by
    obtain ⟨⟨o, e, _, d⟩, _⟩ := q
    exact ⟨o, e, fun v z => by rw [d] at z; cases z⟩
  item q hx k := wpAny_nextOf_list_item q.1 q.2 hx fun h' a b => k h' ⟨a, list_near q.2 fun o e => b.extBut _ _ ne e⟩ b
  done hh q hx k := wpAny_nextOf_list_end hh q.1 q.2 hx k
def sideT (ne : l ≠ i) : Side prog w i l xs where
  St k h := h.IsTupleIter i l k ∧ h.IsTuple l xs
  near q a b := ⟨q.1.at fun o e => a o e, tuple_near q.2 b⟩
  here q := by
    obtain ⟨⟨o, e, _, d⟩, _⟩ := q
    exact ⟨o, e, fun v z => by rw [d] at z; cases z⟩
  item q hx k := RZ.nextOf_tuple_item q.1 q.2 hx fun h' a b => k h' ⟨a, tuple_near q.2 fun o e => b.extBut _ _ ne e⟩ b
  done hh q hx k := RZ.nextOf_tuple_end hh q.1 q.2 hx k
end
section
variable {prog : Program} {w : World} {A : Around} {E : Value → Shared → Prop} {s : Shared} {z TI TO i1 i2 l1 l2 : Addr} {k1 k2 : Nat} {xs ys : Array Value} {x y a b : Value}
/-- the pair is free: it is given out anew -/
theorem zip_item (D : ZipApart z TI TO i1 i2 l1 l2) (S1 : Side prog w i1 l1 xs) (S2 : Side prog w i2 l2 ys) {Q : Value → Shared → Prop} (hz : IsZip s.heap z TI TO .none) (hI : IsPair s.heap TI (.ref i1) (.ref i2)) (hO : IsPair s.heap TO a b)
    (q1 : S1.St k1 s.heap) (q2 : S2.St k2 s.heap) (hx : xs[k1]? = some x) (hy : ys[k2]? = some y)
    (k : ∀ h', IsZip h' z TI TO (rawInt s.heap.objs.size) → IsPair h' TO x y → S1.St (k1 + 1) h' → S2.St (k2 + 1) h' → IsPair h' s.heap.objs.size x y → h'.objs.size = s.heap.objs.size + 1 →
      (∀ c o, c ≠ z → c ≠ TO → c ≠ i1 → c ≠ i2 → s.heap.get? c = some o → h'.get? c = some o) → Q (.ref s.heap.objs.size) { s with heap := h' }) :
    wpAny (model prog w) A (Builtin.«zip.__next__» ⟨[.ref z], []⟩) (fun fin s1 => ∃ v, fin = .done (.ret v) ∧ Q v s1) E s := by
  show wpAny _ _ (field (.ref z) 2 >>= _) _ _ _
  refine wpAny_bind (wpAny_field hz rfl (x := .bool false) rfl ?_)
  show wpAny _ _ (field (.ref z) 3 >>= _) _ _ _
  refine wpAny_bind (wpAny_field hz rfl (x := .ref TI) rfl (wpAny_bind (wpAny_seqItems hI rfl ?_)))
  show wpAny _ _ (Builtin.SmallTypes.ownedTupleIsFree (.ref z) >>= _) _ _ _
  refine wpAny_bind ?_
  unfold Builtin.SmallTypes.ownedTupleIsFree
  refine wpAny_bind (wpAny_field hz rfl (x := .none) rfl (wpAny_pure ?_))
  simp only [if_true]
  refine wpAny_bind (wpAny_rule (wpAny_bind (wpAny_field hz rfl (x := .ref TO) rfl (wpAny_bind (wpAny_setField_rec hz (by simp) fun ha za ca => ?_)))))
  have za : IsZip ha z TI TO .ellipsis := za
  have p1 := S1.near q1 (fun o e => ca.extBut _ o D.i1z e) (fun o e => ca.extBut _ o D.l1z e)
  have p2 := S2.near q2 (fun o e => ca.extBut _ o D.i2z e) (fun o e => ca.extBut _ o D.l2z e)
  refine wpAny_bind ?_
  simp only [List.zipIdx_cons, List.zipIdx_nil, List.forIn_cons, List.forIn_nil]
  refine wpAny_bind (wpAny_bind (wpAny_onRaise ?_))
  show wpAny _ _ (Builtin.SmallTypes.nextOf (.ref i1) >>= _) _ _ _
  refine wpAny_bind (S1.item (s := { s with heap := ha }) p1 hx fun hb r1 cb => wpAny_pure ?_)
  have p2 := S2.near p2 (fun o e => cb.extBut _ o D.i12.symm e) (fun o e => cb.extBut _ o D.l2i1 e)
  have oB : IsPair hb TO a b := cb.extBut _ _ D.TOi1 (ca.extBut _ _ D.TOz hO)
  refine wpAny_bind (wpAny_seqItems oB rfl (wpAny_bind (wpAny_updateSeq_pair oB fun hc oC cc => ?_)))
  have oC : IsPair hc TO x b := oC
  have r1 := S1.near r1 (fun o e => cc.extBut _ o D.TOi1.symm e) (fun o e => cc.extBut _ o D.l1TO e)
  have p2 := S2.near p2 (fun o e => cc.extBut _ o D.TOi2.symm e) (fun o e => cc.extBut _ o D.l2TO e)
  refine wpAny_bind (wpAny_letGo (wpAny_pure ?_))
  refine wpAny_bind (wpAny_bind (wpAny_onRaise ?_))
  show wpAny _ _ (Builtin.SmallTypes.nextOf (.ref i2) >>= _) _ _ _
  refine wpAny_bind (S2.item (s := { s with heap := hc }) p2 hy fun hd r2 cd => wpAny_pure ?_)
  have r1 := S1.near r1 (fun o e => cd.extBut _ o D.i12 e) (fun o e => cd.extBut _ o D.l1i2 e)
  have oD : IsPair hd TO x b := cd.extBut _ _ D.TOi2 oC
  refine wpAny_bind (wpAny_seqItems oD rfl (wpAny_bind (wpAny_updateSeq_pair oD fun he oE ce => ?_)))
  have oE : IsPair he TO x y := oE
  have r1 := S1.near r1 (fun o e => ce.extBut _ o D.TOi1.symm e) (fun o e => ce.extBut _ o D.l1TO e)
  have r2 := S2.near r2 (fun o e => ce.extBut _ o D.TOi2.symm e) (fun o e => ce.extBut _ o D.l2TO e)
  refine wpAny_bind (wpAny_letGo (wpAny_pure (wpAny_pure (wpAny_bind (wpAny_seqItems oE rfl (wpAny_bind (wpAny_newTuple ?_)))))))
  have size : he.objs.size = s.heap.objs.size := by rw [ce.1, cd.1, cc.1, cb.1, ca.1]
  have zE : IsZip he z TI TO .ellipsis := ce.extBut _ _ D.TOz.symm (cd.extBut _ _ D.i2z.symm (cc.extBut _ _ D.TOz.symm (cb.extBut _ _ D.i1z.symm za)))
  have oth : ∀ c o, c ≠ z → c ≠ TO → c ≠ i1 → c ≠ i2 → s.heap.get? c = some o → he.get? c = some o := fun c o n1 n2 n3 n4 e =>
    ce.extBut _ _ n2 (cd.extBut _ _ n4 (cc.extBut _ _ n2 (cb.extBut _ _ n3 (ca.extBut _ _ n1 e))))
  have zlt : z < he.objs.size := Heap.lt_size zE
  show wpAny _ _ (Builtin.SmallTypes.ownedTupleHandOut (.ref z) (.ref he.objs.size) >>= _) _ _ _
  refine wpAny_bind ?_
  unfold Builtin.SmallTypes.ownedTupleHandOut
  have zF : IsZip (he.push { cls := .type "tuple", data := .seq #[x, y] }) z TI TO .ellipsis := Heap.get?_push_of_some _ zE
  refine wpAny_bind (wpAny_setField_rec zF (by simp) fun hf zf cf => ?_)
  have zf : IsZip hf z TI TO (rawInt he.objs.size) := zf
  refine wpAny_setField_rec zf (by simp) fun hg zg cg => ?_
  have zg : IsZip hg z TI TO (rawInt he.objs.size) := zg
  have up : ∀ c o, c ≠ z → he.get? c = some o → hg.get? c = some o := fun c o n e => cg.extBut _ _ n (cf.extBut _ _ n (Heap.get?_push_of_some _ e))
  have new : IsPair hg he.objs.size x y := cg.extBut _ _ (Nat.ne_of_gt zlt) (cf.extBut _ _ (Nat.ne_of_gt zlt) (Heap.get?_push_size _ rfl))
  have size2 : hg.objs.size = he.objs.size + 1 := by rw [cg.1, cf.1, Heap.size_push]
  rw [size] at zg new size2
  refine wpAny_pure ⟨_, rfl, ?_⟩
  show Q (.ref he.objs.size) _
  rw [size]
  exact k hg zg (up _ _ D.TOz oE) (S1.near r1 (fun o e => up _ o D.i1z e) (fun o e => up _ o D.l1z e)) (S2.near r2 (fun o e => up _ o D.i2z e) (fun o e => up _ o D.l2z e)) new size2 fun c o n1 n2 n3 n4 e => up c o n1 (oth c o n1 n2 n3 n4 e)
/-- its end -/
theorem zip_end (hh : A.handled = none) (D : ZipApart z TI TO i1 i2 l1 l2) (S1 : Side prog w i1 l1 xs) (S2 : Side prog w i2 l2 ys) {Q : Fin → Shared → Prop} (hz : IsZip s.heap z TI TO .none) (hI : IsPair s.heap TI (.ref i1) (.ref i2)) (hO : IsPair s.heap TO a b)
    (q1 : S1.St k1 s.heap) (q2 : S2.St k2 s.heap) (hend : xs[k1]? = none ∨ ys[k2]? = none)
    (k : ∀ h' e, (∀ c o, c ≠ z → c ≠ TO → c ≠ i1 → c ≠ i2 → s.heap.get? c = some o → h'.get? c = some o) → (∃ o, h'.get? e = some o ∧ o.cls = .type "StopIteration") → E (.ref e) { s with heap := h' }) :
    wpAny (model prog w) A (Builtin.«zip.__next__» ⟨[.ref z], []⟩) Q E s := by
  show wpAny _ _ (field (.ref z) 2 >>= _) _ _ _
  refine wpAny_bind (wpAny_field hz rfl (x := .bool false) rfl ?_)
  show wpAny _ _ (field (.ref z) 3 >>= _) _ _ _
  refine wpAny_bind (wpAny_field hz rfl (x := .ref TI) rfl (wpAny_bind (wpAny_seqItems hI rfl ?_)))
  show wpAny _ _ (Builtin.SmallTypes.ownedTupleIsFree (.ref z) >>= _) _ _ _
  refine wpAny_bind ?_
  unfold Builtin.SmallTypes.ownedTupleIsFree
  refine wpAny_bind (wpAny_field hz rfl (x := .none) rfl (wpAny_pure ?_))
  simp only [if_true]
  refine wpAny_bind (wpAny_rule (wpAny_bind (wpAny_field hz rfl (x := .ref TO) rfl (wpAny_bind (wpAny_setField_rec hz (by simp) fun ha za ca => ?_)))))
  have za : IsZip ha z TI TO .ellipsis := za
  have p1 := S1.near q1 (fun o e => ca.extBut _ o D.i1z e) (fun o e => ca.extBut _ o D.l1z e)
  have p2 := S2.near q2 (fun o e => ca.extBut _ o D.i2z e) (fun o e => ca.extBut _ o D.l2z e)
  refine wpAny_bind ?_
  simp only [List.zipIdx_cons, List.zipIdx_nil, List.forIn_cons, List.forIn_nil]
  refine wpAny_bind (wpAny_bind (wpAny_onRaise ?_))
  show wpAny _ _ (Builtin.SmallTypes.nextOf (.ref i1) >>= _) _ _ _
  cases hx : xs[k1]? with
  | none =>
    refine wpAny_bind (S1.done (s := { s with heap := ha }) hh p1 hx fun hb e cb st => ?_)
    obtain ⟨oe, he, hc⟩ := st
    have zb : IsZip hb z TI TO .ellipsis := cb _ _ D.i1z.symm za
    have ez : e ≠ z := fun q => by
      rw [q, zb] at he
      cases he
      simp at hc
    exact wpAny_setField_rec zb (by simp) fun hd _ cd => k hd e (fun c o n1 _ n3 _ q => cd.extBut _ _ n1 (cb _ _ n3 (ca.extBut _ _ n1 q))) ⟨oe, cd.extBut _ _ ez he, hc⟩
  | some x =>
    have hy : ys[k2]? = none := hend.resolve_left (by rw [hx]; exact fun q => by cases q)
    refine wpAny_bind (S1.item (s := { s with heap := ha }) p1 hx fun hb r1 cb => wpAny_pure ?_)
    have p2 := S2.near p2 (fun o e => cb.extBut _ o D.i12.symm e) (fun o e => cb.extBut _ o D.l2i1 e)
    have oB : IsPair hb TO a b := cb.extBut _ _ D.TOi1 (ca.extBut _ _ D.TOz hO)
    refine wpAny_bind (wpAny_seqItems oB rfl (wpAny_bind (wpAny_updateSeq_pair oB fun hc oC cc => ?_)))
    have p2 := S2.near p2 (fun o e => cc.extBut _ o D.TOi2.symm e) (fun o e => cc.extBut _ o D.l2TO e)
    refine wpAny_bind (wpAny_letGo (wpAny_pure ?_))
    refine wpAny_bind (wpAny_bind (wpAny_onRaise ?_))
    show wpAny _ _ (Builtin.SmallTypes.nextOf (.ref i2) >>= _) _ _ _
    refine wpAny_bind (S2.done (s := { s with heap := hc }) hh p2 hy fun hd e cd st => ?_)
    obtain ⟨oe, he, hcl⟩ := st
    have zd : IsZip hd z TI TO .ellipsis := cd _ _ D.i2z.symm (cc.extBut _ _ D.TOz.symm (cb.extBut _ _ D.i1z.symm za))
    have ez : e ≠ z := fun q => by
      rw [q, zd] at he
      cases he
      simp at hcl
    exact wpAny_setField_rec zd (by simp) fun hf _ cf => k hf e (fun c o n1 n2 n3 n4 q => cf.extBut _ _ n1 (cd _ _ n4 (cc.extBut _ _ n2 (cb.extBut _ _ n3 (ca.extBut _ _ n1 q))))) ⟨oe, cf.extBut _ _ ez he, hcl⟩
/-- the pair last given out is held still: a new one -/
theorem zip_itemH (D : ZipApart z TI TO i1 i2 l1 l2) (S1 : Side prog w i1 l1 xs) (S2 : Side prog w i2 l2 ys) {T : Addr} {f : Bool} {oT : Obj} {Q : Value → Shared → Prop} (hz : IsZipHeld s.heap z TI TO T f) (hT : s.heap.get? T = some oT) (hI : IsPair s.heap TI (.ref i1) (.ref i2))
    (q1 : S1.St k1 s.heap) (q2 : S2.St k2 s.heap) (hx : xs[k1]? = some x) (hy : ys[k2]? = some y)
    (k : ∀ h', IsZipHeld h' z TI TO T true → S1.St (k1 + 1) h' → S2.St (k2 + 1) h' → IsPair h' s.heap.objs.size x y → h'.objs.size = s.heap.objs.size + 1 →
      (∀ c o, c ≠ z → c ≠ i1 → c ≠ i2 → s.heap.get? c = some o → h'.get? c = some o) → Q (.ref s.heap.objs.size) { s with heap := h' }) :
    wpAny (model prog w) A (Builtin.«zip.__next__» ⟨[.ref z], []⟩) (fun fin s1 => ∃ v, fin = .done (.ret v) ∧ Q v s1) E s := by
  show wpAny _ _ (field (.ref z) 2 >>= _) _ _ _
  refine wpAny_bind (wpAny_field hz rfl (x := .bool false) rfl ?_)
  show wpAny _ _ (field (.ref z) 3 >>= _) _ _ _
  refine wpAny_bind (wpAny_field hz rfl (x := .ref TI) rfl (wpAny_bind (wpAny_seqItems hI rfl ?_)))
  show wpAny _ _ (Builtin.SmallTypes.ownedTupleIsFree (.ref z) >>= _) _ _ _
  refine wpAny_bind (wpAny_tupleHeld_zip hz hT fun ha za ca => ?_)
  have p1 := S1.near q1 (fun o e => ca.extBut _ o D.i1z e) (fun o e => ca.extBut _ o D.l1z e)
  have p2 := S2.near q2 (fun o e => ca.extBut _ o D.i2z e) (fun o e => ca.extBut _ o D.l2z e)
  simp only [Bool.false_eq_true, if_false]
  refine wpAny_bind ?_
  rw [← Array.forIn_toList]
  simp only [List.forIn_cons, List.forIn_nil]
  refine wpAny_bind (wpAny_bind (wpAny_holding ?_))
  show wpAny _ _ (Builtin.SmallTypes.nextOf (.ref i1) >>= _) _ _ _
  refine wpAny_bind (S1.item (s := { s with heap := ha }) p1 hx fun hb r1 cb => wpAny_pure (wpAny_pure ?_))
  have p2 := S2.near p2 (fun o e => cb.extBut _ o D.i12.symm e) (fun o e => cb.extBut _ o D.l2i1 e)
  refine wpAny_bind (wpAny_bind (wpAny_holding ?_))
  show wpAny _ _ (Builtin.SmallTypes.nextOf (.ref i2) >>= _) _ _ _
  refine wpAny_bind (S2.item (s := { s with heap := hb }) p2 hy fun hc r2 cc => wpAny_pure (wpAny_pure (wpAny_pure ?_)))
  have r1 := S1.near r1 (fun o e => cc.extBut _ o D.i12 e) (fun o e => cc.extBut _ o D.l1i2 e)
  show wpAny _ _ (newTuple [x, y] >>= _) _ _ _
  refine wpAny_bind (wpAny_newTuple ?_)
  have size : hc.objs.size = s.heap.objs.size := by rw [cc.1, cb.1, ca.1]
  have zc : IsZipHeld hc z TI TO T true := cc.extBut _ _ D.i2z.symm (cb.extBut _ _ D.i1z.symm za)
  have oth : ∀ c o, c ≠ z → c ≠ i1 → c ≠ i2 → s.heap.get? c = some o → hc.get? c = some o := fun c o n1 n2 n3 e => cc.extBut _ _ n3 (cb.extBut _ _ n2 (ca.extBut _ _ n1 e))
  refine wpAny_pure ⟨_, rfl, ?_⟩
  show Q (.ref hc.objs.size) _
  have new : IsPair (hc.push { cls := .type "tuple", data := .seq #[x, y] }) hc.objs.size x y := Heap.get?_push_size _ rfl
  have size2 : (hc.push { cls := .type "tuple", data := .seq #[x, y] }).objs.size = hc.objs.size + 1 := Heap.size_push ..
  rw [size] at new size2 ⊢
  exact k _ (Heap.get?_push_of_some _ zc) (S1.near r1 (fun o e => Heap.get?_push_of_some _ e) (fun o e => Heap.get?_push_of_some _ e)) (S2.near r2 (fun o e => Heap.get?_push_of_some _ e) (fun o e => Heap.get?_push_of_some _ e)) new size2 fun c o n1 n2 n3 e => Heap.get?_push_of_some _ (oth c o n1 n2 n3 e)
theorem zip_endH (hh : A.handled = none) (D : ZipApart z TI TO i1 i2 l1 l2) (S1 : Side prog w i1 l1 xs) (S2 : Side prog w i2 l2 ys) {T : Addr} {f : Bool} {oT : Obj} {Q : Fin → Shared → Prop} (hz : IsZipHeld s.heap z TI TO T f) (hT : s.heap.get? T = some oT) (hI : IsPair s.heap TI (.ref i1) (.ref i2))
    (q1 : S1.St k1 s.heap) (q2 : S2.St k2 s.heap) (hend : xs[k1]? = none ∨ ys[k2]? = none)
    (k : ∀ h' e, (∀ c o, c ≠ z → c ≠ i1 → c ≠ i2 → s.heap.get? c = some o → h'.get? c = some o) → (∃ o, h'.get? e = some o ∧ o.cls = .type "StopIteration") → E (.ref e) { s with heap := h' }) :
    wpAny (model prog w) A (Builtin.«zip.__next__» ⟨[.ref z], []⟩) Q E s := by
  show wpAny _ _ (field (.ref z) 2 >>= _) _ _ _
  refine wpAny_bind (wpAny_field hz rfl (x := .bool false) rfl ?_)
  show wpAny _ _ (field (.ref z) 3 >>= _) _ _ _
  refine wpAny_bind (wpAny_field hz rfl (x := .ref TI) rfl (wpAny_bind (wpAny_seqItems hI rfl ?_)))
  show wpAny _ _ (Builtin.SmallTypes.ownedTupleIsFree (.ref z) >>= _) _ _ _
  refine wpAny_bind (wpAny_tupleHeld_zip hz hT fun ha za ca => ?_)
  have p1 := S1.near q1 (fun o e => ca.extBut _ o D.i1z e) (fun o e => ca.extBut _ o D.l1z e)
  have p2 := S2.near q2 (fun o e => ca.extBut _ o D.i2z e) (fun o e => ca.extBut _ o D.l2z e)
  simp only [Bool.false_eq_true, if_false]
  refine wpAny_bind ?_
  rw [← Array.forIn_toList]
  simp only [List.forIn_cons, List.forIn_nil]
  refine wpAny_bind (wpAny_bind (wpAny_holding ?_))
  show wpAny _ _ (Builtin.SmallTypes.nextOf (.ref i1) >>= _) _ _ _
  cases hx : xs[k1]? with
  | none => exact wpAny_bind (S1.done (s := { s with heap := ha }) hh p1 hx fun hb e cb st => k hb e (fun c o n1 n2 _ q => cb _ _ n2 (ca.extBut _ _ n1 q)) st)
  | some x =>
    have hy : ys[k2]? = none := hend.resolve_left (by rw [hx]; exact fun q => by cases q)
    refine wpAny_bind (S1.item (s := { s with heap := ha }) p1 hx fun hb r1 cb => wpAny_pure (wpAny_pure ?_))
    have p2 := S2.near p2 (fun o e => cb.extBut _ o D.i12.symm e) (fun o e => cb.extBut _ o D.l2i1 e)
    refine wpAny_bind (wpAny_bind (wpAny_holding ?_))
    show wpAny _ _ (Builtin.SmallTypes.nextOf (.ref i2) >>= _) _ _ _
    exact wpAny_bind (S2.done (s := { s with heap := hb }) hh p2 hy fun hc e cc st => k hc e (fun c o n1 n2 n3 q => cc _ _ n3 (cb.extBut _ _ n2 (ca.extBut _ _ n1 q))) st)
end
end G

set_option Elab.async false
set_option linter.all false
set_option maxRecDepth 100000
set_option maxHeartbeats 4000000
/-! list(zip(a list, a tuple)). -/
namespace G
open PySem PySem.Spec PyProof.Rows L2 Evl
theorem zip_len0 : typeLookup (.type "zip") "__len__" = pure none := am_miss_of_fast (by decide +kernel)
theorem zip_hint0 : typeLookup (.type "zip") "__length_hint__" = pure none := am_miss_of_fast (by decide +kernel)
theorem hint_zip {prog : Program} {w : World} {A : Around} {E : Value → Shared → Prop} {s : Shared} {z : Addr} {Q : Bool → Shared → Prop} (hT : s.TypeIs (.ref z) "zip") (q : Q true s) : wpAny (model prog w) A (Builtin.List.listLengthHint (.ref z)) Q E s := by
  unfold Builtin.List.listLengthHint
  refine wpAny_bind (wpAny_specialOf hT zip_len0 ?_)
  show wpAny _ A (specialOf (Value.ref z) (Str.ofString "__length_hint__") >>= _) _ _ _
  exact wpAny_bind (wpAny_specialOf hT zip_hint0 (wpAny_pure q))
/-- where a zip stands that is drawn empty into the list at S -/
def ZS {prog : Program} {w : World} {i1 i2 l1 l2 : Addr} {xs ys : Array Value} (z TI TO S : Addr) (S1 : Side prog w i1 l1 xs) (S2 : Side prog w i2 l2 ys) (h : Heap) (i : Nat) : Prop :=
  IsPair h TI (.ref i1) (.ref i2) ∧ S1.St i h ∧ S2.St i h ∧ ((IsZip h z TI TO .none ∧ ∃ a b, IsPair h TO a b) ∨ ∃ (T : Addr) (f : Bool) (oT : Obj), IsZipHeld h z TI TO T f ∧ h.get? T = some oT ∧ T ≠ z ∧ T ≠ i1 ∧ T ≠ i2 ∧ T ≠ S)
/-- what has been drawn: new pairs -/
structure PsG (ps : List (Value × Value)) (lo : Addr) (h : Heap) (as : List Addr) : Prop where
  rise : as.Pairwise (· < ·)
  above : ∀ a ∈ as, lo < a
  pairs : ∀ (j : Nat) (a : Addr), as[j]? = some a → ∃ p, ps[j]? = some p ∧ IsPair h a p.1 p.2
section
variable {prog : Program} {w : World} {A : Around} {E : Value → Shared → Prop} {s : Shared} {z TI TO S i1 i2 l1 l2 : Addr} {xs ys : Array Value} {i : Nat}
theorem ZS.type {S1 : Side prog w i1 l1 xs} {S2 : Side prog w i2 l2 ys} {h : Heap} (q : ZS z TI TO S S1 S2 h i) : ∃ o, h.get? z = some o ∧ o.cls = .type "zip" := by
  obtain ⟨_, _, _, ⟨hz, _⟩ | ⟨T, f, oT, hz, _⟩⟩ := q
  · exact ⟨_, hz, rfl⟩
  · exact ⟨_, hz, rfl⟩
theorem ZS.near {S1 : Side prog w i1 l1 xs} {S2 : Side prog w i2 l2 ys} {h h' : Heap} (q : ZS z TI TO S S1 S2 h i) (ns : z ≠ S ∧ TI ≠ S ∧ TO ≠ S ∧ i1 ≠ S ∧ i2 ≠ S ∧ l1 ≠ S ∧ l2 ≠ S) (k : ∀ b o, b ≠ S → h.get? b = some o → h'.get? b = some o) : ZS z TI TO S S1 S2 h' i := by
  obtain ⟨n1, n2, n3, n4, n5, n6, n7⟩ := ns
  obtain ⟨hI, q1, q2, r⟩ := q
  refine ⟨k _ _ n2 hI, S1.near q1 (fun o e => k _ o n4 e) (fun o e => k _ o n6 e), S2.near q2 (fun o e => k _ o n5 e) (fun o e => k _ o n7 e), ?_⟩
  rcases r with ⟨hz, a, b, hO⟩ | ⟨T, f, oT, hz, hT, t1, t2, t3, t4⟩
  · exact .inl ⟨k _ _ n1 hz, a, b, k _ _ n3 hO⟩
  · exact .inr ⟨T, f, oT, k _ _ n1 hz, k _ _ t4 hT, t1, t2, t3, t4⟩
theorem zs_item (D : ZipApart z TI TO i1 i2 l1 l2) {S1 : Side prog w i1 l1 xs} {S2 : Side prog w i2 l2 ys} (q : ZS z TI TO S S1 S2 s.heap i) (hS : S < s.heap.objs.size) {x y : Value} (hx : xs[i]? = some x) (hy : ys[i]? = some y) {Q : Option Value → Shared → Prop}
    (k : ∀ h', ZS z TI TO S S1 S2 h' (i + 1) → IsPair h' s.heap.objs.size x y → h'.objs.size = s.heap.objs.size + 1 → (∀ c o, c ≠ z → c ≠ TO → c ≠ i1 → c ≠ i2 → s.heap.get? c = some o → h'.get? c = some o) → Q (some (.ref s.heap.objs.size)) { s with heap := h' }) :
    wpAny (model prog w) A (pyNext (.ref z)) Q E s := by
  have hT : s.TypeIs (.ref z) "zip" := q.type
  obtain ⟨oz, ez, _⟩ := q.type
  have lz : z < s.heap.objs.size := Heap.lt_size ez
  obtain ⟨hI, q1, q2, r⟩ := q
  obtain ⟨o1, e1, _⟩ := S1.here q1
  obtain ⟨o2, e2, _⟩ := S2.here q2
  have li1 := Heap.lt_size e1
  have li2 := Heap.lt_size e2
  unfold pyNext
  refine wpAny_bind (wpAny_attempt (wpAny_callSpecial?_slot (name := Str.ofString "__next__") hT F.slot_zip_next (wpAny_call_entry F.slot_zip_next hT F.entry_zip_next ?_ (F.args_zip_next_1 _))))
  rcases r with ⟨hz, a, b, hO⟩ | ⟨T, f, oT, hz, hTT, t1, t2, t3, t4⟩
  · refine zip_item D S1 S2 hz hI hO q1 q2 hx hy fun h' a1 a2 a3 a4 a5 a6 a7 => wpAny_pure (k h' ⟨a7 _ _ D.TIz D.TITO D.TIi1 D.TIi2 hI, a3, a4, .inr ⟨s.heap.objs.size, false, _, a1, a5, Nat.ne_of_gt lz, Nat.ne_of_gt li1, Nat.ne_of_gt li2, Nat.ne_of_gt hS⟩⟩ a5 a6 a7)
  · refine zip_itemH D S1 S2 hz hTT hI q1 q2 hx hy fun h' a1 a3 a4 a5 a6 a7 => wpAny_pure (k h' ⟨a7 _ _ D.TIz D.TIi1 D.TIi2 hI, a3, a4, .inr ⟨T, true, _, a1, a7 _ _ t1 t2 t3 hTT, t1, t2, t3, t4⟩⟩ a5 a6 fun c o n1 _ n3 n4 e => a7 c o n1 n3 n4 e)
theorem zs_end (hh : A.handled = none) (D : ZipApart z TI TO i1 i2 l1 l2) {S1 : Side prog w i1 l1 xs} {S2 : Side prog w i2 l2 ys} (q : ZS z TI TO S S1 S2 s.heap i) (hend : xs[i]? = none ∨ ys[i]? = none) {Q : Option Value → Shared → Prop}
    (k : ∀ h', (∀ c o, c ≠ z → c ≠ TO → c ≠ i1 → c ≠ i2 → s.heap.get? c = some o → h'.get? c = some o) → Q none { s with heap := h' }) : wpAny (model prog w) A (pyNext (.ref z)) Q E s := by
  have hT : s.TypeIs (.ref z) "zip" := q.type
  obtain ⟨hI, q1, q2, r⟩ := q
  unfold pyNext
  rcases r with ⟨hz, a, b, hO⟩ | ⟨T, f, oT, hz, hTT, t1, t2, t3, t4⟩
  · refine wpAny_bind (wpAny_attempt (wpAny_callSpecial?_slot (name := Str.ofString "__next__") hT F.slot_zip_next
      (wpAny_call_entry F.slot_zip_next hT F.entry_zip_next (zip_end (A := A.in1) hh D S1 S2 hz hI hO q1 q2 hend fun h' e ke he => ?_) (F.args_zip_next_1 _))))
    obtain ⟨o, e1, e2⟩ := he
    refine wpAny_bind (wpAny_isInstance (T := "StopIteration") (b := true) ⟨o, e1, e2⟩ isSubtype_stop ?_)
    exact wpAny_pure (k _ ke)
  · refine wpAny_bind (wpAny_attempt (wpAny_callSpecial?_slot (name := Str.ofString "__next__") hT F.slot_zip_next
      (wpAny_call_entry F.slot_zip_next hT F.entry_zip_next (zip_endH (A := A.in1) hh D S1 S2 hz hTT hI q1 q2 hend fun h' e ke he => ?_) (F.args_zip_next_1 _))))
    obtain ⟨o, e1, e2⟩ := he
    refine wpAny_bind (wpAny_isInstance (T := "StopIteration") (b := true) ⟨o, e1, e2⟩ isSubtype_stop ?_)
    exact wpAny_pure (k _ fun c o n1 _ n3 n4 w => ke c o n1 n3 n4 w)
/-- drawn into the list at S -/
theorem zs_loop (hh : A.handled = none) (D : ZipApart z TI TO i1 i2 l1 l2) {S1 : Side prog w i1 l1 xs} {S2 : Side prog w i2 l2 ys} (ns : z ≠ S ∧ TI ≠ S ∧ TO ≠ S ∧ i1 ≠ S ∧ i2 ≠ S ∧ l1 ≠ S ∧ l2 ≠ S) (res : Value) {lo : Addr} {ho : Heap} {R : Result → Shared → Prop}
    (room : (xs.toList.zip ys.toList).length ≤ sizeLine) (below : ∀ b o, ho.get? b = some o → b ≠ z ∧ b ≠ TO ∧ b ≠ i1 ∧ b ≠ i2) (lz : z ≤ lo ∧ TO ≤ lo ∧ i1 ≤ lo ∧ i2 ≤ lo ∧ S ≤ lo)
    (hR : ∀ h' acc c as, (∀ b o, b ≠ S → ho.get? b = some o → h'.get? b = some o) → h'.get? S = some { cls := .type "list", dict := none, data := .seq acc c, slots := #[] } → as.length = (xs.toList.zip ys.toList).length → PsG (xs.toList.zip ys.toList) lo h' as →
      acc.toList = as.map Value.ref → R (.ok (.ret res)) { s with heap := h' }) :
    ∀ (k i : Nat) (h : Heap) (c : Nat) (acc : Array Value) (as : List Addr), (xs.toList.zip ys.toList).length = k + i → ZS z TI TO S S1 S2 h i → (∀ b o, b ≠ S → ho.get? b = some o → h.get? b = some o) →
      h.get? S = some { cls := .type "list", dict := none, data := .seq acc c, slots := #[] } → acc.toList = as.map Value.ref → as.length = i → PsG (xs.toList.zip ys.toList) lo h as → lo < h.objs.size →
      codeAny (model prog w) A (.builtin "list.extend.loop" ⟨[.ref S, .ref z, res], []⟩) R { s with heap := h } := by
  obtain ⟨n1, n2, n3, n4, n5, n6, n7⟩ := id ns
  obtain ⟨z1, z2, z3, z4, z5⟩ := lz
  intro k
  induction k with
  | zero =>
    intro i h c acc as hk q kp hS ha hl g hs
    refine codeAny_builtin F.entry_extend_loop ?_
    rw [Around.under_plainId F.plain_extend_loop _]
    show wpAny _ A.in1 (pyNext (.ref z) >>= _) _ _ _
    have hend : xs[i]? = none ∨ ys[i]? = none := by
      rw [List.length_zip, Array.length_toList, Array.length_toList] at hk
      rcases Nat.lt_or_ge i xs.size with c1 | c1
      · exact .inr (by simp; omega)
      · exact .inl (by simp; omega)
    refine wpAny_bind (zs_end (A := A.in1) (s := { s with heap := h }) hh D q hend fun h' ke => ?_)
    refine wpAny_pure (hR h' acc c as (fun b o nb e => ?_) (ke _ _ (Ne.symm n1) (Ne.symm n3) (Ne.symm n4) (Ne.symm n5) hS) (by omega) ⟨g.rise, g.above, fun j a hj => ?_⟩ ha)
    · obtain ⟨b1, b2, b3, b4⟩ := below b o e
      exact ke b o b1 b2 b3 b4 (kp b o nb e)
    · obtain ⟨p, e1, e2⟩ := g.pairs j a hj
      have ab := g.above a (List.mem_of_getElem? hj)
      exact ⟨p, e1, ke _ _ (Nat.ne_of_gt (Nat.lt_of_le_of_lt z1 ab)) (Nat.ne_of_gt (Nat.lt_of_le_of_lt z2 ab)) (Nat.ne_of_gt (Nat.lt_of_le_of_lt z3 ab)) (Nat.ne_of_gt (Nat.lt_of_le_of_lt z4 ab)) e2⟩
  | succ k ih =>
    intro i h c acc as hk q kp hS ha hl g hs
    have lt : i < (xs.toList.zip ys.toList).length := by omega
    have lt2 := lt
    rw [List.length_zip, Array.length_toList, Array.length_toList] at lt2
    have hx : xs[i]? = some xs[i] := by simp
    have hy : ys[i]? = some ys[i] := by simp
    have hp : (xs.toList.zip ys.toList)[i]? = some (xs[i], ys[i]) := by
      rw [List.getElem?_zip_eq_some]
      exact ⟨by simpa using hx, by simpa using hy⟩
    have sz : acc.size = i := by rw [← Array.length_toList, ha, List.length_map, hl]
    have lS : S < h.objs.size := Heap.lt_size hS
    refine codeAny_builtin F.entry_extend_loop ?_
    rw [Around.under_plainId F.plain_extend_loop _]
    show wpAny _ A.in1 (pyNext (.ref z) >>= _) _ _ _
    refine wpAny_bind (zs_item (A := A.in1) (s := { s with heap := h }) D q lS hx hy fun h' q' new size2 ke => ?_)
    dsimp only at new size2 ke ⊢
    have hS' := ke S _ (Ne.symm n1) (Ne.symm n3) (Ne.symm n4) (Ne.symm n5) hS
    have up : ∀ b o, b ≠ S → h'.get? b = some o → (h'.update S (Obj.mapSeq (·.push (Value.ref h.objs.size)))).get? b = some o := fun b o nb e => (Heap.get?_update_other _ _ (Ne.symm nb)).trans e
    have mineOf : ∀ b o, lo < b → h.get? b = some o → h'.get? b = some o := fun b o ab e => ke _ _ (Nat.ne_of_gt (Nat.lt_of_le_of_lt z1 ab)) (Nat.ne_of_gt (Nat.lt_of_le_of_lt z2 ab)) (Nat.ne_of_gt (Nat.lt_of_le_of_lt z3 ab)) (Nat.ne_of_gt (Nat.lt_of_le_of_lt z4 ab)) e
    show wpAny _ A.in1 (updateSeq S (·.push (Value.ref h.objs.size)) >>= _) _ _ _
    refine wpAny_bind ?_
    refine wpAny_updateSeq hS' rfl (wpAny_pure ⟨plainId_quiet F.plain_extend_loop _, ih (i + 1) _ _ (acc.push (Value.ref h.objs.size)) (as ++ [h.objs.size]) (by omega) (q'.near ns up) (fun b o nb e => ?_) (Heap.get?_update_self _ hS' rfl) (by rw [Array.toList_push, ha, List.map_append]; rfl) (by rw [List.length_append, hl]; rfl) ⟨?_, ?_, ?_⟩ ?_⟩) (by rw [sz]; omega) (by show (acc.push (Value.ref h.objs.size)).size ≤ sizeLine + 1; rw [Array.size_push, sz]; omega)
    · obtain ⟨b1, b2, b3, b4⟩ := below b o e
      exact up b o nb (ke b o b1 b2 b3 b4 (kp b o nb e))
    · refine List.pairwise_append.mpr ⟨g.rise, List.pairwise_singleton _ _, fun a ia b ib => ?_⟩
      rw [List.mem_singleton.mp ib]
      obtain ⟨j, hj⟩ := List.mem_iff_getElem?.mp ia
      obtain ⟨p, _, e2⟩ := g.pairs j a hj
      exact Heap.lt_size e2
    · intro a ia
      rcases List.mem_append.mp ia with ia | ia
      · exact g.above a ia
      · rw [List.mem_singleton.mp ia]
        exact hs
    · intro j a hj
      rcases Nat.lt_or_ge j as.length with c1 | c1
      · rw [List.getElem?_append_left c1] at hj
        obtain ⟨p, e1, e2⟩ := g.pairs j a hj
        have ab := g.above a (List.mem_of_getElem? hj)
        exact ⟨p, e1, up _ _ (Nat.ne_of_gt (Nat.lt_of_le_of_lt z5 ab)) (mineOf _ _ ab e2)⟩
      · rw [List.getElem?_append_right c1] at hj
        have j0 : j - as.length = 0 := by
          rcases Nat.eq_zero_or_pos (j - as.length) with e | e
          · exact e
          · rw [List.getElem?_eq_none (by rw [List.length_singleton]; omega)] at hj
            cases hj
        rw [j0] at hj
        have ea : h.objs.size = a := Option.some.inj hj
        have ej : j = i := by omega
        rw [← ea, ej]
        exact ⟨_, hp, up _ _ (Nat.ne_of_gt lS) new⟩
    · have e : (h'.update S (Obj.mapSeq (·.push (Value.ref h.objs.size)))).get? h.objs.size = _ := up _ _ (Nat.ne_of_gt lS) new
      exact Nat.lt_trans hs (Heap.lt_size e)
end
end G

set_option Elab.async false
set_option linter.all false
set_option maxRecDepth 100000
set_option maxHeartbeats 4000000
/-! zip(a list, a tuple): made, walked, drawn into a list. -/
namespace G
open PySem PySem.Spec PyProof.Rows L2 Evl
abbrev zM1 (h : Heap) (l1 : Addr) : Heap := h.push { cls := .type "list_iterator", data := .fields #[.ref l1, .int 0 0] }
abbrev zM2 (h : Heap) (l1 l2 : Addr) : Heap := (zM1 h l1).push { cls := .type "tuple_iterator", data := .fields #[.ref l2, .int 0 0] }
abbrev zM3 (h : Heap) (l1 l2 : Addr) : Heap := (zM2 h l1 l2).push { cls := .type "tuple", data := .seq #[.ref h.objs.size, .ref (zM1 h l1).objs.size] }
abbrev zM4 (h : Heap) (l1 l2 : Addr) : Heap := (zM3 h l1 l2).push { cls := .type "tuple", data := .seq #[.none, .none] }
abbrev zM5 (h : Heap) (l1 l2 : Addr) : Heap := (zM4 h l1 l2).push { cls := .type "zip", data := .fields #[.none, .bool false, .bool false, .ref (zM2 h l1 l2).objs.size, .ref (zM3 h l1 l2).objs.size] }
theorem meets_zipM (l1 l2 : Addr) (xs ys : Array Value) :
    Meets (Builtin.«zip.__new__» ⟨[.type "zip", .ref l1, .ref l2], []⟩) (fun _ R s => s.heap.IsList l1 xs ∧ s.heap.IsTuple l2 ys ∧
      R (.ok (.ret (.ref (zM4 s.heap l1 l2).objs.size))) { s with heap := zM5 s.heap l1 l2 }) :=
  .of_wp fun prog w A R s h => by
    obtain ⟨hp, g, d, tk, os⟩ := s
    obtain ⟨q1, q2, h⟩ := h
    have hsub := sub_zip
    have r1 : Heap.IsList (Shared.heap ⟨hp, g, d, tk, os⟩) l1 xs := q1
    have r2 : Heap.IsTuple (Shared.heap ⟨hp.push { cls := .type "list_iterator", data := .fields #[.ref l1, .int 0 0] }, g, d, tk, os⟩) l2 ys := Heap.IsTuple.push q2 _
    wp_walk using wpAny_pyIter_list r1, wpAny_pyIter_tuple r2
    exact ⟨_, rfl, h⟩
section
variable {prog : Program} {w : World} {A : Around} {E : Value → Shared → Prop} {s : Shared}
theorem call_zipM {l1 l2 : Addr} {xs ys : Array Value} {Q : Value → Shared → Prop} (q1 : s.heap.IsList l1 xs) (q2 : s.heap.IsTuple l2 ys)
    (h : ∀ h', IsZip h' (s.heap.objs.size + 4) (s.heap.objs.size + 2) (s.heap.objs.size + 3) .none → IsPair h' (s.heap.objs.size + 2) (.ref s.heap.objs.size) (.ref (s.heap.objs.size + 1)) →
      IsPair h' (s.heap.objs.size + 3) .none .none → h'.IsListIter s.heap.objs.size l1 0 → h'.IsTupleIter (s.heap.objs.size + 1) l2 0 → h'.objs.size = s.heap.objs.size + 5 →
      (∀ c o, s.heap.get? c = some o → h'.get? c = some o) → Q (.ref (s.heap.objs.size + 4)) { s with heap := h' }) :
    wpAny (model prog w) A (call (.type "zip") [.ref l1, .ref l2]) Q E s := by
  refine callType_new F.called_zip (by decide) (F.typeCall_zip_2 _ _) (F.newCall_zip_2 _ _) (fun obj => F.args_object_init_3 obj _ _) F.entry_zip_new
    (meets_zipM l1 l2 xs ys) ⟨q1, q2, ?_⟩
  have z1 : (zM1 s.heap l1).objs.size = s.heap.objs.size + 1 := Heap.size_push ..
  have z2 : (zM2 s.heap l1 l2).objs.size = s.heap.objs.size + 2 := by rw [Heap.size_push, z1]
  have z3 : (zM3 s.heap l1 l2).objs.size = s.heap.objs.size + 3 := by rw [Heap.size_push, z2]
  have z4 : (zM4 s.heap l1 l2).objs.size = s.heap.objs.size + 4 := by rw [Heap.size_push, z3]
  have z5 : (zM5 s.heap l1 l2).objs.size = s.heap.objs.size + 5 := by rw [Heap.size_push, z4]
  have g5 : (zM5 s.heap l1 l2).get? (zM4 s.heap l1 l2).objs.size = some _ := Heap.get?_push_size _ rfl
  have g4 : (zM5 s.heap l1 l2).get? (zM3 s.heap l1 l2).objs.size = some _ := Heap.get?_push_of_some _ (Heap.get?_push_size _ rfl)
  have g3 : (zM5 s.heap l1 l2).get? (zM2 s.heap l1 l2).objs.size = some _ := Heap.get?_push_of_some _ (Heap.get?_push_of_some _ (Heap.get?_push_size _ rfl))
  have g2 : (zM5 s.heap l1 l2).get? (zM1 s.heap l1).objs.size = some _ := Heap.get?_push_of_some _ (Heap.get?_push_of_some _ (Heap.get?_push_of_some _ (Heap.get?_push_size _ rfl)))
  have g1 : (zM5 s.heap l1 l2).get? s.heap.objs.size = some _ := Heap.get?_push_of_some _ (Heap.get?_push_of_some _ (Heap.get?_push_of_some _ (Heap.get?_push_of_some _ (Heap.get?_push_size _ rfl))))
  show _ ∧ _
  rw [z2, z3, z4] at g5
  rw [z1, z2] at g3
  rw [z3] at g4
  rw [z1] at g2
  rw [z4]
  exact ⟨⟨_, g5, rfl⟩, h _ g5 g3 g4 ⟨_, g1, rfl, rfl⟩ ⟨_, g2, rfl, rfl⟩ z5 fun c o x =>
    Heap.get?_push_of_some _ (Heap.get?_push_of_some _ (Heap.get?_push_of_some _ (Heap.get?_push_of_some _ (Heap.get?_push_of_some _ x))))⟩
section
variable {z TI TO i1 i2 l1 l2 : Addr} {k1 k2 : Nat} {xs ys : Array Value} {x y a b : Value}
theorem next_item (D : ZipApart z TI TO i1 i2 l1 l2) (S1 : Side prog w i1 l1 xs) (S2 : Side prog w i2 l2 ys) {Q : Option Value → Shared → Prop} (hz : IsZip s.heap z TI TO .none) (hI : IsPair s.heap TI (.ref i1) (.ref i2)) (hO : IsPair s.heap TO a b)
    (q1 : S1.St k1 s.heap) (q2 : S2.St k2 s.heap) (hx : xs[k1]? = some x) (hy : ys[k2]? = some y)
    (k : ∀ h', IsZip h' z TI TO (rawInt s.heap.objs.size) → IsPair h' TO x y → S1.St (k1 + 1) h' → S2.St (k2 + 1) h' → IsPair h' s.heap.objs.size x y → h'.objs.size = s.heap.objs.size + 1 →
      (∀ c o, c ≠ z → c ≠ TO → c ≠ i1 → c ≠ i2 → s.heap.get? c = some o → h'.get? c = some o) → Q (some (.ref s.heap.objs.size)) { s with heap := h' }) :
    wpAny (model prog w) A (pyNext (.ref z)) Q E s := by
  have hT : s.TypeIs (.ref z) "zip" := ⟨_, hz, rfl⟩
  unfold pyNext
  exact wpAny_bind (wpAny_attempt (wpAny_callSpecial?_slot (name := Str.ofString "__next__") hT F.slot_zip_next
    (wpAny_call_entry F.slot_zip_next hT F.entry_zip_next
      (zip_item D S1 S2 hz hI hO q1 q2 hx hy fun h' a1 a2 a3 a4 a5 a6 a7 => wpAny_pure (k h' a1 a2 a3 a4 a5 a6 a7)) (F.args_zip_next_1 _))))
theorem next_end (hh : A.handled = none) (D : ZipApart z TI TO i1 i2 l1 l2) (S1 : Side prog w i1 l1 xs) (S2 : Side prog w i2 l2 ys) {Q : Option Value → Shared → Prop} (hz : IsZip s.heap z TI TO .none) (hI : IsPair s.heap TI (.ref i1) (.ref i2)) (hO : IsPair s.heap TO a b)
    (q1 : S1.St k1 s.heap) (q2 : S2.St k2 s.heap) (hend : xs[k1]? = none ∨ ys[k2]? = none)
    (k : ∀ h', (∀ c o, c ≠ z → c ≠ TO → c ≠ i1 → c ≠ i2 → s.heap.get? c = some o → h'.get? c = some o) → Q none { s with heap := h' }) :
    wpAny (model prog w) A (pyNext (.ref z)) Q E s := by
  have hT : s.TypeIs (.ref z) "zip" := ⟨_, hz, rfl⟩
  unfold pyNext
  refine wpAny_bind (wpAny_attempt (wpAny_callSpecial?_slot (name := Str.ofString "__next__") hT F.slot_zip_next
    (wpAny_call_entry F.slot_zip_next hT F.entry_zip_next (zip_end (A := A.in1) hh D S1 S2 hz hI hO q1 q2 hend fun h' e ke he => ?_) (F.args_zip_next_1 _))))
  obtain ⟨o, e1, e2⟩ := he
  refine wpAny_bind (wpAny_isInstance (T := "StopIteration") (b := true) ⟨o, e1, e2⟩ isSubtype_stop ?_)
  exact wpAny_pure (k _ ke)
end
end
/-- the list at a and the tuple at b as they stand at each turn, the items in new pairs -/
def Itm (K : PySem.W.Frag) (a b : Addr) : It :=
  ⟨fun i H => ∃ (xs ys : List V) (x y : V), SqL K H a xs ∧ SqT K H b ys ∧ xs[i]? = some x ∧ ys[i]? = some y,
    fun i H v H' => ∃ T x y, v = .ref T ∧ H T = none ∧ H' = upd H T (.tup [x, y]) ∧ (∀ xs, SqL K H a xs → xs[i]? = some x) ∧ ∀ ys, SqT K H b ys → ys[i]? = some y,
    fun i H => ∃ xs ys : List V, SqL K H a xs ∧ SqT K H b ys ∧ (xs.length ≤ i ∨ ys.length ≤ i)⟩
theorem turn_zipM {P : Program} {w : World} {K : PySem.W.Frag} {elts : List Expr} {kk : Nat} {tpos : Pos} {a b z TI TO i1 i2 : Addr} (D : ZipApart z TI TO i1 i2 a b) :
    Turn P w K (.Tuple elts kk tpos) (Itm K a b) [z, TI, TO, i1, i2] z (fun i h => IsZip h z TI TO .none ∧ IsPair h TI (.ref i1) (.ref i2) ∧ (∃ x y, IsPair h TO x y) ∧ h.IsListIter i1 a i ∧ h.IsTupleIter i2 b i) where
  mem := by simp
  obj := fun i h st c hc => by
    obtain ⟨hz, hTI, ⟨x, y, hTO⟩, ⟨o1, e1, _, d1⟩, ⟨o2, e2, _, d2⟩⟩ := st
    have e' : c = z ∨ c = TI ∨ c = TO ∨ c = i1 ∨ c = i2 := by simpa using hc
    rcases e' with q | q | q | q | q
    · rw [q]; exact ⟨_, hz, fun v q => nomatch q⟩
    · rw [q]; exact ⟨_, hTI, fun v q => nomatch q⟩
    · rw [q]; exact ⟨_, hTO, fun v q => nomatch q⟩
    · rw [q]; exact ⟨o1, e1, fun v q => by rw [d1] at q; cases q⟩
    · rw [q]; exact ⟨o2, e2, fun v q => by rw [d2] at q; cases q⟩
  keep := fun i h h' st k => by
    obtain ⟨hz, hTI, ⟨x, y, hTO⟩, h1, h2⟩ := st
    exact ⟨k z (by simp) _ hz, k TI (by simp) _ hTI, ⟨x, y, k TO (by simp) _ hTO⟩, h1.at fun o q => k i1 (by simp) o q, h2.at fun o q => k i2 (by simp) o q⟩
  item := by
    intro X hP hw hK hc i pins s σ H E I hf st hg
    subst hP hw hK
    obtain ⟨hz, hTI, ⟨x0, y0, hTO⟩, h1, h2⟩ := st
    obtain ⟨xs, ys, x, y, hqx, hqy, hx, hy⟩ := hg
    obtain ⟨its, rv, p, _⟩ := I.list hqx
    obtain ⟨its2, rv2, p2, _⟩ := I.tuple hqy
    obtain ⟨u, hu, ru⟩ := rv.get hx
    obtain ⟨u2, hu2, ru2⟩ := rv2.get hy
    have hzl : z < s.heap.objs.size := Heap.lt_size hz
    refine next_item D (sideL (xs := its.toArray) D.l1i1) (sideT (xs := its2.toArray) D.l2i2) hz hTI hTO ⟨h1, p.isList⟩ ⟨h2, p2⟩ (x := u) (y := u2) (by simpa using hu) (by simpa using hu2) fun h' z' TO' h1' h2' hT hsz hk => ?_
    refine ⟨_, rfl, wpAny_letOwnedTupleGo_zip (s := { s with heap := h' }) z' fun h'' z'' sb => ?_⟩
    have hT2 : h''.get? s.heap.objs.size = some { cls := .type "tuple", data := .seq #[u, u2] } := (sb.2 _ (Nat.ne_of_gt hzl)).trans hT
    have new : ObjOk X.prog X.w (upd H s.heap.objs.size (.tup [x, y])) h'' s.heap.objs.size (.tup [x, y]) :=
      ⟨by show 2 ≤ sizeLine; decide, [u, u2], .cons ru (.cons ru2 .nil), ⟨_, hT2, rfl, _, rfl⟩⟩
    have I1 : Inv X pins σ (upd H s.heap.objs.size (.tup [x, y])) { s with heap := h'' } :=
      I.turnedNew (t' := s.toks) (ch := [z, TI, TO, i1, i2]) (fun c o hb q => (sb.2 c (fun q' => hb (by simp [q']))).trans (hk c o (fun q' => hb (by simp [q'])) (fun q' => hb (by simp [q'])) (fun q' => hb (by simp [q'])) (fun q' => hb (by simp [q'])) q)) hf (Nat.le_refl _) new
    refine ⟨.ref s.heap.objs.size, _, I1, rfl, ⟨_, x, y, rfl, I.hok.fresh (Nat.le_refl _), rfl, fun l hl => by rw [I.list_inj hl hqx]; exact hx, fun l hl => by rw [I.tuple_inj hl hqy]; exact hy⟩, ⟨z'', ?_, ⟨u, u2, ?_⟩, ?_, ?_⟩, fun c hcm => ?_⟩
    · exact (sb.2 _ D.TIz).trans (hk _ _ D.TIz D.TITO D.TIi1 D.TIi2 hTI)
    · exact (sb.2 _ D.TOz).trans TO'
    · exact h1'.1.at fun o q => (sb.2 _ D.i1z).trans q
    · exact h2'.1.at fun o q => (sb.2 _ D.i2z).trans q
    · have hlt : c < s.heap.objs.size := by
        have e' : c = z ∨ c = TI ∨ c = TO ∨ c = i1 ∨ c = i2 := by simpa using hcm
        rcases e' with q | q | q | q | q
        · rw [q]; exact hzl
        · rw [q]; exact Heap.lt_size hTI
        · rw [q]; exact Heap.lt_size hTO
        · rw [q]; obtain ⟨_, e1, _⟩ := h1; exact Heap.lt_size e1
        · rw [q]; obtain ⟨_, e2, _⟩ := h2; exact Heap.lt_size e2
      rw [upd_ne (Nat.ne_of_lt hlt)]
      exact (hf c hcm).1
  done := by
    intro X hP hw hK hc i pins s σ H E I hf st hg
    subst hP hw hK
    obtain ⟨hz, hTI, ⟨x0, y0, hTO⟩, h1, h2⟩ := st
    obtain ⟨xs, ys, hqx, hqy, hend⟩ := hg
    obtain ⟨its, rv, p, _⟩ := I.list hqx
    obtain ⟨its2, rv2, p2, _⟩ := I.tuple hqy
    have l1 := rv.length
    have l2 := rv2.length
    have he : its.toArray[i]? = none ∨ its2.toArray[i]? = none := by
      rcases hend with q | q
      · exact .inl (by simp; omega)
      · exact .inr (by simp; omega)
    exact next_end (I.ok.hd hc) D (sideL (xs := its.toArray) D.l1i1) (sideT (xs := its2.toArray) D.l2i2) hz hTI hTO ⟨h1, p.isList⟩ ⟨h2, p2⟩ he fun h' hk => ⟨rfl, I.turnedL (t' := s.toks) (ch := [z, TI, TO, i1, i2]) (fun c o hb q =>
      hk c o (fun q' => hb (by simp [q'])) (fun q' => hb (by simp [q'])) (fun q' => hb (by simp [q'])) (fun q' => hb (by simp [q'])) q) hf⟩
  self := fun A i s Q E st h => wpAny_pyIter_zip st.1 h
def iZipM (K : PySem.W.Frag) (ta : TA) : TI := fun σ H R => ta σ H fun vs H1 => ∃ a b xs ys, vs = [.ref a, .ref b] ∧ SqL K H1 a xs ∧ SqT K H1 b ys ∧ R (Itm K a b) H1
theorem pi_zipM {X : Cx} {e e2 : Expr} {ta : TA} {p pos tpos : Pos} {elts : List Expr} {kk : Nat} {K : PySem.W.Frag} (hK : X.K = K) (hg : Gl X "zip") (hm : X.mg "zip" = none) (ha : PA X [e, e2] ta)
    (hs : starEach [e, e2] X.env = (false, eval e X.env) :: starEach [e2] X.env := by rfl) (hpl : (backTo pos (starEach [e2] X.env)).any (·.1) = false := by rfl) :
    PI X (.Tuple elts kk tpos) (.Call (.Name "zip" p) [e, e2] [] pos) (iZipM K ta) := by
  subst hK
  refine ⟨fun pins s σ H R I h => ?_⟩
  refine Call_ (ld_blt I hg hm PyProof.Rows.boot_zip (PyProof.Rows.callWith_type1 (thn (ha.run pos pins s σ H _ I h) fun us s1 ⟨vs, H1, I1, r1, q1⟩ => ?_) hs hpl))
  obtain ⟨a, b, xs, ys, ex, hqx, hqy, q⟩ := q1
  subst ex
  cases r1 with
  | cons r rr =>
    cases rr with
    | cons r' rr =>
      cases rr
      cases r
      cases r'
      obtain ⟨its, rv, p1, _⟩ := I1.list hqx
      obtain ⟨its2, rv2, p2, _⟩ := I1.tuple hqy
      obtain ⟨o2, ho2, _⟩ := id p2
      have la : a < s1.heap.objs.size := p1.lt
      have lb : b < s1.heap.objs.size := Heap.lt_size ho2
      refine call_zipM p1.isList (show s1.heap.IsTuple b its2.toArray from p2) fun h' hz hTI hTO h1 h2 hsz hk => wpAny_pyIter_zip hz ?_
      have I2 : Inv X pins σ H1 { s1 with heap := h' } := I1.kept (t' := s1.toks) hk
      refine ⟨s1.heap.objs.size + 4, [s1.heap.objs.size + 4, s1.heap.objs.size + 2, s1.heap.objs.size + 3, s1.heap.objs.size, s1.heap.objs.size + 1], _, _, H1, rfl, I2, turn_zipM (PySem.W.ktu_apart s1.heap.objs.size a b la lb), ⟨hz, hTI, ⟨_, _, hTO⟩, h1, h2⟩, fun c hcm => ?_, q⟩
      have e' : c = s1.heap.objs.size + 4 ∨ c = s1.heap.objs.size + 2 ∨ c = s1.heap.objs.size + 3 ∨ c = s1.heap.objs.size ∨ c = s1.heap.objs.size + 1 := by simpa using hcm
      have hle : s1.heap.objs.size ≤ c := by
        rcases e' with z | z | z | z | z
        · rw [z]; exact Nat.le_add_right _ _
        · rw [z]; exact Nat.le_add_right _ _
        · rw [z]; exact Nat.le_add_right _ _
        · rw [z]; exact Nat.le_refl _
        · rw [z]; exact Nat.le_add_right _ _
      exact I1.fpOk hle (I1.hok.fresh hle)
end G

set_option Elab.async false
set_option linter.all false
set_option maxRecDepth 100000
set_option maxHeartbeats 4000000
/-! list(zip(a list, a tuple)). -/
namespace G
open PySem PySem.Spec PyProof.Rows L2 Evl
section
variable {prog : Program} {w : World} {A : Around} {E : Value → Shared → Prop} {s : Shared} {z TI TO S i1 i2 l1 l2 : Addr} {xs ys : Array Value}
theorem zx_extend (hh : A.handled = none) (D : ZipApart z TI TO i1 i2 l1 l2) {S1 : Side prog w i1 l1 xs} {S2 : Side prog w i2 l2 ys} (ns : z ≠ S ∧ TI ≠ S ∧ TO ≠ S ∧ i1 ≠ S ∧ i2 ≠ S ∧ l1 ≠ S ∧ l2 ≠ S) (res : Value) (c₀ : Nat) {ho : Heap} {R : Result → Shared → Prop}
    (hz : IsZip s.heap z TI TO .none) (q : ZS z TI TO S S1 S2 s.heap 0) (hS : s.heap.get? S = some { cls := .type "list", data := .seq #[] c₀ })
    (room : (xs.toList.zip ys.toList).length ≤ sizeLine) (below : ∀ b o, ho.get? b = some o → b ≠ z ∧ b ≠ TO ∧ b ≠ i1 ∧ b ≠ i2) (lz : z ≤ S ∧ TO ≤ S ∧ i1 ≤ S ∧ i2 ≤ S ∧ S ≤ S) (up : ∀ b o, b ≠ S → ho.get? b = some o → s.heap.get? b = some o)
    (hR : ∀ h' acc c as, (∀ b o, b ≠ S → ho.get? b = some o → h'.get? b = some o) → h'.get? S = some { cls := .type "list", dict := none, data := .seq acc c, slots := #[] } → as.length = (xs.toList.zip ys.toList).length → PsG (xs.toList.zip ys.toList) S h' as →
      acc.toList = as.map Value.ref → R (.ok (.ret res)) { s with heap := h' }) :
    wpAny (model prog w) A.in1 (Builtin.List.listExtendWith (.ref S) (.ref z) res)
      (fun fin s' => match fin with | .done f => R (.ok f) s' | .again c' => c'.quiet = true ∧ codeAny (model prog w) A c' R s') (fun e s' => R (.error e) s') s := by
  have lS : S < s.heap.objs.size := Heap.lt_size hS
  have hT : s.TypeIs (.ref z) "zip" := ⟨_, hz, rfl⟩
  have key : ∀ (h : Heap) (c₁ : Nat), (∀ b o, b ≠ S → s.heap.get? b = some o → h.get? b = some o) → h.get? S = some { cls := .type "list", data := .seq #[] c₁ } → codeAny (model prog w) A (.builtin "list.extend.loop" ⟨[.ref S, .ref z, res], []⟩) R { s with heap := h } := by
    intro h c₁ hk hS₁
    refine zs_loop (ho := ho) hh D ns res room below lz hR (xs.toList.zip ys.toList).length 0 h c₁ #[] [] (Nat.add_zero _).symm (q.near ns hk) (fun b o nb e => hk b o nb (up b o nb e)) hS₁ rfl rfl ⟨List.Pairwise.nil, (fun _ ha => nomatch ha), (fun j a hj => by simp at hj)⟩ (Heap.lt_size hS₁)
  unfold Builtin.List.listExtendWith
  refine wpAny_bind (wpAny_typeOf (T := "zip") hT ?_)
  have h1 : Builtin.List.listSameRef (.ref S) (.ref z) = false := by simp [Builtin.List.listSameRef, ns.1.symm]
  have h2 : (Value.type "zip" == Value.type "list") = false := by decide
  have h3 : (Value.type "zip" == Value.type "tuple") = false := by decide
  simp only [h1, h2, h3, Bool.or_false, Bool.false_eq_true, if_false]
  refine wpAny_bind (wpAny_pyIter_zip hz ?_)
  refine wpAny_bind (wpAny_holding (hint_zip hT ?_))
  refine wpAny_ite_split (fun _ => ?_) (fun _ => wpAny_pure ⟨plainId_quiet PySem.F.plain_extend_loop _, key _ c₀ (fun b o _ e => e) hS⟩)
  refine wpAny_bind (wpAny_rule ?_)
  refine wpAny_bind ?_
  show wpAny _ _ (updateSeq S (·.push .none) >>= fun _ => updateSeq S (·.pop)) _ _ _
  refine wpAny_bind (wpAny_updateSeq hS rfl ?_)
  have hS₂ := Heap.get?_update_self (Obj.mapSeq (·.push Value.none)) hS rfl
  refine wpAny_updateSeq (hz := by seq_fits) hS₂ rfl ?_
  have hS₃ := Heap.get?_update_self (Obj.mapSeq (·.pop)) hS₂ rfl
  refine wpAny_pure ⟨plainId_quiet PySem.F.plain_extend_loop _, key _ _ (fun b o hb e => ?_) hS₃⟩
  exact (Heap.get?_update_other _ _ (Ne.symm hb)).trans ((Heap.get?_update_other _ _ (Ne.symm hb)).trans e)
theorem zx_init (hh : A.handled = none) (D : ZipApart z TI TO i1 i2 l1 l2) {S1 : Side prog w i1 l1 xs} {S2 : Side prog w i2 l2 ys} (ns : z ≠ S ∧ TI ≠ S ∧ TO ≠ S ∧ i1 ≠ S ∧ i2 ≠ S ∧ l1 ≠ S ∧ l2 ≠ S) {ho : Heap} {R : Result → Shared → Prop}
    (hz : IsZip s.heap z TI TO .none) (q : ZS z TI TO S S1 S2 s.heap 0) (hS : s.heap.get? S = some { cls := .type "list", data := .seq #[] })
    (room : (xs.toList.zip ys.toList).length ≤ sizeLine) (below : ∀ b o, ho.get? b = some o → b ≠ z ∧ b ≠ TO ∧ b ≠ i1 ∧ b ≠ i2) (lz : z ≤ S ∧ TO ≤ S ∧ i1 ≤ S ∧ i2 ≤ S ∧ S ≤ S) (up : ∀ b o, b ≠ S → ho.get? b = some o → s.heap.get? b = some o)
    (hR : ∀ h' acc c as, (∀ b o, b ≠ S → ho.get? b = some o → h'.get? b = some o) → h'.get? S = some { cls := .type "list", dict := none, data := .seq acc c, slots := #[] } → as.length = (xs.toList.zip ys.toList).length → PsG (xs.toList.zip ys.toList) S h' as →
      acc.toList = as.map Value.ref → R (.ok (.ret .none)) { s with heap := h' }) :
    wpAny (model prog w) A.in1 (Builtin.«list.__init__» ⟨[.ref S, .ref z], []⟩)
      (fun fin s' => match fin with | .done f => R (.ok f) s' | .again c' => c'.quiet = true ∧ codeAny (model prog w) A c' R s') (fun e s' => R (.error e) s') s := by
  show wpAny _ _ (do let old ← Builtin.List.listItems (.ref S); Builtin.List.listUpdate (.ref S) (fun _ => #[]); letGo old.toList.reverse; Builtin.List.listExtendWith (.ref S) (.ref z) .none) _ _ s
  refine wpAny_bind ?_
  unfold Builtin.List.listItems
  refine wpAny_bind (wpAny_seqItems hS rfl (wpAny_pure ?_))
  show wpAny _ _ (updateSeq S (fun _ => #[]) >>= fun _ => letGo (#[] : Array Value).toList.reverse >>= fun _ => Builtin.List.listExtendWith (.ref S) (.ref z) .none) _ _ s
  refine wpAny_bind (wpAny_updateSeq hS rfl ?_)
  have hS₂ := Heap.get?_update_self (Obj.mapSeq (fun _ => (#[] : Array Value))) hS rfl
  have oth : ∀ b o, b ≠ S → s.heap.get? b = some o → (s.heap.update S (Obj.mapSeq (fun _ => (#[] : Array Value)))).get? b = some o :=
    fun b o hb e => (Heap.get?_update_other _ _ (Ne.symm hb)).trans e
  refine wpAny_bind (wpAny_letGo ?_)
  exact zx_extend hh D ns .none _ (ho := ho) (oth _ _ ns.1 hz) (q.near ns oth) hS₂ room below lz (fun b o nb e => oth b o nb (up b o nb e)) hR
theorem zx_call {a b : Value} (hh : A.handled = none) (D : ZipApart z TI TO i1 i2 l1 l2) (S1 : Side prog w i1 l1 xs) (S2 : Side prog w i2 l2 ys) {ho : Heap} {Q : Value → Shared → Prop}
    (hz : IsZip s.heap z TI TO .none) (hI : IsPair s.heap TI (.ref i1) (.ref i2)) (hO : IsPair s.heap TO a b) (q1 : S1.St 0 s.heap) (q2 : S2.St 0 s.heap) (here : l1 < s.heap.objs.size ∧ l2 < s.heap.objs.size)
    (room : (xs.toList.zip ys.toList).length ≤ sizeLine) (below : ∀ b o, ho.get? b = some o → b ≠ z ∧ b ≠ TO ∧ b ≠ i1 ∧ b ≠ i2) (up : ∀ b o, ho.get? b = some o → s.heap.get? b = some o)
    (hQ : ∀ h' acc c as, (∀ b o, ho.get? b = some o → h'.get? b = some o) → h'.get? s.heap.objs.size = some { cls := .type "list", dict := none, data := .seq acc c, slots := #[] } → as.length = (xs.toList.zip ys.toList).length → PsG (xs.toList.zip ys.toList) s.heap.objs.size h' as →
      acc.toList = as.map Value.ref → Q (.ref s.heap.objs.size) { s with heap := h' }) :
    wpAny (model prog w) A (call (.type "list") [.ref z]) Q E s := by
  refine callType_codes (Q₁ := fun obj s₁ => obj = .ref s.heap.objs.size ∧ s₁ = { s with heap := s.heap.push { cls := .type "list", data := .seq #[] } }) PySem.F.called_list (PySem.F.typeCall_list_1 _) PySem.F.entry_list_init
    (code_list_new _ ⟨rfl, rfl⟩) fun obj s₁ h₁ => ?_
  obtain ⟨rfl, rfl⟩ := h₁
  have hS : (s.heap.push { cls := .type "list", data := .seq #[] }).get? s.heap.objs.size = some { cls := .type "list", data := .seq #[] } := Heap.get?_push_size _ rfl
  obtain ⟨o1, e1, _⟩ := S1.here q1
  obtain ⟨o2, e2, _⟩ := S2.here q2
  have nz := Heap.lt_size hz
  have nI := Heap.lt_size hI
  have nO := Heap.lt_size hO
  have n1 := Heap.lt_size e1
  have n2 := Heap.lt_size e2
  have pu : ∀ b o, s.heap.get? b = some o → (s.heap.push { cls := .type "list", data := .seq #[] }).get? b = some o := fun b o e => Heap.get?_push_of_some _ e
  refine ⟨⟨_, hS, rfl⟩, PySem.F.args_list_init_2 _ _, zx_init (A := A.in1) (S1 := S1) (S2 := S2) (ho := ho) hh D ⟨Nat.ne_of_lt nz, Nat.ne_of_lt nI, Nat.ne_of_lt nO, Nat.ne_of_lt n1, Nat.ne_of_lt n2, Nat.ne_of_lt here.1, Nat.ne_of_lt here.2⟩
    (pu _ _ hz) ⟨pu _ _ hI, S1.near q1 (fun o e => pu _ o e) (fun o e => pu _ o e), S2.near q2 (fun o e => pu _ o e) (fun o e => pu _ o e), .inl ⟨pu _ _ hz, a, b, pu _ _ hO⟩⟩ hS room below
    ⟨Nat.le_of_lt nz, Nat.le_of_lt nO, Nat.le_of_lt n1, Nat.le_of_lt n2, Nat.le_refl _⟩ (fun b o _ e => pu b o (up b o e)) (fun h' acc c as hk hS' hl hG hacc => ?_)⟩
  exact ⟨rfl, hQ h' acc c as (fun b o e => hk b o (Nat.ne_of_lt (Heap.lt_size (up b o e))) e) hS' hl hG hacc⟩
end
/-! the tuples tracked at their addresses -/
def putP : Hp → List Addr → List (V × V) → Hp
  | H, a :: as, p :: ps => putP (upd H a (.tup [p.1, p.2])) as ps
  | H, _, _ => H
theorem putP_off {b : Addr} : ∀ (as : List Addr) (ps : List (V × V)) (H : Hp), b ∉ as → putP H as ps b = H b
  | [], _, _, _ => rfl
  | _ :: _, [], _, _ => rfl
  | a :: as, p :: ps, H, h => by
    show putP (upd H a (.tup [p.1, p.2])) as ps b = H b
    rw [putP_off as ps _ (fun z => h (List.mem_cons_of_mem _ z)), upd_ne (fun z => h (by rw [z]; exact List.mem_cons_self))]
theorem putP_at : ∀ (as : List Addr) (ps : List (V × V)) (H : Hp), as.length = ps.length → as.Nodup → Paired (fun (t : Addr) (p : V × V) => putP H as ps t = some (.tup [p.1, p.2])) as ps
  | [], [], _, _, _ => .nil
  | [], _ :: _, _, h, _ => by cases h
  | _ :: _, [], _, h, _ => by cases h
  | a :: as, p :: ps, H, h, hn => by
    have hn' := List.nodup_cons.mp hn
    have ih := putP_at as ps (upd H a (.tup [p.1, p.2])) (Nat.succ.inj h) hn'.2
    refine .cons ?_ ih
    show putP (upd H a (.tup [p.1, p.2])) as ps a = some (.tup [p.1, p.2])
    rw [putP_off as ps _ hn'.1, upd_same]
/-- as list(zip(..)) lays them -/
structure ZipLaid (H H' : Hp) (p : Addr) (ts : List Addr) (ps : List (V × V)) : Prop where
  ex : ∀ b o, H b = some o → H' b = some o
  np : H p = none
  nt : ∀ t ∈ ts, H t = none
  pt : p ∉ ts
  at_ : H' p = some (.lst (ts.map V.ref))
  each : Paired (fun (t : Addr) (q : V × V) => H' t = some (.tup [q.1, q.2])) ts ps
  nd : ts.Nodup
theorem pairs_laid {X : Cx} {pins : List (Addr × Obj)} {σ : L2.St} {H : Hp} {s : Shared} {h' : Heap} {S : Addr} {xs ys : List V} {vs us : List Value} {acc : Array Value} {c : Nat} {as : List Addr} (I : Inv X pins σ H s) (hz : xs.length ≤ sizeLine) (kx : Vals xs vs) (ky : Vals ys us) (lS : s.heap.objs.size ≤ S)
    (hk : ∀ b o, s.heap.get? b = some o → h'.get? b = some o) (hS : h'.get? S = some { cls := .type "list", dict := none, data := .seq acc c, slots := #[] }) (hl : as.length = (vs.zip us).length) (hG : PsG (vs.zip us) S h' as) (hacc : acc.toList = as.map Value.ref) :
    ∃ H' : Hp, ZipLaid H H' S as (xs.zip ys) ∧ Inv X pins σ H' { s with heap := h' } := by
  have lx : xs.length = vs.length := Paired.length kx
  have ly : ys.length = us.length := Paired.length ky
  have lz : (xs.zip ys).length = (vs.zip us).length := by rw [List.length_zip, List.length_zip, lx, ly]
  have le : as.length ≤ xs.length := by rw [hl, List.length_zip, ← lx]; exact Nat.min_le_left _ _
  have hSn : S ∉ as := fun z => Nat.lt_irrefl _ (hG.above _ z)
  have nd : as.Nodup := List.Pairwise.imp (fun {a b} (h : a < b) => Nat.ne_of_lt h) hG.rise
  have new : ∀ t ∈ as, H t = none := fun t ht => I.hok.fresh (Nat.le_trans lS (Nat.le_of_lt (hG.above t ht)))
  have newS : H S = none := I.hok.fresh lS
  have atP := putP_at as (xs.zip ys) (upd H S (.lst (as.map V.ref))) (by omega) nd
  have off : ∀ b, b ∉ as → b ≠ S → putP (upd H S (.lst (as.map V.ref))) as (xs.zip ys) b = H b := fun b h1 h2 => by rw [putP_off as _ _ h1, upd_ne h2]
  have low : ∀ b o, s.heap.get? b = some o → b ∉ as ∧ b ≠ S := fun b o e => ⟨fun z => absurd (Heap.lt_size e) (Nat.not_lt.mpr (Nat.le_trans lS (Nat.le_of_lt (hG.above b z)))), Nat.ne_of_lt (Nat.lt_of_lt_of_le (Heap.lt_size e) lS)⟩
  have kp : ∀ b u, H b = some u → (putP (upd H S (.lst (as.map V.ref))) as (xs.zip ys)) b = some u := fun b u e => by
    rw [off b (fun z => by rw [new b z] at e; cases e) (fun z => by rw [z, newS] at e; cases e)]
    exact e
  have eS : putP (upd H S (.lst (as.map V.ref))) as (xs.zip ys) S = some (.lst (as.map V.ref)) := by rw [putP_off as _ _ hSn, upd_same]
  refine ⟨putP (upd H S (.lst (as.map V.ref))) as (xs.zip ys), ⟨kp, newS, new, hSn, eS, atP, nd⟩, ?_⟩
  refine I.call' (s' := { s with heap := h' }) (ch := []) rfl ⟨fun b o q _ _ _ => hk b o q, fun b o q _ _ _ => ⟨o.slots, hk b o q⟩, fun b o q n _ => ?_, fun b o q _ => ⟨o, hk b o q⟩, fun b xs q => kp b _ q, fun b o u q => kp b _ q, fun b ps q => ⟨#[], by rw [kp b _ q]; simp⟩⟩ (fun b u q => ?_) I.bare fun b z => by simp at z
  · obtain ⟨z1, z2⟩ := low b o q
    rw [off b z1 z2]
    exact n
  · by_cases hb : b ∈ as
    · obtain ⟨j, pk, e1, e2, e3⟩ := LiI.paired_ix atP hb
      rw [e3] at q
      cases q
      obtain ⟨pv, f1, f3⟩ := hG.pairs j b e1
      rw [List.getElem?_zip_eq_some] at e2 f1
      obtain ⟨g1, g2⟩ := e2
      obtain ⟨k1, k2⟩ := f1
      obtain ⟨x1, m1, r1⟩ := LiI.paired_get kx g1
      obtain ⟨x2, m2, r2⟩ := LiI.paired_get ky g2
      rw [k1] at m1
      rw [k2] at m2
      cases m1
      cases m2
      exact ⟨by show 2 ≤ sizeLine; decide, [pv.1, pv.2], .cons r1 (.cons r2 .nil), ⟨_, f3, rfl, _, rfl⟩⟩
    · by_cases hb2 : b = S
      · rw [hb2] at q ⊢
        rw [eS] at q
        cases q
        refine ⟨by rw [List.length_map]; omega, acc.toList, c, by rw [hacc]; exact LiI.vals_refs as, ?_⟩
        rw [Array.toArray_toList]
        exact hS
      · rw [off b hb hb2] at q
        exact (I.hok b u q).stay (fun d v _ y => hk d v y) (fun d y => kp d _ y) fun d xs y => kp d _ y
def tListZip (K : PySem.W.Frag) (ta : TA) : TE := fun σ H Q => ta σ H fun vs H1 => ∃ (a b : Addr) (xs ys : List V), vs = [.ref a, .ref b] ∧ SqL K H1 a xs ∧ SqT K H1 b ys ∧
  ∀ (H' : Hp) (p : Addr) (ts : List Addr), ZipLaid H1 H' p ts (xs.zip ys) → Q (.ref p) H'
theorem pe_listZip {X : Cx} {e e2 : Expr} {ta : TA} {p p2 q pos : Pos} (hc : X.calm = true) (hgl : Gl X "list") (hml : X.mg "list" = none) (hg : Gl X "zip") (hm : X.mg "zip" = none) (ha : PA X [e, e2] ta)
    (na : starEach [.Call (.Name "zip" p2) [e, e2] [] q] X.env = (false, eval (.Call (.Name "zip" p2) [e, e2] [] q) X.env) :: starEach [] X.env := by rfl)
    (hs : starEach [e, e2] X.env = (false, eval e X.env) :: starEach [e2] X.env := by rfl) (hpl : (backTo q (starEach [e2] X.env)).any (·.1) = false := by rfl) :
    PE X (.Call (.Name "list" p) [.Call (.Name "zip" p2) [e, e2] [] q] [] pos) (tListZip X.K ta) := by
  refine ⟨fun pins s σ H Q I h => ?_⟩
  refine Call_ (ld_blt I hgl hml (show bootBuiltins "list" = some (.type "list") by decide +kernel) ?_)
  refine PyProof.Rows.callWith_type1 (PyProof.Rows.args_cons ?_ na) na rfl
  refine Call_ (ld_blt I hg hm PyProof.Rows.boot_zip (PyProof.Rows.callWith_type1 (thn (ha.run q pins s σ H _ I h) fun us s1 ⟨vs, H1, I1, r1, q1⟩ => ?_) hs hpl))
  obtain ⟨a, b, xs, ys, ex, hqx, hqy, k⟩ := q1
  subst ex
  cases r1 with
  | cons r rr =>
    cases rr with
    | cons r' rr =>
      cases rr
      cases r
      cases r'
      obtain ⟨its, rv, p1, zb⟩ := I1.list hqx
      obtain ⟨its2, rv2, pt, zb2⟩ := I1.tuple hqy
      obtain ⟨o2, ho2, _⟩ := id pt
      have la : a < s1.heap.objs.size := p1.lt
      have lb : b < s1.heap.objs.size := Heap.lt_size ho2
      refine call_zipM p1.isList (show s1.heap.IsTuple b its2.toArray from pt) fun h' hz hTI hTO h1 h2 hsz hk => PyProof.Rows.args_nil ?_
      have D := PySem.W.ktu_apart s1.heap.objs.size a b la lb
      have bel : ∀ c o, s1.heap.get? c = some o → c ≠ s1.heap.objs.size + 4 ∧ c ≠ s1.heap.objs.size + 3 ∧ c ≠ s1.heap.objs.size ∧ c ≠ s1.heap.objs.size + 1 := fun c o e => by
        have w : c < s1.heap.objs.size := Heap.lt_size e
        exact ⟨Nat.ne_of_lt (Nat.lt_add_right 4 w), Nat.ne_of_lt (Nat.lt_add_right 3 w), Nat.ne_of_lt w, Nat.ne_of_lt (Nat.lt_add_right 1 w)⟩
      refine zx_call (s := { s1 with heap := h' }) (ho := s1.heap) (I1.ok.hd hc) D (sideL (xs := its.toArray) D.l1i1) (sideT (xs := its2.toArray) D.l2i2) hz hTI hTO ⟨h1, list_near p1.isList fun o e => hk _ o e⟩ ⟨h2, tuple_near pt fun o e => hk _ o e⟩ ⟨by rw [hsz]; exact Nat.lt_add_right 5 la, by rw [hsz]; exact Nat.lt_add_right 5 lb⟩
        ?_ bel hk fun h'' acc c as kk hS hl hG hacc => ?_
      · show (its.toArray.toList.zip its2.toArray.toList).length ≤ sizeLine
        rw [List.length_zip]
        have := rv.length
        simp
        omega
      · have q5 : s1.heap.objs.size ≤ h'.objs.size := by rw [hsz]; omega
        obtain ⟨H', zl, J⟩ := pairs_laid I1 (by have := rv.length; omega) rv rv2 q5 kk hS hl hG hacc
        exact ⟨.ref h'.objs.size, H', J, rfl, k H' _ as zl⟩
end G

set_option Elab.async false
set_option linter.all false
set_option maxRecDepth 100000
set_option maxHeartbeats 4000000
namespace G
open PySem PySem.Spec PyProof.Rows L2 Evl
/-- a loop over zip of a list and a tuple of one length -/
theorem for_zipM {K : PySem.W.Frag} {a b : Addr} {xs ys : List V} {g : TG} {tb : TS} {D : Ends} {σ : L2.St} {H : Hp} (hl : xs.length = ys.length) (Pv : Nat → L2.St → Hp → Prop) (h0 : Pv 0 σ H) (hq : ∀ i σ H, Pv i σ H → SqL K H a xs ∧ SqT K H b ys)
    (hs : ∀ (i : Nat) (x y : V) (T : Addr) (σ : L2.St) (H : Hp), xs[i]? = some x → ys[i]? = some y → Pv i σ H → H T = none → g (.ref T) σ (upd H T (.tup [x, y])) fun σ2 H2 => tb { D with nx := Pv (i + 1), ct := Pv (i + 1), bk := D.nx } σ2 H2) (hd : ∀ σ H, Pv xs.length σ H → D.nx σ H) :
    ∃ W : Nat → Nat → L2.St → Hp → Prop, (∃ m, W 0 m σ H) ∧ ∀ i m σ H, W i m σ H →
      ((Itm K a b).stop i H ∧ D.nx σ H) ∨ ((Itm K a b).go i H ∧ ∃ N : L2.St → Hp → Prop, (∀ σ' H', N σ' H' → ∃ m', m' < m ∧ W (i + 1) m' σ' H') ∧ ∀ v H', (Itm K a b).yld i H v H' → g v σ H' fun σ2 H2 => tb { D with nx := N, ct := N, bk := D.nx } σ2 H2) := by
  refine ⟨fun i m σ H => m = xs.length - i ∧ i ≤ xs.length ∧ Pv i σ H, ⟨xs.length, rfl, Nat.zero_le _, h0⟩, ?_⟩
  rintro i m σ H ⟨rfl, hi, p⟩
  obtain ⟨qx, qy⟩ := hq i σ H p
  by_cases hlt : i < xs.length
  · have hx : xs[i]? = some xs[i] := List.getElem?_eq_getElem hlt
    have hlt2 : i < ys.length := by omega
    have hy : ys[i]? = some ys[i] := List.getElem?_eq_getElem hlt2
    refine .inr ⟨⟨xs, ys, _, _, qx, qy, hx, hy⟩, Pv (i + 1), fun σ' H' p' => ⟨xs.length - (i + 1), by omega, rfl, hlt, p'⟩, fun v H' y => ?_⟩
    obtain ⟨T, x', y', rfl, hT, rfl, f1, f2⟩ := y
    exact hs i x' y' T σ H (f1 xs qx) (f2 ys qy) p hT
  · have e : i = xs.length := by omega
    subst e
    exact .inl ⟨⟨xs, ys, qx, qy, Or.inl (Nat.le_refl _)⟩, hd σ H p⟩
theorem ev_dget {i j : Nat} {σ : L2.St} {H : Hp} {D : Addr} {k : Key} {v : V} {kvs : List (Key × V)} (hi : σ[i]? = some (some (.ref D))) (hj : σ[j]? = some (some (kV k))) (hD : H D = some (.dK kvs)) (hv : valV kvs k = some v) : Ev (tDGet (tVar i) (tVar j)) σ H v := fun H1 e Q q => by
  have g := DGet.k (k := k) (e _ _ hD)
  rw [hv] at g
  exact ⟨_, hi, _, hj, D, v, rfl, g, q H1 (Ex.refl H1)⟩
def iSq (K : PySem.W.Frag) (tl : TE) : TI := fun σ H R => tl σ H fun x H1 => ∃ a, x = .ref a ∧ (((∃ xs, SqL K H1 a xs) ∧ R (Itl K a) H1) ∨ ((∃ xs, SqT K H1 a xs) ∧ R (Itt K a) H1))
/-- a list or a tuple, walked -/
theorem pi_sq {X : Cx} {K : PySem.W.Frag} {tg l : Expr} {tl : TE} (hK : X.K = K) (hl : PE X l tl) : PI X tg l (iSq K tl) := by
  subst hK
  refine ⟨fun pins s σ H R I h => ?_⟩
  refine thn (hl.run pins s σ H _ I h) fun v s1 ⟨x, H1, I1, r1, q1⟩ => ?_
  obtain ⟨a, e, q1⟩ := q1
  subst e
  cases r1
  rcases q1 with ⟨⟨xs, hq⟩, q⟩ | ⟨⟨xs, hq⟩, q⟩
  · obtain ⟨its, rv, p, hz⟩ := I1.list hq
    refine wpAny_pyIter_list p.isList ?_
    refine ⟨s1.heap.objs.size, [s1.heap.objs.size], _, _, H1, rfl, I1.kept (t' := s1.toks) fun b o e => Heap.get?_push_of_some _ e, turn_list a _, ⟨_, Heap.get?_push_size _ rfl, rfl, rfl⟩, fun b hb => ?_, q⟩
    have e : b = s1.heap.objs.size := by simpa using hb
    subst e
    exact I1.fpOk (Nat.le_refl _) (I1.hok.fresh (Nat.le_refl _))
  · obtain ⟨its, rv, p, hz⟩ := I1.tuple hq
    refine wpAny_pyIter_tuple (show s1.heap.IsTuple a its.toArray from p) ?_
    refine ⟨s1.heap.objs.size, [s1.heap.objs.size], _, _, H1, rfl, I1.kept (t' := s1.toks) fun b o e => Heap.get?_push_of_some _ e, turn_tuple a _, ⟨_, Heap.get?_push_size _ rfl, rfl, rfl⟩, fun b hb => ?_, q⟩
    have e : b = s1.heap.objs.size := by simpa using hb
    subst e
    exact I1.fpOk (Nat.le_refl _) (I1.hok.fresh (Nat.le_refl _))
/-- a loop over a list or a tuple that stays -/
theorem for_sq {K : PySem.W.Frag} {j : Nat} {a : Addr} {xs : List V} {g : TG} {tb : TS} {D : Ends} {σ : L2.St} {H H0 : Hp} (hj : σ[j]? = some (some (.ref a))) (h : SqL K H0 a xs ∨ SqT K H0 a xs) (e : Ex H0 H) (Pv : Nat → L2.St → Hp → Prop) (h0 : Pv 0 σ H) (hG : ∀ i σ H, Pv i σ H → Ex H0 H)
    (hs : ∀ i x σ H, xs[i]? = some x → Pv i σ H → g x σ H fun σ2 H2 => tb { D with nx := Pv (i + 1), ct := Pv (i + 1), bk := D.nx } σ2 H2) (hd : ∀ σ H, Pv xs.length σ H → D.nx σ H) : tFor (iSq K (tVar j)) g tb D σ H := by
  rcases h with h | h
  · exact ⟨_, hj, a, rfl, .inl ⟨⟨_, ex_l e h⟩, for_it walk_list Pv h0 (fun i σ H _ p => ex_l (hG i σ H p) h) (fun i x σ H H' _ p y => by obtain ⟨rfl, y⟩ := y; exact hs i x σ _ y p) hd⟩⟩
  · exact ⟨_, hj, a, rfl, .inr ⟨⟨_, ex_t e h⟩, for_it walk_tup Pv h0 (fun i σ H _ p => ex_t (hG i σ H p) h) (fun i x σ H H' _ p y => by obtain ⟨rfl, y⟩ := y; exact hs i x σ _ y p) hd⟩⟩
end G

set_option Elab.async false
set_option linter.all false
set_option maxRecDepth 100000
set_option maxHeartbeats 8000000
namespace W
open PySem PySem.Spec PyProof.Rows L2 Evl G C
/-- all but p stays -/
def ExBut (p : Addr) (H H' : Hp) : Prop := ∀ b o, H b = some o → b ≠ p → H' b = some o
theorem ExBut.refl (p : Addr) (H : Hp) : ExBut p H H := fun _ _ e _ => e
theorem ExBut.trans {p : Addr} {H H1 H2 : Hp} (a : ExBut p H H1) (b : ExBut p H1 H2) : ExBut p H H2 := fun c o e n => b c o (a c o e n) n
theorem ExBut.of {p : Addr} {H H' : Hp} (e : Ex H H') : ExBut p H H' := fun b o h _ => e b o h
theorem ExBut.upd {p : Addr} {H : Hp} {o : HO} : ExBut p H (upd H p o) := fun b u e n => by rw [upd_ne n]; exact e
theorem ExBut.mut {p b : Addr} {H H' : Hp} {o : HO} (e : ExBut p H H') (h : H b = none) : ExBut p H (L2.upd H' b o) := fun a u ha n => by
  rw [upd_ne fun z => by rw [z, h] at ha; cases ha]
  exact e a u ha n
theorem ExBut.fresh {p b : Addr} {H H' : Hp} (e : ExBut p H H') (h : H' b = none) (n : b ≠ p) : H b = none := by
  cases q : H b with
  | none => rfl
  | some o =>
    rw [e _ _ q n] at h
    cases h
/-- no list or tuple stands at p -/
def Apart (H : Hp) (p : Addr) : Prop := ∀ u, H p = some u → (∀ xs, u ≠ .lst xs) ∧ (∀ xs, u ≠ .tup xs) ∧ ∀ o v, u ≠ .frz o v
theorem apart_ins {H : Hp} {p C dx : Addr} {fs : List (Str × V)} (h : H p = some (.ins C dx fs)) : Apart H p := fun u e => by
  rw [h] at e
  cases e
  exact ⟨(fun _ z => by cases z), (fun _ z => by cases z), (fun _ _ z => by cases z)⟩
section
variable {K : PySem.W.Frag} {H H' : Hp} {p a : Addr} {xs : List V}
theorem but_st (hp : Apart H p) (e : ExBut p H H') (h : SqT K H a xs) : SqT K H' a xs := by
  rcases h with (h | ⟨q, h⟩) | h
  · exact .inl (.inl (e _ _ h fun z => (hp _ (z ▸ h)).2.1 _ rfl))
  · exact .inl (.inr ⟨q, e _ _ h fun z => (hp _ (z ▸ h)).2.2 _ _ rfl⟩)
  · exact .inr h
theorem but_sl (hp : Apart H p) (e : ExBut p H H') (h : SqL K H a xs) : SqL K H' a xs := by
  rcases h with (h | ⟨q, h⟩) | h
  · exact .inl (.inl (e _ _ h fun z => (hp _ (z ▸ h)).1 _ rfl))
  · exact .inl (.inr ⟨q, e _ _ h fun z => (hp _ (z ▸ h)).2.2 _ _ rfl⟩)
  · exact .inr h
mutual
theorem but_dp (hp : Apart H p) (e : ExBut p H H') : ∀ {d : PyData} {x : V}, Dp K H x d → Dp K H' x d
  | .none, _, h => by cases h; exact .non
  | .bool b, _, h => by cases h; exact .bl b
  | .int i, _, h => by cases h; exact .int i
  | .str z, _, h => by cases h; exact .str z
  | .list ds, _, h => by
    cases h with
    | lst hs a => exact .lst (but_sl hp e hs) (but_dpAll hp e a)
  | .tuple ds, _, h => by
    cases h with
    | tup hs a => exact .tup (but_st hp e hs) (but_dpAll hp e a)
  | .dict _, _, h => by cases h
theorem but_dpAll (hp : Apart H p) (e : ExBut p H H') : ∀ {ds : List PyData} {xs : List V}, DpAll K H xs ds → DpAll K H' xs ds
  | [], _, h => by cases h; exact .nil
  | d :: ds, _, h => by
    cases h with
    | cons a b => exact .cons (but_dp hp e a) (but_dpAll hp e b)
end
end
/-! ### data of tuples, texts, numbers alone -/
mutual
def noL : PyData → Bool
  | .tuple ds => noLs ds
  | .list _ => false
  | .dict _ => false
  | _ => true
def noLs : List PyData → Bool
  | [] => true
  | d :: ds => noL d && noLs ds
end
/-- only lists change from H to H' -/
def ExT (H H' : Hp) : Prop := ∀ b o, H b = some o → (∀ xs, o ≠ .lst xs) → H' b = some o
theorem ExT.of {H H' : Hp} (e : Ex H H') : ExT H H' := fun b o h _ => e b o h
theorem ExT.upd {H : Hp} {L : Addr} {xs : List V} {o : HO} (h : H L = some (.lst xs)) : ExT H (upd H L o) := fun b u hb n => by
  rw [upd_ne fun z => by rw [z, h] at hb; cases hb; exact n _ rfl]
  exact hb
section
variable {K : PySem.W.Frag} {H H' : Hp}
theorem t_st (e : ExT H H') {a : Addr} {xs : List V} (h : SqT K H a xs) : SqT K H' a xs := by
  rcases h with (h | ⟨q, h⟩) | h
  · exact .inl (.inl (e _ _ h fun _ z => by cases z))
  · exact .inl (.inr ⟨q, e _ _ h fun _ z => by cases z⟩)
  · exact .inr h
mutual
theorem t_dp (e : ExT H H') : ∀ {d : PyData} {x : V}, noL d = true → Dp K H x d → Dp K H' x d
  | .none, _, _, h => by cases h; exact .non
  | .bool b, _, _, h => by cases h; exact .bl b
  | .int i, _, _, h => by cases h; exact .int i
  | .str z, _, _, h => by cases h; exact .str z
  | .list ds, _, n, h => by cases n
  | .tuple ds, _, n, h => by
    cases h with
    | tup hs a => exact .tup (t_st e hs) (t_dpAll e n a)
  | .dict _, _, _, h => by cases h
theorem t_dpAll (e : ExT H H') : ∀ {ds : List PyData} {xs : List V}, noLs ds = true → DpAll K H xs ds → DpAll K H' xs ds
  | [], _, _, h => by cases h; exact .nil
  | d :: ds, _, n, h => by
    cases h with
    | cons a b =>
      have n : (noL d && noLs ds) = true := n
      rw [Bool.and_eq_true] at n
      exact .cons (t_dp e n.1 a) (t_dpAll e n.2 b)
end
theorem noLs_map {α : Type} {f : α → PyData} (h : ∀ a, noL (f a) = true) : ∀ l : List α, noLs (l.map f) = true
  | [] => rfl
  | a :: l => by
    show (noL (f a) && noLs (l.map f)) = true
    rw [h a, noLs_map h l]
    rfl
theorem noL_txt (zs : List Str) : noL (.tuple (txtD zs)) = true := noLs_map (fun _ => rfl) zs
theorem noL_gate (g : Gt) : noL (gateU g) = true := by
  show (noL (.str g.1) && (noL (.str g.2.1) && (noL (.tuple (txtD g.2.2)) && true))) = true
  rw [noL_txt]
  rfl
theorem noL_reg (r : Rg) : noL (regD r) = true := rfl
theorem dpAll_snoc : ∀ {xs : List V} {ds : List PyData} {x : V} {d : PyData}, DpAll K H xs ds → Dp K H x d → DpAll K H (xs ++ [x]) (ds ++ [d])
  | _, _, _, _, .nil, h => .cons h .nil
  | _, _, _, _, .cons a b, h => .cons a (dpAll_snoc b h)
end
/-! ### sorting gates and registers -/
theorem alike_txts : ∀ (a b : List Str), PySem.W.alikeAll (txtD a) (txtD b) = true
  | [], _ => by unfold txtD; simp [PySem.W.alikeAll]
  | _ :: _, [] => by unfold txtD; simp [PySem.W.alikeAll]
  | x :: a, y :: b => by
    have := alike_txts a b
    unfold txtD at this ⊢
    simp [PySem.W.alikeAll, PySem.W.alike, this]
theorem alike_gates (gs : List Gt) : PySem.W.AllAlike (gs.map gateD) := by
  intro d hd d' hd'
  obtain ⟨g, _, rfl⟩ := List.mem_map.mp hd
  obtain ⟨g', _, rfl⟩ := List.mem_map.mp hd'
  simp [gateD, PySem.W.alike, PySem.W.alikeAll, alike_txts]
theorem alike_regs (gs : List Rg) : PySem.W.AllAlike (gs.map regD) := by
  intro d hd d' hd'
  obtain ⟨g, _, rfl⟩ := List.mem_map.mp hd
  obtain ⟨g', _, rfl⟩ := List.mem_map.mp hd'
  simp [regD, PySem.W.alike, PySem.W.alikeAll]
theorem sortable_gates (gs : List Gt) : PySem.W.Sortable (gs.map gateD) := .inl fun d hd => by
  obtain ⟨g, _, rfl⟩ := List.mem_map.mp hd
  exact ⟨_, _, rfl⟩
theorem sortable_regs (gs : List Rg) : PySem.W.Sortable (gs.map regD) := .inl fun d hd => by
  obtain ⟨g, _, rfl⟩ := List.mem_map.mp hd
  exact ⟨_, _, rfl⟩
theorem deep_txts : ∀ zs : List Str, PyData.depthAll (txtD zs) = 0
  | [] => rfl
  | z :: zs => by
    have := deep_txts zs
    unfold txtD at this ⊢
    simp [PyData.depthAll, PyData.depth, this]
theorem deep_gate (g : Gt) : (gateD g).depth ≤ 50 := by
  simp [gateD, PyData.depth, PyData.depthAll, deep_txts]
theorem deep_reg (g : Rg) : (regD g).depth ≤ 50 := by
  simp [regD, PyData.depth, PyData.depthAll]
section
variable {K : PySem.W.Frag} {H Hc H' : Hp} {D a t p b c d : Addr} {u5 u6 u7 u8 u9 u10 u11 u12 : Option V}
/-- sorted(gates), the names unlike -/
theorem srtG {gts : List Gt} {xs : List V} {Q : VK} {b : Addr} {H : Hp} (hb : SqL K H b xs) (ha : DpAll K H xs (gts.map gateD)) (nd : (gnm gts).Nodup) (few : gts.length ≤ 1000)
    (k : ∀ sg ys L, sg.Perm gts → Rising (fun g : Gt => g.1) sg → H L = none → DpAll K H ys (sg.map gateD) → Q (.ref L) (upd H L (.lst ys))) : rSrt K [.ref b] H Q := by
  obtain ⟨sg, s1, s2, s3⟩ := srt_names (f := gateD) (nm := fun g : Gt => g.1) (rest := fun g => [.str g.2.1, .list (txtD g.2.2)]) (fun _ => rfl) (dp_len ha) nd
  refine ⟨b, xs, gts.map gateD, rfl, hb, ha, alike_gates gts, sortable_gates gts, by rw [List.length_map]; exact few, fun d hd => ?_, fun L nL => k sg _ L s1 s2 nL ?_⟩
  · obtain ⟨g, _, rfl⟩ := List.mem_map.mp hd
    exact deep_gate g
  · have q := srt_dp ha
    rw [s3] at q
    exact q
theorem srtRg {rgs : List Rg} {xs : List V} {Q : VK} {b : Addr} {H : Hp} (hb : SqL K H b xs) (ha : DpAll K H xs (rgs.map regD)) (nd : (rnm rgs).Nodup) (few : rgs.length ≤ 1000)
    (k : ∀ sg ys L, sg.Perm rgs → Rising (fun g : Rg => g.1) sg → H L = none → DpAll K H ys (sg.map regD) → Q (.ref L) (upd H L (.lst ys))) : rSrt K [.ref b] H Q := by
  obtain ⟨sg, s1, s2, s3⟩ := srt_names (f := regD) (nm := fun g : Rg => g.1) (rest := fun g => [.int g.2.1, .str g.2.2]) (fun _ => rfl) (dp_len ha) nd
  refine ⟨b, xs, rgs.map regD, rfl, hb, ha, alike_regs rgs, sortable_regs rgs, by rw [List.length_map]; exact few, fun d hd => ?_, fun L nL => k sg _ L s1 s2 nL ?_⟩
  · obtain ⟨g, _, rfl⟩ := List.mem_map.mp hd
    exact deep_reg g
  · have q := srt_dp ha
    rw [s3] at q
    exact q
/-- [(name, kind, tuple(wires)) for name, kind, wires in sorted(gates)] -/
theorem mkG {gts : List Gt} {Q : VK} (hg : Dp K H (.ref b) (.list (gts.map gateD))) (nd : (gnm gts).Nodup) (few : gts.length ≤ 1000)
    (k : ∀ sg ys L H', sg.Perm gts → Rising (fun g : Gt => g.1) sg → Ex H H' → H' L = some (.lst ys) → DpAll K H' ys (sg.map gateU) → Q (.ref L) H') :
    tLc (iList K (tCB (rSrt K) (tCons (tVar 2) tNil))) (gTup K 3 (gCons (gName 5) (gCons (gName 11) (gCons (gName 8) gNil)))) tYes (tTup (tCons (tVar 5) (tCons (tVar 11) (tCons (tCB (rTup K) (tCons (tVar 8) tNil)) tNil)))) [5, 11, 8]
      (sgI p a b c d u5 u6 u7 u8 u9 u10 u11 u12) H Q := by
  cases hg with
  | @lst b' xs _ hb ha =>
    refine ⟨_, rfl, ?_⟩
    dsimp only [tNil]
    refine srtG hb ha nd few fun sg ys S s1 s2 nS hys => ?_
    have e1 : Ex H (upd H S (.lst ys)) := Ex.new nS
    have hS : (upd H S (.lst ys)) S = some (.lst ys) := upd_same
    have hys1 := dpAll_ex e1 hys
    generalize upd H S (.lst ys) = H1 at e1 hS hys1
    have len := dp_len hys1
    have ls : sg.length ≤ 1000 := by rw [s1.length_eq]; exact few
    refine ⟨S, rfl, ⟨_, SqL.of hS⟩, fun L nL => ?_⟩
    refine lc_it (walk_list (K := K) (a := S) (xs := ys)) (fun i Hc => Ex H1 Hc ∧ ∃ acc, Hc L = some (.lst acc) ∧ DpAll K Hc acc ((sg.take i).map gateU)) ⟨Ex.new nL, [], upd_same, .nil⟩ (fun i Hc _ q => ex_l q.1 (SqL.of hS)) (fun i x Ha Hb hi q yy => ?_) (fun Hc q => ?_)
    · obtain ⟨rfl, ex⟩ := yy
      obtain ⟨e2, acc, h2, dacc⟩ := q
      obtain ⟨g, eg, dg⟩ := dp_nth hys1 ex
      obtain ⟨t, l, rfl, ht, hl⟩ := gate_of (dp_ex e2 dg)
      refine ⟨t, _, rfl, ht, rfl, _, _, rfl, _, _, rfl, _, _, rfl, rfl, rfl, ?_⟩
      refine ⟨_, rfl, _, rfl, _, rfl, l, _, rfl, .inl ⟨hl, fun t2 nt2 => ?_⟩⟩
      have e3 : Ex Hb (upd Hb t2 (.tup (g.2.2.map V.str))) := Ex.new nt2
      have h3 : (upd Hb t2 (.tup (g.2.2.map V.str))) t2 = some (.tup (g.2.2.map V.str)) := upd_same
      generalize upd Hb t2 (.tup (g.2.2.map V.str)) = H3 at e3 h3
      refine ⟨(by show 3 ≤ sizeLine; decide), fun t3 nt3 => ?_⟩
      have e4 : Ex H3 (upd H3 t3 (.tup [.str g.1, .str g.2.1, .ref t2])) := Ex.new nt3
      have h4 : (upd H3 t3 (.tup [.str g.1, .str g.2.1, .ref t2])) t3 = some (.tup [.str g.1, .str g.2.1, .ref t2]) := upd_same
      have d4 : Dp K (upd H3 t3 (.tup [.str g.1, .str g.2.1, .ref t2])) (.ref t3) (gateU g) := .tup (st_of h4) (.cons (.str _) (.cons (.str _) (.cons (dp_txt (st_of (e4 _ _ h3))) .nil)))
      generalize upd H3 t3 (.tup [.str g.1, .str g.2.1, .ref t2]) = H4 at e4 h4 d4
      have e34 := e3.trans e4
      have h24 := e34 _ _ h2
      refine ⟨acc, h24, ?_, (e2.trans e34).mut nL, acc ++ [.ref t3], upd_same, ?_⟩
      · rw [dp_len dacc, List.length_take]
        exact Nat.lt_of_le_of_lt (show _ ≤ 1000 by omega) (by decide)
      · rw [take_more eg, List.map_append]
        exact dpAll_snoc (t_dpAll (ExT.upd h24) (noLs_map noL_gate _) (dpAll_ex e34 dacc)) (t_dp (ExT.upd h24) (noL_gate g) d4)
    · obtain ⟨e2, acc, h2, dacc⟩ := q
      rw [len, List.take_length] at dacc
      exact k sg acc L Hc s1 s2 (e1.trans e2) h2 dacc
/-- [(name, bit, source) for name, bit, source in registers] -/
theorem mkRg {rgs : List Rg} {Q : VK} (hg : Dp K H (.ref c) (.list (rgs.map regD))) (few : rgs.length ≤ 1000)
    (k : ∀ ys L H', Ex H H' → H' L = some (.lst ys) → DpAll K H' ys (rgs.map regD) → Q (.ref L) H') :
    tLc (iList K (tVar 3)) (gTup K 3 (gCons (gName 5) (gCons (gName 15) (gCons (gName 9) gNil)))) tYes (tTup (tCons (tVar 5) (tCons (tVar 15) (tCons (tVar 9) tNil)))) [5, 15, 9] (sgI p a b c d u5 u6 u7 u8 u9 u10 u11 u12) H Q := by
  cases hg with
  | @lst b' xs _ hb ha =>
    have len := dp_len ha
    refine ⟨_, rfl, c, rfl, ⟨_, hb⟩, fun L nL => ?_⟩
    refine lc_it (walk_list (K := K) (a := c) (xs := xs)) (fun i Hc => Ex H Hc ∧ ∃ acc, Hc L = some (.lst acc) ∧ DpAll K Hc acc ((rgs.take i).map regD)) ⟨Ex.new nL, [], upd_same, .nil⟩ (fun i Hc _ q => ex_l q.1 hb) (fun i x Ha Hb hi q yy => ?_) (fun Hc q => ?_)
    · obtain ⟨rfl, ex⟩ := yy
      obtain ⟨e2, acc, h2, dacc⟩ := q
      obtain ⟨r, er, dr⟩ := dp_nth ha ex
      obtain ⟨t, rfl, ht⟩ := reg_of (dp_ex e2 dr)
      refine ⟨t, _, rfl, ht, rfl, _, _, rfl, _, _, rfl, _, _, rfl, rfl, rfl, ?_⟩
      refine ⟨_, rfl, _, rfl, _, rfl, (by show 3 ≤ sizeLine; decide), fun t3 nt3 => ?_⟩
      have e4 : Ex Hb (upd Hb t3 (.tup [.str r.1, .int r.2.1, .str r.2.2])) := Ex.new nt3
      have d4 : Dp K (upd Hb t3 (.tup [.str r.1, .int r.2.1, .str r.2.2])) (.ref t3) (regD r) := .tup (st_of upd_same) (.cons (.str _) (.cons (.int _) (.cons (.str _) .nil)))
      generalize upd Hb t3 (.tup [.str r.1, .int r.2.1, .str r.2.2]) = H4 at e4 d4
      have h24 := e4 _ _ h2
      refine ⟨acc, h24, ?_, (e2.trans e4).mut nL, acc ++ [.ref t3], upd_same, ?_⟩
      · rw [dp_len dacc, List.length_take]
        exact Nat.lt_of_le_of_lt (show _ ≤ 1000 by omega) (by decide)
      · rw [take_more er, List.map_append]
        exact dpAll_snoc (t_dpAll (ExT.upd h24) (noLs_map noL_reg _) (dpAll_ex e4 dacc)) (t_dp (ExT.upd h24) (noL_reg r) d4)
    · obtain ⟨e2, acc, h2, dacc⟩ := q
      rw [len, List.take_length] at dacc
      exact k acc L Hc e2 h2 dacc
end
end W

set_option Elab.async false
set_option linter.all false
set_option maxRecDepth 100000
set_option maxHeartbeats 8000000
namespace W
open PySem PySem.Spec PyProof.Rows L2 Evl G C
/-- what is asked of a circuit -/
structure Good (c : Cir) : Prop where
  nd : (names c).Nodup
  inm : ∀ z ∈ c.ins, nameOk z
  gts : ∀ g ∈ c.gates, gateOk g
  rgs : ∀ r ∈ c.regs, regOk r
  src : ∀ g ∈ c.gates, ∀ z ∈ g.2.2, z ∈ names c
  rsrc : ∀ r ∈ c.regs, r.2.2 ∈ names c
  out : ∀ z ∈ c.outs, z ∈ names c
  rank : Ranked (bet' c.gates)
  li : c.ins.length ≤ 8
  lg : c.gates.length ≤ 40
  lr : c.regs.length ≤ 8
  lo : c.outs.length ≤ 8
def srcsL (c : Cir) : List (Str × List Str) := ((c.ins.map fun z => (z, [])) ++ bet' c.gates) ++ ber c.regs
def kindsC (c : Cir) : List (Str × Str) := ((c.ins.map fun z => (z, ("input" : Str))) ++ (c.gates.map fun g => (g.1, g.2.1))) ++ (c.regs.map fun r => (r.1, ("register" : Str)))
def kvSt (l : List (Str × Str)) : List (Key × V) := l.map fun q => (Sum.inr q.1, .str q.2)
def flds (a1 a2 a3 a4 D5 D6 L7 : Addr) : List (Str × V) := putF "_sequence" (.ref L7) (putF "_kinds" (.ref D6) (putF "_sources" (.ref D5) (putF "_outputs" (.ref a4) (putF "_registers" (.ref a3) (putF "_gates" (.ref a2) (putF "_inputs" (.ref a1) []))))))
theorem flds_in (a1 a2 a3 a4 D5 D6 L7 : Addr) : (flds a1 a2 a3 a4 D5 D6 L7).lookup ("_inputs" : Str) = some (.ref a1) ∧ (flds a1 a2 a3 a4 D5 D6 L7).lookup ("_gates" : Str) = some (.ref a2) ∧ (flds a1 a2 a3 a4 D5 D6 L7).lookup ("_registers" : Str) = some (.ref a3) ∧ (flds a1 a2 a3 a4 D5 D6 L7).lookup ("_outputs" : Str) = some (.ref a4) ∧
    (flds a1 a2 a3 a4 D5 D6 L7).lookup ("_sources" : Str) = some (.ref D5) ∧ (flds a1 a2 a3 a4 D5 D6 L7).lookup ("_kinds" : Str) = some (.ref D6) ∧ (flds a1 a2 a3 a4 D5 D6 L7).lookup ("_sequence" : Str) = some (.ref L7) := ⟨rfl, rfl, rfl, rfl, rfl, rfl, rfl⟩
/-- the circuit c stands at p -/
def CirAt (K : PySem.W.Frag) (C : Addr) (H : Hp) (p : Addr) (c : Cir) : Prop := ∃ (dx a1 a2 a3 a4 D5 D6 L7 : Addr) (sg : List Gt) (sr : List Rg) (seq : List Str), H p = some (.ins C dx (flds a1 a2 a3 a4 D5 D6 L7)) ∧ Dp K H (.ref a1) (.tuple (txtD c.ins)) ∧
  (Dp K H (.ref a2) (.tuple (sg.map gateU)) ∧ sg.Perm c.gates ∧ Rising (fun g : Gt => g.1) sg) ∧ (Dp K H (.ref a3) (.tuple (sr.map regD)) ∧ sr.Perm c.regs ∧ Rising (fun r : Rg => r.1) sr) ∧
  Dp K H (.ref a4) (.tuple (txtD c.outs)) ∧ SrcAt K H D5 (srcsL c) ∧ H D6 = some (.dK (kvSt (kindsC c))) ∧ H L7 = some (.lst (seq.map V.str)) ∧ Topo (bet' c.gates) seq
section
variable {K : PySem.W.Frag} {H Hc H' : Hp} {C D a t p b c d : Addr} {kc : Cir} {xs : List V} {En : Ends} {u5 u6 u7 u8 u9 u10 u11 u12 : Option V}
theorem CirAt.ex (h : CirAt K C H p kc) (e : Ex H H') : CirAt K C H' p kc := by
  obtain ⟨dx, a1, a2, a3, a4, D5, D6, L7, sg, sr, seq, h1, h2, ⟨h3, h4, h5⟩, ⟨h6, h7, h8⟩, h9, h10, h11, h12, h13⟩ := h
  exact ⟨dx, a1, a2, a3, a4, D5, D6, L7, sg, sr, seq, e _ _ h1, dp_ex e h2, ⟨dp_ex e h3, h4, h5⟩, ⟨dp_ex e h6, h7, h8⟩, dp_ex e h9, h10.ex e, e _ _ h11, e _ _ h12, h13⟩
theorem ks_srcs (kc : Cir) : ks (srcsL kc) = names kc := by
  unfold srcsL
  rw [ks_app, ks_app, ks_bet, ks_ber]
  unfold names gn rn gnm rnm ks
  rw [List.map_map, ← List.append_assoc]
  congr 2
  exact List.map_id'' (fun _ => rfl) _
theorem fst_kinds (kc : Cir) : (kindsC kc).map Prod.fst = names kc := by
  unfold kindsC names gn rn
  rw [List.map_append, List.map_append, List.map_map, List.map_map, List.map_map, ← List.append_assoc]
  congr 2
  exact List.map_id'' (fun _ => rfl) _
/-- [gate[0] for gate in gates] -/
theorem gate_names {gts : List Gt} {Qd : Hp → Prop} {xs : List V} (hb : SqL K H b xs) (ha : DpAll K H xs (gts.map gateD)) (few : gts.length ≤ 1000) (nD : H D = none) (hd : ∀ H', Ex H H' → H' D = some (.lst ((gnm gts).map V.str)) → Qd H') :
    LcG (Itl K b) 13 (tOp (rIxT K) (tVar 13) (tC (.int 0))) (sgI p a b c d u5 u6 u7 u8 u9 u10 u11 u12) H D Qd := by
  have len := dp_len ha
  refine lc_pure (walk_list (K := K) (a := b) (xs := xs)) (fun i => (gts[i]?.map fun g => V.str g.1).getD .non) (by omega) (fun H' e => ex_l e hb) (fun i x => xs[i]? = some x) (fun i Ha x Hb _ _ y => ⟨y.1, y.2⟩) (fun i x hi ex => ?_) nD (fun H' e q => hd H' e ?_)
  · obtain ⟨g, eg, dg⟩ := dp_nth ha ex
    obtain ⟨t, l, rfl, ht, _⟩ := gate_of dg
    rw [eg]
    exact fun H1 e1 Q1 q1 => ⟨_, rfl, t, _, 0, .str g.1, rfl, rfl, ex_t e1 ht, rfl, q1 H1 (Ex.refl H1)⟩
  · rw [q, len]
    unfold gnm
    rw [List.map_map]
    congr 2
    exact range_map gts _ (fun g => V.str g.1) fun i x e => by rw [e]; rfl
/-- the kinds so far: one more -/
theorem kvSt_put {l : List (Str × Str)} {z y : Str} (m : z ∉ l.map Prod.fst) : putK (kvSt l) (Sum.inr z) (.str y) = kvSt (l ++ [(z, y)]) := by
  have q : valV (kvSt l) (Sum.inr z) = none := (valV_map (fun q : Str × Str => (Sum.inr q.1 : Key)) (fun q => V.str q.2) l _).mpr fun a ha e => m (List.mem_map.mpr ⟨a, ha, Sum.inr.inj e⟩)
  rw [putK_new q]
  simp [kvSt]
/-- for name, kind, _ in gates: self._kinds[name] = kind -/
theorem loopK {cC dx : Addr} {fs : List (Str × V)} {gts : List Gt} {l0 : List (Str × Str)} (cl : Cls K cC) (nk : NoAttr K cC "_kinds") (lf : fs.lookup ("_kinds" : Str) = some (.ref D)) (hp : Hc p = some (.ins cC dx fs)) (hg : Dp K Hc (.ref b) (.list (gts.map gateD)))
    (hD : Hc D = some (.dK (kvSt l0))) (nd : (l0.map Prod.fst ++ gnm gts).Nodup) (few : l0.length ≤ 500) (few2 : gts.length ≤ 500)
    (k : ∀ H' u5 u7 u11, H' p = Hc p → (∀ x o, Hc x = some o → x ≠ D → H' x = some o) → H' D = some (.dK (kvSt (l0 ++ gts.map fun g => (g.1, g.2.1)))) → En.nx (sgI p a b c d u5 u6 u7 u8 u9 u10 u11 u12) H') :
    tFor (iList K (tVar 2)) (gTup K 3 (gCons (gName 5) (gCons (gName 11) (gCons (gName 7) gNil)))) (sDPut (tFld K (tVar 0) "_kinds") (tVar 5) (tVar 11)) En (sgI p a b c d u5 u6 u7 u8 u9 u10 u11 u12) Hc := by
  have pD : p ≠ D := fun e => by rw [e, hD] at hp; cases hp
  cases hg with
  | @lst b' xs _ hb ha =>
    have len := dp_len ha
    have keep : ∀ {H' : Hp}, (∀ x o, Hc x = some o → x ≠ D → H' x = some o) → ExBut D Hc H' := fun h => h
    have ap : Apart Hc D := fun u e => by
      rw [hD] at e
      cases e
      exact ⟨(fun _ z => by cases z), (fun _ z => by cases z), (fun _ _ z => by cases z)⟩
    refine ⟨_, rfl, b, rfl, ⟨_, hb⟩, for_list (K := K) (a := b) (xs := xs) (fun i σ H' => (∃ u5 u7 u11, σ = sgI p a b c d u5 u6 u7 u8 u9 u10 u11 u12) ∧ ExBut D Hc H' ∧ H' D = some (.dK (kvSt (l0 ++ (gts.take i).map fun g => (g.1, g.2.1))))) ⟨⟨_, _, _, rfl⟩, ExBut.refl _ _, by simpa using hD⟩
      (fun i σ H' _ q => but_sl ap q.2.1 hb) (fun i x σ H' hx q => ?_) (fun σ H' q => ?_)⟩
    · obtain ⟨⟨u5, u7, u11, rfl⟩, e1, h1⟩ := q
      obtain ⟨g, eg, dg⟩ := dp_nth ha hx
      obtain ⟨t, l, rfl, ht, _⟩ := gate_of (but_dp ap e1 dg)
      have notin : g.1 ∉ (l0 ++ (gts.take i).map fun g => (g.1, g.2.1)).map Prod.fst := by
        have a1 : (l0.map Prod.fst ++ gnm gts)[(l0.map Prod.fst).length + i]? = some g.1 := by
          rw [List.getElem?_append_right (by omega), Nat.add_sub_cancel_left]
          simp [gnm, eg]
        have a2 := not_in_take nd a1
        rw [List.take_append, List.take_of_length_le (by omega), Nat.add_sub_cancel_left] at a2
        rw [List.map_append, List.map_map]
        have a3 : (gnm gts).take i = (gts.take i).map (Prod.fst ∘ fun g : Gt => (g.1, g.2.1)) := (List.map_take (f := fun g : Gt => g.1)).symm
        rwa [a3] at a2
      refine ⟨t, _, rfl, ht, rfl, _, _, rfl, _, _, rfl, _, _, rfl, rfl, ?_⟩
      refine ⟨_, rfl, _, rfl, p, cC, dx, fs, _, rfl, e1 _ _ hp pD, cl, nk, lf, _, rfl, D, _, rfl, DPut.k (k := Sum.inr g.1) h1 ?_, ⟨_, _, _, rfl⟩, e1.trans ExBut.upd, ?_⟩
      · simp only [kvSt, List.length_map, List.length_append, List.length_take]
        exact Nat.lt_of_le_of_lt (show _ ≤ 1000 by omega) (by decide)
      · rw [upd_same, kvSt_put notin, take_more eg, List.map_append, ← List.append_assoc]
        rfl
    · obtain ⟨⟨u5, u7, u11, rfl⟩, e1, h1⟩ := q
      rw [len, List.take_length] at h1
      exact k H' u5 u7 u11 (by rw [hp]; exact e1 _ _ hp pD) e1 h1
/-- for row in registers: self._kinds[row[0]] = "register" -/
theorem loopKr {cC dx : Addr} {fs : List (Str × V)} {rgs : List Rg} {l0 : List (Str × Str)} (cl : Cls K cC) (nk : NoAttr K cC "_kinds") (lf : fs.lookup ("_kinds" : Str) = some (.ref D)) (hp : Hc p = some (.ins cC dx fs)) (hg : Dp K Hc (.ref c) (.list (rgs.map regD)))
    (hD : Hc D = some (.dK (kvSt l0))) (nd : (l0.map Prod.fst ++ rnm rgs).Nodup) (few : l0.length ≤ 500) (few2 : rgs.length ≤ 500)
    (k : ∀ H' u12, H' p = Hc p → (∀ x o, Hc x = some o → x ≠ D → H' x = some o) → H' D = some (.dK (kvSt (l0 ++ rgs.map fun r => (r.1, ("register" : Str))))) → En.nx (sgI p a b c d u5 u6 u7 u8 u9 u10 u11 u12) H') :
    tFor (iList K (tVar 3)) (gName 12) (sDPut (tFld K (tVar 0) "_kinds") (tOp (rIxT K) (tVar 12) (tC (.int 0))) (tC (.str "register"))) En (sgI p a b c d u5 u6 u7 u8 u9 u10 u11 u12) Hc := by
  have pD : p ≠ D := fun e => by rw [e, hD] at hp; cases hp
  cases hg with
  | @lst b' xs _ hb ha =>
    have len := dp_len ha
    have ap : Apart Hc D := fun u e => by
      rw [hD] at e
      cases e
      exact ⟨(fun _ z => by cases z), (fun _ z => by cases z), (fun _ _ z => by cases z)⟩
    refine ⟨_, rfl, c, rfl, ⟨_, hb⟩, for_list (K := K) (a := c) (xs := xs) (fun i σ H' => (∃ u12, σ = sgI p a b c d u5 u6 u7 u8 u9 u10 u11 u12) ∧ ExBut D Hc H' ∧ H' D = some (.dK (kvSt (l0 ++ (rgs.take i).map fun r => (r.1, ("register" : Str)))))) ⟨⟨_, rfl⟩, ExBut.refl _ _, by simpa using hD⟩
      (fun i σ H' _ q => but_sl ap q.2.1 hb) (fun i x σ H' hx q => ?_) (fun σ H' q => ?_)⟩
    · obtain ⟨⟨u12, rfl⟩, e1, h1⟩ := q
      obtain ⟨r, er, dr⟩ := dp_nth ha hx
      obtain ⟨t, rfl, ht⟩ := reg_of (but_dp ap e1 dr)
      have notin : r.1 ∉ (l0 ++ (rgs.take i).map fun r => (r.1, ("register" : Str))).map Prod.fst := by
        have a1 : (l0.map Prod.fst ++ rnm rgs)[(l0.map Prod.fst).length + i]? = some r.1 := by
          rw [List.getElem?_append_right (by omega), Nat.add_sub_cancel_left]
          simp [rnm, er]
        have a2 := not_in_take nd a1
        rw [List.take_append, List.take_of_length_le (by omega), Nat.add_sub_cancel_left] at a2
        rw [List.map_append, List.map_map]
        have a3 : (rnm rgs).take i = (rgs.take i).map (Prod.fst ∘ fun r : Rg => (r.1, ("register" : Str))) := (List.map_take (f := fun r : Rg => r.1)).symm
        rwa [a3] at a2
      refine ⟨_, rfl, p, cC, dx, fs, _, rfl, e1 _ _ hp pD, cl, nk, lf, _, rfl, t, _, 0, .str r.1, rfl, rfl, ht, rfl, D, _, rfl, DPut.k (k := Sum.inr r.1) h1 ?_, ⟨_, rfl⟩, e1.trans ExBut.upd, ?_⟩
      · simp only [kvSt, List.length_map, List.length_append, List.length_take]
        exact Nat.lt_of_le_of_lt (show _ ≤ 1000 by omega) (by decide)
      · rw [upd_same, kvSt_put notin, take_more er, List.map_append, ← List.append_assoc]
        rfl
    · obtain ⟨⟨u12, rfl⟩, e1, h1⟩ := q
      rw [len, List.take_length] at h1
      exact k H' u12 (by rw [hp]; exact e1 _ _ hp pD) e1 h1
end
end W

set_option Elab.async false
set_option linter.all false
set_option maxRecDepth 100000
set_option maxHeartbeats 16000000
namespace W
open PySem PySem.Spec PyProof.Rows L2 Evl G C
theorem pi_tupK {X : Cx} {K : PySem.W.Frag} {tg l : Expr} {tl : TE} (hl : PE X l tl) (h : X.K = K := by rfl) : PI X tg l (iTup K tl) := by
  subst h
  exact pi_tup hl
theorem pg_tupK {X : Cx} {K : PySem.W.Frag} {es : List Expr} {k : Nat} {t : TGs} {n : Nat} {pos : Pos} (hc : X.calm = true) (h : PGs X es t) (hn : (assignEach es X.env).length = n := by rfl) (hst : (assignEach es X.env).findIdx? (·.1) = none := by rfl) (hK : X.K = K := by rfl) : PG X (.Tuple es k pos) (gTup K n t) := by
  subst hK
  exact pg_tup hc h hn hst
theorem ix_tupK {X : Cx} {K : PySem.W.Frag} (h : X.K = K := by rfl) : IxR X (rIxT K) := by
  subst h
  exact ix_tup
def spInit (K : PySem.W.Frag) (C : Addr) : Sp := fun vs H Q _ => ∃ (p dx : Addr) (x1 x2 x3 x4 : V) (c : Cir), vs = [.ref p, x1, x2, x3, x4] ∧ Good c ∧ H p = some (.ins C dx []) ∧ Dp K H x1 (.list (txtD c.ins)) ∧ Dp K H x2 (.list (c.gates.map gateD)) ∧ Dp K H x3 (.list (c.regs.map regD)) ∧ Dp K H x4 (.list (txtD c.outs)) ∧
  ∀ H', ExBut p H H' → CirAt K C H' p c → Q .non H'
/-- what stands in H stands in H' -/
structure Mv (K : PySem.W.Frag) (H H' : Hp) : Prop where
  dp : ∀ {d : PyData} {v : V}, Dp K H v d → Dp K H' v d
  src : ∀ {D : Addr} {gs : List (Str × List Str)}, SrcAt K H D gs → SrcAt K H' D gs
section
variable {K : PySem.W.Frag} {H H1 H2 : Hp} {p C dx : Addr} {fs : List (Str × V)}
theorem Mv.trans (a : Mv K H H1) (b : Mv K H1 H2) : Mv K H H2 := ⟨fun q => b.dp (a.dp q), fun q => b.src (a.src q)⟩
theorem Mv.of (e : Ex H H1) : Mv K H H1 := ⟨dp_ex e, fun q => q.ex e⟩
theorem Mv.but (hp : H p = some (.ins C dx fs)) (e : ExBut p H H1) : Mv K H H1 := by
  refine ⟨but_dp (apart_ins hp) e, fun {D gs} q => ?_⟩
  obtain ⟨kvs, ps, h1, h2⟩ := q
  exact ⟨kvs, ps, e _ _ h1 (fun z => by rw [z, hp] at h1; cases h1), h2.ext fun _ _ z => but_st (apart_ins hp) e z⟩
/-- a store to a field, behind what only makes things -/
theorem Mv.fld {fs' : List (Str × V)} (hp : H p = some (.ins C dx fs)) (e : Ex H H1) : Mv K H (upd H1 p (.ins C dx fs')) ∧ ExBut p H (upd H1 p (.ins C dx fs')) ∧ (upd H1 p (.ins C dx fs')) p = some (.ins C dx fs') :=
  ⟨.but hp ((ExBut.of e).trans ExBut.upd), (ExBut.of e).trans ExBut.upd, upd_same⟩
theorem list_of {x : V} {ds : List PyData} (h : Dp K H x (.list ds)) : ∃ b xs, x = .ref b ∧ SqL K H b xs ∧ DpAll K H xs ds := by
  cases h with
  | @lst a xs _ hs ha => exact ⟨a, xs, rfl, hs, ha⟩
/-- a dict of one's own turns -/
theorem turn_dict {D : Addr} {kvs : List (Key × V)} (hD : H D = some (.dK kvs)) (e : ∀ x o, H x = some o → x ≠ D → H1 x = some o) : (∀ {d : PyData} {v : V}, Dp K H v d → Dp K H1 v d) ∧ ∀ {D' : Addr} {gs : List (Str × List Str)}, D' ≠ D → SrcAt K H D' gs → SrcAt K H1 D' gs := by
  have ap : Apart H D := fun u z => by
    rw [hD] at z
    cases z
    exact ⟨(fun _ z => by cases z), (fun _ z => by cases z), (fun _ _ z => by cases z)⟩
  refine ⟨but_dp ap e, fun {D' gs} ne q => ?_⟩
  obtain ⟨kvs, ps, h1, h2⟩ := q
  exact ⟨kvs, ps, e _ _ h1 ne, h2.ext fun _ _ z => but_st ap e z⟩
end
theorem fld_tup {K : PySem.W.Frag} {te : TE} {f : Str} {D : Ends} {σ : L2.St} {H : Hp} (h : te σ H fun v H' => rTup K [v] H' fun y H1 => ∃ x, σ[0]? = some (some x) ∧ ∃ a C dx fs, x = .ref a ∧ H1 a = some (.ins C dx fs) ∧ Cls K C ∧ NoAttr K C f ∧ fs.length < 1000 ∧ D.nx σ (upd H1 a (.ins C dx (putF f y fs)))) :
    sFld K (tVar 0) (tCB (rTup K) (tCons te tNil)) f D σ H := h
theorem fld_tupS {K : PySem.W.Frag} {te : TE} {f : Str} {D : Ends} {σ : L2.St} {H : Hp} (h : te σ H fun v H' => rSrt K [v] H' fun v H' => rTup K [v] H' fun y H1 => ∃ x, σ[0]? = some (some x) ∧ ∃ a C dx fs, x = .ref a ∧ H1 a = some (.ins C dx fs) ∧ Cls K C ∧ NoAttr K C f ∧ fs.length < 1000 ∧ D.nx σ (upd H1 a (.ins C dx (putF f y fs)))) :
    sFld K (tVar 0) (tCB (rTup K) (tCons (tCB (rSrt K) (tCons te tNil)) tNil)) f D σ H := h
abbrev nInit : List Str := ["self", "inputs", "gates", "registers", "outputs", "name", "sources", "_", "wires", "source", "between", "kind", "row", "gate", "wire", "bit"]
section
variable {P : Program} {w : World} {K : PySem.W.Frag} {mg : Str → Option Value} {base : Heap}
theorem scInit : FnScope nInit ["self", "inputs", "gates", "registers", "outputs"] (defScope (dM 0)) := ⟨rfl, rfl, rfl, by decide +kernel, rfl, by decide +kernel, by decide +kernel⟩
theorem okInit {C f : Addr} {fd : FuncData} {dvs : List V} (F : FunD K "__init__" "Circuit.__init__" (defArgs (dM 0)) (defBody (dM 0)) (defScope (dM 0)) dvs [] f fd) (T : Txt K mg) (DT : DicT K w mg) (CT : CirT K mg C) :
    FnOk P w K mg base CX0 5 f fd ["self", "inputs", "gates", "registers", "outputs"] (spInit K C) := by
  obtain ⟨f1, fd1, F1⟩ := T.cInputs
  obtain ⟨f2, fd2, F2⟩ := T.cGates
  obtain ⟨f3, fd3, F3⟩ := T.cRegs
  obtain ⟨f4, fd4, F4⟩ := T.cSources
  obtain ⟨f5, fd5, F5⟩ := T.cOutputs
  obtain ⟨f6, fd6, F6⟩ := T.cNoRing
  obtain ⟨f7, fd7, F7⟩ := T.cNumber
  obtain ⟨f8, fd8, F8⟩ := T.seqOf
  obtain ⟨t1, m1⟩ := T.mInputs
  obtain ⟨t2, m2⟩ := T.mGates
  obtain ⟨t3, m3⟩ := T.mRegisters
  obtain ⟨t4, m4⟩ := T.mOutputs
  have G1 : FnOk P w K mg base CX0 4 f1 fd1 ["inputs"] (spCInputs K) := (okCInputs F1 T).mono (by decide)
  have G2 : FnOk P w K mg base CX0 4 f2 fd2 ["gates", "inputs"] (spCGates K) := (okCGates F2 T DT).mono (by decide)
  have G3 : FnOk P w K mg base CX0 4 f3 fd3 ["registers", "taken"] (spCRegs K) := (okCRegs F3 T).mono (by decide)
  have G4 : FnOk P w K mg base CX0 4 f4 fd4 ["sources", "wires"] (spCSources K) := (okCSources F4 T).mono (by decide)
  have G5 : FnOk P w K mg base CX0 4 f5 fd5 ["outputs", "wires"] (spCOutputs K) := (okCOutputs F5 T).mono (by decide)
  have G6 : FnOk P w K mg base CX0 4 f6 fd6 ["sources"] (spCNoRing K) := (okNoRing F6 T).mono (by decide)
  have G7 : FnOk P w K mg base CX0 4 f7 fd7 ["what", "rows", "limit"] (spCNumber K) := (okCNumber F7 T).mono (by decide)
  have G8 : FnOk P w K mg base CX0 4 f8 fd8 ["sources"] (spSeqOf K) := (okSeqOf F8 T).mono (by decide)
  refine F.ok scInit (fun vs H Q E h => ?_) (fun cdv A outer s H vs Q E hr h => ?_)
  · obtain ⟨p, dx, x1, x2, x3, x4, c, rfl, _⟩ := h
    rfl
  · obtain ⟨p, dx, x1, x2, x3, x4, c, rfl, good, hp, d1, d2, d3, d4, k⟩ := h
    have hu := hu_of hr
    have nds := scInit.nd
    suffices hh : ∃ t, PSs (cxOf CX0 P w K mg base nInit "Circuit.__init__" (defScope (dM 0)) f cdv A outer s H E).nox (defBody (dM 0)) t ∧ t { nx := fun _ H' => Q .non H', rt := Q } (L2.start nInit [.ref p, x1, x2, x3, x4]) H by
      obtain ⟨t, a, b⟩ := hh
      exact ⟨t, a.nox, b⟩
    refine ⟨_, pss_cons (ps_expr (pe_call G1 hr (by rfl) F1.gl F1.fn.kp F1.bi .nil pass0 (pa_cons (pv 1) pa_nil)))
      (pss_cons (ps_expr (pe_call G2 hr (by rfl) F2.gl F2.fn.kp F2.bi .nil pass0 (pa_cons (pv 2) (pa_cons (pv 1) pa_nil))))
      (pss_cons (ps_expr (pe_call G3 hr (by rfl) F3.gl F3.fn.kp F3.bi .nil pass0 (pa_cons (pv 3) (pa_cons (pe_op op_cat (pe_callTy call_list_of (by rfl) T.list (by decide +kernel) (pa_cons (pv 1) pa_nil))
          (pe_lc (own := [("gate", 13)]) (g := gName 13) (by rfl) nds (pi_list (pv 2)) (blkOk_by (own := [("gate", 13)]) (N := nInit) (sc := defScope (dM 0)) (by decide +kernel)) (fun _ _ _ _ _ => pg_name (i := 13) nds rfl (Or.inl rfl)) (fun _ _ _ _ _ => pts_nil) (fun _ _ _ _ _ => pe_ix ix_tupK (pv 13) pe_int (fun _ _ => rfl)))) pa_nil))))
      (pss_cons (ps_set (i := 6) nds rfl (Or.inr rfl) (pe_dc (own := [("name", 5)]) (g := gName 5) rfl nds (pi_list (pv 1)) (blkOk_by (own := [("name", 5)]) (N := nInit) (sc := defScope (dM 0)) (by decide +kernel)) (fun _ _ _ _ _ => pg_name (i := 5) nds rfl (Or.inl rfl)) (fun _ _ _ _ _ => pts_nil) (fun _ _ _ _ _ => pv 5) (fun _ _ _ _ _ => pe_tup pa_nil)))
      (pss_cons (ps_for PassesOwn.never rfl (pi_list (pv 2)) (pg_tup rfl (pgs_cons (pg_name (i := 5) nds rfl (Or.inl rfl)) (pgs_cons (pg_name (i := 7) nds rfl (Or.inl rfl)) (pgs_cons (pg_name (i := 8) nds rfl (Or.inl rfl)) pgs_nil))))
          (pss_one (ps_dput hu (pv 6) (pv 5) (pe_callTy call_tup (by rfl) T.tuple (by decide +kernel) (pa_cons (pv 8) pa_nil)) rfl)))
      (pss_cons (ps_for PassesOwn.never rfl (pi_list (pv 3)) (pg_tup rfl (pgs_cons (pg_name (i := 5) nds rfl (Or.inl rfl)) (pgs_cons (pg_name (i := 7) nds rfl (Or.inl rfl)) (pgs_cons (pg_name (i := 9) nds rfl (Or.inl rfl)) pgs_nil))))
          (pss_one (ps_dput hu (pv 6) (pv 5) (pe_tup (pa_cons (pv 9) pa_nil)) rfl)))
      (pss_cons (ps_expr (pe_call G4 hr (by rfl) F4.gl F4.fn.kp F4.bi .nil pass0 (pa_cons (pe_lock (pe_lc2 (own := [("name", 5), ("wire", 14)]) (vs1 := [14]) (g := gName 5) (g1 := gName 14) rfl nds (pi_keys (pv 6)) (blkOk_by (own := [("name", 5), ("wire", 14)]) (N := nInit) (sc := defScope (dM 0)) (by decide +kernel)) (by decide)
          (fun _ _ _ _ _ => pg_name (i := 5) nds rfl (Or.inl rfl)) (fun _ _ _ _ _ => pts_nil) (wi1 := iTup K (tDGet (tVar 6) (tVar 5))) (fun _ _ _ _ _ => pi_tupK (pe_dget hu (pv 6) (pv 5) (fun _ _ => rfl))) (fun _ _ _ _ _ => pg_name (i := 14) nds rfl (Or.inl rfl)) (fun _ _ _ _ _ => pts_nil) (fun _ _ _ _ _ => pv 14))) (pa_cons (pv 6) pa_nil))))
      (pss_cons (ps_expr (pe_call G5 hr (by rfl) F5.gl F5.fn.kp F5.bi .nil pass0 (pa_cons (pv 4) (pa_cons (pv 6) pa_nil))))
      (pss_cons (ps_setDc (i := 10) (own := [("gate", 13)]) (g := gName 13) rfl nds rfl rfl (sw_dict rfl rfl rfl (by decide +kernel)) (pi_list (pv 2)) (blkOk_by (own := [("gate", 13)]) (N := nInit) (sc := defScope (dM 0)) (by decide +kernel)) (fun _ _ _ _ _ => pg_name (i := 13) nds rfl (Or.inl rfl)) (fun _ _ _ _ _ => pts_nil)
          (fun _ _ _ _ _ => pe_ix ix_tupK (pv 13) pe_int (fun _ _ => rfl)) (fun _ _ _ _ _ => pe_dget hu (pv 6) (pe_ix ix_tupK (pv 13) pe_int (fun _ _ => rfl)) (fun _ _ => rfl)))
      (pss_cons (ps_expr (pe_call G6 hr (by rfl) F6.gl F6.fn.kp F6.bi .nil pass0 (pa_cons (pv 10) pa_nil)))
      (pss_cons (ps_expr (pe_call G7 hr (by rfl) F7.gl F7.fn.kp F7.bi .nil pass0 (pa_cons pe_str (pa_cons (pv 1) (pa_cons (pGi rfl m1) pa_nil)))))
      (pss_cons (ps_expr (pe_call G7 hr (by rfl) F7.gl F7.fn.kp F7.bi .nil pass0 (pa_cons pe_str (pa_cons (pv 2) (pa_cons (pGi rfl m2) pa_nil)))))
      (pss_cons (ps_expr (pe_call G7 hr (by rfl) F7.gl F7.fn.kp F7.bi .nil pass0 (pa_cons pe_str (pa_cons (pv 3) (pa_cons (pGi rfl m3) pa_nil)))))
      (pss_cons (ps_expr (pe_call G7 hr (by rfl) F7.gl F7.fn.kp F7.bi .nil pass0 (pa_cons pe_str (pa_cons (pv 4) (pa_cons (pGi rfl m4) pa_nil)))))
      (pss_cons (ps_fld (pv 0) (pe_callTy call_tup (by rfl) T.tuple (by decide +kernel) (pa_cons (pv 1) pa_nil)) rfl)
      (pss_cons (ps_fld (pv 0) (pe_callTy call_tup (by rfl) T.tuple (by decide +kernel) (pa_cons (pe_lc (own := [("name", 5), ("kind", 11), ("wires", 8)]) (g := gTup K 3 (gCons (gName 5) (gCons (gName 11) (gCons (gName 8) gNil)))) rfl nds (pi_list (pe_callB (cr_srt hr.units) (by rfl) T.sorted (by decide +kernel) (pa_cons (pv 2) pa_nil))) (blkOk_by (own := [("name", 5), ("kind", 11), ("wires", 8)]) (N := nInit) (sc := defScope (dM 0)) (by decide +kernel))
          (fun _ _ _ _ _ => pg_tupK rfl (pgs_cons (pg_name (i := 5) nds rfl (Or.inl rfl)) (pgs_cons (pg_name (i := 11) nds rfl (Or.inl rfl)) (pgs_cons (pg_name (i := 8) nds rfl (Or.inl rfl)) pgs_nil)))) (fun _ _ _ _ _ => pts_nil)
          (fun _ _ _ _ _ => pe_tup (pa_cons (pv 5) (pa_cons (pv 11) (pa_cons (pe_callTy call_tup (by rfl) T.tuple (by decide +kernel) (pa_cons (pv 8) pa_nil)) pa_nil))))) pa_nil)) rfl)
      (pss_cons (ps_fld (pv 0) (pe_callTy call_tup (by rfl) T.tuple (by decide +kernel) (pa_cons (pe_callB (cr_srt hr.units) (by rfl) T.sorted (by decide +kernel) (pa_cons (pe_lc (own := [("name", 5), ("bit", 15), ("source", 9)]) (g := gTup K 3 (gCons (gName 5) (gCons (gName 15) (gCons (gName 9) gNil)))) rfl nds (pi_list (pv 3)) (blkOk_by (own := [("name", 5), ("bit", 15), ("source", 9)]) (N := nInit) (sc := defScope (dM 0)) (by decide +kernel))
          (fun _ _ _ _ _ => pg_tupK rfl (pgs_cons (pg_name (i := 5) nds rfl (Or.inl rfl)) (pgs_cons (pg_name (i := 15) nds rfl (Or.inl rfl)) (pgs_cons (pg_name (i := 9) nds rfl (Or.inl rfl)) pgs_nil)))) (fun _ _ _ _ _ => pts_nil)
          (fun _ _ _ _ _ => pe_tup (pa_cons (pv 5) (pa_cons (pv 15) (pa_cons (pv 9) pa_nil))))) pa_nil)) pa_nil)) rfl)
      (pss_cons (ps_fld (pv 0) (pe_callTy call_tup (by rfl) T.tuple (by decide +kernel) (pa_cons (pv 4) pa_nil)) rfl)
      (pss_cons (ps_fld (pv 0) (pv 6) rfl)
      (pss_cons (ps_fld (pv 0) (pe_dc (own := [("name", 5)]) (g := gName 5) rfl nds (pi_list (pv 1)) (blkOk_by (own := [("name", 5)]) (N := nInit) (sc := defScope (dM 0)) (by decide +kernel)) (fun _ _ _ _ _ => pg_name (i := 5) nds rfl (Or.inl rfl)) (fun _ _ _ _ _ => pts_nil) (fun _ _ _ _ _ => pv 5) (fun _ _ _ _ _ => pe_str)) rfl)
      (pss_cons (ps_for PassesOwn.never rfl (pi_list (pv 2)) (pg_tup rfl (pgs_cons (pg_name (i := 5) nds rfl (Or.inl rfl)) (pgs_cons (pg_name (i := 11) nds rfl (Or.inl rfl)) (pgs_cons (pg_name (i := 7) nds rfl (Or.inl rfl)) pgs_nil))))
          (pss_one (ps_dput hu (pe_fld (pv 0) rfl) (pv 5) (pv 11) rfl)))
      (pss_cons (ps_for PassesOwn.never rfl (pi_list (pv 3)) (pg_name (i := 12) nds rfl (Or.inl rfl))
          (pss_one (ps_dput hu (pe_fld (pv 0) rfl) (pe_ix ix_tup (pv 12) pe_int (fun _ _ => rfl)) pe_str rfl)))
      (pss_one (ps_fld (pv 0) (pe_call G8 hr (by rfl) F8.gl F8.fn.kp F8.bi .nil pass0 (pa_cons (pv 10) pa_nil)) rfl))))))))))))))))))))))), ?_⟩
    obtain ⟨a, rfl, ha⟩ := txl_of d1
    obtain ⟨b, xb, rfl, hb, db⟩ := list_of d2
    obtain ⟨cc, xc, rfl, hc, dc⟩ := list_of d3
    obtain ⟨d, rfl, hdd⟩ := txl_of d4
    have lb := dp_len db
    have lc := dp_len dc
    have ndn := good.nd
    unfold names at ndn
    have nd1 : c.ins.Nodup := (List.nodup_append.mp ndn).1
    have nd2 : (c.ins ++ gnm c.gates).Nodup := by
      rw [← List.append_assoc] at ndn
      exact (List.nodup_append.mp ndn).1
    have nd3 : ((c.ins ++ gnm c.gates) ++ rnm c.regs).Nodup := by
      rw [← List.append_assoc] at ndn
      exact ndn
    have ndg : (gnm c.gates).Nodup := (List.nodup_append.mp nd2).2.1
    have ndr : (rnm c.regs).Nodup := (List.nodup_append.mp nd3).2.1
    have l1 := good.li
    have l2 := good.lg
    have l3 := good.lr
    have l4 := good.lo
    have nds' : (ks (srcsL c)).Nodup := by rw [ks_srcs]; exact good.nd
    have nds1 : (ks ((c.ins.map fun z => (z, ([] : List Str))) ++ bet' c.gates)).Nodup := by
      have := nds'
      unfold srcsL at this
      rw [ks_app] at this
      exact (List.nodup_append.mp this).1
    have short : ∀ g ∈ srcsL c, g.2.length ≤ 50 := by
      intro g hg
      unfold srcsL at hg
      rcases List.mem_append.mp hg with hg | hg
      · rcases List.mem_append.mp hg with hg | hg
        · obtain ⟨z, _, rfl⟩ := List.mem_map.mp hg
          exact Nat.zero_le _
        · obtain ⟨g', hg', rfl⟩ := List.mem_map.mp hg
          have := kinds_few (good.gts g' hg').2.1
          show g'.2.2.length ≤ 50
          omega
      · obtain ⟨r, _, rfl⟩ := List.mem_map.mp hg
        show 1 ≤ 50
        decide
    have wires : ∀ y ∈ (srcsL c).flatMap Prod.snd, y ∈ ks (srcsL c) := by
      intro y hy
      rw [ks_srcs]
      obtain ⟨g, hg, hy⟩ := List.mem_flatMap.mp hy
      unfold srcsL at hg
      rcases List.mem_append.mp hg with hg | hg
      · rcases List.mem_append.mp hg with hg | hg
        · obtain ⟨z, _, rfl⟩ := List.mem_map.mp hg
          cases hy
        · obtain ⟨g', hg', rfl⟩ := List.mem_map.mp hg
          exact good.src g' hg' y hy
      · obtain ⟨r, hr, rfl⟩ := List.mem_map.mp hg
        rw [List.mem_singleton.mp hy]
        exact good.rsrc r hr
    refine ⟨_, rfl, .ref a, c.ins, rfl, d1, nd1, good.inm, by omega, fun H1 e1 => ?_⟩
    refine ⟨_, rfl, _, rfl, .ref b, .ref a, c.gates, c.ins, rfl, dp_ex e1 d2, dp_ex e1 d1, nd2, good.gts, by omega, by omega, fun H2 e2 => ?_⟩
    have x2 := e1.trans e2
    refine ⟨_, rfl, _, rfl, a, _, rfl, .inl (ex_l x2 ha), fun q1 nq1 => ?_⟩
    have x3 : Ex H2 (upd H2 q1 (.lst (c.ins.map V.str))) := Ex.new nq1
    have hq1 : (upd H2 q1 (.lst (c.ins.map V.str))) q1 = some (.lst (c.ins.map V.str)) := upd_same
    generalize upd H2 q1 (.lst (c.ins.map V.str)) = H3 at x3 hq1
    have y3 := x2.trans x3
    refine ⟨_, rfl, b, rfl, ⟨_, ex_l y3 hb⟩, fun q2 nq2 => ?_⟩
    refine gate_names (p := p) (a := a) (b := b) (c := cc) (d := d) (ex_l y3 hb) (dpAll_ex y3 db) (by omega) nq2 (fun H4 e4 hq2 => ?_)
    refine ⟨q1, q2, _, _, rfl, rfl, e4 _ _ hq1, hq2, ?_, fun q3 nq3 => ?_⟩
    · simp only [gnm, List.length_map]
      exact Nat.le_trans (show _ ≤ 1000 by omega) (by decide)
    have x5 : Ex H4 (upd H4 q3 (.lst (c.ins.map V.str ++ (gnm c.gates).map V.str))) := Ex.new nq3
    have hq3 : (upd H4 q3 (.lst (c.ins.map V.str ++ (gnm c.gates).map V.str))) q3 = some (.lst ((c.ins ++ gnm c.gates).map V.str)) := by
      rw [upd_same, List.map_append]
    generalize upd H4 q3 (.lst (c.ins.map V.str ++ (gnm c.gates).map V.str)) = H5 at x5 hq3
    have y5 := y3.trans (e4.trans x5)
    refine ⟨.ref cc, .ref q3, c.regs, c.ins ++ gnm c.gates, rfl, dp_ex y5 d3, dp_txl (SqL.of hq3), nd3, good.rgs, by omega, by simp only [gnm, List.length_append, List.length_map]; omega, fun H6 e6 => ?_⟩
    have y6 := y5.trans e6
    refine ⟨_, rfl, a, rfl, ⟨_, ex_l y6 ha⟩, fun D nD => ?_⟩
    refine mkS (zs := c.ins) (by show 5 < 16; decide) (ex_l y6 ha) nd1 (by omega) nD (fun H7 e7 s7 => ?_)
    refine loopS5 (p := p) (a := a) (b := b) (c := cc) (d := d) (gts := c.gates) (dp_ex y6 d2) e7 s7 nD nds1 (by rw [List.length_map]; omega) (by omega) (fun H8 u5 u7 u8 e8 s8 => ?_)
    refine loopS6 (p := p) (a := a) (b := b) (c := cc) (d := d) (rgs := c.regs) (dp_ex y6 d3) e8 s8 nD nds' (by simp only [bet', List.length_append, List.length_map]; omega) (by omega) (fun H9 u5 u7 u9 e9 s9 => ?_)
    have y9 := y6.trans e9
    obtain ⟨kvs, ps, hD, hk⟩ := s9
    have hk : KvT K H9 kvs (srcsL c) ps := hk
    have len9 : (srcsL c).length ≤ 500 := by
      simp only [srcsL, bet', ber, List.length_append, List.length_map]
      omega
    refine ⟨D, _, hD, trivial, fun od => ?_⟩
    refine allS (p := p) (a := a) (b := b) (c := cc) (d := d) (hk.ext fun _ _ z => st_dict z hD) nds' len9 short upd_same (fun H10 L e10 hL nL => ⟨e10 _ _ upd_same, ?_⟩)
    have LD : L ≠ D := fun e => by rw [e, upd_same] at nL; cases nL
    have x11 := ex_unlock hD e10
    have hL11 : (upd H10 D (.dK kvs)) L = some (.lst (((srcsL c).flatMap Prod.snd).map V.str)) := by
      rw [upd_ne LD]
      exact hL
    generalize upd H10 D (.dK kvs) = H11 at x11 hL11
    have has1 : ∀ y ∈ ks (srcsL c), has kvs y := fun y hy => by
      have q := hk.isSome y
      rw [decide_eq_true hy] at q
      exact Option.isSome_iff_exists.mp q
    refine ⟨_, rfl, L, D, _, kvs, rfl, SqL.of hL11, x11 _ _ hD, fun y hy => has1 y (wires y hy), fun H12 e12 => ?_⟩
    have x12 := x11.trans e12
    have y12 := y9.trans x12
    refine ⟨_, rfl, _, rfl, .ref d, D, c.outs, kvs, rfl, dp_ex y12 d4, x12 _ _ hD, fun y hy => has1 y (by rw [ks_srcs]; exact good.out y hy), fun H13 e13 => ?_⟩
    have x13 := x12.trans e13
    have y13 := y9.trans x13
    have s13 : SrcAt K H13 D (srcsL c) := ⟨kvs, ps, x13 _ _ hD, hk.ex x13⟩
    refine ⟨_, rfl, b, rfl, ⟨_, ex_l y13 hb⟩, fun B nB => ?_⟩
    refine mkB (p := p) (a := a) (b := b) (c := cc) (d := d) (dp_ex y13 d2) s13 nds' (fun g hg => ?_) ndg (by omega) nB (fun H14 e14 s14 => ?_)
    · unfold srcsL
      exact List.mem_append_left _ (List.mem_append_right _ (List.mem_map.mpr ⟨g, hg, rfl⟩))
    have y14 := y13.trans e14
    obtain ⟨kvB, psB, hB, hkB⟩ := id s14
    have ndB : (ks (bet' c.gates)).Nodup := by rw [ks_bet]; exact ndg
    have lenB : (bet' c.gates).length ≤ 60 := by
      unfold bet'
      rw [List.length_map]
      omega
    have shortB : ∀ g ∈ bet' c.gates, g.2.length ≤ 50 := fun g hg => short g (by
      unfold srcsL
      exact List.mem_append_left _ (List.mem_append_right _ hg))
    refine ⟨_, rfl, B, kvB, bet' c.gates, psB, rfl, hB, hkB, ndB, good.rank, lenB, shortB, fun H15 e15 => ?_⟩
    have y15 := y14.trans e15
    have s15 := s13.ex (e14.trans e15)
    have sB15 := s14.ex e15
    refine ⟨_, rfl, "inputs", a, _, 8, rfl, ex_l y15 ha, by rw [List.length_map]; omega, ?_⟩
    refine ⟨_, rfl, "gates", b, _, 200, rfl, ex_l y15 hb, by omega, ?_⟩
    refine ⟨_, rfl, "registers", cc, _, 8, rfl, ex_l y15 hc, by omega, ?_⟩
    refine ⟨_, rfl, "outputs", d, _, 8, rfl, ex_l y15 hdd, by rw [List.length_map]; omega, ?_⟩
    have hp15 := y15 _ _ hp
    have d1' := dp_ex y15 d1
    have d2' := dp_ex y15 d2
    have d3' := dp_ex y15 d3
    have d4' := dp_ex y15 d4
    have b15 : ExBut p H H15 := ExBut.of y15
    have nBD : B ≠ D := fun e => by
      obtain ⟨_, _, z, _⟩ := s13
      rw [e, z] at nB
      cases nB
    clear hD hk hB hkB s7 s8 s13 s14 e1 e2 x2 x3 hq1 y3 hq2 hq3 x5 y5 e6 y6 nD e7 e8 e9 y9 e10 x11 hL11 e12 x12 y12 e13 x13 y13 e14 y14 e15 y15 hL nL nB
    -- the fields
    have txl : ∀ {H0 : Hp} {l : Addr} {zs : List Str}, Dp K H0 (.ref l) (.list (txtD zs)) → SqL K H0 l (zs.map V.str) := fun {H0 l zs} z => by
      obtain ⟨l', e, q⟩ := txl_of z
      cases e
      exact q
    have store : ∀ {H0 : Hp} {fs fs' : List (Str × V)}, H0 p = some (.ins C dx fs) → Mv K H0 (upd H0 p (.ins C dx fs')) ∧ ExBut p H0 (upd H0 p (.ins C dx fs')) ∧ (upd H0 p (.ins C dx fs')) p = some (.ins C dx fs') := fun h => ⟨.but h ExBut.upd, ExBut.upd, upd_same⟩
    -- inputs
    refine ⟨_, rfl, a, _, rfl, .inl ⟨txl d1', fun a1 n1 => ?_⟩⟩
    have e16 : Ex H15 (upd H15 a1 (.tup (c.ins.map V.str))) := Ex.new n1
    have D1 : Dp K (upd H15 a1 (.tup (c.ins.map V.str))) (.ref a1) (.tuple (txtD c.ins)) := dp_txt (st_of upd_same)
    generalize upd H15 a1 (.tup (c.ins.map V.str)) = H16 at e16 D1
    have hp16 := e16 _ _ hp15
    refine ⟨_, rfl, p, C, dx, _, rfl, hp16, CT.cl, CT.n_inputs, by decide, ?_⟩
    obtain ⟨m17, b17, hp17⟩ := store (fs' := putF "_inputs" (.ref a1) []) hp16
    have D1 := m17.dp D1
    have m17 := (Mv.of (K := K) e16).trans m17
    have b17 := b15.trans ((ExBut.of e16).trans b17)
    generalize upd H16 p (.ins C dx (putF "_inputs" (.ref a1) [])) = H17 at D1 m17 b17 hp17
    -- gates
    dsimp only
    refine fld_tup (K := K) ?_
    refine mkG (p := p) (a := a) (b := b) (c := cc) (d := d) (m17.dp d2') ndg (by omega) (fun sg ys L H18 pg rg e18 hL dys => ⟨L, ys, rfl, .inl ⟨SqL.of hL, fun a2 n2 => ?_⟩⟩)
    have e19 : Ex H17 (upd H18 a2 (.tup ys)) := e18.trans (Ex.new n2)
    have D2 : Dp K (upd H18 a2 (.tup ys)) (.ref a2) (.tuple (sg.map gateU)) := .tup (st_of upd_same) (dpAll_ex (Ex.new n2) dys)
    generalize upd H18 a2 (.tup ys) = H19 at e19 D2
    have hp19 := e19 _ _ hp17
    refine ⟨_, rfl, p, C, dx, _, rfl, hp19, CT.cl, CT.n_gates, (by show 1 < 1000; decide), ?_⟩
    obtain ⟨m20, b20, hp20⟩ := store (fs' := putF "_gates" (.ref a2) (putF "_inputs" (.ref a1) [])) hp19
    have D2 := m20.dp D2
    have m20 := (Mv.of (K := K) e19).trans m20
    have D1 := m20.dp D1
    have b20 := b17.trans ((ExBut.of e19).trans b20)
    have m20 := m17.trans m20
    generalize upd H19 p (.ins C dx (putF "_gates" (.ref a2) (putF "_inputs" (.ref a1) []))) = H20 at D1 D2 m20 b20 hp20
    clear m17 b17 hp17 e19 hp19 hp16 e16 dys hL e18 n2 n1
    -- registers
    dsimp only
    refine fld_tupS (K := K) ?_
    refine mkRg (p := p) (a := a) (b := b) (c := cc) (d := d) (m20.dp d3') (by omega) (fun ys L H21 e21 hL dys => ?_)
    refine srtRg (SqL.of hL) dys ndr (by omega) (fun sr ys2 L2 pr rr nL2 dys2 => ?_)
    refine ⟨L2, ys2, rfl, .inl ⟨SqL.of upd_same, fun a3 n3 => ?_⟩⟩
    have e22 : Ex H21 (upd (upd H21 L2 (.lst ys2)) a3 (.tup ys2)) := (Ex.new nL2).trans (Ex.new n3)
    have D3 : Dp K (upd (upd H21 L2 (.lst ys2)) a3 (.tup ys2)) (.ref a3) (.tuple (sr.map regD)) := .tup (st_of upd_same) (dpAll_ex e22 dys2)
    have e22 := e21.trans e22
    generalize upd (upd H21 L2 (.lst ys2)) a3 (.tup ys2) = H22 at e22 D3
    have hp22 := e22 _ _ hp20
    refine ⟨_, rfl, p, C, dx, _, rfl, hp22, CT.cl, CT.n_registers, (by show 2 < 1000; decide), ?_⟩
    obtain ⟨m23, b23, hp23⟩ := store (fs' := putF "_registers" (.ref a3) (putF "_gates" (.ref a2) (putF "_inputs" (.ref a1) []))) hp22
    have D3 := m23.dp D3
    have m23 := (Mv.of (K := K) e22).trans m23
    have D1 := m23.dp D1
    have D2 := m23.dp D2
    have b23 := b20.trans ((ExBut.of e22).trans b23)
    have m23 := m20.trans m23
    generalize upd H22 p (.ins C dx (putF "_registers" (.ref a3) (putF "_gates" (.ref a2) (putF "_inputs" (.ref a1) [])))) = H23 at D1 D2 D3 m23 b23 hp23
    clear m20 b20 hp20 e22 hp22 dys2 nL2 n3 dys hL e21
    -- outputs
    refine ⟨_, rfl, d, _, rfl, .inl ⟨txl (m23.dp d4'), fun a4 n4 => ?_⟩⟩
    have e24 : Ex H23 (upd H23 a4 (.tup (c.outs.map V.str))) := Ex.new n4
    have D4 : Dp K (upd H23 a4 (.tup (c.outs.map V.str))) (.ref a4) (.tuple (txtD c.outs)) := dp_txt (st_of upd_same)
    generalize upd H23 a4 (.tup (c.outs.map V.str)) = H24 at e24 D4
    have hp24 := e24 _ _ hp23
    refine ⟨_, rfl, p, C, dx, _, rfl, hp24, CT.cl, CT.n_outputs, (by show 3 < 1000; decide), ?_⟩
    obtain ⟨m25, b25, hp25⟩ := store (fs' := putF "_outputs" (.ref a4) (putF "_registers" (.ref a3) (putF "_gates" (.ref a2) (putF "_inputs" (.ref a1) [])))) hp24
    have D4 := m25.dp D4
    have m25 := (Mv.of (K := K) e24).trans m25
    have D1 := m25.dp D1
    have D2 := m25.dp D2
    have D3 := m25.dp D3
    have b25 := b23.trans ((ExBut.of e24).trans b25)
    have m25 := m23.trans m25
    generalize upd H24 p (.ins C dx (putF "_outputs" (.ref a4) (putF "_registers" (.ref a3) (putF "_gates" (.ref a2) (putF "_inputs" (.ref a1) []))))) = H25 at D1 D2 D3 D4 m25 b25 hp25
    clear m23 b23 hp23 e24 hp24 n4
    -- sources
    refine ⟨_, rfl, _, rfl, p, C, dx, _, rfl, hp25, CT.cl, CT.n_sources, (by show 4 < 1000; decide), ?_⟩
    obtain ⟨m26, b26, hp26⟩ := store (fs' := putF "_sources" (.ref D) (putF "_outputs" (.ref a4) (putF "_registers" (.ref a3) (putF "_gates" (.ref a2) (putF "_inputs" (.ref a1) []))))) hp25
    have D1 := m26.dp D1
    have D2 := m26.dp D2
    have D3 := m26.dp D3
    have D4 := m26.dp D4
    have b26 := b25.trans b26
    have m26 := m25.trans m26
    generalize upd H25 p (.ins C dx (putF "_sources" (.ref D) (putF "_outputs" (.ref a4) (putF "_registers" (.ref a3) (putF "_gates" (.ref a2) (putF "_inputs" (.ref a1) [])))))) = H26 at D1 D2 D3 D4 m26 b26 hp26
    clear m25 b25 hp25
    -- kinds
    refine ⟨_, rfl, a, rfl, ⟨_, txl (m26.dp d1')⟩, fun E6 nE6 => ?_⟩
    refine dc_each (as := c.ins) (em := V.str) (walk_list (K := K) (a := a)) (fun z => Sum.inr z) (fun _ => .str "input") (by omega) (fun H' e => ex_l e (txl (m26.dp d1'))) (fun z hz => ev_var (i := 5) rfl) (fun z hz => ev_c) (keys_nodup (f := fun z => z) (by rw [List.map_id']; exact nd1)) nE6 (fun H27 e27 hE6 => ?_)
    have hp27 := e27 _ _ hp26
    have hE6' : H27 E6 = some (.dK (kvSt (c.ins.map fun z => (z, ("input" : Str))))) := by
      rw [hE6]
      unfold kvSt
      rw [List.map_map]
      rfl
    refine ⟨_, rfl, p, C, dx, _, rfl, hp27, CT.cl, CT.n_kinds, (by show 5 < 1000; decide), ?_⟩
    obtain ⟨m28, b28, hp28⟩ := store (fs' := putF "_kinds" (.ref E6) (putF "_sources" (.ref D) (putF "_outputs" (.ref a4) (putF "_registers" (.ref a3) (putF "_gates" (.ref a2) (putF "_inputs" (.ref a1) [])))))) hp27
    have pE : E6 ≠ p := fun e => by rw [e, hp27] at hE6'; cases hE6'
    have hE28 := b28 _ _ hE6' pE
    have m28 := (Mv.of (K := K) e27).trans m28
    have D1 := m28.dp D1
    have D2 := m28.dp D2
    have D3 := m28.dp D3
    have D4 := m28.dp D4
    have s26 := m26.src s15
    have sB26 := m26.src sB15
    have neD : D ≠ E6 := fun e => by
      obtain ⟨_, _, z, _⟩ := s26
      rw [e, nE6] at z
      cases z
    have neB : B ≠ E6 := fun e => by
      obtain ⟨_, _, z, _⟩ := sB26
      rw [e, nE6] at z
      cases z
    have s28 := m28.src s26
    have sB28 := m28.src sB26
    have m28 := m26.trans m28
    have nE0 : H E6 = none := b26.fresh nE6 pE
    have b28 := b26.trans ((ExBut.of e27).trans b28)
    generalize hf28 : putF "_kinds" (.ref E6) (putF "_sources" (.ref D) (putF "_outputs" (.ref a4) (putF "_registers" (.ref a3) (putF "_gates" (.ref a2) (putF "_inputs" (.ref a1) []))))) = f28 at D1 D2 D3 D4 m28 b28 hp28 hE28 s28 sB28
    have lf : f28.lookup ("_kinds" : Str) = some (.ref E6) := by rw [← hf28]; rfl
    have lf7 : f28.length < 1000 := by rw [← hf28]; show 6 < 1000; decide
    generalize upd H27 p (.ins C dx f28) = H28 at D1 D2 D3 D4 m28 b28 hp28 hE28 s28 sB28
    clear m26 b26 hp26 e27 hp27 hE6 hE6' nE6 s26 sB26
    refine loopK (p := p) (a := a) (b := b) (c := cc) (d := d) (gts := c.gates) (l0 := c.ins.map fun z => (z, ("input" : Str))) CT.cl CT.n_kinds lf hp28 (m28.dp d2') hE28 (by rw [List.map_map]; exact (by rw [show (c.ins.map (Prod.fst ∘ fun z => (z, ("input" : Str)))) = c.ins from List.map_id'' (fun _ => rfl) _]; exact nd2)) (by rw [List.length_map]; omega) (by omega) (fun H29 u5 u7 u11 ep eo hE29 => ?_)
    obtain ⟨t29, ts29⟩ := turn_dict (K := K) hE28 eo
    have hp29 : H29 p = some (.ins C dx f28) := by rw [ep]; exact hp28
    have D1 := t29 D1
    have D2 := t29 D2
    have D3 := t29 D3
    have D4 := t29 D4
    have s29 := ts29 neD s28
    have sB29 := ts29 neB sB28
    have d3'' := t29 (m28.dp d3')
    have b29 : ExBut p H H29 := fun x o hx nx => eo x o (b28 x o hx nx) fun z => by rw [z, nE0] at hx; cases hx
    refine loopKr (p := p) (a := a) (b := b) (c := cc) (d := d) (rgs := c.regs) (l0 := (c.ins.map fun z => (z, ("input" : Str))) ++ c.gates.map fun g => (g.1, g.2.1)) CT.cl CT.n_kinds lf hp29 d3'' hE29 ?_ (by simp only [List.length_append, List.length_map]; omega) (by omega) (fun H30 u12 ep2 eo2 hE30 => ?_)
    · rw [List.map_append, List.map_map, List.map_map]
      rw [show (c.ins.map (Prod.fst ∘ fun z => (z, ("input" : Str)))) = c.ins from List.map_id'' (fun _ => rfl) _]
      exact nd3
    obtain ⟨t30, ts30⟩ := turn_dict (K := K) hE29 eo2
    have hp30 : H30 p = some (.ins C dx f28) := by rw [ep2]; exact hp29
    have D1 := t30 D1
    have D2 := t30 D2
    have D3 := t30 D3
    have D4 := t30 D4
    have s30 := ts30 neD s29
    obtain ⟨kvC, psC, hB30, hkB30⟩ := ts30 neB sB29
    have b30 : ExBut p H H30 := fun x o hx nx => eo2 x o (b29 x o hx nx) fun z => by rw [z, nE0] at hx; cases hx
    -- the sequence
    refine ⟨_, rfl, B, kvC, bet' c.gates, psC, rfl, hB30, hkB30, ndB, good.rank, lenB, shortB, fun L7 seq H31 e31 nL7 hL7 tp => ?_⟩
    have hp31 := e31 _ _ hp30
    refine ⟨_, rfl, p, C, dx, _, rfl, hp31, CT.cl, CT.n_sequence, lf7, ?_⟩
    obtain ⟨m32, b32, hp32⟩ := store (fs' := putF "_sequence" (.ref L7) f28) hp31
    have mm := (Mv.of (K := K) e31).trans m32
    have pL : L7 ≠ p := fun e => by rw [e, hp31] at hL7; cases hL7
    refine k _ (b30.trans ((ExBut.of e31).trans b32)) ⟨dx, a1, a2, a3, a4, D, E6, L7, sg, sr, seq, ?_, mm.dp D1, ⟨mm.dp D2, pg, rg⟩, ⟨mm.dp D3, pr, rr⟩, mm.dp D4, mm.src s30, ?_, b32 _ _ hL7 pL, tp⟩
    · rw [hp32, ← hf28]
      rfl
    · exact b32 _ _ (e31 _ _ hE30) pE
end
end W

set_option Elab.async false
set_option linter.all false
set_option maxRecDepth 100000
set_option maxHeartbeats 8000000
namespace W
open PySem PySem.Spec PyProof.Rows L2 Evl G C
def nIn (c : Cir) (z : Str) : Bool := decide (z ∈ names c)
theorem kinds_isSome (c : Cir) (z : Str) : (valV (kvSt (kindsC c)) (Sum.inr z)).isSome = nIn c z := by
  have q : valV (kvSt (kindsC c)) (Sum.inr z) = none ↔ z ∉ names c := by
    unfold kvSt
    rw [valV_map (fun q : Str × Str => (Sum.inr q.1 : Key)) (fun q => V.str q.2), ← fst_kinds]
    constructor
    · intro a m
      obtain ⟨p, hp, e⟩ := List.mem_map.mp m
      exact a p hp (congrArg Sum.inr e)
    · intro a p hp e
      exact a (List.mem_map.mpr ⟨p, hp, Sum.inr.inj e⟩)
  unfold nIn
  by_cases m : z ∈ names c
  · rw [decide_eq_true m]
    cases v : valV (kvSt (kindsC c)) (Sum.inr z) with
    | none => exact absurd m (q.mp v)
    | some _ => rfl
  · rw [decide_eq_false m, q.mpr m]
    rfl
theorem kinds_hit {c : Cir} (g : Good c) {q : Str × Str} (m : q ∈ kindsC c) : valV (kvSt (kindsC c)) (Sum.inr q.1) = some (.str q.2) :=
  valV_hit (fun q : Str × Str => (Sum.inr q.1 : Key)) (fun q => V.str q.2) (kindsC c) q m fun b hb e => inj_nd (f := Prod.fst) (by rw [fst_kinds]; exact g.nd) hb m (Sum.inr.inj e)
section
variable {P : Program} {w : World} {K : PySem.W.Frag} {mg : Str → Option Value} {base : Heap} {C : Addr}
/-! ### the class's methods -/
def spCont (K : PySem.W.Frag) (C : Addr) : Sp := fun vs H Q _ => ∃ (p : Addr) (z : Str) (c : Cir), vs = [.ref p, .str z] ∧ CirAt K C H p c ∧ Q (.bl (nIn c z)) H
theorem scCont : FnScope ["self", "value"] ["self", "value"] (defScope (dM 13)) := ⟨rfl, rfl, rfl, by decide +kernel, rfl, by decide +kernel, by decide +kernel⟩
theorem okCont {f : Addr} {fd : FuncData} (F : MthT K C "__contains__" "Circuit.__contains__" (dM 13) ["self", "value"] f fd) (T : Txt K mg) (CT : CirT K mg C) : FnOk P w K mg base CX0 1 f fd ["self", "value"] (spCont K C) := by
  refine F.fn.ok scCont (fun vs H Q E h => ?_) (fun cdv A outer s H vs Q E hr h => ?_)
  · obtain ⟨p, z, c, rfl, _⟩ := h
    rfl
  · obtain ⟨p, z, c, rfl, hc, k⟩ := h
    have hu := hu_of hr
    refine ⟨_, pss_one (ps_ret (pe_and (pe_callB call_isi (by rfl) T.isinstance (by decide +kernel) (pa_cons (pv 1) (pa_cons (pTy "str" (by rfl) T.str (by decide +kernel)) pa_nil))) (pe_one (pe_cmp (pc_din hu (pv 1) (pe_fld (pv 0) rfl)) rfl)))), ?_⟩
    obtain ⟨dx, a1, a2, a3, a4, D5, D6, L7, sg, sr, seq, h1, h2, _, _, h9, h10, h11, h12, h13⟩ := hc
    refine rd_isi (K := K) (i := 1) (T := "str") rfl (.dp (.str z)) (kit_S (.str z)) ⟨_, rfl, ?_⟩
    refine iteT ?_
    refine ⟨_, rfl, _, rfl, p, C, dx, _, _, rfl, h1, CT.cl, CT.n_kinds, (flds_in a1 a2 a3 a4 D5 D6 L7).2.2.2.2.2.1, D6, _, rfl, DGet.k (k := Sum.inr z) h11, ?_⟩
    rw [kinds_isSome]
    exact k
def spM {α : Type} (K : PySem.W.Frag) (C : Addr) (post : Cir → VK → Hp → Prop) : Sp := fun vs H Q _ => ∃ (p : Addr) (c : Cir), vs = [.ref p] ∧ CirAt K C H p c ∧ Good c ∧ post c Q H
/-- the answer is a new list of texts -/
def newTx (zs : Cir → List Str) : Cir → VK → Hp → Prop := fun c Q H => ∀ l H', Ex H H' → H l = none → H' l = some (.lst ((zs c).map V.str)) → Q (.ref l) H'
theorem scM1 : FnScope ["self"] ["self"] (defScope (dM 1)) := ⟨rfl, rfl, rfl, by decide +kernel, rfl, by decide +kernel, by decide +kernel⟩
theorem okInputs {f : Addr} {fd : FuncData} (F : MthT K C "inputs" "Circuit.inputs" (dM 1) ["self"] f fd) (T : Txt K mg) (CT : CirT K mg C) : FnOk P w K mg base CX0 1 f fd ["self"] (spM (α := Nat) K C (newTx Cir.ins)) := by
  refine F.fn.ok scM1 (fun vs H Q E h => ?_) (fun cdv A outer s H vs Q E hr h => ?_)
  · obtain ⟨p, c, rfl, _⟩ := h
    rfl
  · obtain ⟨p, c, rfl, hc, _, k⟩ := h
    refine ⟨_, pss_one (ps_ret (pe_callTy call_list_of (by rfl) T.list (by decide +kernel) (pa_cons (pe_fld (pv 0) rfl) pa_nil))), ?_⟩
    obtain ⟨dx, a1, a2, a3, a4, D5, D6, L7, sg, sr, seq, h1, h2, _, _, h9, h10, h11, h12, h13⟩ := hc
    obtain ⟨l, el, hl⟩ := txt_of h2
    cases el
    exact ⟨_, rfl, p, C, dx, _, _, rfl, h1, CT.cl, CT.n_inputs, (flds_in a1 a2 a3 a4 D5 D6 L7).1, a1, _, rfl, .inr hl, fun l nl => k l _ (Ex.new nl) nl upd_same⟩
theorem scM4 : FnScope ["self"] ["self"] (defScope (dM 4)) := ⟨rfl, rfl, rfl, by decide +kernel, rfl, by decide +kernel, by decide +kernel⟩
theorem okOutputs {f : Addr} {fd : FuncData} (F : MthT K C "outputs" "Circuit.outputs" (dM 4) ["self"] f fd) (T : Txt K mg) (CT : CirT K mg C) : FnOk P w K mg base CX0 1 f fd ["self"] (spM (α := Nat) K C (newTx Cir.outs)) := by
  refine F.fn.ok scM4 (fun vs H Q E h => ?_) (fun cdv A outer s H vs Q E hr h => ?_)
  · obtain ⟨p, c, rfl, _⟩ := h
    rfl
  · obtain ⟨p, c, rfl, hc, _, k⟩ := h
    refine ⟨_, pss_one (ps_ret (pe_callTy call_list_of (by rfl) T.list (by decide +kernel) (pa_cons (pe_fld (pv 0) rfl) pa_nil))), ?_⟩
    obtain ⟨dx, a1, a2, a3, a4, D5, D6, L7, sg, sr, seq, h1, h2, _, _, h9, h10, h11, h12, h13⟩ := hc
    obtain ⟨l, el, hl⟩ := txt_of h9
    cases el
    exact ⟨_, rfl, p, C, dx, _, _, rfl, h1, CT.cl, CT.n_outputs, (flds_in a1 a2 a3 a4 D5 D6 L7).2.2.2.1, a4, _, rfl, .inr hl, fun l nl => k l _ (Ex.new nl) nl upd_same⟩
/-- registers, sorted -/
def RgOf (c : Cir) (sr : List Rg) : Prop := sr.Perm c.regs ∧ Rising (fun r : Rg => r.1) sr
theorem RgOf.eq {c : Cir} {s t : List Rg} (h : RgOf c s) (g : RgOf c t) : s = t := rising_eq h.2 g.2 (h.1.trans g.1.symm)
def newRg (K : PySem.W.Frag) : Cir → VK → Hp → Prop := fun c Q H => ∀ sr, RgOf c sr → ∀ l xs H', Ex H H' → H l = none → H' l = some (.lst xs) → DpAll K H' xs (sr.map regD) → Q (.ref l) H'
theorem scM3 : FnScope ["self"] ["self"] (defScope (dM 3)) := ⟨rfl, rfl, rfl, by decide +kernel, rfl, by decide +kernel, by decide +kernel⟩
theorem okRegisters {f : Addr} {fd : FuncData} (F : MthT K C "registers" "Circuit.registers" (dM 3) ["self"] f fd) (T : Txt K mg) (CT : CirT K mg C) : FnOk P w K mg base CX0 1 f fd ["self"] (spM (α := Nat) K C (newRg K)) := by
  refine F.fn.ok scM3 (fun vs H Q E h => ?_) (fun cdv A outer s H vs Q E hr h => ?_)
  · obtain ⟨p, c, rfl, _⟩ := h
    rfl
  · obtain ⟨p, c, rfl, hc, _, k⟩ := h
    refine ⟨_, pss_one (ps_ret (pe_callTy call_list_of (by rfl) T.list (by decide +kernel) (pa_cons (pe_fld (pv 0) rfl) pa_nil))), ?_⟩
    obtain ⟨dx, a1, a2, a3, a4, D5, D6, L7, sg, sr, seq, h1, h2, _, ⟨h6, h7, h8⟩, h9, h10, h11, h12, h13⟩ := hc
    cases h6 with
    | @tup _ xs _ hs ha =>
      exact ⟨_, rfl, p, C, dx, _, _, rfl, h1, CT.cl, CT.n_registers, (flds_in a1 a2 a3 a4 D5 D6 L7).2.2.1, a3, _, rfl, .inr hs, fun l nl => k sr ⟨h7, h8⟩ l xs _ (Ex.new nl) nl upd_same (dpAll_ex (Ex.new nl) ha)⟩
/-- the first state -/
def firstOf (sr : List Rg) : List Int := sr.map fun r => r.2.1
def newFst (K : PySem.W.Frag) : Cir → VK → Hp → Prop := fun c Q H => ∀ sr, RgOf c sr → ∀ t H', Ex H H' → H t = none → H' t = some (.tup ((firstOf sr).map V.int)) → Q (.ref t) H'
abbrev nM6 : List Str := ["self", "_", "bit"]
theorem scM6 : FnScope nM6 ["self"] (defScope (dM 6)) := ⟨rfl, rfl, rfl, by decide +kernel, rfl, by decide +kernel, by decide +kernel⟩
theorem okFirst {f : Addr} {fd : FuncData} (F : MthT K C "first" "Circuit.first" (dM 6) ["self"] f fd) (T : Txt K mg) (CT : CirT K mg C) : FnOk P w K mg base CX0 1 f fd ["self"] (spM (α := Nat) K C (newFst K)) := by
  refine F.fn.ok scM6 (fun vs H Q E h => ?_) (fun cdv A outer s H vs Q E hr h => ?_)
  · obtain ⟨p, c, rfl, _⟩ := h
    rfl
  · obtain ⟨p, c, rfl, hc, good, k⟩ := h
    refine ⟨_, pss_one (ps_ret (pe_callTy call_tup (by rfl) T.tuple (by decide +kernel) (pa_cons (pe_lc (own := [("_", 1), ("bit", 2)]) (g := gTup K 3 (gCons (gName 1) (gCons (gName 2) (gCons (gName 1) gNil)))) rfl scM6.nd (pi_tup (pe_fld (pv 0) rfl)) (blkOk_by (own := [("_", 1), ("bit", 2)]) (N := nM6) (sc := defScope (dM 6)) (by decide +kernel))
      (fun _ _ _ _ _ => pg_tupK rfl (pgs_cons (pg_name (i := 1) scM6.nd rfl (Or.inl rfl)) (pgs_cons (pg_name (i := 2) scM6.nd rfl (Or.inl rfl)) (pgs_cons (pg_name (i := 1) scM6.nd rfl (Or.inl rfl)) pgs_nil)))) (fun _ _ _ _ _ => pts_nil) (fun _ _ _ _ _ => pv 2)) pa_nil))), ?_⟩
    obtain ⟨dx, a1, a2, a3, a4, D5, D6, L7, sg, sr, seq, h1, h2, _, ⟨h6, h7, h8⟩, h9, h10, h11, h12, h13⟩ := hc
    cases h6 with
    | @tup _ xs _ hs ha =>
      have len := dp_len ha
      refine ⟨_, rfl, p, C, dx, _, _, rfl, h1, CT.cl, CT.n_registers, (flds_in a1 a2 a3 a4 D5 D6 L7).2.2.1, a3, rfl, ⟨_, hs⟩, fun L nL => ?_⟩
      refine lc_it (walk_tup (K := K) (a := a3) (xs := xs)) (fun i Hc => Ex H Hc ∧ Hc L = some (.lst ((firstOf (sr.take i)).map V.int))) ⟨Ex.new nL, upd_same⟩ (fun i Hc _ q => ex_t q.1 hs) (fun i x Ha Hb hi q yy => ?_) (fun Hc q => ?_)
      · obtain ⟨rfl, ex⟩ := yy
        obtain ⟨e2, hL⟩ := q
        obtain ⟨r, er, dr⟩ := dp_nth ha ex
        obtain ⟨t, rfl, ht⟩ := reg_of (dp_ex e2 dr)
        refine ⟨t, _, rfl, ht, rfl, _, _, rfl, _, _, rfl, _, _, rfl, rfl, rfl, ?_⟩
        refine ⟨_, rfl, _, hL, ?_, e2.mut nL, ?_⟩
        · simp only [firstOf, List.length_map, List.length_take]
          have := good.lr
          have := h7.length_eq
          exact Nat.lt_of_le_of_lt (show _ ≤ 1000 by omega) (by decide)
        · rw [upd_same, take_more er]
          simp [firstOf]
      · obtain ⟨e2, hL⟩ := q
        rw [len, List.take_length] at hL
        exact ⟨L, _, rfl, .inl ⟨SqL.of hL, fun t nt => k sr ⟨h7, h8⟩ t _ (e2.trans (Ex.new nt)) (ex_none e2 nt) upd_same⟩⟩
def spCWire (K : PySem.W.Frag) (C : Addr) : Sp := fun vs H Q _ => ∃ (p : Addr) (z : Str) (c : Cir), vs = [.ref p, .str z] ∧ CirAt K C H p c ∧ z ∈ names c ∧ Q .non H
theorem scCWire : FnScope ["circuit", "wire"] ["circuit", "wire"] (defScope dCWire) := ⟨rfl, rfl, rfl, by decide +kernel, rfl, by decide +kernel, by decide +kernel⟩
theorem okCWire {f : Addr} {fd : FuncData} (F : At K mg "check_wire" dCWire ["circuit", "wire"] f fd) (T : Txt K mg) (CT : CirT K mg C) : FnOk P w K mg base CX0 2 f fd ["circuit", "wire"] (spCWire K C) := by
  obtain ⟨fI, gI, FI⟩ := CT.cont
  have GI : FnOk P w K mg base CX0 1 fI gI ["self", "value"] (spCont K C) := okCont FI T CT
  refine F.fn.ok scCWire (fun vs H Q E h => ?_) (fun cdv A outer s H vs Q E hr h => ?_)
  · obtain ⟨p, z, c, rfl, _⟩ := h
    rfl
  · obtain ⟨p, z, c, rfl, hc, hz, k⟩ := h
    refine ⟨_, pss_one (ps_if (pt_cmpR (op_ninOwn GI hr FI.me.at_ FI.me.fn FI.bi pass0) (pv 1) (pv 0) (by rfl)) (pss_one ps_never) pss_nil), ?_⟩
    obtain ⟨dx, a1, a2, a3, a4, D5, D6, L7, sg, sr, seq, h1, hrest⟩ := id hc
    refine ⟨_, rfl, _, rfl, p, dx, _, rfl, h1, p, z, c, rfl, hc, _, rfl, _, rfl, ?_⟩
    rw [show nIn c z = true from decide_eq_true hz]
    exact iteF k
end
end W

set_option Elab.async false
set_option linter.all false
set_option maxRecDepth 100000
set_option maxHeartbeats 8000000
namespace W
open PySem PySem.Spec PyProof.Rows L2 Evl G C
section
variable {P : Program} {w : World} {K : PySem.W.Frag} {mg : Str → Option Value} {base : Heap} {C : Addr}
def spKind (K : PySem.W.Frag) (C : Addr) : Sp := fun vs H Q _ => ∃ (p : Addr) (z k : Str) (c : Cir), vs = [.ref p, .str z] ∧ CirAt K C H p c ∧ Good c ∧ (z, k) ∈ kindsC c ∧ Q (.str k) H
theorem scM7 : FnScope ["self", "wire"] ["self", "wire"] (defScope (dM 7)) := ⟨rfl, rfl, rfl, by decide +kernel, rfl, by decide +kernel, by decide +kernel⟩
theorem okKindM {f : Addr} {fd : FuncData} (F : MthT K C "kind" "Circuit.kind" (dM 7) ["self", "wire"] f fd) (T : Txt K mg) (CT : CirT K mg C) : FnOk P w K mg base CX0 3 f fd ["self", "wire"] (spKind K C) := by
  obtain ⟨fI, gI, FI⟩ := T.cWire
  have GI : FnOk P w K mg base CX0 2 fI gI ["circuit", "wire"] (spCWire K C) := okCWire FI T CT
  refine F.fn.ok scM7 (fun vs H Q E h => ?_) (fun cdv A outer s H vs Q E hr h => ?_)
  · obtain ⟨p, z, k, c, rfl, _⟩ := h
    rfl
  · obtain ⟨p, z, k, c, rfl, hc, good, hz, kk⟩ := h
    have hu := hu_of hr
    refine ⟨_, pss_cons (ps_expr (pe_call GI hr (by rfl) FI.gl FI.fn.kp FI.bi .nil pass0 (pa_cons (pv 0) (pa_cons (pv 1) pa_nil)))) (pss_one (ps_ret (pe_dget hu (pe_fld (pv 0) rfl) (pv 1) (fun _ _ => rfl)))), ?_⟩
    refine ⟨_, rfl, _, rfl, p, z, c, rfl, hc, by rw [← fst_kinds]; exact List.mem_map.mpr ⟨_, hz, rfl⟩, ?_⟩
    obtain ⟨dx, a1, a2, a3, a4, D5, D6, L7, sg, sr, seq, h1, h2, _, _, h9, h10, h11, h12, h13⟩ := hc
    have q := DGet.k (k := Sum.inr z) h11
    rw [kinds_hit good hz] at q
    exact ⟨_, rfl, p, C, dx, _, _, rfl, h1, CT.cl, CT.n_kinds, (flds_in a1 a2 a3 a4 D5 D6 L7).2.2.2.2.2.1, _, rfl, D6, _, rfl, q, kk⟩
def spSrcs (K : PySem.W.Frag) (C : Addr) : Sp := fun vs H Q _ => ∃ (p : Addr) (z : Str) (zs : List Str) (c : Cir), vs = [.ref p, .str z] ∧ CirAt K C H p c ∧ Good c ∧ (z, zs) ∈ srcsL c ∧ ∀ l H', Ex H H' → H l = none → H' l = some (.lst (zs.map V.str)) → Q (.ref l) H'
theorem scM8 : FnScope ["self", "wire"] ["self", "wire"] (defScope (dM 8)) := ⟨rfl, rfl, rfl, by decide +kernel, rfl, by decide +kernel, by decide +kernel⟩
theorem okSrcs {f : Addr} {fd : FuncData} (F : MthT K C "sources" "Circuit.sources" (dM 8) ["self", "wire"] f fd) (T : Txt K mg) (CT : CirT K mg C) : FnOk P w K mg base CX0 3 f fd ["self", "wire"] (spSrcs K C) := by
  obtain ⟨fI, gI, FI⟩ := T.cWire
  have GI : FnOk P w K mg base CX0 2 fI gI ["circuit", "wire"] (spCWire K C) := okCWire FI T CT
  refine F.fn.ok scM8 (fun vs H Q E h => ?_) (fun cdv A outer s H vs Q E hr h => ?_)
  · obtain ⟨p, z, k, c, rfl, _⟩ := h
    rfl
  · obtain ⟨p, z, zs, c, rfl, hc, good, hz, kk⟩ := h
    have hu := hu_of hr
    have nds' : (ks (srcsL c)).Nodup := by rw [ks_srcs]; exact good.nd
    refine ⟨_, pss_cons (ps_expr (pe_call GI hr (by rfl) FI.gl FI.fn.kp FI.bi .nil pass0 (pa_cons (pv 0) (pa_cons (pv 1) pa_nil)))) (pss_one (ps_ret (pe_callTy call_list_of (by rfl) T.list (by decide +kernel) (pa_cons (pe_dget hu (pe_fld (pv 0) rfl) (pv 1) (fun _ _ => rfl)) pa_nil)))), ?_⟩
    refine ⟨_, rfl, _, rfl, p, z, c, rfl, hc, by rw [← ks_srcs]; exact List.mem_map.mpr ⟨_, hz, rfl⟩, ?_⟩
    obtain ⟨dx, a1, a2, a3, a4, D5, D6, L7, sg, sr, seq, h1, h2, _, _, h9, ⟨kvs, ps, hD, hk⟩, h11, h12, h13⟩ := hc
    obtain ⟨t, ht, hst⟩ := hk.hit nds' hz
    have q := DGet.k (k := Sum.inr z) hD
    rw [ht] at q
    exact ⟨_, rfl, p, C, dx, _, _, rfl, h1, CT.cl, CT.n_sources, (flds_in a1 a2 a3 a4 D5 D6 L7).2.2.2.2.1, _, rfl, D5, _, rfl, q, t, _, rfl, .inr hst, fun l nl => kk l _ (Ex.new nl) nl upd_same⟩
/-- all wires, sorted -/
def newWs : Cir → VK → Hp → Prop := fun c Q H => ∀ zs, zs.Perm (names c) → sortedS zs = true → ∀ l H', Ex H H' → H l = none → H' l = some (.lst (zs.map V.str)) → Q (.ref l) H'
theorem scM5 : FnScope ["self"] ["self"] (defScope (dM 5)) := ⟨rfl, rfl, rfl, by decide +kernel, rfl, by decide +kernel, by decide +kernel⟩
theorem names_few {c : Cir} (g : Good c) : (names c).length ≤ 56 := by
  have := g.li
  have := g.lg
  have := g.lr
  simp only [names, gn, rn, List.length_append, List.length_map]
  omega
theorem okWires {f : Addr} {fd : FuncData} (F : MthT K C "wires" "Circuit.wires" (dM 5) ["self"] f fd) (T : Txt K mg) (CT : CirT K mg C) : FnOk P w K mg base CX0 1 f fd ["self"] (spM (α := Nat) K C newWs) := by
  refine F.fn.ok scM5 (fun vs H Q E h => ?_) (fun cdv A outer s H vs Q E hr h => ?_)
  · obtain ⟨p, c, rfl, _⟩ := h
    rfl
  · obtain ⟨p, c, rfl, hc, good, k⟩ := h
    refine ⟨_, pss_one (ps_ret (pe_callB (call_sortedD rfl) (by rfl) T.sorted (by decide +kernel) (pa_cons (pe_fld (pv 0) rfl) pa_nil))), ?_⟩
    obtain ⟨dx, a1, a2, a3, a4, D5, D6, L7, sg, sr, seq, h1, h2, _, _, h9, h10, h11, h12, h13⟩ := hc
    refine ⟨_, rfl, p, C, dx, _, _, rfl, h1, CT.cl, CT.n_kinds, (flds_in a1 a2 a3 a4 D5 D6 L7).2.2.2.2.2.1, D6, _, names c, rfl, .inl h11, ?_, ?_, fun ys l pm so nl => k ys pm so l _ (Ex.new nl) nl upd_same⟩
    · rw [← fst_kinds]
      unfold kvSt
      rw [List.map_map, List.map_map]
      rfl
    · have := names_few good
      omega
/-- the gates, each behind its sources -/
def newSeq : Cir → VK → Hp → Prop := fun c Q H => ∀ seq, Topo (bet' c.gates) seq → ∀ l H', Ex H H' → H l = none → H' l = some (.lst (seq.map V.str)) → Q (.ref l) H'
theorem scM11 : FnScope ["self"] ["self"] (defScope (dM 11)) := ⟨rfl, rfl, rfl, by decide +kernel, rfl, by decide +kernel, by decide +kernel⟩
theorem okSequence {f : Addr} {fd : FuncData} (F : MthT K C "sequence" "Circuit.sequence" (dM 11) ["self"] f fd) (T : Txt K mg) (CT : CirT K mg C) : FnOk P w K mg base CX0 1 f fd ["self"] (spM (α := Nat) K C newSeq) := by
  refine F.fn.ok scM11 (fun vs H Q E h => ?_) (fun cdv A outer s H vs Q E hr h => ?_)
  · obtain ⟨p, c, rfl, _⟩ := h
    rfl
  · obtain ⟨p, c, rfl, hc, _, k⟩ := h
    refine ⟨_, pss_one (ps_ret (pe_callTy call_list_of (by rfl) T.list (by decide +kernel) (pa_cons (pe_fld (pv 0) rfl) pa_nil))), ?_⟩
    obtain ⟨dx, a1, a2, a3, a4, D5, D6, L7, sg, sr, seq, h1, h2, _, _, h9, h10, h11, h12, h13⟩ := hc
    exact ⟨_, rfl, p, C, dx, _, _, rfl, h1, CT.cl, CT.n_sequence, (flds_in a1 a2 a3 a4 D5 D6 L7).2.2.2.2.2.2, L7, _, rfl, .inl (SqL.of h12), fun l nl => k seq h13 l _ (Ex.new nl) nl upd_same⟩
/-! ### == -/
theorem strOk_name {z : Str} (h : nameOk z) : PyData.strOk z = true := by
  unfold PyData.strOk
  rw [← Array.all_toList, List.all_eq_true]
  intro x hx
  unfold nameOk nameL at h
  cases q : z.cps.toList with
  | nil => rw [q] at hx; cases hx
  | cons a r =>
    rw [q] at h hx
    simp only [Bool.and_eq_true, List.all_eq_true, Bool.or_eq_true] at h
    have h3 := h.2 x hx
    have low : ∀ y ∈ smalls, y < 0x110000 := by decide
    have low2 : ∀ y ∈ digs, y < 0x110000 := by decide
    rcases h3 with h3 | h3
    · exact decide_eq_true (low x (by simpa using h3))
    · exact decide_eq_true (low2 x (by simpa using h3))
theorem kind_ok {z : Str} {n : Nat} (h : kindsL.lookup z = some n) : PyData.strOk z = true := by
  unfold kindsL at h
  simp only [List.lookup] at h
  repeat' split at h
  all_goals first | (next e => have := eq_of_beq e; subst this; decide +kernel) | cases h
theorem lay_txts : ∀ {zs : List Str}, (∀ z ∈ zs, PyData.strOk z = true) → PyData.canLayAll0 (txtD zs) = true
  | [], _ => rfl
  | z :: zs, h => by
    have a := lay_txts (zs := zs) fun y hy => h y (List.mem_cons_of_mem _ hy)
    have b := h z List.mem_cons_self
    unfold txtD at a ⊢
    simp [PyData.canLayAll0, PyData.canLay0, a, b]
theorem lay_all {α : Type} {f : α → PyData} : ∀ {l : List α}, (∀ a ∈ l, (f a).canLay0 = true) → PyData.canLayAll0 (l.map f) = true
  | [], _ => rfl
  | a :: l, h => by
    have x := lay_all (l := l) fun y hy => h y (List.mem_cons_of_mem _ hy)
    have y := h a List.mem_cons_self
    simp [PyData.canLayAll0, x, y]
theorem deep_all {α : Type} {f : α → PyData} {n : Nat} : ∀ {l : List α}, (∀ a ∈ l, (f a).depth ≤ n) → PyData.depthAll (l.map f) ≤ n
  | [], _ => Nat.zero_le _
  | a :: l, h => by
    have x := deep_all (l := l) fun y hy => h y (List.mem_cons_of_mem _ hy)
    have y := h a List.mem_cons_self
    simp only [List.map_cons, PyData.depthAll]
    omega
theorem shaped_txts {zs : List Str} (h : ∀ z ∈ zs, nameOk z) : SeqAt.shaped (.tuple (txtD zs)) = true := by
  unfold SeqAt.shaped
  rw [Bool.and_eq_true]
  refine ⟨?_, decide_eq_true ?_⟩
  · simpa [PyData.canLay0] using lay_txts fun z hz => strOk_name (h z hz)
  · simp only [PyData.depth, deep_txts]
    omega
theorem shaped_gates {gs : List Gt} (h : ∀ g ∈ gs, gateOk g) : SeqAt.shaped (.tuple (gs.map gateU)) = true := by
  unfold SeqAt.shaped
  rw [Bool.and_eq_true]
  refine ⟨?_, decide_eq_true ?_⟩
  · have q := lay_all (f := gateU) (l := gs) fun g hg => by
      have a := strOk_name (h g hg).1
      have b := kind_ok (h g hg).2.1
      have c := lay_txts fun z hz => strOk_name ((h g hg).2.2 z hz)
      simp [gateU, PyData.canLay0, PyData.canLayAll0, a, b, c]
    simpa [PyData.canLay0] using q
  · have q := deep_all (f := gateU) (n := 2) (l := gs) fun g hg => by
      simp [gateU, PyData.depth, PyData.depthAll, deep_txts]
    simp only [PyData.depth]
    omega
theorem shaped_regs {rs : List Rg} (h : ∀ r ∈ rs, regOk r) : SeqAt.shaped (.tuple (rs.map regD)) = true := by
  unfold SeqAt.shaped
  rw [Bool.and_eq_true]
  refine ⟨?_, decide_eq_true ?_⟩
  · have q := lay_all (f := regD) (l := rs) fun r hr => by
      have a := strOk_name (h r hr).1
      have c := strOk_name (h r hr).2.2
      simp [regD, PyData.canLay0, PyData.canLayAll0, a, c]
    simpa [PyData.canLay0] using q
  · have q := deep_all (f := regD) (n := 2) (l := rs) fun g hg => by
      simp [regD, PyData.depth, PyData.depthAll]
    simp only [PyData.depth]
    omega
/-- two circuits of the same -/
def Same (c e : Cir) : Prop := c.ins = e.ins ∧ c.gates.Perm e.gates ∧ c.regs.Perm e.regs ∧ c.outs = e.outs
def rSame (K : PySem.W.Frag) (C : Addr) : Addr → Addr → Hp → Prop := fun a b H => ∃ c e : Cir, CirAt K C H a c ∧ CirAt K C H b e ∧ Good c ∧ Good e ∧ Same c e
theorem scM14 : FnScope ["self", "other"] ["self", "other"] (defScope (dM 14)) := ⟨rfl, rfl, rfl, by decide +kernel, rfl, by decide +kernel, by decide +kernel⟩
theorem okEqM {f : Addr} {fd : FuncData} (F : MthT K C "__eq__" "Circuit.__eq__" (dM 14) ["self", "other"] f fd) (T : Txt K mg) (CT : CirT K mg C) : FnOk P w K mg base CX0 1 f fd ["self", "other"] (spEq (rSame K C)) := by
  refine F.fn.ok scM14 (fun vs H Q E h => ?_) (fun cdv A outer s H vs Q E hr h => ?_)
  · obtain ⟨a, b, rfl, _⟩ := h
    rfl
  · obtain ⟨a, b, rfl, ⟨c, e, hc, he, gc, ge, s1, s2, s3, s4⟩, k⟩ := h
    refine ⟨_, pss_one (ps_ret (pe_and (pe_callB call_isi (by rfl) T.isinstance (by decide +kernel) (pa_cons (pv 1) (pa_cons (pe_glob (v := .ref C) (by rfl) CT.gl rfl) pa_nil)))
      (pe_and (pe_cmpR (op_eqD hr.units) (pe_fld (pv 0) rfl) (pe_fld (pv 1) rfl) (nomark _)) (pe_and (pe_cmpR (op_eqD hr.units) (pe_fld (pv 0) rfl) (pe_fld (pv 1) rfl) (nomark _)) (pe_and (pe_cmpR (op_eqD hr.units) (pe_fld (pv 0) rfl) (pe_fld (pv 1) rfl) (nomark _))
      (pe_one (pe_cmpR (op_eqD hr.units) (pe_fld (pv 0) rfl) (pe_fld (pv 1) rfl) (nomark _)))))))), ?_⟩
    obtain ⟨dx, a1, a2, a3, a4, D5, D6, L7, sg, sr, seq, h1, h2, ⟨h3, h4, h5⟩, ⟨h6, h7, h8⟩, h9, _, _, _, _⟩ := hc
    obtain ⟨dy, b1, b2, b3, b4, E5, E6, M7, tg, tr, teq, g1, g2, ⟨g3, g4, g5⟩, ⟨g6, g7, g8⟩, g9, _, _, _, _⟩ := he
    have eg : sg = tg := rising_eq h5 g5 (h4.trans (s2.trans g4.symm))
    have er : sr = tr := rising_eq h8 g8 (h7.trans (s3.trans g7.symm))
    subst eg er
    rw [← s1] at g2
    rw [← s4] at g9
    have f1 := flds_in a1 a2 a3 a4 D5 D6 L7
    have f2 := flds_in b1 b2 b3 b4 E5 E6 M7
    have w1 := shaped_txts gc.inm
    have w2 := shaped_gates (gs := sg) fun g hg => gc.gts g (h4.mem_iff.mp hg)
    have w3 := shaped_regs (rs := sr) fun r hr => gc.rgs r (h7.mem_iff.mp hr)
    have w4 : SeqAt.shaped (.tuple (txtD c.outs)) = true := shaped_txts fun z hz => by
      have q := gc.out z hz
      unfold names at q
      rcases List.mem_append.mp q with q | q
      · exact gc.inm z q
      · rcases List.mem_append.mp q with q | q
        · obtain ⟨g, hg, rfl⟩ := List.mem_map.mp q
          exact (gc.gts g hg).1
        · obtain ⟨g, hg, rfl⟩ := List.mem_map.mp q
          exact (gc.rgs g hg).1
    have rf : ∀ {d : PyData}, SeqAt.shaped d = true → PyData.eqv d d = true := fun z => SeqAt.eqv_refl _ (SeqAt.canLay_of_shaped z)
    refine ⟨_, rfl, .ref b, .ref C, .ref C, .ref C, true, rfl, .own C, .base (CT.ty H b dy _ g1), CT.isC, _, rfl, iteT ?_⟩
    refine ⟨_, rfl, a, C, dx, _, _, rfl, h1, CT.cl, CT.n_inputs, f1.1, _, rfl, b, C, dy, _, _, rfl, g1, CT.cl, CT.n_inputs, f2.1, _, _, h2, g2, w1, w1, _, rfl, ?_⟩
    rw [rf w1]
    refine iteT ⟨_, rfl, a, C, dx, _, _, rfl, h1, CT.cl, CT.n_gates, f1.2.1, _, rfl, b, C, dy, _, _, rfl, g1, CT.cl, CT.n_gates, f2.2.1, _, _, h3, g3, w2, w2, _, rfl, ?_⟩
    rw [rf w2]
    refine iteT ⟨_, rfl, a, C, dx, _, _, rfl, h1, CT.cl, CT.n_registers, f1.2.2.1, _, rfl, b, C, dy, _, _, rfl, g1, CT.cl, CT.n_registers, f2.2.2.1, _, _, h6, g6, w3, w3, _, rfl, ?_⟩
    rw [rf w3]
    refine iteT ⟨_, rfl, a, C, dx, _, _, rfl, h1, CT.cl, CT.n_outputs, f1.2.2.2.1, _, rfl, b, C, dy, _, _, rfl, g1, CT.cl, CT.n_outputs, f2.2.2.2.1, _, _, h9, g9, w4, w4, ?_⟩
    rw [rf w4]
    exact k H (fun _ _ z => z)
end
end W

set_option Elab.async false
set_option linter.all false
set_option maxRecDepth 100000
set_option maxHeartbeats 8000000
namespace W
open PySem PySem.Spec PyProof.Rows L2 Evl G C
def bitsD (bs : List Int) : PyData := .tuple (bs.map .int)
def BitsOk (n : Nat) (bs : List Int) : Prop := bs.length = n ∧ ∀ b ∈ bs, b = 0 ∨ b = 1
theorem isLetter_ok {n : Nat} {bs : List Int} (h : BitsOk n bs) : isLetter (bitsD bs) n = true := by
  show (decide ((bs.map PyData.int).length = n) && (bs.map PyData.int).all isBit) = true
  rw [List.length_map, decide_eq_true h.1, Bool.true_and, List.all_eq_true]
  intro d hd
  obtain ⟨b, hb, rfl⟩ := List.mem_map.mp hd
  exact isBit_of (h.2 b hb)
def wordL (ws : List (List Int)) : PyData := .list (ws.map bitsD)
def wordT (ws : List (List Int)) : PyData := .tuple (ws.map bitsD)
theorem isWord_ok {n : Nat} {ws : List (List Int)} (h : ∀ w ∈ ws, BitsOk n w) : (ws.map bitsD).all (fun d => isLetter d n) = true := by
  rw [List.all_eq_true]
  intro d hd
  obtain ⟨b, hb, rfl⟩ := List.mem_map.mp hd
  exact isLetter_ok (h b hb)
/-- a fault, or none -/
abbrev Flt := Option (Str × Int)
def fltD : Flt → PyData
  | none => .none
  | some f => .tuple [.str f.1, .int f.2]
def FltOk (c : Cir) (f : Flt) : Prop := ∀ q, f = some q → q.1 ∈ names c ∧ (q.2 = 0 ∨ q.2 = 1)
section
variable {P : Program} {w : World} {K : PySem.W.Frag} {mg : Str → Option Value} {base : Heap} {C : Addr}
theorem bits_of {H : Hp} {x : V} {bs : List Int} (h : Dp K H x (bitsD bs)) : ∃ t, x = .ref t ∧ SqT K H t (bs.map V.int) := by
  cases h with
  | @tup a xs _ hs ha =>
    rw [ints_back ha] at hs
    exact ⟨a, rfl, hs⟩
theorem dp_ints {H : Hp} : ∀ {bs : List Int}, DpAll K H (bs.map V.int) (bs.map PyData.int)
  | [] => .nil
  | _ :: _ => .cons (.int _) dp_ints
theorem dp_bits {H : Hp} {t : Addr} {bs : List Int} (h : SqT K H t (bs.map V.int)) : Dp K H (.ref t) (bitsD bs) := .tup h dp_ints
theorem flt_of {H : Hp} {x : V} {z : Str} {b : Int} (h : Dp K H x (fltD (some (z, b)))) : ∃ t, x = .ref t ∧ SqT K H t [.str z, .int b] := by
  cases h with
  | @tup a xs _ hs ha =>
    cases ha with
    | cons a1 r1 =>
      cases r1 with
      | cons a2 r2 =>
        cases r2
        cases a1
        cases a2
        exact ⟨a, rfl, hs⟩
def spBits (K : PySem.W.Frag) (C : Addr) (n : Cir → Nat) : Sp := fun vs H Q _ => ∃ (p : Addr) (x : V) (c : Cir) (bs : List Int), vs = [.ref p, x] ∧ CirAt K C H p c ∧ Good c ∧ Dp K H x (bitsD bs) ∧ BitsOk (n c) bs ∧ ∀ H', Ex H H' → Q .non H'
theorem scCState : FnScope ["circuit", "state"] ["circuit", "state"] (defScope dCState) := ⟨rfl, rfl, rfl, by decide +kernel, rfl, by decide +kernel, by decide +kernel⟩
theorem srOf (c : Cir) (g : Good c) : True := trivial
theorem okCState {f : Addr} {fd : FuncData} (F : At K mg "check_state" dCState ["circuit", "state"] f fd) (T : Txt K mg) (CT : CirT K mg C) : FnOk P w K mg base CX0 4 f fd ["circuit", "state"] (spBits K C (fun c => c.regs.length)) := by
  obtain ⟨fF, gF, FF⟩ := CT.first
  obtain ⟨fL, gL, FL⟩ := T.letter
  have GF : FnOk P w K mg base CX0 3 fF gF ["self"] (spM (α := Nat) K C (newFst K)) := (okFirst FF T CT).mono (by decide)
  have GL : FnOk P w K mg base CX0 3 fL gL ["value", "width"] (spW K isLetter) := okLetter FL T
  refine F.fn.ok scCState (fun vs H Q E h => ?_) (fun cdv A outer s H vs Q E hr h => ?_)
  · obtain ⟨p, x, c, bs, rfl, _⟩ := h
    rfl
  · obtain ⟨p, x, c, bs, rfl, hc, good, hx, ok, k⟩ := h
    refine ⟨_, pss_one (ps_if (pt_not (pt_val (pe_call GL hr (by rfl) FL.gl FL.fn.kp FL.bi .nil pass0 (pa_cons (pv 1) (pa_cons (pe_callB call_len_seq (by rfl) T.len PySem.boot_len (pa_cons (pe_meth0 (pv 0) CT.cl FF.me GF hr FF.bi .nil pass0) pa_nil)) pa_nil))))) (pss_one ps_never) pss_nil), ?_⟩
    obtain ⟨dx, a1, a2, a3, a4, D5, D6, L7, sg, sr, seq, h1, _, _, ⟨_, h7, h8⟩, _⟩ := id hc
    refine ⟨_, rfl, _, rfl, p, dx, _, rfl, h1, rfl, p, c, rfl, hc, good, fun sr' hs' t H1 e1 nt ht => ?_⟩
    refine ⟨t, _, rfl, .inr (st_of ht), x, bitsD bs, c.regs.length, ?_, .dp (dp_ex e1 hx), by have := good.lr; omega, fun H2 e2 => ⟨_, rfl, ?_⟩⟩
    · simp [firstOf, hs'.1.length_eq]
    · rw [isLetter_ok ok]
      exact iteF (k H2 (e1.trans e2))
def spWord (K : PySem.W.Frag) (C : Addr) : Sp := fun vs H Q _ => ∃ (p : Addr) (x : V) (c : Cir) (ws : List (List Int)), vs = [.ref p, x] ∧ CirAt K C H p c ∧ Good c ∧ (Dp K H x (wordL ws) ∨ Dp K H x (wordT ws)) ∧ (∀ w ∈ ws, BitsOk c.ins.length w) ∧ ws.length ≤ 500 ∧ ∀ H', Ex H H' → Q .non H'
theorem scCWord : FnScope ["circuit", "word"] ["circuit", "word"] (defScope dCWord) := ⟨rfl, rfl, rfl, by decide +kernel, rfl, by decide +kernel, by decide +kernel⟩
theorem okCWord {f : Addr} {fd : FuncData} (F : At K mg "check_word" dCWord ["circuit", "word"] f fd) (T : Txt K mg) (CT : CirT K mg C) : FnOk P w K mg base CX0 5 f fd ["circuit", "word"] (spWord K C) := by
  obtain ⟨fF, gF, FF⟩ := CT.inputs
  obtain ⟨fL, gL, FL⟩ := T.word
  have GF : FnOk P w K mg base CX0 4 fF gF ["self"] (spM (α := Nat) K C (newTx Cir.ins)) := (okInputs FF T CT).mono (by decide)
  have GL : FnOk P w K mg base CX0 4 fL gL ["value", "width"] (spWs K isWord) := okWord FL T
  refine F.fn.ok scCWord (fun vs H Q E h => ?_) (fun cdv A outer s H vs Q E hr h => ?_)
  · obtain ⟨p, x, c, bs, rfl, _⟩ := h
    rfl
  · obtain ⟨p, x, c, ws, rfl, hc, good, hx, ok, lw, k⟩ := h
    refine ⟨_, pss_one (ps_if (pt_not (pt_val (pe_call GL hr (by rfl) FL.gl FL.fn.kp FL.bi .nil pass0 (pa_cons (pv 1) (pa_cons (pe_callB call_len_seq (by rfl) T.len PySem.boot_len (pa_cons (pe_meth0 (pv 0) CT.cl FF.me GF hr FF.bi .nil pass0) pa_nil)) pa_nil))))) (pss_one ps_never) pss_nil), ?_⟩
    obtain ⟨dx, a1, a2, a3, a4, D5, D6, L7, sg, sr, seq, h1, _⟩ := id hc
    refine ⟨_, rfl, _, rfl, p, dx, _, rfl, h1, rfl, p, c, rfl, hc, good, fun l H1 e1 nl hl => ?_⟩
    have sz : ∀ d, (d = wordL ws ∨ d = wordT ws) → szD d ≤ 1000 ∧ isWord d c.ins.length = true := by
      rintro d (rfl | rfl)
      · exact ⟨by show (ws.map bitsD).length ≤ 1000; rw [List.length_map]; omega, isWord_ok ok⟩
      · exact ⟨by show (ws.map bitsD).length ≤ 1000; rw [List.length_map]; omega, isWord_ok ok⟩
    obtain ⟨d, hd, hd2⟩ : ∃ d, (d = wordL ws ∨ d = wordT ws) ∧ Dp K H x d := hx.elim (fun z => ⟨_, .inl rfl, z⟩) fun z => ⟨_, .inr rfl, z⟩
    obtain ⟨q1, q2⟩ := sz d hd
    refine ⟨l, _, rfl, .inl (SqL.of hl), x, d, c.ins.length, by simp, .dp (dp_ex e1 hd2), by have := good.li; omega, q1, fun H2 e2 => ⟨_, rfl, ?_⟩⟩
    rw [q2]
    exact iteF (k H2 (e1.trans e2))
def spFault (K : PySem.W.Frag) (C : Addr) : Sp := fun vs H Q _ => ∃ (p : Addr) (x : V) (c : Cir) (q : Str × Int), vs = [.ref p, x] ∧ CirAt K C H p c ∧ Dp K H x (fltD (some q)) ∧ FltOk c (some q) ∧ ∀ H', Ex H H' → Q (.bl true) H'
theorem scIsFault : FnScope ["circuit", "value"] ["circuit", "value"] (defScope dIsFault) := ⟨rfl, rfl, rfl, by decide +kernel, rfl, by decide +kernel, by decide +kernel⟩
theorem okIsFault {f : Addr} {fd : FuncData} (F : At K mg "is_fault" dIsFault ["circuit", "value"] f fd) (T : Txt K mg) (CT : CirT K mg C) : FnOk P w K mg base CX0 3 f fd ["circuit", "value"] (spFault K C) := by
  obtain ⟨fI, gI, FI⟩ := CT.cont
  obtain ⟨fB, gB, FB⟩ := T.bit
  have GI : FnOk P w K mg base CX0 2 fI gI ["self", "value"] (spCont K C) := (okCont FI T CT).mono (by decide)
  have GB : FnOk P w K mg base CX0 2 fB gB ["value"] (spT K isBit) := okBit FB T
  refine F.fn.ok scIsFault (fun vs H Q E h => ?_) (fun cdv A outer s H vs Q E hr h => ?_)
  · obtain ⟨p, x, c, q, rfl, _⟩ := h
    rfl
  · obtain ⟨p, x, c, ⟨z, b⟩, rfl, hc, hx, ok, k⟩ := h
    refine ⟨_, pss_cons (ps_if (PW.pt (pw_or (pt_not (pt_val (pe_callB call_isi (by rfl) T.isinstance (by decide +kernel) (pa_cons (pv 1) (pa_cons (pTy "tuple" (by rfl) T.tuple (by decide +kernel)) pa_nil)))))
        (pw_or1 (pt_cmpR op_ne (pe_callB call_len_seq (by rfl) T.len PySem.boot_len (pa_cons (pv 1) pa_nil)) pe_int (nomark _))))) (pss_one (ps_ret pe_bl)) pss_nil)
      (pss_one (ps_ret (pe_and (pe_cmpR (op_inOwn GI hr FI.me.at_ FI.me.fn FI.bi pass0) (pe_ix ix_tup (pv 1) pe_int (fun _ _ => rfl)) (pv 0) (by rfl)) (pe_one (pe_call GB hr (by rfl) FB.gl FB.fn.kp FB.bi .nil pass0 (pa_cons (pe_ix ix_tup (pv 1) pe_int (fun _ _ => rfl)) pa_nil)))))), ?_⟩
    obtain ⟨o1, o2⟩ := ok _ rfl
    obtain ⟨t, rfl, ht⟩ := flt_of hx
    obtain ⟨dx, a1, a2, a3, a4, D5, D6, L7, sg, sr, seq, h1, _⟩ := id hc
    refine rd_isi (K := K) (i := 1) (T := "tuple") rfl (.dp hx) (kit_T (fltD (some (z, b)))) ⟨_, rfl, ?_⟩
    refine iteF ?_
    refine ⟨_, rfl, t, _, rfl, .inr ht, rfl, _, rfl, ?_⟩
    refine iteF ?_
    refine ⟨_, rfl, t, _, 0, .str z, rfl, rfl, ht, rfl, _, rfl, p, dx, _, rfl, h1, p, z, c, rfl, hc, _, rfl, _, rfl, ?_⟩
    rw [show nIn c z = true from decide_eq_true o1]
    refine iteT ⟨_, rfl, t, _, 1, .int b, rfl, rfl, ht, rfl, .int b, .int b, rfl, .dp (.int b), fun H' e => ?_⟩
    rw [isBit_of o2]
    exact k H' e
def spStuck (K : PySem.W.Frag) (C : Addr) : Sp := fun vs H Q _ => ∃ (p : Addr) (x : V) (c : Cir) (f : Flt), vs = [.ref p, x] ∧ CirAt K C H p c ∧ Dp K H x (fltD f) ∧ FltOk c f ∧ ∀ H', Ex H H' → Q .non H'
theorem scCStuck : FnScope ["circuit", "stuck"] ["circuit", "stuck"] (defScope dCStuck) := ⟨rfl, rfl, rfl, by decide +kernel, rfl, by decide +kernel, by decide +kernel⟩
theorem okCStuck {f : Addr} {fd : FuncData} (F : At K mg "check_stuck" dCStuck ["circuit", "stuck"] f fd) (T : Txt K mg) (CT : CirT K mg C) : FnOk P w K mg base CX0 4 f fd ["circuit", "stuck"] (spStuck K C) := by
  obtain ⟨fI, gI, FI⟩ := T.isFault
  have GI : FnOk P w K mg base CX0 3 fI gI ["circuit", "value"] (spFault K C) := okIsFault FI T CT
  refine F.fn.ok scCStuck (fun vs H Q E h => ?_) (fun cdv A outer s H vs Q E hr h => ?_)
  · obtain ⟨p, x, c, q, rfl, _⟩ := h
    rfl
  · obtain ⟨p, x, c, fl, rfl, hc, hx, ok, k⟩ := h
    refine ⟨_, pss_one (ps_if (PW.pt (pw_and (pt_cmp (pc_notN (pv 1))) (pw_and1 (pt_not (pt_val (pe_call GI hr (by rfl) FI.gl FI.fn.kp FI.bi .nil pass0 (pa_cons (pv 0) (pa_cons (pv 1) pa_nil)))))))) (pss_one ps_never) pss_nil), ?_⟩
    cases fl with
    | none =>
      cases hx
      exact ⟨_, rfl, _, rfl, iteF (iteF (k H (Ex.refl H)))⟩
    | some q =>
      obtain ⟨z, b⟩ := q
      obtain ⟨t, rfl, ht⟩ := flt_of hx
      exact ⟨_, rfl, _, rfl, iteT ⟨_, rfl, _, rfl, p, .ref t, c, (z, b), rfl, hc, hx, ok, fun H' e => ⟨_, rfl, iteF (k H' e)⟩⟩⟩
/-- a state, or none -/
def stD : Option (List Int) → PyData
  | none => .none
  | some bs => bitsD bs
def spCourse (K : PySem.W.Frag) (C : Addr) : Sp := fun vs H Q _ => ∃ (p : Addr) (x y z : V) (c : Cir) (ws : List (List Int)) (st : Option (List Int)) (f : Flt), vs = [.ref p, x, y, z] ∧ CirAt K C H p c ∧ Good c ∧ (Dp K H x (wordL ws) ∨ Dp K H x (wordT ws)) ∧ (∀ w ∈ ws, BitsOk c.ins.length w) ∧ ws.length ≤ 500 ∧
  Dp K H y (stD st) ∧ (∀ bs, st = some bs → BitsOk c.regs.length bs) ∧ Dp K H z (fltD f) ∧ FltOk c f ∧ ∀ H', Ex H H' → Q .non H'
theorem scCCourse : FnScope ["circuit", "word", "state", "stuck"] ["circuit", "word", "state", "stuck"] (defScope dCCourse) := ⟨rfl, rfl, rfl, by decide +kernel, rfl, by decide +kernel, by decide +kernel⟩
theorem okCCourse {f : Addr} {fd : FuncData} (F : At K mg "check_course" dCCourse ["circuit", "word", "state", "stuck"] f fd) (T : Txt K mg) (CT : CirT K mg C) : FnOk P w K mg base CX0 6 f fd ["circuit", "word", "state", "stuck"] (spCourse K C) := by
  obtain ⟨f1, g1, F1⟩ := T.cWord
  obtain ⟨f2, g2, F2⟩ := T.cState
  obtain ⟨f3, g3, F3⟩ := T.cStuck
  have G1 : FnOk P w K mg base CX0 5 f1 g1 ["circuit", "word"] (spWord K C) := okCWord F1 T CT
  have G2 : FnOk P w K mg base CX0 5 f2 g2 ["circuit", "state"] (spBits K C (fun c => c.regs.length)) := (okCState F2 T CT).mono (by decide)
  have G3 : FnOk P w K mg base CX0 5 f3 g3 ["circuit", "stuck"] (spStuck K C) := (okCStuck F3 T CT).mono (by decide)
  refine F.fn.ok scCCourse (fun vs H Q E h => ?_) (fun cdv A outer s H vs Q E hr h => ?_)
  · obtain ⟨p, x, y, z, c, ws, st, fl, rfl, _⟩ := h
    rfl
  · obtain ⟨p, x, y, z, c, ws, st, fl, rfl, hc, good, hx, okw, lw, hy, oks, hz, okf, k⟩ := h
    refine ⟨_, pss_cons (ps_expr (pe_call G1 hr (by rfl) F1.gl F1.fn.kp F1.bi .nil pass0 (pa_cons (pv 0) (pa_cons (pv 1) pa_nil))))
      (pss_cons (ps_if (pt_cmp (pc_notN (pv 2))) (pss_one (ps_expr (pe_call G2 hr (by rfl) F2.gl F2.fn.kp F2.bi .nil pass0 (pa_cons (pv 0) (pa_cons (pv 2) pa_nil))))) pss_nil)
      (pss_one (ps_expr (pe_call G3 hr (by rfl) F3.gl F3.fn.kp F3.bi .nil pass0 (pa_cons (pv 0) (pa_cons (pv 3) pa_nil)))))), ?_⟩
    refine ⟨_, rfl, _, rfl, p, x, c, ws, rfl, hc, good, hx, okw, lw, fun H1 e1 => ?_⟩
    cases st with
    | none =>
      cases hy
      exact ⟨_, rfl, _, rfl, iteF ⟨_, rfl, _, rfl, p, z, c, fl, rfl, hc.ex e1, dp_ex e1 hz, okf, fun H2 e2 => k H2 (e1.trans e2)⟩⟩
    | some bs =>
      obtain ⟨t, rfl, ht⟩ := bits_of hy
      exact ⟨_, rfl, _, rfl, iteT ⟨_, rfl, _, rfl, p, .ref t, c, bs, rfl, hc.ex e1, good, dp_ex e1 hy, oks bs rfl, fun H2 e2 => ⟨_, rfl, _, rfl, p, z, c, fl, rfl, hc.ex (e1.trans e2), dp_ex (e1.trans e2) hz, okf, fun H3 e3 => k H3 ((e1.trans e2).trans e3)⟩⟩⟩
end
end W

set_option Elab.async false
set_option linter.all false
set_option maxRecDepth 100000
set_option maxHeartbeats 8000000
/-! What all wires say, by itself. -/
namespace W
open PySem PySem.Spec PyProof.Rows L2 Evl G C
abbrev isBt (b : Int) : Prop := b = 0 ∨ b = 1
def bitK (k : Str) (ys : List Int) : Int := (((madeL.lookup k).getD [])[(num ys).toNat]?).getD 0
theorem kinds_cases {k : Str} {n : Nat} (h : kindsL.lookup k = some n) : (k = "and" ∧ n = 2) ∨ (k = "high" ∧ n = 0) ∨ (k = "low" ∧ n = 0) ∨ (k = "not" ∧ n = 1) ∨ (k = "or" ∧ n = 2) ∨ (k = "pick" ∧ n = 3) ∨ (k = "xor" ∧ n = 2) := by
  unfold kindsL at h
  simp only [List.lookup] at h
  repeat' split at h
  all_goals first | cases h | skip
  all_goals (rename_i e; have e := eq_of_beq e; simp [e])
/-- the table has what a kind makes -/
structure Made (k : Str) (ys : List Int) (v : Int) : Prop where
  is : bitK k ys = v
  tab : ∃ bs, madeL.lookup k = some bs ∧ atI (bs.map V.int) (num ys) = some (.int v)
  bit : isBt v
theorem made_mk {k : Str} {ys : List Int} (h1 : (madeL.lookup k).isSome = true) (h2 : atI (((madeL.lookup k).getD []).map V.int) (num ys) = some (.int (bitK k ys))) (h3 : isBt (bitK k ys)) : Made k ys (bitK k ys) := by
  refine ⟨rfl, ?_, h3⟩
  obtain ⟨bs, e⟩ := Option.isSome_iff_exists.mp h1
  rw [e] at h2
  exact ⟨bs, e, h2⟩
theorem made_of {k : Str} {ys : List Int} (h : kindsL.lookup k = some ys.length) (hb : ∀ b ∈ ys, isBt b) : Made k ys (bitK k ys) := by
  have two : ∀ {ys : List Int}, ys.length = 2 → (∀ b ∈ ys, isBt b) → ∃ a b, ys = [a, b] ∧ isBt a ∧ isBt b := by
    intro ys h hb
    match ys, h with
    | [a, b], _ => exact ⟨a, b, rfl, hb a (by simp), hb b (by simp)⟩
  rcases kinds_cases h with ⟨rfl, e⟩ | ⟨rfl, e⟩ | ⟨rfl, e⟩ | ⟨rfl, e⟩ | ⟨rfl, e⟩ | ⟨rfl, e⟩ | ⟨rfl, e⟩
  · obtain ⟨a, b, rfl, ha, hc⟩ := two e hb
    rcases ha with rfl | rfl <;> rcases hc with rfl | rfl <;> exact made_mk (by decide +kernel) (by kernel_rfl) (by decide +kernel)
  · obtain rfl := List.length_eq_zero_iff.mp e
    exact made_mk (by decide +kernel) (by kernel_rfl) (by decide +kernel)
  · obtain rfl := List.length_eq_zero_iff.mp e
    exact made_mk (by decide +kernel) (by kernel_rfl) (by decide +kernel)
  · obtain ⟨a, rfl⟩ := List.length_eq_one_iff.mp e
    rcases hb a (by simp) with rfl | rfl <;> exact made_mk (by decide +kernel) (by kernel_rfl) (by decide +kernel)
  · obtain ⟨a, b, rfl, ha, hc⟩ := two e hb
    rcases ha with rfl | rfl <;> rcases hc with rfl | rfl <;> exact made_mk (by decide +kernel) (by kernel_rfl) (by decide +kernel)
  · match ys, e with
    | [a, b, c], _ =>
      rcases hb a (by simp) with rfl | rfl <;> rcases hb b (by simp) with rfl | rfl <;> rcases hb c (by simp) with rfl | rfl <;> exact made_mk (by decide +kernel) (by kernel_rfl) (by decide +kernel)
  · obtain ⟨a, b, rfl, ha, hc⟩ := two e hb
    rcases ha with rfl | rfl <;> rcases hc with rfl | rfl <;> exact made_mk (by decide +kernel) (by kernel_rfl) (by decide +kernel)
/-- what is said of itself: by a letter and a state -/
def base0 (c : Cir) (sr : List Rg) (st le : List Int) : List (Str × Int) := c.ins.zip le ++ (sr.map fun r => r.1).zip st
def Free (fl : Flt) (z : Str) : Prop := ∀ q, fl = some q → q.1 ≠ z
structure Says (c : Cir) (sr : List Rg) (st le : List Int) (fl : Flt) (f : Str → Int) : Prop where
  held : ∀ q, fl = some q → f q.1 = q.2
  base : ∀ q ∈ base0 c sr st le, Free fl q.1 → f q.1 = q.2
  gate : ∀ g ∈ c.gates, Free fl g.1 → f g.1 = bitK g.2.1 (g.2.2.map f)
theorem free_or (fl : Flt) (z : Str) : Free fl z ∨ ∃ q, fl = some q ∧ q.1 = z := by
  cases fl with
  | none => exact .inl fun q h => by cases h
  | some q =>
    by_cases e : q.1 = z
    · exact .inr ⟨q, rfl, e⟩
    · exact .inl fun q' h => by cases h; exact e
theorem zip_keys {α β : Type} : ∀ {xs : List α} {ys : List β}, xs.length = ys.length → (xs.zip ys).map Prod.fst = xs
  | [], [], _ => rfl
  | x :: xs, y :: ys, h => by
    rw [List.zip_cons_cons, List.map_cons, zip_keys (Nat.succ.inj h)]
theorem base_keys {c : Cir} {sr : List Rg} {st le : List Int} (hl : le.length = c.ins.length) (hs : st.length = sr.length) : (base0 c sr st le).map Prod.fst = c.ins ++ sr.map fun r => r.1 := by
  unfold base0
  rw [List.map_append, zip_keys hl.symm, zip_keys (by rw [List.length_map, hs])]
theorem base_mem {c : Cir} {sr : List Rg} {st le : List Int} (hr : RgOf c sr) (hl : le.length = c.ins.length) (hs : st.length = c.regs.length) {z : Str} (h : z ∈ c.ins ∨ z ∈ rn c) : ∃ b, (z, b) ∈ base0 c sr st le := by
  have q : z ∈ (base0 c sr st le).map Prod.fst := by
    rw [base_keys hl (by rw [hs, hr.1.length_eq])]
    rcases h with h | h
    · exact List.mem_append_left _ h
    · exact List.mem_append_right _ ((hr.1.map fun r => r.1).mem_iff.mpr h)
  obtain ⟨p, hp, rfl⟩ := List.mem_map.mp q
  exact ⟨p.2, hp⟩
theorem gate_at {c : Cir} {z : Str} (h : z ∈ gn c) : ∃ g ∈ c.gates, g.1 = z := by
  obtain ⟨g, hg, e⟩ := List.mem_map.mp h
  exact ⟨g, hg, e⟩
theorem in_bet {c : Cir} {y : Str} : y ∈ (bet' c.gates).map Prod.fst ↔ y ∈ gn c := by
  unfold bet' gn
  rw [List.map_map]
  rfl
theorem names_in {c : Cir} {z : Str} : z ∈ names c ↔ z ∈ c.ins ∨ z ∈ gn c ∨ z ∈ rn c := by
  unfold names
  rw [List.mem_append, List.mem_append]
theorem says_one {c : Cir} (good : Good c) {sr : List Rg} {st le : List Int} {fl : Flt} {f f' : Str → Int} (hr : RgOf c sr) (hl : le.length = c.ins.length) (hs : st.length = c.regs.length) (h : Says c sr st le fl f) (h' : Says c sr st le fl f') : ∀ z ∈ names c, f z = f' z := by
  obtain ⟨rk, hrk⟩ := good.rank
  have low : ∀ z, (z ∈ c.ins ∨ z ∈ rn c) → f z = f' z := by
    intro z hz
    rcases free_or fl z with fr | ⟨q, e, rfl⟩
    · obtain ⟨b, hb⟩ := base_mem (st := st) (le := le) hr hl hs hz
      rw [h.base _ hb fr, h'.base _ hb fr]
    · rw [h.held q e, h'.held q e]
  have high : ∀ n, ∀ g ∈ c.gates, rk g.1 ≤ n → f g.1 = f' g.1 := by
    intro n
    induction n using Nat.strongRecOn with
    | ind n ih =>
      intro g hg le
      rcases free_or fl g.1 with fr | ⟨q, e, e2⟩
      · rw [h.gate g hg fr, h'.gate g hg fr]
        congr 1
        refine List.map_congr_left fun y hy => ?_
        rcases names_in.mp (good.src g hg y hy) with a | a | a
        · exact low y (.inl a)
        · have lt := hrk (g.1, g.2.2) (List.mem_map.mpr ⟨g, hg, rfl⟩) y hy (in_bet.mpr a)
          obtain ⟨g', hg', rfl⟩ := gate_at a
          exact ih (rk g'.1) (by have : rk g'.1 < rk g.1 := lt; omega) g' hg' (Nat.le_refl _)
        · exact low y (.inr a)
      · rw [← e2, h.held q e, h'.held q e]
  intro z hz
  rcases names_in.mp hz with a | a | a
  · exact low z (.inl a)
  · obtain ⟨g, hg, rfl⟩ := gate_at a
    exact high _ g hg (Nat.le_refl _)
  · exact low z (.inr a)
/-- by fuel -/
def ev (c : Cir) (sr : List Rg) (st le : List Int) (fl : Flt) : Nat → Str → Int
  | 0, _ => 0
  | n + 1, z => match fl.filter fun q => q.1 == z with
    | some q => q.2
    | none => match (base0 c sr st le).lookup z with
      | some b => b
      | none => match c.gates.find? fun g => g.1 == z with
        | some g => bitK g.2.1 (g.2.2.map (ev c sr st le fl n))
        | none => 0
theorem lookup_in {l : List (Str × Int)} (nd : (l.map Prod.fst).Nodup) {q : Str × Int} (h : q ∈ l) : l.lookup q.1 = some q.2 := by
  induction l with
  | nil => cases h
  | cons a r ih =>
    rw [List.map_cons, List.nodup_cons] at nd
    rcases List.mem_cons.mp h with h | h
    · subst h
      exact List.lookup_cons_self
    · have : (q.1 == a.1) = false := by
        rw [beq_eq_false_iff_ne]
        exact fun e => nd.1 (List.mem_map.mpr ⟨q, h, e⟩)
      rw [List.lookup_cons, this]
      exact ih nd.2 h
theorem lookup_out {l : List (Str × Int)} {z : Str} (h : z ∉ l.map Prod.fst) : l.lookup z = none := by
  rw [List.lookup_eq_none_iff]
  exact fun p hp => by
    rw [bne_iff_ne]
    exact fun e => h (List.mem_map.mpr ⟨p, hp, e.symm⟩)
theorem find_gate {gs : List Gt} (nd : (gs.map fun g => g.1).Nodup) {g : Gt} (h : g ∈ gs) : gs.find? (fun x => x.1 == g.1) = some g := by
  induction gs with
  | nil => cases h
  | cons a r ih =>
    rw [List.map_cons, List.nodup_cons] at nd
    rcases List.mem_cons.mp h with h | h
    · subst h
      rw [List.find?_cons_of_pos]
      exact beq_self_eq_true _
    · rw [List.find?_cons_of_neg]
      · exact ih nd.2 h
      · intro e
        exact nd.1 (List.mem_map.mpr ⟨g, h, (eq_of_beq e).symm⟩)
theorem says_some {c : Cir} (good : Good c) {sr : List Rg} {st le : List Int} (fl : Flt) (hr : RgOf c sr) (hl : le.length = c.ins.length) (hs : st.length = c.regs.length) : ∃ f, Says c sr st le fl f := by
  obtain ⟨rk, hrk⟩ := good.rank
  have nd := good.nd
  unfold names at nd
  obtain ⟨n1, n2, n3⟩ := List.nodup_append.mp nd
  obtain ⟨n4, n5, n6⟩ := List.nodup_append.mp n2
  have bk := base_keys (c := c) (sr := sr) (st := st) (le := le) hl (by rw [hs, hr.1.length_eq])
  have pr : (sr.map fun r => r.1).Perm (rn c) := hr.1.map _
  have bnd : ((base0 c sr st le).map Prod.fst).Nodup := by
    rw [bk]
    refine List.nodup_append.mpr ⟨n1, pr.nodup_iff.mpr n5, fun a ha b hb => n3 a ha b (List.mem_append_right _ (pr.mem_iff.mp hb))⟩
  have gout : ∀ z ∈ gn c, (base0 c sr st le).lookup z = none := by
    intro z hz
    refine lookup_out ?_
    rw [bk]
    intro m
    rcases List.mem_append.mp m with m | m
    · exact n3 z m z (List.mem_append_left _ hz) rfl
    · exact n6 z hz z (pr.mem_iff.mp m) rfl
  let h : Str → Nat := fun z => if z ∈ gn c then rk z + 1 else 0
  let e := ev c sr st le fl
  have fixed : ∀ n m z, h z < n → h z < m → e n z = e m z := by
    intro n
    induction n with
    | zero => intro m z a; exact absurd a (Nat.not_lt_zero _)
    | succ n ih =>
      intro m z a b
      cases m with
      | zero => exact absurd b (Nat.not_lt_zero _)
      | succ m =>
        show ev c sr st le fl (n + 1) z = ev c sr st le fl (m + 1) z
        unfold ev
        split
        · rfl
        split
        · rfl
        split
        · next g hg =>
          have hm := List.mem_of_find?_eq_some hg
          have hz : g.1 = z := by have := List.find?_some hg; exact eq_of_beq this
          congr 1
          refine List.map_congr_left fun y hy => ?_
          have zin : z ∈ gn c := List.mem_map.mpr ⟨g, hm, hz⟩
          have hzv : h z = rk z + 1 := if_pos zin
          have lt : h y < h z := by
            rw [hzv]
            show (if y ∈ gn c then rk y + 1 else 0) < _
            split
            · next yi =>
              have : rk y < rk g.1 := hrk (g.1, g.2.2) (List.mem_map.mpr ⟨g, hm, rfl⟩) y hy (in_bet.mpr yi)
              rw [hz] at this
              omega
            · omega
          exact ih m y (by omega) (by omega)
        · rfl
  have top : ∃ N, ∀ z ∈ names c, h z < N := by
    have gen : ∀ l : List Str, ∃ N, ∀ z ∈ l, h z < N := by
      intro l
      induction l with
      | nil => exact ⟨0, fun z hz => by cases hz⟩
      | cons a r ih =>
        obtain ⟨N, hN⟩ := ih
        exact ⟨N + h a + 1, fun z hz => by
          rcases List.mem_cons.mp hz with rfl | hz
          · omega
          · have := hN z hz
            omega⟩
    exact gen _
  obtain ⟨N, hN⟩ := top
  have unf : ∀ n z, e (n + 1) z = match fl.filter (fun q => q.1 == z) with | some q => q.2 | none => match (base0 c sr st le).lookup z with | some b => b | none => match c.gates.find? fun g => g.1 == z with | some g => bitK g.2.1 (g.2.2.map (e n)) | none => 0 := fun n z => rfl
  have nofl : ∀ z, Free fl z → (fl.filter fun q => q.1 == z) = none := by
    intro z fr
    cases fl with
    | none => rfl
    | some q =>
      rw [Option.filter_some]
      rw [if_neg]
      intro q2
      exact fr q rfl (eq_of_beq q2)
  refine ⟨e (N + 1), ?_, ?_, ?_⟩
  · intro q hq
    rw [unf, hq, Option.filter_some, if_pos (beq_self_eq_true _)]
  · intro q hq fr
    rw [unf, nofl _ fr, lookup_in bnd hq]
  · intro g hg fr
    rw [unf, nofl _ fr, gout g.1 (List.mem_map.mpr ⟨g, hg, rfl⟩), find_gate n4 hg]
    show bitK g.2.1 (g.2.2.map (e N)) = _
    congr 1
    refine List.map_congr_left fun y hy => fixed _ _ y ?_ ?_
    · exact hN y (good.src g hg y hy)
    · have := hN y (good.src g hg y hy)
      omega
open Classical in
noncomputable def val (c : Cir) (sr : List Rg) (st le : List Int) (fl : Flt) : Str → Int := if h : ∃ f, Says c sr st le fl f then Classical.choose h else fun _ => 0
theorem val_says {c : Cir} (good : Good c) {sr : List Rg} {st le : List Int} (fl : Flt) (hr : RgOf c sr) (hl : le.length = c.ins.length) (hs : st.length = c.regs.length) : Says c sr st le fl (val c sr st le fl) := by
  have h := says_some good fl hr hl hs
  unfold val
  rw [dif_pos h]
  exact Classical.choose_spec h
theorem says_bit {c : Cir} (good : Good c) {sr : List Rg} {st le : List Int} {fl : Flt} {f : Str → Int} (hr : RgOf c sr) (hl : BitsOk c.ins.length le) (hs : BitsOk c.regs.length st) (hf : FltOk c fl) (h : Says c sr st le fl f) : ∀ z ∈ names c, isBt (f z) := by
  obtain ⟨rk, hrk⟩ := good.rank
  have low : ∀ z, (z ∈ c.ins ∨ z ∈ rn c) → isBt (f z) := by
    intro z hz
    rcases free_or fl z with fr | ⟨q, e, rfl⟩
    · obtain ⟨b, hb⟩ := base_mem (st := st) (le := le) hr hl.1 hs.1 hz
      rw [h.base _ hb fr]
      unfold base0 at hb
      rcases List.mem_append.mp hb with hb | hb
      · exact hl.2 b (List.of_mem_zip hb).2
      · exact hs.2 b (List.of_mem_zip hb).2
    · rw [h.held q e]
      exact (hf q e).2
  have high : ∀ n, ∀ g ∈ c.gates, rk g.1 ≤ n → isBt (f g.1) := by
    intro n
    induction n using Nat.strongRecOn with
    | ind n ih =>
      intro g hg le
      rcases free_or fl g.1 with fr | ⟨q, e, e2⟩
      · rw [h.gate g hg fr]
        refine (made_of (by rw [List.length_map]; exact (good.gts g hg).2.1) fun b hb => ?_).bit
        obtain ⟨y, hy, rfl⟩ := List.mem_map.mp hb
        rcases names_in.mp (good.src g hg y hy) with a | a | a
        · exact low y (.inl a)
        · have lt := hrk (g.1, g.2.2) (List.mem_map.mpr ⟨g, hg, rfl⟩) y hy (in_bet.mpr a)
          obtain ⟨g', hg', rfl⟩ := gate_at a
          exact ih (rk g'.1) (by have : rk g'.1 < rk g.1 := lt; omega) g' hg' (Nat.le_refl _)
        · exact low y (.inr a)
      · rw [← e2, h.held q e]
        exact (hf q e).2
  intro z hz
  rcases names_in.mp hz with a | a | a
  · exact low z (.inl a)
  · obtain ⟨g, hg, rfl⟩ := gate_at a
    exact high _ g hg (Nat.le_refl _)
  · exact low z (.inr a)
end W

set_option Elab.async false
set_option linter.all false
set_option maxRecDepth 100000
set_option maxHeartbeats 8000000
namespace W
open PySem PySem.Spec PyProof.Rows L2 Evl G C
/-- gates laid as tuples with lists, none of them at L -/
def PlO (L : Addr) (H : Hp) (ts : List (Addr × Addr)) (gs : List Gt) : Prop := Paired (fun (t : Addr × Addr) (g : Gt) => H t.1 = some (.tup [.str g.1, .str g.2.1, .ref t.2]) ∧ H t.2 = some (.lst (g.2.2.map V.str)) ∧ t.1 ≠ L ∧ t.2 ≠ L) ts gs
theorem PlO.mono {L : Addr} {H H' : Hp} {ts : List (Addr × Addr)} {gs : List Gt} (h : PlO L H ts gs) (e : ExBut L H H') : PlO L H' ts gs := Paired.mono (fun t g q => ⟨e _ _ q.1 q.2.2.1, e _ _ q.2.1 q.2.2.2, q.2.2.1, q.2.2.2⟩) h
theorem PlO.dp {K : PySem.W.Frag} {L : Addr} {H : Hp} : ∀ {ts : List (Addr × Addr)} {gs : List Gt}, PlO L H ts gs → DpAll K H (ts.map fun t => V.ref t.1) (gs.map gateD)
  | _, _, .nil => .nil
  | _, _, .cons q r => .cons (.tup (st_of q.1) (.cons (.str _) (.cons (.str _) (.cons (.lst (SqL.of q.2.1) dp_txts) .nil)))) (PlO.dp r)
/-- the gates, each behind its own -/
structure PlanOk (c : Cir) (pl : List Gt) : Prop where
  pm : pl.Perm c.gates
  tp : ∀ pre g post, pl = pre ++ g :: post → ∀ y ∈ g.2.2, y ∈ gn c → y ∈ pre.map fun x => x.1
theorem plan_of_seq {c : Cir} (good : Good c) {seq : List Str} (tp : Topo (bet' c.gates) seq) : ∃ pl, PlanOk c pl ∧ pl.map (fun x => x.1) = seq := by
  have nd := good.nd
  unfold names at nd
  have n4 : (gn c).Nodup := (List.nodup_append.mp (List.nodup_append.mp nd).2.1).1
  have kg : (bet' c.gates).map Prod.fst = gn c := by
    unfold bet' gn
    rw [List.map_map]
    rfl
  have pm : seq.Perm (gn c) := by
    have := tp.1
    rwa [kg] at this
  have gen : ∀ l : List Str, (∀ z ∈ l, z ∈ gn c) → ∃ pl : List Gt, pl.map (fun x => x.1) = l ∧ ∀ g ∈ pl, g ∈ c.gates := by
    intro l
    induction l with
    | nil => exact fun _ => ⟨[], rfl, fun g h => by cases h⟩
    | cons a r ih =>
      intro h
      obtain ⟨pl, e, hp⟩ := ih fun z hz => h z (List.mem_cons_of_mem _ hz)
      obtain ⟨g, hg, rfl⟩ := gate_at (h a List.mem_cons_self)
      refine ⟨g :: pl, by rw [List.map_cons, e], fun x hx => ?_⟩
      rcases List.mem_cons.mp hx with rfl | hx
      · exact hg
      · exact hp x hx
  obtain ⟨pl, e, hp⟩ := gen seq fun z hz => pm.mem_iff.mp hz
  have ndp : (pl.map fun x => x.1).Nodup := by rw [e]; exact pm.nodup_iff.mpr n4
  have one : ∀ {a b : Gt}, a ∈ c.gates → b ∈ c.gates → a.1 = b.1 → a = b := fun {a b} ha hb q => inj_nd (f := fun x : Gt => x.1) n4 ha hb q
  have nds : ∀ {l : List Gt}, (l.map fun x => x.1).Nodup → l.Nodup := fun {l} h => by
    unfold List.Nodup at h ⊢
    rw [List.pairwise_map] at h
    exact h.imp fun ne q => ne (by rw [q])
  refine ⟨pl, ⟨?_, ?_⟩, e⟩
  · refine (List.perm_ext_iff_of_nodup (nds ndp) (nds n4)).mpr fun g => ⟨hp g, fun m => ?_⟩
    have : g.1 ∈ pl.map fun x => x.1 := by
      rw [e]
      exact pm.mem_iff.mpr (List.mem_map.mpr ⟨g, m, rfl⟩)
    obtain ⟨g', hg', q⟩ := List.mem_map.mp this
    rw [← one (hp g' hg') m q]
    exact hg'
  · intro pre g post q y hy hk
    have := tp.2 (pre.map fun x => x.1) g.1 (post.map fun x => x.1) (by rw [← e, q, List.map_append, List.map_cons]) g.2.2 (List.mem_map.mpr ⟨g, hp g (by rw [q]; simp), rfl⟩) y hy (by rw [kg]; exact hk)
    exact this
section
variable {P : Program} {w : World} {K : PySem.W.Frag} {mg : Str → Option Value} {base : Heap} {C : Addr}
def spPlanOf (K : PySem.W.Frag) (C : Addr) : Sp := fun vs H Q _ => ∃ (p : Addr) (c : Cir), vs = [.ref p] ∧ CirAt K C H p c ∧ Good c ∧ ∀ pl, PlanOk c pl → ∀ l xs H', Ex H H' → H l = none → H' l = some (.lst xs) → DpAll K H' xs (pl.map gateD) → Q (.ref l) H'
abbrev nPlanOf : List Str := ["circuit", "gate"]
theorem scPlanOf : FnScope nPlanOf ["circuit"] (defScope dPlanOf) := ⟨rfl, rfl, rfl, by decide +kernel, rfl, by decide +kernel, by decide +kernel⟩
theorem okPlanOf {f : Addr} {fd : FuncData} (F : At K mg "plan_of" dPlanOf ["circuit"] f fd) (T : Txt K mg) (CT : CirT K mg C) : FnOk P w K mg base CX0 4 f fd ["circuit"] (spPlanOf K C) := by
  obtain ⟨fQ, gQ, FQ⟩ := CT.sequence
  obtain ⟨fK, gK, FK⟩ := CT.kind
  obtain ⟨fS, gS, FS⟩ := CT.sources
  have GQ : FnOk P w K mg base CX0 3 fQ gQ ["self"] (spM (α := Nat) K C newSeq) := (okSequence FQ T CT).mono (by decide)
  have GK : FnOk P w K mg base CX0 3 fK gK ["self", "wire"] (spKind K C) := okKindM FK T CT
  have GS : FnOk P w K mg base CX0 3 fS gS ["self", "wire"] (spSrcs K C) := okSrcs FS T CT
  refine F.fn.ok scPlanOf (fun vs H Q E h => ?_) (fun cdv A outer s H vs Q E hr h => ?_)
  · obtain ⟨p, c, rfl, _⟩ := h
    rfl
  · obtain ⟨p, c, rfl, hc, good, k⟩ := h
    refine ⟨_, pss_one (ps_ret (pe_lc (own := [("gate", 1)]) (g := gName 1) rfl scPlanOf.nd (pi_list (pe_meth0 (pv 0) CT.cl FQ.me GQ hr FQ.bi .nil pass0)) (blkOk_by (own := [("gate", 1)]) (N := nPlanOf) (sc := defScope dPlanOf) (by decide +kernel))
      (fun _ _ _ _ _ => pg_name (i := 1) scPlanOf.nd rfl (Or.inl rfl)) (fun _ _ _ _ _ => pts_nil) (fun _ _ _ _ _ => pe_tup (pa_cons (pv 1) (pa_cons (pe_meth (pv 0) CT.cl FK.me GK hr FK.bi .nil pass0 (pa_cons (pv 1) pa_nil)) (pa_cons (pe_meth (pv 0) CT.cl FS.me GS hr FS.bi .nil pass0 (pa_cons (pv 1) pa_nil)) pa_nil)))))), ?_⟩
    obtain ⟨dx, a1, a2, a3, a4, D5, D6, L7, sg, sr, sq, h1, _⟩ := id hc
    have at_ : ∀ {H' : Hp}, Ex H H' → H' p = some (.ins C dx (flds a1 a2 a3 a4 D5 D6 L7)) := fun e => e _ _ h1
    refine ⟨_, rfl, p, dx, _, rfl, h1, rfl, p, c, rfl, hc, good, fun seq tp l H1 e1 nl hl => ?_⟩
    obtain ⟨pl, po, rfl⟩ := plan_of_seq good tp
    have few : pl.length ≤ 40 := by rw [po.pm.length_eq]; exact good.lg
    refine ⟨l, rfl, ⟨_, SqL.of hl⟩, fun L nL => ?_⟩
    refine lc_it (walk_list (K := K) (a := l) (xs := (pl.map fun x => x.1).map V.str)) (fun i Hc => Ex H1 Hc ∧ ∃ ts, Hc L = some (.lst (ts.map fun t => V.ref t.1)) ∧ PlO L Hc ts (pl.take i)) ⟨Ex.new nL, [], upd_same, .nil⟩ (fun i Hc _ q => SqL.of (q.1 _ _ hl)) (fun i x Ha Hb hi q yy => ?_) (fun Hc q => ?_)
    · obtain ⟨rfl, ex⟩ := yy
      obtain ⟨e2, ts, h2, hts⟩ := q
      obtain ⟨z, ez, rfl⟩ := nth_map ex
      rw [List.getElem?_map] at ez
      obtain ⟨g, eg, rfl⟩ := Option.map_eq_some_iff.mp ez
      have hg : g ∈ c.gates := po.pm.mem_iff.mp (List.mem_of_getElem? eg)
      have e12 := e1.trans e2
      refine ⟨rfl, ?_⟩
      refine ⟨_, rfl, _, rfl, p, dx, _, rfl, at_ e12, rfl, _, rfl, p, g.1, g.2.1, c, rfl, hc.ex e12, good, ?_, ?_⟩
      · unfold kindsC
        exact List.mem_append_left _ (List.mem_append_right _ (List.mem_map.mpr ⟨g, hg, rfl⟩))
      refine ⟨_, rfl, p, dx, _, rfl, at_ e12, rfl, _, rfl, p, g.1, g.2.2, c, rfl, hc.ex e12, good, ?_, fun s H3 e3 ns hs => ?_⟩
      · unfold srcsL bet'
        exact List.mem_append_left _ (List.mem_append_right _ (List.mem_map.mpr ⟨g, hg, rfl⟩))
      have sL : s ≠ L := fun q => by rw [q, h2] at ns; cases ns
      refine ⟨(by show 3 ≤ sizeLine; decide), fun t nt => ?_⟩
      have tL : t ≠ L := fun q => by rw [q, e3 _ _ h2] at nt; cases nt
      have ts' : t ≠ s := fun q => by rw [q, hs] at nt; cases nt
      have e4 : Ex H3 (upd H3 t (.tup [.str g.1, .str g.2.1, .ref s])) := Ex.new nt
      have h4 : (upd H3 t (.tup [.str g.1, .str g.2.1, .ref s])) t = some (.tup [.str g.1, .str g.2.1, .ref s]) := upd_same
      generalize upd H3 t (.tup [.str g.1, .str g.2.1, .ref s]) = H4 at e4 h4
      have e24 := e3.trans e4
      refine ⟨_, e24 _ _ h2, ?_, (e2.trans e24).mut nL, ts ++ [(t, s)], ?_, ?_⟩
      · rw [List.length_map]
        have := Paired.length hts
        rw [List.length_take] at this
        exact Nat.lt_of_le_of_lt (show _ ≤ 1000 by omega) (by decide)
      · rw [upd_same, List.map_append]
        rfl
      · rw [take_more eg]
        refine Paired.snoc (PlO.mono hts ((ExBut.of e24).trans ExBut.upd)) ⟨?_, ?_, tL, sL⟩
        · rw [upd_ne tL]
          exact h4
        · rw [upd_ne sL]
          exact e4 _ _ hs
    · obtain ⟨e2, ts, h2, hts⟩ := q
      rw [List.length_map, List.length_map, List.take_length] at hts
      exact k pl po L _ Hc (e1.trans e2) (ex_none e1 nL) h2 hts.dp
end
end W

set_option Elab.async false
set_option linter.all false
set_option maxRecDepth 100000
set_option maxHeartbeats 8000000
namespace W
open PySem PySem.Spec PyProof.Rows L2 Evl G C
def HasL (l : List (Str × Int)) (kvs : List (Key × V)) : Prop := ∀ q ∈ l, valV kvs (Sum.inr q.1) = some (.int q.2)
def HasF (S : List Str) (f : Str → Int) (kvs : List (Key × V)) : Prop := ∀ z ∈ S, valV kvs (Sum.inr z) = some (.int (f z))
theorem HasL.put {l : List (Str × Int)} {kvs : List (Key × V)} {z : Str} {b : Int} (h : HasL l kvs) (n : z ∉ l.map Prod.fst) : HasL (l ++ [(z, b)]) (putK kvs (Sum.inr z) (.int b)) := by
  intro q hq
  rw [valV_put]
  rcases List.mem_append.mp hq with hq | hq
  · rw [if_neg]
    · exact h q hq
    · intro e
      exact n (List.mem_map.mpr ⟨q, hq, Sum.inr.inj e⟩)
  · rw [List.mem_singleton.mp hq, if_pos rfl]
theorem HasF.put {S : List Str} {f : Str → Int} {kvs : List (Key × V)} (h : HasF S f kvs) (z : Str) : HasF (S ++ [z]) f (putK kvs (Sum.inr z) (.int (f z))) := by
  intro y hy
  rw [valV_put]
  by_cases e : (Sum.inr y : Key) = Sum.inr z
  · rw [if_pos e, Sum.inr.inj e]
  · rw [if_neg e]
    rcases List.mem_append.mp hy with hy | hy
    · exact h y hy
    · exact absurd (by rw [List.mem_singleton.mp hy]) e
theorem putK_le (kvs : List (Key × V)) (k : Key) (v : V) : (putK kvs k v).length ≤ kvs.length + 1 := by
  unfold putK
  split
  · rw [List.length_map]; exact Nat.le_succ _
  · rw [List.length_append]; exact Nat.le_refl _
theorem exbut_ex {H0 H1 H : Hp} {D : Addr} (e : Ex H0 H1) (n : H0 D = none) (b : ExBut D H1 H) : Ex H0 H := fun a o h => b a o (e a o h) (fun q => by rw [q, n] at h; cases h)
theorem zip_next {α : Type} {xs : List Str} {ys : List Int} {i : Nat} {x : Str} {y : Int} (hx : xs[i]? = some x) (hy : ys[i]? = some y) : (xs.zip ys)[i]? = some (x, y) := by
  rw [List.getElem?_zip_eq_some]
  exact ⟨hx, hy⟩
theorem next_out {l m : List (Str × Int)} {i : Nat} {q : Str × Int} (nd : ((l ++ m).map Prod.fst).Nodup) (e : m[i]? = some q) : q.1 ∉ (l ++ m.take i).map Prod.fst := by
  intro h
  rw [List.map_append] at h nd
  obtain ⟨n1, n2, n3⟩ := List.nodup_append.mp nd
  have hq : q.1 ∈ m.map Prod.fst := List.mem_map.mpr ⟨q, List.mem_of_getElem? e, rfl⟩
  rcases List.mem_append.mp h with h | h
  · exact n3 q.1 h q.1 hq rfl
  · rw [List.map_take] at h
    obtain ⟨j, hj⟩ := List.mem_iff_getElem?.mp h
    rw [List.getElem?_take] at hj
    split at hj
    · next lt =>
      have e2 : (m.map Prod.fst)[i]? = some q.1 := by rw [List.getElem?_map, e]; rfl
      have := (List.getElem?_inj (by
        have := (List.getElem?_eq_some_iff.mp hj).1
        exact this) n2).mp (hj.trans e2.symm)
      omega
    · cases hj
abbrev sgS (p a y x : Addr) (zv : V) (u5 u6 u7 u8 u9 u10 u11 u12 u13 : Option V) : L2.St := [some (.ref p), some (.ref a), some (.ref y), some (.ref x), some zv, u5, u6, u7, u8, u9, u10, u11, u12, u13]
section
variable {K : PySem.W.Frag} {H0 H1 : Hp} {p a y x D : Addr} {zv : V} {u6 u7 u8 u9 u10 u11 u12 u13 : Option V} {En : Ends} {pref : List (Str × Int)}
/-- for name, bit in zip(names, bits): said[name] = bit -/
theorem loopZ1 {l : Addr} {zs : List Str} {bs : List Int} (e01 : Ex H0 H1) (nD : H0 D = none) (hl : H1 l = some (.lst (zs.map V.str))) (hb : SqT K H0 x (bs.map V.int)) (len : zs.length = bs.length) (few : zs.length ≤ 100) {kv0 : List (Key × V)}
    (hD : H1 D = some (.dK kv0)) (h0 : HasL pref kv0) (l0 : kv0.length ≤ 100) (nd : ((pref ++ zs.zip bs).map Prod.fst).Nodup)
    (k : ∀ H' u6 u7 kvs, ExBut D H1 H' → H' D = some (.dK kvs) → HasL (pref ++ zs.zip bs) kvs → kvs.length ≤ kv0.length + zs.length → En.nx (sgS p a y x zv (some (.ref D)) u6 u7 u8 u9 u10 u11 u12 u13) H') :
    ∃ W : Nat → Nat → L2.St → Hp → Prop, (∃ m, W 0 m (sgS p a y x zv (some (.ref D)) u6 u7 u8 u9 u10 u11 u12 u13) H1) ∧ ∀ i m σ H, W i m σ H →
      ((Itm K l x).stop i H ∧ En.nx σ H) ∨ ((Itm K l x).go i H ∧ ∃ N : L2.St → Hp → Prop, (∀ σ' H', N σ' H' → ∃ m', m' < m ∧ W (i + 1) m' σ' H') ∧ ∀ v H', (Itm K l x).yld i H v H' →
        gTup K 2 (gCons (gName 6) (gCons (gName 7) gNil)) v σ H' fun σ2 H2 => sDPut (tVar 5) (tVar 6) (tVar 7) { En with nx := N, ct := N, bk := En.nx } σ2 H2) := by
  have lD : l ≠ D := fun q => by rw [q, hD] at hl; cases hl
  refine for_zipM (K := K) (a := l) (b := x) (xs := zs.map V.str) (ys := bs.map V.int) (by rw [List.length_map, List.length_map, len])
    (fun i σ H => (∃ u6 u7, σ = sgS p a y x zv (some (.ref D)) u6 u7 u8 u9 u10 u11 u12 u13) ∧ ExBut D H1 H ∧ ∃ kvs, H D = some (.dK kvs) ∧ HasL (pref ++ (zs.zip bs).take i) kvs ∧ kvs.length ≤ kv0.length + i)
    ⟨⟨_, _, rfl⟩, ExBut.refl _ _, kv0, hD, by simpa using h0, Nat.le_refl _⟩ (fun i σ H q => ⟨SqL.of (q.2.1 _ _ hl lD), ex_t (exbut_ex e01 nD q.2.1) hb⟩) (fun i xv yv T σ H hx hy q nT => ?_) (fun σ H q => ?_)
  · obtain ⟨⟨v6, v7, rfl⟩, e, kvs, hd, hh, hn⟩ := q
    obtain ⟨nm, en, rfl⟩ := nth_map hx
    obtain ⟨b, eb, rfl⟩ := nth_map hy
    have i1 := (List.getElem?_eq_some_iff.mp en).1
    have TD : T ≠ D := fun q => by rw [q, hd] at nT; cases nT
    have e2 : Ex H (upd H T (.tup [.str nm, .int b])) := Ex.new nT
    have hT : (upd H T (.tup [.str nm, .int b])) T = some (.tup [.str nm, .int b]) := upd_same
    generalize upd H T (.tup [.str nm, .int b]) = H2 at e2 hT
    refine ⟨T, _, rfl, st_of hT, rfl, _, _, rfl, _, _, rfl, rfl, ?_⟩
    have zn := zip_next (α := Nat) en eb
    refine ⟨_, rfl, _, rfl, _, rfl, D, _, rfl, DPut.k (k := Sum.inr nm) (e2 _ _ hd) (Nat.lt_of_le_of_lt (show _ ≤ 1000 by omega) (by decide)), ⟨_, _, rfl⟩, (e.trans (ExBut.of e2)).trans ExBut.upd, _, upd_same, ?_, ?_⟩
    · rw [take_more zn, ← List.append_assoc]
      exact hh.put (next_out nd zn)
    · have := putK_le kvs (Sum.inr nm : Key) (.int b)
      omega
  · obtain ⟨⟨v6, v7, rfl⟩, e, kvs, hd, hh, hn⟩ := q
    rw [List.length_map] at hh hn
    rw [List.take_of_length_le (by rw [List.length_zip]; omega)] at hh
    exact k H v6 v7 kvs e hd hh hn
/-- for (name, _, _), bit in zip(registers, bits): said[name] = bit -/
theorem loopZ2 {l : Addr} {xs : List V} {rs : List Rg} {bs : List Int} (e01 : Ex H0 H1) (nD : H0 D = none) (hl : H1 l = some (.lst xs)) (hb : SqT K H0 y (bs.map V.int)) (len : rs.length = bs.length) (few : rs.length ≤ 100) {kv0 : List (Key × V)}
    (hx1 : ∀ H', ExBut D H1 H' → DpAll K H' xs (rs.map regD))
    (hD : H1 D = some (.dK kv0)) (h0 : HasL pref kv0) (l0 : kv0.length ≤ 100) (nd : ((pref ++ (rs.map fun r => r.1).zip bs).map Prod.fst).Nodup)
    (k : ∀ H' u6 u7 u8 kvs, ExBut D H1 H' → H' D = some (.dK kvs) → HasL (pref ++ (rs.map fun r => r.1).zip bs) kvs → kvs.length ≤ kv0.length + rs.length → En.nx (sgS p a y x zv (some (.ref D)) u6 u7 u8 u9 u10 u11 u12 u13) H') :
    ∃ W : Nat → Nat → L2.St → Hp → Prop, (∃ m, W 0 m (sgS p a y x zv (some (.ref D)) u6 u7 u8 u9 u10 u11 u12 u13) H1) ∧ ∀ i m σ H, W i m σ H →
      ((Itm K l y).stop i H ∧ En.nx σ H) ∨ ((Itm K l y).go i H ∧ ∃ N : L2.St → Hp → Prop, (∀ σ' H', N σ' H' → ∃ m', m' < m ∧ W (i + 1) m' σ' H') ∧ ∀ v H', (Itm K l y).yld i H v H' →
        gTup K 2 (gCons (gTup K 3 (gCons (gName 6) (gCons (gName 8) (gCons (gName 8) gNil)))) (gCons (gName 7) gNil)) v σ H' fun σ2 H2 => sDPut (tVar 5) (tVar 6) (tVar 7) { En with nx := N, ct := N, bk := En.nx } σ2 H2) := by
  have lD : l ≠ D := fun q => by rw [q, hD] at hl; cases hl
  have lx := dp_len (hx1 H1 (ExBut.refl _ _))
  refine for_zipM (K := K) (a := l) (b := y) (xs := xs) (ys := bs.map V.int) (by rw [lx, List.length_map, len])
    (fun i σ H => (∃ u6 u7 u8, σ = sgS p a y x zv (some (.ref D)) u6 u7 u8 u9 u10 u11 u12 u13) ∧ ExBut D H1 H ∧ ∃ kvs, H D = some (.dK kvs) ∧ HasL (pref ++ ((rs.map fun r => r.1).zip bs).take i) kvs ∧ kvs.length ≤ kv0.length + i)
    ⟨⟨_, _, _, rfl⟩, ExBut.refl _ _, kv0, hD, by simpa using h0, Nat.le_refl _⟩ (fun i σ H q => ⟨SqL.of (q.2.1 _ _ hl lD), ex_t (exbut_ex e01 nD q.2.1) hb⟩) (fun i xv yv T σ H hx hy q nT => ?_) (fun σ H q => ?_)
  · obtain ⟨⟨v6, v7, v8, rfl⟩, e, kvs, hd, hh, hn⟩ := q
    obtain ⟨r, er, dr⟩ := dp_nth (hx1 H e) hx
    obtain ⟨b, eb, rfl⟩ := nth_map hy
    have i1 := (List.getElem?_eq_some_iff.mp er).1
    have TD : T ≠ D := fun q => by rw [q, hd] at nT; cases nT
    have e2 : Ex H (upd H T (.tup [xv, .int b])) := Ex.new nT
    have hT : (upd H T (.tup [xv, .int b])) T = some (.tup [xv, .int b]) := upd_same
    generalize upd H T (.tup [xv, .int b]) = H2 at e2 hT
    obtain ⟨t, rfl, ht⟩ := reg_of (dp_ex e2 dr)
    have zn := zip_next (α := Nat) (xs := rs.map fun r => r.1) (by rw [List.getElem?_map, er]; rfl) eb
    refine ⟨T, _, rfl, st_of hT, rfl, _, _, rfl, ⟨t, _, rfl, ht, rfl, _, _, rfl, _, _, rfl, _, _, rfl, rfl, _, _, rfl, rfl, ?_⟩⟩
    refine ⟨_, rfl, _, rfl, _, rfl, D, _, rfl, DPut.k (k := Sum.inr r.1) (e2 _ _ hd) (Nat.lt_of_le_of_lt (show _ ≤ 1000 by omega) (by decide)), ⟨_, _, _, rfl⟩, (e.trans (ExBut.of e2)).trans ExBut.upd, _, upd_same, ?_, ?_⟩
    · rw [take_more zn, ← List.append_assoc]
      exact hh.put (next_out nd zn)
    · have := putK_le kvs (Sum.inr r.1 : Key) (.int b)
      omega
  · obtain ⟨⟨v6, v7, v8, rfl⟩, e, kvs, hd, hh, hn⟩ := q
    rw [lx] at hh hn
    rw [List.take_of_length_le (by rw [List.length_zip, List.length_map]; omega)] at hh
    exact k H v6 v7 v8 kvs e hd hh hn
end
end W

set_option Elab.async false
set_option linter.all false
set_option maxRecDepth 100000
set_option maxHeartbeats 16000000
namespace W
open PySem PySem.Spec PyProof.Rows L2 Evl G C
section
variable {K : PySem.W.Frag} {H H' : Hp} {D : Addr} {kvs : List (Key × V)}
theorem d_rd {a : Addr} {u : HO} (e : ExBut D H H') (hD : H D = some (.dK kvs)) (hu : ∀ kvs, u ≠ .dK kvs) (h : Rd H a u) : Rd H' a u := by
  rcases h with h | ⟨o, h⟩
  · refine .inl (e _ _ h fun q => ?_)
    rw [q, hD] at h
    exact hu kvs (Option.some.inj h).symm
  · refine .inr ⟨o, e _ _ h fun q => ?_⟩
    rw [q, hD] at h
    cases h
theorem d_l {a : Addr} {xs : List V} (e : ExBut D H H') (hD : H D = some (.dK kvs)) (h : SqL K H a xs) : SqL K H' a xs := by
  rcases h with h | h
  · exact .inl (d_rd e hD (fun _ q => by cases q) h)
  · exact .inr h
theorem d_t {a : Addr} {xs : List V} (e : ExBut D H H') (hD : H D = some (.dK kvs)) (h : SqT K H a xs) : SqT K H' a xs := by
  rcases h with h | h
  · exact .inl (d_rd e hD (fun _ q => by cases q) h)
  · exact .inr h
mutual
theorem d_dp (e : ExBut D H H') (hD : H D = some (.dK kvs)) : ∀ {d : PyData} {x : V}, Dp K H x d → Dp K H' x d
  | .none, _, h => by cases h; exact .non
  | .bool b, _, h => by cases h; exact .bl b
  | .int i, _, h => by cases h; exact .int i
  | .str z, _, h => by cases h; exact .str z
  | .list ds, _, h => by
    cases h with
    | lst hs a => exact .lst (d_l e hD hs) (d_dpAll e hD a)
  | .tuple ds, _, h => by
    cases h with
    | tup hs a => exact .tup (d_t e hD hs) (d_dpAll e hD a)
  | .dict _, _, h => by cases h
theorem d_dpAll (e : ExBut D H H') (hD : H D = some (.dK kvs)) : ∀ {ds : List PyData} {xs : List V}, DpAll K H xs ds → DpAll K H' xs ds
  | [], _, h => by cases h; exact .nil
  | d :: ds, _, h => by
    cases h with
    | cons a b => exact .cons (d_dp e hD a) (d_dpAll e hD b)
end
end
def heldV : Flt → V
  | none => .non
  | some q => .str q.1
section
variable {K : PySem.W.Frag} {H0 H1 : Hp} {p a y x D : Addr} {zv : V} {u6 u7 u8 u10 u11 u12 u13 : Option V} {En : Ends}
theorem held_is {fl : Flt} {z : Str} : V.str z = heldV fl ↔ ∃ q, fl = some q ∧ q.1 = z := by
  cases fl with
  | none => exact ⟨fun e => (by cases e), fun ⟨q, e, _⟩ => (by cases e)⟩
  | some q => exact ⟨fun e => ⟨q, rfl, (V.str.inj e).symm⟩, fun ⟨q', e, e2⟩ => by cases e; rw [← e2]; rfl⟩
theorem scal_held (fl : Flt) (z : Str) : scal (.str z) (heldV fl) = true := by cases fl <;> rfl
/-- the gates one after another -/
theorem loopZ3 {c : Cir} {sr : List Rg} {st le : List Int} {fl : Flt} {f : Str → Int} {pl : List Gt} {xl : List V} {S0 : List Str} (good : Good c) (po : PlanOk c pl) (sy : Says c sr st le fl f) (hb : ∀ z ∈ names c, isBt (f z)) (hS : ∀ z, z ∈ c.ins ∨ z ∈ rn c → z ∈ S0) (hh : ∀ q, fl = some q → q.1 ∈ S0)
    (e01 : Ex H0 H1) (nD : H0 D = none) (ha : SqL K H0 a xl) (hx : DpAll K H0 xl (pl.map gateD)) {kv0 : List (Key × V)} (hD : H1 D = some (.dK kv0)) (h0 : HasF S0 f kv0) (l0 : kv0.length ≤ 100)
    (k : ∀ H' u10 u11 u12 u13 kvs, Ex H0 H' → H' D = some (.dK kvs) → HasF (S0 ++ pl.map fun g => g.1) f kvs → En.nx (sgS p a y x zv (some (.ref D)) u6 u7 u8 (some (heldV fl)) u10 u11 u12 u13) H') :
    tFor (iList K (tVar 1)) (gTup K 3 (gCons (gName 10) (gCons (gName 11) (gCons (gName 12) gNil)))) (tIfS (tTest (tOp rNe (tVar 10) (tVar 9))) (sDPut (tVar 5) (tVar 10) (tCall (spBitOf K) [] E0 (tCons (tVar 11) (tCons (tLc (iList K (tVar 12)) (gName 13) tYes (tDGet (tVar 5) (tVar 13)) [13]) tNil)))) tNext) En
      (sgS p a y x zv (some (.ref D)) u6 u7 u8 (some (heldV fl)) u10 u11 u12 u13) H1 := by
  have lg := good.lg
  have lpl := po.pm.length_eq
  have lxl := dp_len hx
  refine ⟨_, rfl, a, rfl, ⟨_, ex_l e01 ha⟩, for_list (K := K) (a := a) (xs := xl) (fun i σ Hc => (∃ u10 u11 u12 u13, σ = sgS p a y x zv (some (.ref D)) u6 u7 u8 (some (heldV fl)) u10 u11 u12 u13) ∧ Ex H0 Hc ∧ ∃ kvs, Hc D = some (.dK kvs) ∧ HasF (S0 ++ (pl.take i).map fun g => g.1) f kvs ∧ kvs.length ≤ kv0.length + i)
    ⟨⟨_, _, _, _, rfl⟩, e01, kv0, hD, by simpa using h0, Nat.le_refl _⟩ (fun i σ Hc _ q => ex_l q.2.1 ha) (fun i xv σ Hc hxi q => ?_) (fun σ Hc q => ?_)⟩
  · obtain ⟨⟨u10, u11, u12, u13, rfl⟩, e, kvs, hd, hf, hn⟩ := q
    obtain ⟨g, eg, dg⟩ := dp_nth hx hxi
    have i1 := (List.getElem?_eq_some_iff.mp eg).1
    have hg : g ∈ c.gates := po.pm.mem_iff.mp (List.mem_of_getElem? eg)
    obtain ⟨t, l, rfl, ht, hl⟩ := gate_of (dp_ex e dg)
    have nxt : (pl.take (i + 1)).map (fun g => g.1) = (pl.take i).map (fun g => g.1) ++ [g.1] := by rw [take_more eg, List.map_append]; rfl
    refine ⟨t, _, rfl, ht, rfl, _, _, rfl, _, _, rfl, _, _, rfl, rfl, ?_⟩
    refine ⟨_, rfl, _, rfl, scal_held fl g.1, _, rfl, ?_⟩
    by_cases eh : V.str g.1 = heldV fl
    · rw [decide_eq_true eh]
      refine iteF ⟨⟨_, _, _, _, rfl⟩, e, kvs, hd, ?_, by omega⟩
      obtain ⟨q, eq, e2⟩ := held_is.mp eh
      intro z hz
      rw [nxt] at hz
      rcases List.mem_append.mp hz with hz | hz
      · exact hf z (List.mem_append_left _ hz)
      · rcases List.mem_append.mp hz with hz | hz
        · exact hf z (List.mem_append_right _ hz)
        · rw [List.mem_singleton.mp hz, ← e2]
          exact hf _ (List.mem_append_left _ (hh q eq))
    · rw [decide_eq_false eh]
      have fr : Free fl g.1 := fun q eq e2 => eh (held_is.mpr ⟨q, eq, e2⟩)
      have inn : ∀ z ∈ g.2.2, valV kvs (Sum.inr z) = some (.int (f z)) := by
        intro z hz
        refine hf z ?_
        rcases names_in.mp (good.src g hg z hz) with q | q | q
        · exact List.mem_append_left _ (hS z (.inl q))
        · have sp : pl = pl.take i ++ g :: pl.drop (i + 1) := by
            have e1 := List.take_append_drop i pl
            rw [List.drop_eq_getElem_cons i1] at e1
            have e2 : pl[i] = g := Option.some.inj ((List.getElem?_eq_getElem i1).symm.trans eg)
            rw [e2] at e1
            exact e1.symm
          exact List.mem_append_right _ (po.tp _ g _ sp z hz q)
        · exact List.mem_append_left _ (hS z (.inr q))
      have l3 := kinds_few (good.gts g hg).2.1
      refine iteT ⟨_, rfl, _, rfl, l, rfl, ⟨_, hl⟩, fun L nL => ?_⟩
      refine lc_each (as := g.2.2) (em := V.str) (walk_list (K := K) (a := l)) (fun z => .int (f z)) (by omega) (fun H' e => ex_l e hl) (fun z hz => ev_dget (i := 5) (j := 13) (k := Sum.inr z) rfl rfl hd (inn z hz)) nL (fun H2 e2 hL => ?_)
      have mk := made_of (k := g.2.1) (ys := g.2.2.map f) (by rw [List.length_map]; exact (good.gts g hg).2.1) (fun b hb' => by
        obtain ⟨z, hz, rfl⟩ := List.mem_map.mp hb'
        exact hb z (good.src g hg z hz))
      obtain ⟨bs, t1, t2⟩ := mk.tab
      rw [← sy.gate g hg fr] at t2
      have hL2 : H2 L = some (.lst ((g.2.2.map f).map V.int)) := by rw [hL, List.map_map]; rfl
      refine ⟨g.2.1, .ref L, g.2.2.map f, bs, .int (f g.1), rfl, t1, .inl (.lst (SqL.of hL2) dp_ints), t2, ?_⟩
      refine ⟨_, rfl, _, rfl, D, _, rfl, DPut.k (k := Sum.inr g.1) (e2 _ _ hd) (Nat.lt_of_le_of_lt (show _ ≤ 1000 by omega) (by decide)), ⟨_, _, _, _, rfl⟩, (e.trans e2).mut nD, _, upd_same, ?_, ?_⟩
      · rw [nxt, ← List.append_assoc]
        exact hf.put g.1
      · have := putK_le kvs (Sum.inr g.1) (.int (f g.1))
        omega
  · obtain ⟨⟨u10, u11, u12, u13, rfl⟩, e, kvs, hd, hf, hn⟩ := q
    rw [lxl, List.take_length] at hf
    exact k Hc _ _ _ _ kvs e hd hf
end
/-- what all wires say, in a dict at d -/
structure SaidAt (c : Cir) (f : Str → Int) (H : Hp) (d : Addr) : Prop where
  is : ∃ kvs, H d = some (.dK kvs) ∧ HasF (names c) f kvs
section
variable {P : Program} {w : World} {K : PySem.W.Frag} {mg : Str → Option Value} {base : Heap} {C : Addr}
def spSaidBy (K : PySem.W.Frag) (C : Addr) : Sp := fun vs H Q _ => ∃ (p : Addr) (a y x z : V) (c : Cir) (sr : List Rg) (pl : List Gt) (st le : List Int) (fl : Flt), vs = [.ref p, a, y, x, z] ∧ CirAt K C H p c ∧ Good c ∧ RgOf c sr ∧ Dp K H a (.list (pl.map gateD)) ∧ PlanOk c pl ∧
  Dp K H y (bitsD st) ∧ BitsOk c.regs.length st ∧ Dp K H x (bitsD le) ∧ BitsOk c.ins.length le ∧ Dp K H z (fltD fl) ∧ FltOk c fl ∧ ∀ d H', Ex H H' → H d = none → SaidAt c (val c sr st le fl) H' d → Q (.ref d) H'
abbrev nSaidBy : List Str := ["circuit", "plan", "state", "letter", "stuck", "said", "name", "bit", "_", "held", "gate", "kind", "sources", "source"]
theorem scSaidBy : FnScope nSaidBy ["circuit", "plan", "state", "letter", "stuck"] (defScope dSaidBy) := ⟨rfl, rfl, rfl, by decide +kernel, rfl, by decide +kernel, by decide +kernel⟩
theorem okSaidBy {f : Addr} {fd : FuncData} (F : At K mg "said_by" dSaidBy ["circuit", "plan", "state", "letter", "stuck"] f fd) (T : Txt K mg) (CT : CirT K mg C) (DT : DicT K w mg) : FnOk P w K mg base CX0 4 f fd ["circuit", "plan", "state", "letter", "stuck"] (spSaidBy K C) := by
  obtain ⟨fI, gI, FI⟩ := CT.inputs
  obtain ⟨fR, gR, FR⟩ := CT.registers
  obtain ⟨fB, gB, FB⟩ := T.bitOf
  have GI : FnOk P w K mg base CX0 3 fI gI ["self"] (spM (α := Nat) K C (newTx Cir.ins)) := (okInputs FI T CT).mono (by decide)
  have GR : FnOk P w K mg base CX0 3 fR gR ["self"] (spM (α := Nat) K C (newRg K)) := (okRegisters FR T CT).mono (by decide)
  have GB : FnOk P w K mg base CX0 3 fB gB ["kind", "bits"] (spBitOf K) := (okBitOf FB T DT).mono (by decide)
  refine F.fn.ok scSaidBy (fun vs H Q E h => ?_) (fun cdv A outer s H vs Q E hr h => ?_)
  · obtain ⟨p, a, y, x, z, c, sr, pl, st, le, fl, rfl, _⟩ := h
    rfl
  · obtain ⟨p, a, y, x, z, c, sr, pl, st, le, fl, rfl, hc, good, hrg, ha, po, hy, oky, hx, okx, hz, okf, k⟩ := h
    have hu := hu_of hr
    have nds := scSaidBy.nd
    refine ⟨_, pss_cons (ps_set (i := 5) nds rfl (Or.inr rfl) pe_dnewK)
      (pss_cons (ps_for PassesOwn.never rfl (pi_zipM rfl (by rfl) T.zip (pa_cons (pe_meth0 (pv 0) CT.cl FI.me GI hr FI.bi .nil pass0) (pa_cons (pv 3) pa_nil))) (pg_tup rfl (pgs_cons (pg_name (i := 6) nds rfl (Or.inl rfl)) (pgs_cons (pg_name (i := 7) nds rfl (Or.inl rfl)) pgs_nil)))
        (pss_one (ps_dput hu (pv 5) (pv 6) (pv 7) rfl)))
      (pss_cons (ps_for PassesOwn.never rfl (pi_zipM rfl (by rfl) T.zip (pa_cons (pe_meth0 (pv 0) CT.cl FR.me GR hr FR.bi .nil pass0) (pa_cons (pv 2) pa_nil))) (pg_tup rfl (pgs_cons (pg_tup rfl (pgs_cons (pg_name (i := 6) nds rfl (Or.inl rfl)) (pgs_cons (pg_name (i := 8) nds rfl (Or.inl rfl)) (pgs_cons (pg_name (i := 8) nds rfl (Or.inl rfl)) pgs_nil)))) (pgs_cons (pg_name (i := 7) nds rfl (Or.inl rfl)) pgs_nil)))
        (pss_one (ps_dput hu (pv 5) (pv 6) (pv 7) rfl)))
      (pss_cons (ps_set (i := 9) nds rfl (Or.inl rfl) (pe_ifExp (pt_cmp (pc_isN (pv 4))) pe_non (pe_ix ix_tup (pv 4) pe_int (fun _ _ => rfl))))
      (pss_cons (ps_if (pt_cmp (pc_notN (pv 4))) (pss_one (ps_dput hu (pv 5) (pv 9) (pe_ix ix_tup (pv 4) pe_int (fun _ _ => rfl)) rfl)) pss_nil)
      (pss_cons (ps_for PassesOwn.never rfl (pi_list (pv 1)) (pg_tup rfl (pgs_cons (pg_name (i := 10) nds rfl (Or.inl rfl)) (pgs_cons (pg_name (i := 11) nds rfl (Or.inl rfl)) (pgs_cons (pg_name (i := 12) nds rfl (Or.inl rfl)) pgs_nil))))
        (pss_one (ps_if (pt_cmpR op_ne (pv 10) (pv 9) (nomark _)) (pss_one (ps_dput hu (pv 5) (pv 10) (pe_call GB hr (by rfl) FB.gl FB.fn.kp FB.bi .nil pass0 (pa_cons (pv 11) (pa_cons (pe_lc (own := [("source", 13)]) (g := gName 13) rfl nds (pi_list (pv 12)) (blkOk_by (own := [("source", 13)]) (N := nSaidBy) (sc := defScope dSaidBy) (by decide +kernel))
          (fun _ _ _ _ _ => pg_name (i := 13) nds rfl (Or.inl rfl)) (fun _ _ _ _ _ => pts_nil) (fun _ _ _ _ _ => pe_dget hu (pv 5) (pv 13) (fun _ _ => rfl))) pa_nil))) rfl)) pss_nil)))
      (pss_one (ps_ret (pv 5)))))))), ?_⟩
    obtain ⟨dx, a1, a2, a3, a4, D5, D6, L7, sg, sr', sq, h1, _⟩ := id hc
    obtain ⟨ax, rfl, has⟩ : ∃ ax, a = .ref ax ∧ True := by cases ha; exact ⟨_, rfl, trivial⟩
    obtain ⟨yx, rfl, hyt⟩ := bits_of hy
    obtain ⟨xx, rfl, hxt⟩ := bits_of hx
    have sy := val_says good fl hrg okx.1 oky.1
    have li := good.li
    have lr := good.lr
    have lg := good.lg
    have lsr := hrg.1.length_eq
    have lpl := po.pm.length_eq
    obtain ⟨xl, hxl, hxd⟩ : ∃ xs, SqL K H ax xs ∧ DpAll K H xs (pl.map gateD) := by
      cases ha with
      | lst hs hd => exact ⟨_, hs, hd⟩
    have lxl := dp_len hxd
    have bk := base_keys (c := c) (sr := sr) (st := st) (le := le) okx.1 (by rw [oky.1, lsr])
    have ndB : ((base0 c sr st le).map Prod.fst).Nodup := by
      rw [bk]
      have nd := good.nd
      unfold names at nd
      obtain ⟨n1, n2, n3⟩ := List.nodup_append.mp nd
      obtain ⟨n4, n5, n6⟩ := List.nodup_append.mp n2
      have pr : (sr.map fun r => r.1).Perm (rn c) := hrg.1.map _
      exact List.nodup_append.mpr ⟨n1, pr.nodup_iff.mpr n5, fun a ha b hb => n3 a ha b (List.mem_append_right _ (pr.mem_iff.mp hb))⟩
    have nd1 : ((c.ins.zip le).map Prod.fst).Nodup := by
      unfold base0 at ndB
      rw [List.map_append] at ndB
      exact (List.nodup_append.mp ndB).1
    refine fun D nD => ?_
    have e1 : Ex H (upd H D (.dK [])) := Ex.new nD
    have hD1 : (upd H D (.dK [])) D = some (.dK []) := upd_same
    generalize upd H D (.dK []) = H1 at e1 hD1
    refine ⟨_, rfl, p, dx, _, rfl, e1 _ _ h1, rfl, p, c, rfl, hc.ex e1, good, fun l H2 e2 nl hl => ⟨_, rfl, l, xx, _, _, rfl, SqL.of hl, ex_t (e1.trans e2) hxt, ?_⟩⟩
    refine loopZ1 (pref := []) (e1.trans e2) nD hl hxt okx.1.symm (by omega) (e2 _ _ hD1) (fun q h => by cases h) (Nat.zero_le _) (by rw [List.nil_append]; exact nd1) fun H3 u6 u7 kv3 e3 hd3 hh3 hn3 => ?_
    rw [List.nil_append] at hh3
    have x3 : Ex H H3 := exbut_ex (e1.trans e2) nD e3
    refine ⟨_, rfl, p, dx, _, rfl, x3 _ _ h1, rfl, p, c, rfl, hc.ex x3, good, fun sr2 hs2 l2 xs2 H4 e4 nl2 hl2 dxs => ⟨_, rfl, l2, yx, _, _, rfl, SqL.of hl2, ex_t (x3.trans e4) hyt, ?_⟩⟩
    obtain rfl := RgOf.eq hs2 hrg
    refine loopZ2 (pref := c.ins.zip le) (x3.trans e4) nD hl2 hyt (by rw [oky.1, lsr]) (by omega) (fun H' e => d_dpAll e (e4 _ _ hd3) dxs) (e4 _ _ hd3) hh3 (by simp at hn3; omega) ndB fun H5 v6 v7 v8 kv5 e5 hd5 hh5 hn5 => ?_
    have x5 : Ex H H5 := exbut_ex (x3.trans e4) nD e5
    have hbit := says_bit good hrg okx oky okf sy
    have vS : ∀ z, z ∈ c.ins ∨ z ∈ rn c → z ∈ (c.ins ++ sr2.map fun r => r.1) := fun z q => q.elim (List.mem_append_left _) fun q => List.mem_append_right _ ((hrg.1.map fun r => r.1).mem_iff.mpr q)
    have vn : ∀ kvs, HasF ((c.ins ++ sr2.map fun r => r.1) ++ pl.map fun g => g.1) (val c sr2 st le fl) kvs → HasF (names c) (val c sr2 st le fl) kvs := fun kvs h z hz => h z (by
      rcases names_in.mp hz with q | q | q
      · exact List.mem_append_left _ (vS z (.inl q))
      · exact List.mem_append_right _ ((po.pm.map fun g => g.1).mem_iff.mpr q)
      · exact List.mem_append_left _ (vS z (.inr q)))
    have n5 : kv5.length ≤ 50 := by simp at hn3; omega
    cases fl with
    | none =>
      cases hz
      have hf : HasF (c.ins ++ sr2.map fun r => r.1) (val c sr2 st le none) kv5 := by
        intro z hz
        rw [← bk] at hz
        obtain ⟨q, hq, rfl⟩ := List.mem_map.mp hz
        rw [sy.base q hq (fun _ h => by cases h)]
        exact hh5 q hq
      refine ⟨_, rfl, _, rfl, iteT ⟨_, rfl, _, rfl, iteF ?_⟩⟩
      refine loopZ3 (fl := none) good po sy hbit vS (fun q h => by cases h) x5 nD hxl hxd hd5 hf (by omega) fun H7 v10 v11 v12 v13 kv7 x7 hd7 hf7 => ?_
      exact ⟨_, rfl, k D H7 x7 nD ⟨kv7, hd7, vn kv7 hf7⟩⟩
    | some q =>
      obtain ⟨z, b⟩ := q
      obtain ⟨t, rfl, ht⟩ := flt_of hz
      have ht5 := ex_t x5 ht
      have hf : HasF (c.ins ++ sr2.map fun r => r.1) (val c sr2 st le (some (z, b))) (putK kv5 (Sum.inr z) (.int b)) ∧ HasF [z] (val c sr2 st le (some (z, b))) (putK kv5 (Sum.inr z) (.int b)) := by
        have vz : val c sr2 st le (some (z, b)) z = b := sy.held (z, b) rfl
        refine ⟨fun y hy => ?_, fun y hy => ?_⟩
        · rw [valV_put]
          by_cases e : y = z
          · rw [e, if_pos rfl, vz]
          · rw [if_neg fun q => e (Sum.inr.inj q)]
            rw [← bk] at hy
            obtain ⟨q, hq, rfl⟩ := List.mem_map.mp hy
            rw [sy.base q hq (fun q' h => by cases h; exact fun h2 => e h2.symm)]
            exact hh5 q hq
        · rw [List.mem_singleton.mp hy, valV_put, if_pos rfl, vz]
      have hf2 : HasF ((c.ins ++ sr2.map fun r => r.1) ++ [z]) (val c sr2 st le (some (z, b))) (putK kv5 (Sum.inr z) (.int b)) := fun y hy => (List.mem_append.mp hy).elim (hf.1 y) (hf.2 y)
      refine ⟨_, rfl, _, rfl, iteF ⟨_, rfl, t, _, 0, .str z, rfl, rfl, ht5, rfl, _, rfl, _, rfl, iteT ?_⟩⟩
      refine ⟨_, rfl, t, _, 1, .int b, rfl, rfl, ht5, rfl, _, rfl, _, rfl, D, _, rfl, DPut.k (k := Sum.inr z) hd5 (Nat.lt_of_le_of_lt (show _ ≤ 1000 by omega) (by decide)), ?_⟩
      have l6 := putK_le kv5 (Sum.inr z) (.int b)
      refine loopZ3 (fl := some (z, b)) (S0 := (c.ins ++ sr2.map fun r => r.1) ++ [z]) good po sy hbit (fun y q => List.mem_append_left _ (vS y q)) (fun q h => by cases h; exact List.mem_append_right _ List.mem_cons_self) (x5.mut nD) nD hxl hxd upd_same hf2 (by omega) fun H7 v10 v11 v12 v13 kv7 x7 hd7 hf7 => ?_
      refine ⟨_, rfl, k D H7 x7 nD ⟨kv7, hd7, vn kv7 fun y hy => hf7 y ?_⟩⟩
      rcases List.mem_append.mp hy with hy | hy
      · exact List.mem_append_left _ (List.mem_append_left _ hy)
      · exact List.mem_append_right _ hy
end
end W

set_option Elab.async false
set_option linter.all false
set_option maxRecDepth 100000
set_option maxHeartbeats 16000000
namespace W
open PySem PySem.Spec PyProof.Rows L2 Evl G C
def nxt (sr : List Rg) (f : Str → Int) : List Int := sr.map fun r => f r.2.2
noncomputable def step1 (c : Cir) (sr : List Rg) (fl : Flt) (st le : List Int) : List Int := nxt sr (val c sr st le fl)
/-- the state behind i letters -/
noncomputable def sta (c : Cir) (sr : List Rg) (fl : Flt) (st : List Int) (ws : List (List Int)) (i : Nat) : List Int := (ws.take i).foldl (step1 c sr fl) st
/-- what is said at the i-th -/
noncomputable def hdf (c : Cir) (sr : List Rg) (fl : Flt) (st : List Int) (ws : List (List Int)) (i : Nat) : Str → Int := val c sr (sta c sr fl st ws i) (ws.getD i []) fl
noncomputable def states (c : Cir) (sr : List Rg) (fl : Flt) (st : List Int) (ws : List (List Int)) : List (List Int) := (List.range (ws.length + 1)).map (sta c sr fl st ws)
noncomputable def heard (c : Cir) (sr : List Rg) (fl : Flt) (st : List Int) (ws : List (List Int)) (zs : List Str) : List (List Int) := (List.range ws.length).map fun i => zs.map (hdf c sr fl st ws i)
theorem sta_next {c : Cir} {sr : List Rg} {fl : Flt} {st : List Int} {ws : List (List Int)} {i : Nat} {le : List Int} (e : ws[i]? = some le) : sta c sr fl st ws (i + 1) = nxt sr (hdf c sr fl st ws i) ∧ hdf c sr fl st ws i = val c sr (sta c sr fl st ws i) le fl := by
  have q : ws.getD i [] = le := by rw [List.getD_eq_getElem?_getD, e]; rfl
  refine ⟨?_, by unfold hdf; rw [q]⟩
  unfold sta hdf
  rw [take_more e, List.foldl_append, q]
  rfl
theorem nxt_ok {c : Cir} (good : Good c) {sr : List Rg} (hr : RgOf c sr) {f : Str → Int} (hb : ∀ z ∈ names c, isBt (f z)) : BitsOk c.regs.length (nxt sr f) := by
  refine ⟨by unfold nxt; rw [List.length_map, hr.1.length_eq], fun b h => ?_⟩
  obtain ⟨r, hr2, rfl⟩ := List.mem_map.mp h
  exact hb _ (good.rsrc r (hr.1.mem_iff.mp hr2))
theorem sta_ok {c : Cir} (good : Good c) {sr : List Rg} (hr : RgOf c sr) {fl : Flt} (hf : FltOk c fl) {st : List Int} (hs : BitsOk c.regs.length st) {ws : List (List Int)} (hw : ∀ w ∈ ws, BitsOk c.ins.length w) : ∀ i, i ≤ ws.length → BitsOk c.regs.length (sta c sr fl st ws i) := by
  intro i
  induction i with
  | zero => exact fun _ => hs
  | succ i ih =>
    intro lt
    have e : ws[i]? = some ws[i] := List.getElem?_eq_getElem (by omega)
    have ih := ih (by omega)
    have lo := hw _ (List.mem_of_getElem? e)
    rw [(sta_next e).1, (sta_next e).2]
    exact nxt_ok good hr (says_bit good hr lo ih hf (val_says good fl hr lo.1 ih.1))
section
variable {P : Program} {w : World} {K : PySem.W.Frag} {mg : Str → Option Value} {base : Heap} {C : Addr}
def spNext (K : PySem.W.Frag) (C : Addr) : Sp := fun vs H Q _ => ∃ (p d : Addr) (c : Cir) (sr : List Rg) (f : Str → Int), vs = [.ref p, .ref d] ∧ CirAt K C H p c ∧ Good c ∧ RgOf c sr ∧ SaidAt c f H d ∧ ∀ t H', Ex H H' → H t = none → H' t = some (.tup ((nxt sr f).map V.int)) → Q (.ref t) H'
abbrev nNext : List Str := ["circuit", "said", "_", "source"]
theorem scNext : FnScope nNext ["circuit", "said"] (defScope dNextState) := ⟨rfl, rfl, rfl, by decide +kernel, rfl, by decide +kernel, by decide +kernel⟩
theorem okNext {f : Addr} {fd : FuncData} (F : At K mg "next_state" dNextState ["circuit", "said"] f fd) (T : Txt K mg) (CT : CirT K mg C) : FnOk P w K mg base CX0 2 f fd ["circuit", "said"] (spNext K C) := by
  obtain ⟨fR, gR, FR⟩ := CT.registers
  have GR : FnOk P w K mg base CX0 1 fR gR ["self"] (spM (α := Nat) K C (newRg K)) := okRegisters FR T CT
  refine F.fn.ok scNext (fun vs H Q E h => ?_) (fun cdv A outer s H vs Q E hr h => ?_)
  · obtain ⟨p, d, c, sr, f, rfl, _⟩ := h
    rfl
  · obtain ⟨p, d, c, sr, f, rfl, hc, good, hrg, hd, k⟩ := h
    have hu := hu_of hr
    refine ⟨_, pss_one (ps_ret (pe_callTy call_tup (by rfl) T.tuple (by decide +kernel) (pa_cons (pe_lc (own := [("_", 2), ("source", 3)]) (g := gTup K 3 (gCons (gName 2) (gCons (gName 2) (gCons (gName 3) gNil)))) rfl scNext.nd (pi_list (pe_meth0 (pv 0) CT.cl FR.me GR hr FR.bi .nil pass0)) (blkOk_by (own := [("_", 2), ("source", 3)]) (N := nNext) (sc := defScope dNextState) (by decide +kernel))
      (fun _ _ _ _ _ => pg_tupK rfl (pgs_cons (pg_name (i := 2) scNext.nd rfl (Or.inl rfl)) (pgs_cons (pg_name (i := 2) scNext.nd rfl (Or.inl rfl)) (pgs_cons (pg_name (i := 3) scNext.nd rfl (Or.inl rfl)) pgs_nil)))) (fun _ _ _ _ _ => pts_nil) (fun _ _ _ _ _ => pe_dget hu (pv 1) (pv 3) (fun _ _ => rfl))) pa_nil))), ?_⟩
    obtain ⟨dx, a1, a2, a3, a4, D5, D6, L7, sg, sr', sq, h1, _⟩ := id hc
    obtain ⟨kvs, hdk, hf⟩ := hd.is
    refine ⟨_, rfl, p, dx, _, rfl, h1, rfl, p, c, rfl, hc, good, fun sr2 hs2 l xs H1 e1 nl hl dxs => ?_⟩
    obtain rfl := RgOf.eq hs2 hrg
    have len := dp_len dxs
    have lsr := hrg.1.length_eq
    have lr := good.lr
    refine ⟨l, rfl, ⟨_, SqL.of hl⟩, fun L nL => ?_⟩
    refine lc_it (walk_list (K := K) (a := l) (xs := xs)) (fun i Hc => Ex H1 Hc ∧ Hc L = some (.lst ((nxt (sr2.take i) f).map V.int))) ⟨Ex.new nL, upd_same⟩ (fun i Hc _ q => SqL.of (q.1 _ _ hl)) (fun i x Ha Hb hi q yy => ?_) (fun Hc q => ?_)
    · obtain ⟨rfl, ex⟩ := yy
      obtain ⟨e2, hL⟩ := q
      obtain ⟨r, er, dr⟩ := dp_nth dxs ex
      obtain ⟨t, rfl, ht⟩ := reg_of (dp_ex e2 dr)
      refine ⟨t, _, rfl, ht, rfl, _, _, rfl, _, _, rfl, _, _, rfl, rfl, rfl, ?_⟩
      have g := DGet.k (k := Sum.inr r.2.2) ((e1.trans e2) _ _ hdk)
      rw [hf _ (good.rsrc r (hrg.1.mem_iff.mp (List.mem_of_getElem? er)))] at g
      refine ⟨_, rfl, _, rfl, d, _, rfl, g, _, hL, ?_, e2.mut nL, ?_⟩
      · simp only [nxt, List.length_map, List.length_take]
        exact Nat.lt_of_le_of_lt (show _ ≤ 1000 by omega) (by decide)
      · rw [upd_same, take_more er]
        simp [nxt]
    · obtain ⟨e2, hL⟩ := q
      rw [len, List.take_length] at hL
      exact ⟨L, _, rfl, .inl ⟨SqL.of hL, fun t nt => k t _ ((e1.trans e2).trans (Ex.new nt)) (ex_none (e1.trans e2) nt) upd_same⟩⟩
end
end W

set_option Elab.async false
set_option linter.all false
set_option maxRecDepth 100000
set_option maxHeartbeats 16000000
namespace W
open PySem PySem.Spec PyProof.Rows L2 Evl G C
theorem word_of {K : PySem.W.Frag} {H : Hp} {x : V} {ws : List (List Int)} (h : Dp K H x (wordL ws) ∨ Dp K H x (wordT ws)) : ∃ a xs, x = .ref a ∧ (SqL K H a xs ∨ SqT K H a xs) ∧ DpAll K H xs (ws.map bitsD) := by
  rcases h with h | h
  · cases h with
    | lst hs hd => exact ⟨_, _, rfl, .inl hs, hd⟩
  · cases h with
    | tup hs hd => exact ⟨_, _, rfl, .inr hs, hd⟩
theorem noL_bits (bs : List Int) : noL (bitsD bs) = true := by
  show noLs (bs.map PyData.int) = true
  exact noLs_map (fun _ => rfl) bs
def begin (sr : List Rg) (st : Option (List Int)) : List Int := st.getD (firstOf sr)
theorem begin_ok {c : Cir} (good : Good c) {sr : List Rg} (hr : RgOf c sr) {st : Option (List Int)} (h : ∀ bs, st = some bs → BitsOk c.regs.length bs) : BitsOk c.regs.length (begin sr st) := by
  cases st with
  | none =>
    refine ⟨by show (sr.map fun r => r.2.1).length = _; rw [List.length_map, hr.1.length_eq], fun b hb => ?_⟩
    obtain ⟨r, hr2, rfl⟩ := List.mem_map.mp hb
    exact (good.rgs r (hr.1.mem_iff.mp hr2)).2.1
  | some bs => exact h bs rfl
section
variable {P : Program} {w : World} {K : PySem.W.Frag} {mg : Str → Option Value} {base : Heap} {C : Addr}
theorem rd_now {σ : L2.St} {H : Hp} {Q : VK} {p : Addr} {y : V} {c : Cir} {sr : List Rg} {st : Option (List Int)} (CT : CirT K mg C) (h0 : σ[0]? = some (some (.ref p))) (h3 : σ[3]? = some (some y)) (hc : CirAt K C H p c) (good : Good c) (hrg : RgOf c sr) (hy : Dp K H y (stD st))
    (k : ∀ nv H2, Ex H H2 → Dp K H2 nv (bitsD (begin sr st)) → Q nv H2) : tIf (tB (tIsN (tVar 3))) (tMeth C "first" (spM (α := Nat) K C (newFst K)) [] E0 (tVar 0) tNil) (tVar 3) σ H Q := by
  obtain ⟨dx, a1, a2, a3, a4, D5, D6, L7, sg, sr', sq, h1, _⟩ := id hc
  cases st with
  | none =>
    cases hy
    exact ⟨_, h3, _, rfl, iteT ⟨_, h0, p, dx, _, rfl, h1, rfl, p, c, rfl, hc, good, fun sr2 hs2 t H2 e2 nt ht => k _ _ e2 (by obtain rfl := RgOf.eq hs2 hrg; exact dp_bits (st_of ht))⟩⟩
  | some bs =>
    obtain ⟨t, rfl, ht⟩ := bits_of hy
    exact ⟨_, h3, _, rfl, iteF ⟨_, h3, k _ _ (Ex.refl _) hy⟩⟩
theorem rows_upd {H : Hp} {L : Addr} {xs ys : List V} {o : HO} {bs : List (List Int)} (h : H L = some (.lst xs)) (d : DpAll K H ys (bs.map bitsD)) : DpAll K (upd H L o) ys (bs.map bitsD) := t_dpAll (ExT.upd h) (noLs_map noL_bits _) d
/-- two new lists of rows of bits, in a new tuple -/
structure Two (K : PySem.W.Frag) (H H' : Hp) (t l1 l2 : Addr) (bs cs : List (List Int)) : Prop where
  ex : Ex H H'
  nt : H t = none
  n1 : H l1 = none
  n2 : H l2 = none
  ne : l1 ≠ l2
  at_ : H' t = some (.tup [.ref l1, .ref l2])
  d1 : ∃ xs, H' l1 = some (.lst xs) ∧ DpAll K H' xs (bs.map bitsD)
  d2 : ∃ xs, H' l2 = some (.lst xs) ∧ DpAll K H' xs (cs.map bitsD)
def spCourseF (K : PySem.W.Frag) (C : Addr) : Sp := fun vs H Q _ => ∃ (p l : Addr) (x y z : V) (c : Cir) (sr : List Rg) (zs : List Str) (ws : List (List Int)) (st : Option (List Int)) (fl : Flt), vs = [.ref p, .ref l, x, y, z] ∧ CirAt K C H p c ∧ Good c ∧ RgOf c sr ∧ SqL K H l (zs.map V.str) ∧ (∀ z ∈ zs, z ∈ names c) ∧ zs.length ≤ 100 ∧
  (Dp K H x (wordL ws) ∨ Dp K H x (wordT ws)) ∧ (∀ w ∈ ws, BitsOk c.ins.length w) ∧ ws.length ≤ 500 ∧ Dp K H y (stD st) ∧ (∀ bs, st = some bs → BitsOk c.regs.length bs) ∧ Dp K H z (fltD fl) ∧ FltOk c fl ∧
  ∀ t l1 l2 H', Two K H H' t l1 l2 (heard c sr fl (begin sr st) ws zs) (states c sr fl (begin sr st) ws) → Q (.ref t) H'
abbrev nCourse : List Str := ["circuit", "wires", "word", "state", "stuck", "plan", "now", "heard", "states", "letter", "said", "wire"]
theorem scCourse : FnScope nCourse ["circuit", "wires", "word", "state", "stuck"] (defScope dCourse) := ⟨rfl, rfl, rfl, by decide +kernel, rfl, by decide +kernel, by decide +kernel⟩
theorem okCourse {f : Addr} {fd : FuncData} (F : At K mg "course" dCourse ["circuit", "wires", "word", "state", "stuck"] f fd) (T : Txt K mg) (CT : CirT K mg C) (DT : DicT K w mg) : FnOk P w K mg base CX0 6 f fd ["circuit", "wires", "word", "state", "stuck"] (spCourseF K C) := by
  obtain ⟨fP, gP, FP⟩ := T.planOf
  obtain ⟨fF, gF, FF⟩ := CT.first
  obtain ⟨fS, gS, FS⟩ := T.saidBy
  obtain ⟨fN, gN, FN⟩ := T.nextState
  have GP : FnOk P w K mg base CX0 5 fP gP ["circuit"] (spPlanOf K C) := (okPlanOf FP T CT).mono (by decide)
  have GF : FnOk P w K mg base CX0 5 fF gF ["self"] (spM (α := Nat) K C (newFst K)) := (okFirst FF T CT).mono (by decide)
  have GS : FnOk P w K mg base CX0 5 fS gS ["circuit", "plan", "state", "letter", "stuck"] (spSaidBy K C) := (okSaidBy FS T CT DT).mono (by decide)
  have GN : FnOk P w K mg base CX0 5 fN gN ["circuit", "said"] (spNext K C) := (okNext FN T CT).mono (by decide)
  refine F.fn.ok scCourse (fun vs H Q E h => ?_) (fun cdv A outer s H vs Q E hr h => ?_)
  · obtain ⟨p, l, x, y, z, c, sr, zs, ws, st, fl, rfl, _⟩ := h
    rfl
  · obtain ⟨p, l, x, y, z, c, sr, zs, ws, st, fl, rfl, hc, good, hrg, hl, hzs, lzs, hx, okw, lw, hy, oks, hz, okf, k⟩ := h
    have hu := hu_of hr
    have nds := scCourse.nd
    obtain ⟨wa, xs, rfl, hxs, dxs⟩ := word_of hx
    have lxs := dp_len dxs
    have okb := begin_ok good hrg oks
    have stk := sta_ok good hrg okf okb okw
    obtain ⟨dx, a1, a2, a3, a4, D5, D6, L7, sg, sr', sq, h1, _⟩ := id hc
    refine ⟨_, (pss_cons (ps_set (i := 5) nds rfl (Or.inl rfl) (pe_call GP hr (by rfl) FP.gl FP.fn.kp FP.bi .nil pass0 (pa_cons (pv 0) pa_nil)))
 (pss_cons (ps_set (i := 6) nds rfl (Or.inl rfl) (pe_ifExp (pt_cmp (pc_isN (pv 3))) (pe_meth0 (pv 0) CT.cl FF.me GF hr FF.bi .nil pass0) (pv 3)))
 (pss_cons (ps_set (i := 7) nds rfl (Or.inl rfl) (pe_lst pa_nil))
 (pss_cons (ps_set (i := 8) nds rfl (Or.inl rfl) (pe_lst (pa_cons (pv 6) pa_nil)))
 (pss_cons (ps_for PassesOwn.never rfl (pi_sq rfl (pv 2)) (pg_name (i := 9) nds rfl (Or.inl rfl)) (pss_cons (ps_set (i := 10) nds rfl (Or.inr rfl) (pe_call GS hr (by rfl) FS.gl FS.fn.kp FS.bi .nil pass0 (pa_cons (pv 0) (pa_cons (pv 5) (pa_cons (pv 6) (pa_cons (pv 9) (pa_cons (pv 4) pa_nil)))))))
 (pss_cons (ps_expr (pe_bm PySem.F.plainAttrs_list PySem.F.slot_list_append PySem.F.type_list_append mt_append (pv 7) (pa_cons (pe_callTy call_tup (by rfl) T.tuple (by decide +kernel) (pa_cons (pe_lc (own := [("wire", 11)]) (g := gName 11) rfl nds (pi_list (pv 1)) (blkOk_by (own := [("wire", 11)]) (N := nCourse) (sc := defScope dCourse) (by decide +kernel))
          (fun _ _ _ _ _ => pg_name (i := 11) nds rfl (Or.inl rfl)) (fun _ _ _ _ _ => pts_nil) (fun _ _ _ _ _ => pe_dget hu (pv 10) (pv 11) (fun _ _ => rfl))) pa_nil)) pa_nil)))
 (pss_cons (ps_set (i := 6) nds rfl (Or.inl rfl) (pe_call GN hr (by rfl) FN.gl FN.fn.kp FN.bi .nil pass0 (pa_cons (pv 0) (pa_cons (pv 10) pa_nil))))
 (pss_one (ps_expr (pe_bm PySem.F.plainAttrs_list PySem.F.slot_list_append PySem.F.type_list_append mt_append (pv 8) (pa_cons (pv 6) pa_nil))))))))
 (pss_one (ps_ret (pe_tup (pa_cons (pv 7) (pa_cons (pv 8) pa_nil)))))))))), ?_⟩
    refine ⟨_, rfl, p, c, rfl, hc, good, fun pl po pa px H1 e1 np hp dpl => ?_⟩
    refine rd_now (mg := mg) CT rfl rfl (hc.ex e1) good hrg (dp_ex e1 hy) fun nv0 H2 e2 dn0 => ?_
    refine ⟨(by show 0 ≤ sizeLine; decide), fun hL nhL => ?_⟩
    have e3 : Ex H2 (upd H2 hL (.lst [])) := Ex.new nhL
    have hh3 : (upd H2 hL (.lst [])) hL = some (.lst []) := upd_same
    generalize upd H2 hL (.lst []) = H3 at e3 hh3
    refine ⟨_, rfl, (by show 1 ≤ sizeLine; decide), fun sL nsL => ?_⟩
    have sh : sL ≠ hL := fun q => by rw [q, hh3] at nsL; cases nsL
    have e4 : Ex H3 (upd H3 sL (.lst [nv0])) := Ex.new nsL
    have hs4 : (upd H3 sL (.lst [nv0])) sL = some (.lst [nv0]) := upd_same
    generalize upd H3 sL (.lst [nv0]) = H4 at e4 hs4
    have x2 := e1.trans e2
    have x24 := e3.trans e4
    have nsL2 := ex_none e3 nsL
    have dn4 := dp_ex x24 dn0
    refine for_sq (K := K) (a := wa) (xs := xs) (H0 := H2) rfl (hxs.imp (ex_l x2) (ex_t x2)) x24 (fun i σ Hc => (∃ nv u9 u10, σ = [some (.ref p), some (.ref l), some (.ref wa), some y, some z, some (.ref pa), some nv, some (.ref hL), some (.ref sL), u9, u10, none] ∧ Dp K Hc nv (bitsD (sta c sr fl (begin sr st) ws i))) ∧ Ex H2 Hc ∧
        (∃ hx, Hc hL = some (.lst hx) ∧ DpAll K Hc hx (((List.range i).map fun j => zs.map (hdf c sr fl (begin sr st) ws j)).map bitsD)) ∧ (∃ sx, Hc sL = some (.lst sx) ∧ DpAll K Hc sx (((List.range (i + 1)).map (sta c sr fl (begin sr st) ws)).map bitsD)))
      ⟨⟨nv0, _, _, rfl, dn4⟩, x24, ⟨[], e4 _ _ hh3, .nil⟩, ⟨[nv0], hs4, .cons dn4 .nil⟩⟩ (fun i σ Hc q => q.2.1) (fun i x σ Hc ex q => ?_) (fun σ Hc q => ?_)
    · obtain ⟨⟨nv, u9, u10, rfl, dn⟩, e, ⟨hx, hh, dh⟩, ⟨sx, hs, ds⟩⟩ := q
      obtain ⟨le, el, dl⟩ := dp_nth dxs ex
      have okl := okw _ (List.mem_of_getElem? el)
      have ilt := (List.getElem?_eq_some_iff.mp el).1
      have oki := stk i (by omega)
      have xc := x2.trans e
      have hn := sta_next (c := c) (sr := sr) (fl := fl) (st := begin sr st) el
      have sy := val_says good fl hrg okl.1 oki.1
      refine ⟨_, rfl, _, rfl, _, rfl, _, rfl, _, rfl, p, .ref pa, nv, x, z, c, sr, pl, _, le, fl, rfl, hc.ex xc, good, hrg, .lst (SqL.of ((e2.trans e) _ _ hp)) (dpAll_ex (e2.trans e) dpl), po, dn, oki, dp_ex xc dl, okl, dp_ex xc hz, okf, fun d H5 e5 nd sd => ?_⟩
      obtain ⟨kvs, hd, hf⟩ := sd.is
      refine ⟨_, rfl, .inl ⟨rfl, _, SqL.of (e5 _ _ hh)⟩, ?_⟩
      refine ⟨_, rfl, l, rfl, ⟨_, ex_l (xc.trans e5) hl⟩, fun L nL => ?_⟩
      refine lc_each (as := zs) (em := V.str) (walk_list (K := K) (a := l)) (fun z => .int (hdf c sr fl (begin sr st) ws i z)) (by omega) (fun H' e' => ex_l ((xc.trans e5).trans e') hl) (fun z hz => ev_dget (i := 10) (j := 11) (k := Sum.inr z) rfl rfl hd (by rw [hn.2]; exact hf z (hzs z hz))) nL (fun H6 e6 hL6 => ?_)
      refine ⟨L, _, rfl, .inl ⟨SqL.of hL6, fun t nt => ?_⟩⟩
      have e7 : Ex H6 (upd H6 t (.tup (zs.map fun z => .int (hdf c sr fl (begin sr st) ws i z)))) := Ex.new nt
      have ht7 : (upd H6 t (.tup (zs.map fun z => .int (hdf c sr fl (begin sr st) ws i z)))) t = some (.tup ((zs.map (hdf c sr fl (begin sr st) ws i)).map V.int)) := by rw [upd_same, List.map_map]; rfl
      generalize upd H6 t (.tup (zs.map fun z => .int (hdf c sr fl (begin sr st) ws i z))) = H7 at e7 ht7
      have e57 := e5.trans (e6.trans e7)
      have hh7 := e57 _ _ hh
      have lhx := dp_len dh
      have lsx := dp_len ds
      simp only [List.length_map, List.length_range] at lhx lsx
      refine ⟨hL, hx, .ref t, rfl, rfl, hh7, Nat.lt_of_le_of_lt (show _ ≤ 1000 by omega) (by decide), ?_⟩
      have dh8 : DpAll K (upd H7 hL (.lst (hx ++ [.ref t]))) (hx ++ [.ref t]) (((List.range (i + 1)).map fun j => zs.map (hdf c sr fl (begin sr st) ws j)).map bitsD) := by
        rw [List.range_succ, List.map_append, List.map_append]
        exact dpAll_snoc (rows_upd hh7 (dpAll_ex e57 dh)) (t_dp (ExT.upd hh7) (noL_bits _) (dp_bits (st_of ht7)))
      have dL : d ≠ hL := fun q => by rw [q, e5 _ _ hh] at hd; cases hd
      have ds8 : DpAll K (upd H7 hL (.lst (hx ++ [.ref t]))) sx (((List.range (i + 1)).map (sta c sr fl (begin sr st) ws)).map bitsD) := rows_upd hh7 (dpAll_ex e57 ds)
      have hh8 : (upd H7 hL (.lst (hx ++ [.ref t]))) hL = some (.lst (hx ++ [.ref t])) := upd_same
      have hs8 : (upd H7 hL (.lst (hx ++ [.ref t]))) sL = some (.lst sx) := by rw [upd_ne sh]; exact e57 _ _ hs
      have hd8 : (upd H7 hL (.lst (hx ++ [.ref t]))) d = some (.dK kvs) := by rw [upd_ne dL]; exact (e6.trans e7) _ _ hd
      have x8 : Ex H2 (upd H7 hL (.lst (hx ++ [.ref t]))) := (e.trans e57).mut nhL
      generalize upd H7 hL (.lst (hx ++ [.ref t])) = H8 at dh8 ds8 hh8 hs8 hd8 x8
      refine ⟨_, rfl, _, rfl, p, d, c, sr, _, rfl, hc.ex (x2.trans x8), good, hrg, ⟨kvs, hd8, hf⟩, fun t2 H9 e9 nt2 ht2 => ?_⟩
      rw [← hn.2, ← hn.1] at ht2
      have hs9 := e9 _ _ hs8
      have dt9 : Dp K H9 (.ref t2) (bitsD (sta c sr fl (begin sr st) ws (i + 1))) := dp_bits (st_of ht2)
      refine ⟨_, rfl, .inl ⟨rfl, _, SqL.of hs9⟩, _, rfl, sL, sx, .ref t2, rfl, rfl, hs9, Nat.lt_of_le_of_lt (show _ ≤ 1000 by omega) (by decide), ?_⟩
      have x10 : Ex H2 (upd H9 sL (.lst (sx ++ [.ref t2]))) := (x8.trans e9).mut nsL2
      refine ⟨⟨_, _, _, rfl, t_dp (ExT.upd hs9) (noL_bits _) dt9⟩, x10, ⟨_, ?_, rows_upd hs9 (dpAll_ex e9 dh8)⟩, ⟨_, upd_same, ?_⟩⟩
      · rw [upd_ne (Ne.symm sh)]
        exact e9 _ _ hh8
      · rw [List.range_succ, List.map_append, List.map_append]
        exact dpAll_snoc (rows_upd hs9 (dpAll_ex e9 ds8)) (t_dp (ExT.upd hs9) (noL_bits _) dt9)
    · obtain ⟨⟨nv, u9, u10, rfl, dn⟩, e, ⟨hx, hh, dh⟩, ⟨sx, hs, ds⟩⟩ := q
      rw [lxs] at dh ds
      refine ⟨_, rfl, _, rfl, (by show 2 ≤ sizeLine; decide), fun t nt => ?_⟩
      have e3 : Ex Hc (upd Hc t (.tup [.ref hL, .ref sL])) := Ex.new nt
      exact k t hL sL _ ⟨(x2.trans e).trans e3, ex_none (x2.trans e) nt, ex_none x2 nhL, ex_none x2 nsL2, Ne.symm sh, upd_same, ⟨hx, e3 _ _ hh, dpAll_ex e3 dh⟩, ⟨sx, e3 _ _ hs, dpAll_ex e3 ds⟩⟩
end
end W

set_option Elab.async false
set_option linter.all false
set_option maxRecDepth 100000
set_option maxHeartbeats 16000000
namespace W
open PySem PySem.Spec PyProof.Rows L2 Evl G C
section
variable {P : Program} {w : World} {K : PySem.W.Frag} {mg : Str → Option Value} {base : Heap} {C : Addr}
/-- a circuit, a state, a letter, a fault -/
structure Spot (K : PySem.W.Frag) (C : Addr) (H : Hp) (p : Addr) (y x z : V) (c : Cir) (sr : List Rg) (st le : List Int) (fl : Flt) : Prop where
  hc : CirAt K C H p c
  good : Good c
  hrg : RgOf c sr
  hy : Dp K H y (bitsD st)
  oky : BitsOk c.regs.length st
  hx : Dp K H x (bitsD le)
  okx : BitsOk c.ins.length le
  hz : Dp K H z (fltD fl)
  okf : FltOk c fl
theorem Spot.ex {H H' : Hp} {p : Addr} {y x z : V} {c : Cir} {sr : List Rg} {st le : List Int} {fl : Flt} (h : Spot K C H p y x z c sr st le fl) (e : Ex H H') : Spot K C H' p y x z c sr st le fl :=
  ⟨h.hc.ex e, h.good, h.hrg, dp_ex e h.hy, h.oky, dp_ex e h.hx, h.okx, dp_ex e h.hz, h.okf⟩
def valK (zs : List Str) (f : Str → Int) : List (Key × V) := zs.map fun z => (Sum.inr z, .int (f z))
def spVals (K : PySem.W.Frag) (C : Addr) : Sp := fun vs H Q _ => ∃ (p : Addr) (y x z : V) (c : Cir) (sr : List Rg) (st le : List Int) (fl : Flt), vs = [.ref p, y, x, z] ∧ Spot K C H p y x z c sr st le fl ∧
  ∀ zs, zs.Perm (names c) → sortedS zs = true → ∀ d H', Ex H H' → H d = none → H' d = some (.dK (valK zs (val c sr st le fl))) → Q (.ref d) H'
def spStepF (K : PySem.W.Frag) (C : Addr) : Sp := fun vs H Q _ => ∃ (p : Addr) (y x z : V) (c : Cir) (sr : List Rg) (st le : List Int) (fl : Flt), vs = [.ref p, y, x, z] ∧ Spot K C H p y x z c sr st le fl ∧
  ∀ t H', Ex H H' → Dp K H' t (.tuple [bitsD (c.outs.map (val c sr st le fl)), bitsD (nxt sr (val c sr st le fl))]) → Q t H'
end
end W

set_option Elab.async false
set_option linter.all false
set_option maxRecDepth 100000
set_option maxHeartbeats 16000000
namespace W
open PySem PySem.Spec PyProof.Rows L2 Evl G C
section
variable {P : Program} {w : World} {K : PySem.W.Frag} {mg : Str → Option Value} {base : Heap} {C : Addr}
/-- a circuit, a word, a state or none, a fault -/
structure Run (K : PySem.W.Frag) (C : Addr) (H : Hp) (p : Addr) (x y z : V) (c : Cir) (sr : List Rg) (ws : List (List Int)) (st : Option (List Int)) (fl : Flt) : Prop where
  hc : CirAt K C H p c
  good : Good c
  hrg : RgOf c sr
  hx : Dp K H x (wordL ws) ∨ Dp K H x (wordT ws)
  okx : ∀ w ∈ ws, BitsOk c.ins.length w
  lw : ws.length ≤ 500
  hy : Dp K H y (stD st)
  oky : ∀ bs, st = some bs → BitsOk c.regs.length bs
  hz : Dp K H z (fltD fl)
  okf : FltOk c fl
theorem Run.ex {H H' : Hp} {p : Addr} {x y z : V} {c : Cir} {sr : List Rg} {ws : List (List Int)} {st : Option (List Int)} {fl : Flt} (h : Run K C H p x y z c sr ws st fl) (e : Ex H H') : Run K C H' p x y z c sr ws st fl :=
  ⟨h.hc.ex e, h.good, h.hrg, h.hx.imp (dp_ex e) (dp_ex e), h.okx, h.lw, dp_ex e h.hy, h.oky, dp_ex e h.hz, h.okf⟩
/-- a new list of rows of bits -/
structure NewRows (K : PySem.W.Frag) (H H' : Hp) (l : Addr) (bs : List (List Int)) : Prop where
  ex : Ex H H'
  new : H l = none
  at_ : ∃ xs, H' l = some (.lst xs) ∧ DpAll K H' xs (bs.map bitsD)
def spAns (K : PySem.W.Frag) (C : Addr) : Sp := fun vs H Q _ => ∃ (p : Addr) (x y z : V) (c : Cir) (sr : List Rg) (ws : List (List Int)) (st : Option (List Int)) (fl : Flt), vs = [.ref p, x, y, z] ∧ Run K C H p x y z c sr ws st fl ∧
  ∀ l H', NewRows K H H' l (heard c sr fl (begin sr st) ws c.outs) → Q (.ref l) H'
def spStates (K : PySem.W.Frag) (C : Addr) : Sp := fun vs H Q _ => ∃ (p : Addr) (x y z : V) (c : Cir) (sr : List Rg) (ws : List (List Int)) (st : Option (List Int)) (fl : Flt), vs = [.ref p, x, y, z] ∧ Run K C H p x y z c sr ws st fl ∧
  ∀ l H', NewRows K H H' l (states c sr fl (begin sr st) ws) → Q (.ref l) H'
noncomputable def line (c : Cir) (sr : List Rg) (fl : Flt) (st : List Int) (ws : List (List Int)) (t : Str) : List Int := (List.range ws.length).map fun i => hdf c sr fl st ws i t
def spTold (K : PySem.W.Frag) (C : Addr) : Sp := fun vs H Q _ => ∃ (p : Addr) (t : Str) (x y z : V) (c : Cir) (sr : List Rg) (ws : List (List Int)) (st : Option (List Int)) (fl : Flt), vs = [.ref p, .str t, x, y, z] ∧ t ∈ names c ∧ Run K C H p x y z c sr ws st fl ∧
  ∀ l H', Ex H H' → H l = none → H' l = some (.lst ((line c sr fl (begin sr st) ws t).map V.int)) → Q (.ref l) H'
abbrev nAns : List Str := ["circuit", "word", "state", "stuck", "heard", "_"]
theorem scAns : FnScope nAns ["circuit", "word", "state", "stuck"] (defScope dAnswer) := ⟨rfl, rfl, rfl, by decide +kernel, rfl, by decide +kernel, by decide +kernel⟩
theorem okAns {f : Addr} {fd : FuncData} (F : AtD K mg "answer" dAnswer [.non, .non] ["circuit", "word", "state", "stuck"] f fd) (T : Txt K mg) (CT : CirT K mg C) (DT : DicT K w mg) : FnOk P w K mg base CX0 7 f fd ["circuit", "word", "state", "stuck"] (spAns K C) := by
  obtain ⟨fC, gC, FC⟩ := T.cCourse
  obtain ⟨fU, gU, FU⟩ := T.course
  obtain ⟨fO, gO, FO⟩ := CT.outputs
  have GC : FnOk P w K mg base CX0 6 fC gC ["circuit", "word", "state", "stuck"] (spCourse K C) := okCCourse FC T CT
  have GU : FnOk P w K mg base CX0 6 fU gU ["circuit", "wires", "word", "state", "stuck"] (spCourseF K C) := okCourse FU T CT DT
  have GO : FnOk P w K mg base CX0 6 fO gO ["self"] (spM (α := Nat) K C (newTx Cir.outs)) := (okOutputs FO T CT).mono (by decide)
  refine F.fn.ok scAns (fun vs H Q E h => ?_) (fun cdv A outer s H vs Q E hr h => ?_)
  · obtain ⟨p, x, y, z, c, sr, ws, st, fl, rfl, _⟩ := h
    rfl
  · obtain ⟨p, x, y, z, c, sr, ws, st, fl, rfl, sp, k⟩ := h
    have nds := scAns.nd
    refine ⟨_, pss_cons (ps_expr (pe_call GC hr (by rfl) FC.gl FC.fn.kp FC.bi .nil pass0 (pa_cons (pv 0) (pa_cons (pv 1) (pa_cons (pv 2) (pa_cons (pv 3) pa_nil))))))
      (pss_cons (ps_asg (pe_call GU hr (by rfl) FU.gl FU.fn.kp FU.bi .nil pass0 (pa_cons (pv 0) (pa_cons (pe_meth0 (pv 0) CT.cl FO.me GO hr FO.bi .nil pass0) (pa_cons (pv 1) (pa_cons (pv 2) (pa_cons (pv 3) pa_nil)))))) (pg_tup rfl (pgs_cons (pg_name (i := 4) nds rfl (Or.inl rfl)) (pgs_cons (pg_name (i := 5) nds rfl (Or.inl rfl)) pgs_nil))))
      (pss_one (ps_ret (pv 4)))), ?_⟩
    refine ⟨_, rfl, _, rfl, _, rfl, _, rfl, p, x, y, z, c, ws, st, fl, rfl, sp.hc, sp.good, sp.hx, sp.okx, sp.lw, sp.hy, sp.oky, sp.hz, sp.okf, fun H1 e1 => ?_⟩
    have s1 := sp.ex e1
    obtain ⟨dx, a1, a2, a3, a4, D5, D6, L7, sg, sr', sq, h1, _⟩ := id s1.hc
    refine ⟨_, rfl, _, rfl, p, dx, _, rfl, h1, rfl, p, c, rfl, s1.hc, s1.good, fun l H2 e2 nl hl => ?_⟩
    have s2 := s1.ex e2
    have lo := sp.good.lo
    refine ⟨_, rfl, _, rfl, _, rfl, p, l, x, y, z, c, sr, c.outs, ws, st, fl, rfl, s2.hc, s2.good, s2.hrg, SqL.of hl, sp.good.out, by omega, s2.hx, s2.okx, s2.lw, s2.hy, s2.oky, s2.hz, s2.okf, fun t l1 l2 H3 tw => ?_⟩
    exact ⟨t, _, rfl, st_of tw.at_, rfl, _, _, rfl, _, _, rfl, rfl, _, rfl, k l1 H3 ⟨(e1.trans e2).trans tw.ex, ex_none (e1.trans e2) tw.n1, tw.d1⟩⟩
end
end W

set_option Elab.async false
set_option linter.all false
set_option maxRecDepth 100000
set_option maxHeartbeats 16000000
namespace W
open PySem PySem.Spec PyProof.Rows L2 Evl G C
/-- a pot stands at p -/
def Pot (H : Hp) (p : Addr) : Prop := ∃ a b : Int, H p = some (.lst [.int a, .int b]) ∧ 0 ≤ a ∧ 0 ≤ b ∧ b < 4294967296
theorem Pot.ex {H H' : Hp} {p : Addr} (h : Pot H p) (e : Ex H H') : Pot H' p := by
  obtain ⟨a, b, h, r⟩ := h
  exact ⟨a, b, e _ _ h, r⟩
def spPot (K : PySem.W.Frag) : Sp := fun vs H Q _ => ∃ (a : Addr) (ns : List Int) (k : Int), vs = [.ref a, .int k] ∧ 0 ≤ k ∧ k ≤ 2 ∧ SqL K H a (ns.map V.int) ∧ ns.length ≤ 1000 ∧ ∀ p H', H p = none → Ex H H' → Pot H' p → Q (.ref p) H'
def spDraw : Sp := fun vs H Q _ => ∃ (p : Addr) (m : Int), vs = [.ref p, .int m] ∧ Pot H p ∧ 0 < m ∧ m ≤ 1000 ∧ ∀ (r : Int) (H' : Hp), 0 ≤ r → r < m → ExBut p H H' → Pot H' p → Q (.int r) H'
section
variable {P : Program} {w : World} {K : PySem.W.Frag} {mg : Str → Option Value} {base : Heap}
theorem scPot : FnScope ["_law_script", "_law_k", "_law_cell"] ["_law_script", "_law_k"] (defScope dPot) := ⟨rfl, rfl, rfl, by decide +kernel, rfl, by decide +kernel, by decide +kernel⟩
theorem okPot {f : Addr} {fd : FuncData} (F : At K mg "_law_pot" dPot ["_law_script", "_law_k"] f fd) (T : Txt K mg) : FnOk P w K mg base CX0 1 f fd ["_law_script", "_law_k"] (spPot K) := by
  refine F.fn.ok scPot (fun vs H Q E h => ?_) (fun cdv A outer s H vs Q E hr h => ?_)
  · obtain ⟨x, d, k, rfl, _⟩ := h
    rfl
  · obtain ⟨a, ns, k, rfl, k0, k2, hs, hl, kk⟩ := h
    have cell : ∀ c : Int, ∀ p, H p = none → Q (.ref p) (upd H p (.lst [.int (if c - 10 ^ (18 : Int).toNat > 0 then c - 10 ^ (18 : Int).toNat else 0), .int ((c % 2147483549 + 47) * (2 * k + 5) ^ (3 : Int).toNat % 2147483579 + 1)])) := by
      intro c p hp
      refine kk p _ hp (Ex.new hp) ⟨_, _, upd_same, ?_, ?_, ?_⟩
      · by_cases q : c - 10 ^ (18 : Int).toNat > 0
        · rw [if_pos q]; omega
        · rw [if_neg q]; omega
      · have := Int.emod_nonneg ((c % 2147483549 + 47) * (2 * k + 5) ^ (3 : Int).toNat) (show (2147483579 : Int) ≠ 0 by decide)
        omega
      · have := Int.emod_lt_of_pos ((c % 2147483549 + 47) * (2 * k + 5) ^ (3 : Int).toNat) (show (0 : Int) < 2147483579 by decide)
        omega
    refine ⟨_, pss_cons (ps_set (i := 2) scPot.nd rfl (Or.inl rfl) (pe_op op_add (pe_op op_mul pe_int (pv 1)) pe_int))
      (pss_cons (ps_if (pt_cmpR op_lt (pv 1) (pe_callB call_len_seq (by rfl) T.len PySem.boot_len (pa_cons (pv 0) pa_nil)) (nomark _))
          (pss_one (ps_set (i := 2) scPot.nd rfl (Or.inl rfl) (pe_callB call_abs (by rfl) T.abs (by decide +kernel) (pa_cons (pe_ix ix_list (pv 0) (pv 1) (fun _ _ => rfl)) pa_nil)))) pss_nil)
      (pss_one (ps_ret (pe_lst (pa_cons (pe_callB (call_max2 rfl) (by rfl) T.max (by decide +kernel) (pa_cons pe_int (pa_cons (pe_op op_sub (pv 2) (pe_op op_pow pe_int pe_int)) pa_nil)))
        (pa_cons (pe_op op_add (pe_op op_mod (pe_op op_mul (pe_callTy call_int1 (by rfl) T.int (by decide +kernel) (pa_cons (pe_op op_add (pe_op op_mod (pe_callTy call_int1 (by rfl) T.int (by decide +kernel) (pa_cons (pv 2) pa_nil)) pe_int) pe_int) pa_nil)) (pe_op op_pow (pe_op op_add (pe_op op_mul pe_int (pv 1)) pe_int) pe_int)) pe_int) pe_int) pa_nil)))))), ?_⟩
    have pw : (2 * k + 5).natAbs < 2 ^ 64 := by omega
    refine ⟨_, rfl, _, _, rfl, rfl, .inl ⟨by decide, by decide⟩, _, _, rfl, rfl, ?_⟩
    refine ⟨_, rfl, _, rfl, a, _, rfl, .inl hs, _, _, rfl, rfl, _, rfl, ?_⟩
    by_cases c : k < (ns.length : Int)
    · have c1 : decide (k < ((ns.map V.int).length : Int)) = true := decide_eq_true (by rw [List.length_map]; exact c)
      show if decide (k < ((ns.map V.int).length : Int)) = true then _ else _
      rw [c1]
      obtain ⟨j, rfl⟩ : ∃ j : Nat, k = (j : Int) := ⟨k.toNat, by omega⟩
      have hj : j < ns.length := by omega
      have e1 : atI (ns.map V.int) (j : Int) = some (.int ns[j]) := atI_nat (by rw [List.getElem?_map, List.getElem?_eq_getElem hj]; rfl)
      refine iteT ⟨_, rfl, _, rfl, a, _, (j : Int), _, rfl, rfl, hs, e1, ns[j], rfl, ?_⟩
      exact ⟨_, rfl, _, _, rfl, rfl, ⟨by decide, by decide, by decide⟩, _, _, rfl, rfl, _, _, rfl, _, rfl, .inl ⟨_, rfl, _, _, rfl, rfl, (by show (0 : Int) < 2147483549; decide), _, _, rfl, rfl, .inl ⟨_, rfl, _, rfl, _, _, rfl, rfl, .inl ⟨by decide, by decide⟩, _, _, rfl, rfl,
        _, _, rfl, rfl, ⟨by decide, by decide, pw⟩, _, _, rfl, rfl, .inl ⟨by have := Int.emod_nonneg ((if ns[j] < 0 then -ns[j] else ns[j])) (show (2147483549 : Int) ≠ 0 by decide); omega, by have := Int.emod_lt_of_pos ((if ns[j] < 0 then -ns[j] else ns[j])) (show (0 : Int) < 2147483549 by decide); omega⟩,
        _, _, rfl, rfl, (by show (0 : Int) < 2147483579; decide), _, _, rfl, rfl, (by show 2 ≤ sizeLine; decide), fun p hp => cell _ p hp⟩⟩⟩
    · have c1 : decide (k < ((ns.map V.int).length : Int)) = false := decide_eq_false (by rw [List.length_map]; exact c)
      show if decide (k < ((ns.map V.int).length : Int)) = true then _ else _
      rw [c1]
      refine iteF ?_
      exact ⟨_, rfl, _, _, rfl, rfl, ⟨by decide, by decide, by decide⟩, _, _, rfl, rfl, _, _, rfl, _, rfl, .inl ⟨_, rfl, _, _, rfl, rfl, (by show (0 : Int) < 2147483549; decide), _, _, rfl, rfl, .inl ⟨_, rfl, _, rfl, _, _, rfl, rfl, .inl ⟨by decide, by decide⟩, _, _, rfl, rfl,
        _, _, rfl, rfl, ⟨by decide, by decide, pw⟩, _, _, rfl, rfl, .inl ⟨by have := Int.emod_nonneg (101 * k + 47) (show (2147483549 : Int) ≠ 0 by decide); omega, by have := Int.emod_lt_of_pos (101 * k + 47) (show (0 : Int) < 2147483549 by decide); omega⟩,
        _, _, rfl, rfl, (by show (0 : Int) < 2147483579; decide), _, _, rfl, rfl, (by show 2 ≤ sizeLine; decide), fun p hp => cell _ p hp⟩⟩⟩
theorem scDraw : FnScope ["_law_pot_here", "_law_faces", "_law_digit"] ["_law_pot_here", "_law_faces"] (defScope dDraw) := ⟨rfl, rfl, rfl, by decide +kernel, rfl, by decide +kernel, by decide +kernel⟩
theorem okDraw {f : Addr} {fd : FuncData} (F : At K mg "_law_draw" dDraw ["_law_pot_here", "_law_faces"] f fd) (T : Txt K mg) : FnOk P w K mg base CX0 1 f fd ["_law_pot_here", "_law_faces"] spDraw := by
  refine F.fn.ok scDraw (fun vs H Q E h => ?_) (fun cdv A outer s H vs Q E hr h => ?_)
  · obtain ⟨x, d, rfl, _⟩ := h
    rfl
  · obtain ⟨p, m, rfl, ⟨a, b, hp, ha, hb, hb2⟩, hm, hm2, k⟩ := h
    refine ⟨_, pss_cons (ps_if (pt_cmpR op_gt (pe_ix ix_list (pv 0) pe_int (fun _ _ => rfl)) pe_int (nomark _))
        (pss_cons (ps_asg (pe_callB call_divmod (by rfl) T.divmod (by decide +kernel) (pa_cons (pe_ix ix_list (pv 0) pe_int (fun _ _ => rfl)) (pa_cons (pv 1) pa_nil)))
            (pg_tup rfl (pgs_cons (pg_sub (pv 0) pe_int set_list) (pgs_cons (pg_name (i := 2) scDraw.nd rfl (.inl rfl)) pgs_nil))))
          (pss_one (ps_ret (pv 2)))) pss_nil)
      (pss_cons (ps_asg (pe_op op_mod (pe_callTy call_int1 (by rfl) T.int (by decide +kernel) (pa_cons (pe_op op_add (pe_op op_mul (pe_ix ix_list (pv 0) pe_int (fun _ _ => rfl)) pe_int) pe_int) pa_nil)) pe_int) (pg_sub (pv 0) pe_int set_list))
      (pss_one (ps_ret (pe_op op_mod (pe_callTy call_int1 (by rfl) T.int (by decide +kernel) (pa_cons (pe_op op_fdiv (pe_op op_mod (pe_callTy call_int1 (by rfl) T.int (by decide +kernel) (pa_cons (pe_op op_mul (pe_ix ix_list (pv 0) pe_int (fun _ _ => rfl)) (pe_ix ix_list (pv 0) pe_int (fun _ _ => rfl))) pa_nil)) pe_int) pe_int) pa_nil)) (pv 1))))), ?_⟩
    have hS : SqL K H p [.int a, .int b] := SqL.of hp
    refine ⟨_, rfl, p, _, _, .int a, rfl, rfl, hS, atI_nat (j := 0) rfl, _, _, rfl, rfl, _, rfl, ?_⟩
    by_cases c : (0 : Int) < a
    · have c1 : decide ((0 : Int) < a) = true := decide_eq_true c
      show if decide ((0 : Int) < a) = true then _ else _
      rw [c1]
      refine iteT ⟨_, rfl, p, _, _, .int a, rfl, rfl, hS, atI_nat (j := 0) rfl, _, rfl, a, m, rfl, ⟨hm, by omega⟩, fun t ht => ?_⟩
      have npt : p ≠ t := ne_of_none hp ht
      have e1 : (upd H t (.tup [.int (a / m), .int (a % m)])) p = some (.lst [.int a, .int b]) := by rw [upd_ne npt]; exact hp
      refine ⟨t, _, rfl, .inl (.inl upd_same), rfl, _, _, rfl, _, rfl, p, _, _, 0, rfl, rfl, e1, rfl, _, _, rfl, rfl, _, rfl, ?_⟩
      refine k (a % m) _ (Int.emod_nonneg _ (by omega)) (Int.emod_lt_of_pos _ hm) (fun x o e n => ?_) ⟨a / m, b, upd_same, ?_, hb, hb2⟩
      · rw [upd_ne n, upd_ne (ne_of_none e ht)]
        exact e
      · exact Int.ediv_nonneg ha (by omega)
    · have c1 : decide ((0 : Int) < a) = false := decide_eq_false c
      show if decide ((0 : Int) < a) = true then _ else _
      rw [c1]
      refine iteF ⟨_, rfl, p, _, _, .int b, rfl, rfl, hS, atI_nat (j := 1) rfl, _, _, rfl, rfl, .inr ⟨by decide, by decide⟩, _, _, rfl, rfl, .inl ⟨_, rfl, _, _, rfl, rfl, (by show (0 : Int) < 2147483543; decide), _, rfl, p, _, _, 1, rfl, rfl, hp, rfl, ?_⟩⟩
      have b0 := Int.emod_nonneg (b * 39979 + 15083) (show (2147483543 : Int) ≠ 0 by decide)
      have b1 := Int.emod_lt_of_pos (b * 39979 + 15083) (show (0 : Int) < 2147483543 by decide)
      have hS2 : SqL K (upd H p (.lst [.int a, .int ((b * 39979 + 15083) % 2147483543)])) p [.int a, .int ((b * 39979 + 15083) % 2147483543)] := SqL.of upd_same
      refine ⟨_, rfl, p, _, _, .int ((b * 39979 + 15083) % 2147483543), rfl, rfl, hS2, atI_nat (j := 1) rfl, _, rfl, p, _, _, .int ((b * 39979 + 15083) % 2147483543), rfl, rfl, hS2, atI_nat (j := 1) rfl, _, _, rfl, rfl, .inl ⟨by omega, by omega⟩,
        .inl ⟨_, rfl, _, _, rfl, rfl, (by show (0 : Int) < 2147483587; decide), _, _, rfl, rfl, ⟨by decide, by decide⟩, .inl ⟨_, rfl, _, rfl, _, _, rfl, rfl, hm, ?_⟩⟩⟩
      exact k _ _ (Int.emod_nonneg _ (by omega)) (Int.emod_lt_of_pos _ hm) ExBut.upd ⟨a, _, upd_same, ha, b0, by omega⟩
end
end W

set_option Elab.async false
set_option linter.all false
set_option maxRecDepth 100000
set_option maxHeartbeats 16000000
namespace W
open PySem PySem.Spec PyProof.Rows L2 Evl G C
def kindsM : List (Key × V) := [(.inr "low", .int 0), (.inr "high", .int 0), (.inr "not", .int 1), (.inr "and", .int 2), (.inr "or", .int 2), (.inr "xor", .int 2), (.inr "pick", .int 3)]
theorem kindsM_hit {k : Str} {n : Nat} (h : kindsL.lookup k = some n) : valV (mergeK [] kindsM) (Sum.inr k) = some (.int (n : Int)) := by
  rcases kinds_cases h with ⟨rfl, rfl⟩ | ⟨rfl, rfl⟩ | ⟨rfl, rfl⟩ | ⟨rfl, rfl⟩ | ⟨rfl, rfl⟩ | ⟨rfl, rfl⟩ | ⟨rfl, rfl⟩ <;> kernel_rfl
def spSize : Sp := fun vs H Q _ => ∃ (k : Str) (n : Nat), vs = [.str k] ∧ kindsL.lookup k = some n ∧ ∀ H', Ex H H' → Q (.int (n : Int)) H'
def spPickL (K : PySem.W.Frag) : Sp := fun vs H Q _ => ∃ (p l : Addr) (xs : List V), vs = [.ref p, .ref l] ∧ Pot H p ∧ SqL K H l xs ∧ l ≠ p ∧ xs ≠ [] ∧ xs.length ≤ 100 ∧ ∀ v H', v ∈ xs → ExBut p H H' → Pot H' p → Q v H'
section
variable {P : Program} {w : World} {K : PySem.W.Frag} {mg : Str → Option Value} {base : Heap}
theorem scPickL : FnScope ["_law_pot_here", "_law_things"] ["_law_pot_here", "_law_things"] (defScope dPick) := ⟨rfl, rfl, rfl, by decide +kernel, rfl, by decide +kernel, by decide +kernel⟩
theorem but_l {p a : Addr} {H H' : Hp} {xs : List V} (e : ExBut p H H') (n : a ≠ p) (h : SqL K H a xs) : SqL K H' a xs := by
  rcases h with (h | ⟨o, h⟩) | h
  · exact .inl (.inl (e _ _ h n))
  · exact .inl (.inr ⟨o, e _ _ h n⟩)
  · exact .inr h
theorem okPickL {f : Addr} {fd : FuncData} (F : At K mg "_law_pick" dPick ["_law_pot_here", "_law_things"] f fd) (T : Txt K mg) : FnOk P w K mg base CX0 2 f fd ["_law_pot_here", "_law_things"] (spPickL K) := by
  obtain ⟨fB, fdB, FB⟩ := T.draw
  have GB : FnOk P w K mg base CX0 1 fB fdB ["_law_pot_here", "_law_faces"] spDraw := okDraw FB T
  refine F.fn.ok scPickL (fun vs H Q E h => ?_) (fun cdv A outer s H vs Q E hr h => ?_)
  · obtain ⟨p, l, xs, rfl, _⟩ := h
    rfl
  · obtain ⟨p, l, xs, rfl, hp, hl, lp, ne, few, k⟩ := h
    refine ⟨_, pss_one (ps_ret (pe_ix ix_list (pv 1) (pe_call GB hr (by rfl) FB.gl FB.fn.kp FB.bi .nil pass0 (pa_cons (pv 0) (pa_cons (pe_callB call_len_seq (by rfl) T.len PySem.boot_len (pa_cons (pv 1) pa_nil)) pa_nil))) (fun _ _ => rfl))), ?_⟩
    have pos : 0 < xs.length := List.length_pos_iff.mpr ne
    refine ⟨_, rfl, _, rfl, _, rfl, l, _, rfl, .inl hl, p, _, rfl, hp, by omega, by omega, fun r H' r0 r1 e hp' => ?_⟩
    obtain ⟨j, rfl⟩ := Int.eq_ofNat_of_zero_le r0
    have hi : j < xs.length := by omega
    exact ⟨l, xs, (j : Int), xs[j], rfl, rfl, but_l e lp hl, atI_nat (by simp [hi]), k _ H' (List.getElem_mem hi) e hp'⟩
end
end W

set_option Elab.async false
set_option linter.all false
set_option maxRecDepth 100000
set_option maxHeartbeats 16000000
namespace W
open PySem PySem.Spec PyProof.Rows L2 Evl G C
/-! ### data that no pot is part of -/
def notI : PyData → Bool | .int _ => false | _ => true
mutual
def npD : PyData → Bool
  | .list ds => ds.all notI && npDs ds
  | .tuple ds => npDs ds
  | _ => true
def npDs : List PyData → Bool
  | [] => true
  | d :: ds => npD d && npDs ds
end
section
variable {K : PySem.W.Frag} {H H' : Hp} {p : Addr}
theorem dpAll_all {q : PyData → Bool} {xs : List V} {ds : List PyData} (h : DpAll K H xs ds) (n : xs.length = 2) (a : ds.all notI = true) (i j : Int) : xs ≠ [.int i, .int j] := by
  rintro rfl
  cases h with
  | cons h1 _ =>
    cases h1
    simp [notI] at a
mutual
theorem p_dp (hp : Pot H p) (e : ExBut p H H') : ∀ {d : PyData} {x : V}, npD d = true → Dp K H x d → Dp K H' x d
  | .none, _, _, h => by cases h; exact .non
  | .bool b, _, _, h => by cases h; exact .bl b
  | .int i, _, _, h => by cases h; exact .int i
  | .str z, _, _, h => by cases h; exact .str z
  | .list ds, _, n, h => by
    cases h with
    | @lst a xs _ hs ha =>
      have n : (ds.all notI && npDs ds) = true := n
      rw [Bool.and_eq_true] at n
      refine .lst ?_ (p_dpAll hp e n.2 ha)
      obtain ⟨i, j, h0, _⟩ := hp
      have ne : ∀ i j : Int, xs ≠ [.int i, .int j] := fun i j q => by
        subst q
        cases ha with
        | cons h1 _ =>
          cases h1
          simp [notI] at n
      rcases hs with (hs | ⟨o, hs⟩) | hs
      · refine .inl (.inl (e _ _ hs fun q => ?_))
        rw [q, h0] at hs
        cases hs
        exact ne i j rfl
      · refine .inl (.inr ⟨o, e _ _ hs fun q => ?_⟩)
        rw [q, h0] at hs
        cases hs
      · exact .inr hs
  | .tuple ds, _, n, h => by
    cases h with
    | @tup a xs _ hs ha =>
      refine .tup ?_ (p_dpAll hp e n ha)
      obtain ⟨i, j, h0, _⟩ := hp
      rcases hs with (hs | ⟨o, hs⟩) | hs
      · refine .inl (.inl (e _ _ hs fun q => ?_))
        rw [q, h0] at hs
        cases hs
      · refine .inl (.inr ⟨o, e _ _ hs fun q => ?_⟩)
        rw [q, h0] at hs
        cases hs
      · exact .inr hs
  | .dict _, _, _, h => by cases h
theorem p_dpAll (hp : Pot H p) (e : ExBut p H H') : ∀ {ds : List PyData} {xs : List V}, npDs ds = true → DpAll K H xs ds → DpAll K H' xs ds
  | [], _, _, h => by cases h; exact .nil
  | d :: ds, _, n, h => by
    have n : (npD d && npDs ds) = true := n
    rw [Bool.and_eq_true] at n
    cases h with
    | cons a b => exact .cons (p_dp hp e n.1 a) (p_dpAll hp e n.2 b)
end
theorem npDs_map {α : Type} {f : α → PyData} (h : ∀ a, npD (f a) = true) : ∀ l : List α, npDs (l.map f) = true
  | [] => rfl
  | a :: l => by
    show (npD (f a) && npDs (l.map f)) = true
    rw [h a, npDs_map h l]
    rfl
theorem all_notI {α : Type} {f : α → PyData} (h : ∀ a, notI (f a) = true) (l : List α) : (l.map f).all notI = true := by
  rw [List.all_map, List.all_eq_true]
  exact fun a _ => h a
theorem np_list {α : Type} {f : α → PyData} (h : ∀ a, notI (f a) = true) (h2 : ∀ a, npD (f a) = true) (l : List α) : npD (.list (l.map f)) = true := by
  show ((l.map f).all notI && npDs (l.map f)) = true
  rw [all_notI h, npDs_map h2]
  rfl
theorem np_txt (zs : List Str) : npD (.list (txtD zs)) = true := np_list (fun _ => rfl) (fun _ => rfl) zs
theorem np_gate (g : Gt) : npD (gateD g) = true := by
  show (npD (.str g.1) && (npD (.str g.2.1) && (npD (.list (txtD g.2.2)) && true))) = true
  rw [np_txt]
  rfl
theorem np_bits (bs : List Int) : npD (bitsD bs) = true := npDs_map (fun _ => rfl) bs
theorem np_flt (fl : Flt) : npD (fltD fl) = true := by cases fl <;> rfl
theorem pot_ne {u : HO} {b : Addr} (hp : Pot H p) (h : H b = some u) (n : ∀ xs, u ≠ .lst xs) : b ≠ p := fun q => by
  obtain ⟨i, j, h0, _⟩ := hp
  rw [q, h0] at h
  exact n _ (Option.some.inj h).symm
end
/-! ### slices of texts -/
theorem cut_nat {zs : List Str} {i j : Nat} (hi : i ≤ j) (hj : j ≤ zs.length) : cutV (zs.map V.str) (some (i : Int)) (some (j : Int)) = ((zs.drop i).take (j - i)).map V.str := by
  unfold cutV HT.sIx
  have h1 : ¬ ((i : Int) < 0) := by omega
  have h2 : ¬ ((j : Int) < 0) := by omega
  simp only [h1, h2, if_false, List.length_map, Int.toNat_natCast]
  simp only [Nat.min_eq_left (show i ≤ zs.length by omega), Nat.min_eq_left hj]
  rw [List.map_take, List.map_drop]
theorem cut_to {zs : List Str} {j : Nat} (hj : j ≤ zs.length) : cutV (zs.map V.str) none (some (j : Int)) = (zs.take j).map V.str := by
  unfold cutV HT.sIx
  have h2 : ¬ ((j : Int) < 0) := by omega
  simp only [h2, if_false, List.length_map, Int.toNat_natCast]
  simp only [Nat.min_eq_left hj, List.map_take, Nat.sub_zero, List.drop_zero]
/-- the sixteen names -/
def TG : List Str := ["a", "b", "c1", "low", "and", "q", "z9", "step", "zz", "m", "x0", "s", "t8", "u", "v", "w"]
theorem tg_nd : TG.Nodup := by decide +kernel
theorem tg_ok : ∀ z ∈ TG, nameOk z := by
  have : TG.all (fun z => nameL z.cps.toList) = true := by decide +kernel
  exact fun z hz => List.all_eq_true.mp this z hz
theorem perm_str {ys : List V} {zs : List Str} (h : ys.Perm (zs.map V.str)) : ∃ ws : List Str, ys = ws.map V.str ∧ ws.Perm zs := by
  have all : ∀ y ∈ ys, ∃ z, y = V.str z := fun y hy => by
    obtain ⟨z, _, e⟩ := List.mem_map.mp (h.mem_iff.mp hy)
    exact ⟨z, e.symm⟩
  have q : ∃ ws : List Str, ys = ws.map V.str := by
    clear h
    induction ys with
    | nil => exact ⟨[], rfl⟩
    | cons y r ih =>
      obtain ⟨z, rfl⟩ := all y List.mem_cons_self
      obtain ⟨ws, rfl⟩ := ih fun y hy => all y (List.mem_cons_of_mem _ hy)
      exact ⟨z :: ws, rfl⟩
  obtain ⟨ws, rfl⟩ := q
  refine ⟨ws, rfl, ?_⟩
  have h2 := h.map (fun v : V => match v with | .str z => z | _ => "")
  rw [List.map_map, List.map_map] at h2
  have e : ((fun v : V => match v with | .str z => z | _ => "") ∘ V.str) = id := rfl
  rwa [e, List.map_id, List.map_id] at h2
end W

set_option Elab.async false
set_option linter.all false
set_option maxRecDepth 100000
set_option maxHeartbeats 16000000
namespace W
open PySem PySem.Spec PyProof.Rows L2 Evl G C
/-- what a plan draws from the sixteen names -/
structure Drawn (zs : List Str) (i r m : Nat) (gs : List Gt) (rs : List Rg) (os : List Str) : Prop where
  nd : zs.Nodup
  nok : ∀ z ∈ zs, nameOk z
  len : i + r + m ≤ zs.length
  li : i ≤ 8
  lr : r ≤ 3
  lm : m ≤ 9
  gn : gs.map (fun g => g.1) = (zs.drop (i + r)).take m
  gk : ∀ j g, gs[j]? = some g → kindsL.lookup g.2.1 = some g.2.2.length ∧ ∀ y ∈ g.2.2, y ∈ zs.take (i + r + j)
  rn : rs.map (fun r => r.1) = (zs.drop i).take r
  rk : ∀ x ∈ rs, isBt x.2.1 ∧ x.2.2 ∈ zs.take (i + r + m)
  on : ∀ z ∈ os, z ∈ zs.take (i + r + m)
  lo : os.length ≤ 8
def cirOf (zs : List Str) (i : Nat) (gs : List Gt) (rs : List Rg) (os : List Str) : Cir := ⟨zs.take i, gs, rs, os⟩
theorem take_idx {zs : List Str} {n : Nat} {y : Str} (h : y ∈ zs.take n) : zs.idxOf y < n := by
  induction zs generalizing n with
  | nil => simp at h
  | cons a l ih =>
    cases n with
    | zero => simp at h
    | succ n =>
      rw [List.take_succ_cons] at h
      rw [List.idxOf_cons]
      by_cases e : a = y
      · subst e
        simp
      · have e2 : (a == y) = false := by simpa using e
        rw [e2]
        rcases List.mem_cons.mp h with h | h
        · exact absurd h.symm e
        · have := ih h
          simp only [cond_false]
          omega
theorem idx_at {zs : List Str} (nd : zs.Nodup) {n : Nat} {y : Str} (h : zs[n]? = some y) : zs.idxOf y = n := by
  induction zs generalizing n with
  | nil => simp at h
  | cons a l ih =>
    obtain ⟨n1, n2⟩ := List.nodup_cons.mp nd
    rw [List.idxOf_cons]
    cases n with
    | zero =>
      simp at h
      subst h
      simp
    | succ n =>
      have h : l[n]? = some y := by simpa using h
      have e2 : (a == y) = false := by
        rw [beq_eq_false_iff_ne]
        exact fun e => n1 (e ▸ List.mem_of_getElem? h)
      rw [e2, ih n2 h]
      rfl
section
variable {zs : List Str} {i r m : Nat} {gs : List Gt} {rs : List Rg} {os : List Str}
theorem cut3 (zs : List Str) (i r m : Nat) : zs.take (i + r + m) = zs.take i ++ ((zs.drop i).take r ++ (zs.drop (i + r)).take m) := by
  rw [List.take_add (i := i + r) (j := m), List.take_add (i := i) (j := r), List.append_assoc]
theorem Drawn.names (D : Drawn zs i r m gs rs os) : (C.names (cirOf zs i gs rs os)).Perm (zs.take (i + r + m)) := by
  show (zs.take i ++ (gs.map (fun g => g.1) ++ rs.map (fun r => r.1))).Perm _
  rw [D.gn, D.rn, cut3]
  exact List.Perm.append_left _ List.perm_append_comm
theorem Drawn.glen (D : Drawn zs i r m gs rs os) : gs.length = m := by
  have := congrArg List.length D.gn
  rw [List.length_map, List.length_take, List.length_drop] at this
  have := D.len
  have := D.li
  have := D.lr
  have := D.lm
  omega
theorem Drawn.rlen (D : Drawn zs i r m gs rs os) : rs.length = r := by
  have := congrArg List.length D.rn
  rw [List.length_map, List.length_take, List.length_drop] at this
  have := D.len
  have := D.li
  have := D.lr
  omega
theorem Drawn.ok (D : Drawn zs i r m gs rs os) {z : Str} (h : z ∈ zs.take (i + r + m)) : nameOk z := D.nok z (List.mem_of_mem_take h)
theorem Drawn.sub (D : Drawn zs i r m gs rs os) {j : Nat} {g : Gt} (h : gs[j]? = some g) {y : Str} (hy : y ∈ g.2.2) : y ∈ zs.take (i + r + m) := by
  have q := (D.gk j g h).2 y hy
  have lt := (List.getElem?_eq_some_iff.mp h).1
  rw [D.glen] at lt
  exact List.take_subset_take_left zs (by omega) q
theorem Drawn.at_ (D : Drawn zs i r m gs rs os) {j : Nat} {g : Gt} (h : gs[j]? = some g) : zs[i + r + j]? = some g.1 := by
  have lt := (List.getElem?_eq_some_iff.mp h).1
  rw [D.glen] at lt
  have q : (gs.map fun g => g.1)[j]? = some g.1 := by rw [List.getElem?_map, h]; rfl
  rw [D.gn, List.getElem?_take, if_pos lt, List.getElem?_drop] at q
  exact q
theorem Drawn.good (D : Drawn zs i r m gs rs os) : Good (cirOf zs i gs rs os) := by
  have inn : ∀ {z : Str}, z ∈ zs.take (i + r + m) → z ∈ C.names (cirOf zs i gs rs os) := fun h => D.names.mem_iff.mpr h
  have mem : ∀ {z : Str}, z ∈ C.names (cirOf zs i gs rs os) → z ∈ zs.take (i + r + m) := fun h => D.names.mem_iff.mp h
  refine ⟨D.names.nodup_iff.mpr (D.nd.sublist (List.take_sublist _ _)), ?_, ?_, ?_, ?_, ?_, ?_, ?_, ?_, ?_, ?_, ?_⟩
  · exact fun z hz => D.ok (mem (names_in.mpr (.inl hz)))
  · intro g hg
    obtain ⟨j, hj⟩ := List.mem_iff_getElem?.mp hg
    exact ⟨D.ok (mem (names_in.mpr (.inr (.inl (List.mem_map.mpr ⟨g, hg, rfl⟩))))), (D.gk j g hj).1, fun z hz => D.ok (D.sub hj hz)⟩
  · intro x hx
    exact ⟨D.ok (mem (names_in.mpr (.inr (.inr (List.mem_map.mpr ⟨x, hx, rfl⟩))))), (D.rk x hx).1, D.ok (D.rk x hx).2⟩
  · intro g hg z hz
    obtain ⟨j, hj⟩ := List.mem_iff_getElem?.mp hg
    exact inn (D.sub hj hz)
  · exact fun x hx => inn (D.rk x hx).2
  · exact fun z hz => inn (D.on z hz)
  · refine ⟨zs.idxOf, fun q hq y hy _ => ?_⟩
    obtain ⟨g, hg, rfl⟩ := List.mem_map.mp hq
    obtain ⟨j, hj⟩ := List.mem_iff_getElem?.mp hg
    show zs.idxOf y < zs.idxOf g.1
    rw [idx_at D.nd (D.at_ hj)]
    exact take_idx ((D.gk j g hj).2 y hy)
  · show (zs.take i).length ≤ 8
    rw [List.length_take]
    have := D.li
    omega
  · show gs.length ≤ 40
    rw [D.glen]
    have := D.lm
    omega
  · show rs.length ≤ 8
    rw [D.rlen]
    have := D.lr
    omega
  · exact D.lo
theorem Drawn.plan (D : Drawn zs i r m gs rs os) : PlanOk (cirOf zs i gs rs os) gs := by
  refine ⟨.refl _, fun pre g post e y hy hk => ?_⟩
  have hj : gs[pre.length]? = some g := by rw [e]; simp
  have q := take_idx ((D.gk _ g hj).2 y hy)
  obtain ⟨g', hg', rfl⟩ := gate_at hk
  have hg' : g' ∈ gs := hg'
  obtain ⟨j', hj'⟩ := List.mem_iff_getElem?.mp hg'
  rw [idx_at D.nd (D.at_ hj')] at q
  have lt : j' < pre.length := by omega
  rw [e, List.getElem?_append_left lt] at hj'
  exact List.mem_map.mpr ⟨g', List.mem_of_getElem? hj', rfl⟩
end
def plK (l1 l2 l3 l4 : Addr) : List (Key × V) := [(.inr "ins", .ref l1), (.inr "nodes", .ref l2), (.inr "regs", .ref l3), (.inr "outs", .ref l4)]
/-- three lists of a plan -/
structure Three (K : PySem.W.Frag) (H : Hp) (l1 l2 l3 : Addr) (ins : List Str) (gs : List Gt) (rs : List Rg) : Prop where
  q1 : H l1 = some (.lst (ins.map V.str))
  q2 : ∃ xs, H l2 = some (.lst xs) ∧ DpAll K H xs (gs.map gateD)
  q3 : ∃ xs, H l3 = some (.lst xs) ∧ DpAll K H xs (rs.map regD)
section
variable {K : PySem.W.Frag} {H H' : Hp} {p d l1 l2 l3 : Addr} {ins : List Str} {gs : List Gt} {rs : List Rg}
theorem lst_ne {a : Addr} {xs : List V} {ds : List PyData} (hp : Pot H p) (h : H a = some (.lst xs)) (c : DpAll K H xs ds) (n : ds.all notI = true) : a ≠ p := fun q => by
  obtain ⟨i, j, h0, _⟩ := hp
  rw [q, h0] at h
  obtain rfl := HO.lst.inj (Option.some.inj h)
  cases c with
  | cons h1 _ =>
    cases h1
    simp [notI] at n
theorem strs_ne {a : Addr} {zs : List Str} (hp : Pot H p) (h : H a = some (.lst (zs.map V.str))) : a ≠ p := fun q => by
  obtain ⟨i, j, h0, _⟩ := hp
  rw [q, h0] at h
  have q3 := HO.lst.inj (Option.some.inj h)
  cases zs with
  | nil => cases q3
  | cons a r => cases q3
theorem Three.ex (h : Three K H l1 l2 l3 ins gs rs) (e : Ex H H') : Three K H' l1 l2 l3 ins gs rs := by
  obtain ⟨q1, ⟨x2, q2, d2⟩, ⟨x3, q3, d3⟩⟩ := h
  exact ⟨e _ _ q1, ⟨x2, e _ _ q2, dpAll_ex e d2⟩, ⟨x3, e _ _ q3, dpAll_ex e d3⟩⟩
theorem Three.but (h : Three K H l1 l2 l3 ins gs rs) (hp : Pot H p) (e : ExBut p H H') : Three K H' l1 l2 l3 ins gs rs := by
  obtain ⟨q1, ⟨x2, q2, d2⟩, ⟨x3, q3, d3⟩⟩ := h
  exact ⟨e _ _ q1 (strs_ne hp q1), ⟨x2, e _ _ q2 (lst_ne hp q2 d2 (all_notI (fun _ => rfl) _)), p_dpAll hp e (npDs_map np_gate _) d2⟩, ⟨x3, e _ _ q3 (lst_ne hp q3 d3 (all_notI (fun _ => rfl) _)), p_dpAll hp e (npDs_map (fun _ => rfl) _) d3⟩⟩
theorem Three.dk {kvs : List (Key × V)} (h : Three K H l1 l2 l3 ins gs rs) (e : ExBut d H H') (hd : H d = some (.dK kvs)) : Three K H' l1 l2 l3 ins gs rs := by
  obtain ⟨q1, ⟨x2, q2, d2⟩, ⟨x3, q3, d3⟩⟩ := h
  have ne : ∀ {a : Addr} {xs : List V}, H a = some (.lst xs) → a ≠ d := fun h q => by
    rw [q, hd] at h
    cases h
  exact ⟨e _ _ q1 (ne q1), ⟨x2, e _ _ q2 (ne q2), d_dpAll e hd d2⟩, ⟨x3, e _ _ q3 (ne q3), d_dpAll e hd d3⟩⟩
end
/-- a plan, as it stands -/
def PlanAt (K : PySem.W.Frag) (H : Hp) (d : Addr) (c : Cir) : Prop := ∃ l1 l2 l3 l4, H d = some (.dK (plK l1 l2 l3 l4)) ∧ Three K H l1 l2 l3 c.ins c.gates c.regs ∧ H l4 = some (.lst (c.outs.map V.str))
theorem PlanAt.ex {K : PySem.W.Frag} {H H' : Hp} {d : Addr} {c : Cir} (h : PlanAt K H d c) (e : Ex H H') : PlanAt K H' d c := by
  obtain ⟨l1, l2, l3, l4, h0, h1, h4⟩ := h
  exact ⟨l1, l2, l3, l4, e _ _ h0, h1.ex e, e _ _ h4⟩
theorem PlanAt.but {K : PySem.W.Frag} {H H' : Hp} {d p : Addr} {c : Cir} (h : PlanAt K H d c) (hp : Pot H p) (e : ExBut p H H') : PlanAt K H' d c := by
  obtain ⟨l1, l2, l3, l4, h0, h1, h4⟩ := h
  exact ⟨l1, l2, l3, l4, e _ _ h0 (pot_ne hp h0 fun _ q => by cases q), h1.but hp e, e _ _ h4 (strs_ne hp h4)⟩
theorem PlO.pot {L p : Addr} {H H' : Hp} {ts : List (Addr × Addr)} {gs : List Gt} (h : PlO L H ts gs) (hp : Pot H p) (e : ExBut p H H') : PlO L H' ts gs := Paired.mono (fun t g q => ⟨e _ _ q.1 (pot_ne hp q.1 fun _ z => by cases z), e _ _ q.2.1 (fun z => by
  obtain ⟨i, j, h0, _⟩ := hp
  have q2 := q.2.1
  rw [z, h0] at q2
  have q3 := Option.some.inj q2
  have q4 := HO.lst.inj q3
  cases hg : g.2.2 with
  | nil => rw [hg] at q4; cases q4
  | cons a r => rw [hg] at q4; cases q4), q.2.2.1, q.2.2.2⟩) h
/-- a comprehension that draws -/
theorem lc_draws {te : TE} {σ : L2.St} {j : Nat} {H : Hp} {D p : Addr} {n : Nat} {A : V → Prop} {Qd : Hp → Prop} (hn : n ≤ 1000) (hp : Pot H p) (nD : H D = none)
    (ht : ∀ (i : Nat) (Hx : Hp) (Q : VK), i < n → ExBut p H Hx → Pot Hx p → (∀ v H', A v → ExBut p Hx H' → Pot H' p → Q v H') → te ((wipe σ [j]).set j (some (.int ((0 : Int) + (i : Int))))) Hx Q)
    (hd : ∀ H' vs, ExBut p H H' → Pot H' p → H' D = some (.lst vs) → vs.length = n → (∀ v ∈ vs, A v) → Qd H') : LcG (Itr 0 n) j te σ H D Qd := by
  have pD : D ≠ p := fun q => by
    obtain ⟨x, y, z, _⟩ := hp
    rw [q, z] at nD
    cases nD
  refine lc_it (g := gName j) (tt := tYes) (te := te) (vs := [j]) (σ := σ) walk_range (fun i Hc => ExBut p H Hc ∧ Pot Hc p ∧ ∃ vs, Hc D = some (.lst vs) ∧ vs.length = i ∧ ∀ v ∈ vs, A v) ⟨ExBut.of (Ex.new nD), hp.ex (Ex.new nD), [], upd_same, rfl, fun v h => by cases h⟩ (fun i Hc _ _ => trivial) (fun i x Ha Hb hi q yy => ?_) (fun Hc q => ?_)
  · obtain ⟨rfl, rfl⟩ := yy
    obtain ⟨e, hpc, vs, hD, lv, av⟩ := q
    refine ⟨wipe_set σ j _, ?_⟩
    refine ht i Hb _ hi e hpc fun v H' hv e2 hp2 => ⟨vs, e2 _ _ hD pD, Nat.lt_of_le_of_lt (show _ ≤ 1000 by omega) (by decide), ?_, ?_, vs ++ [v], upd_same, by rw [List.length_append, lv]; rfl, fun y hy => ?_⟩
    · intro b o hb n
      rw [upd_ne (fun q => by rw [q, nD] at hb; cases hb)]
      exact e2 _ _ (e _ _ hb n) n
    · obtain ⟨x, y, z, w⟩ := hp2
      exact ⟨x, y, by rw [upd_ne (Ne.symm pD)]; exact z, w⟩
    · rcases List.mem_append.mp hy with hy | hy
      · exact av y hy
      · rw [List.mem_singleton.mp hy]
        exact hv
  · obtain ⟨e, hpc, vs, hD, lv, av⟩ := q
    exact hd Hc vs e hpc hD lv av
end W

set_option Elab.async false
set_option linter.all false
set_option maxRecDepth 100000
set_option maxHeartbeats 8000000
namespace W
open PySem PySem.Spec PyProof.Rows L2 Evl G C
/-- small data: what is shown of it is short -/
structure Wt (d : PyData) (n e : Nat) : Prop where
  lv : d.leavesShort 8 = true
  wt : d.weight ≤ n
  sh : d.showable = true
  dp : d.depth ≤ e
  cl : d.canLay0 = true
theorem Wt.mono {d : PyData} {n e n' e' : Nat} (h : Wt d n e) (a : n ≤ n') (b : e ≤ e') : Wt d n' e' := ⟨h.lv, Nat.le_trans h.wt a, h.sh, Nat.le_trans h.dp b, h.cl⟩
theorem Wt.len {d : PyData} {n e : Nat} (h : Wt d n e) (a : n ≤ 9000) : d.shown.length ≤ 100000 := by
  have := PyData.shown_le 8 (by decide) d h.lv
  have := h.wt
  omega
theorem Wt.shaped {d : PyData} {n e : Nat} (h : Wt d n e) (b : e ≤ 40) : SeqAt.shaped d = true := by
  unfold SeqAt.shaped
  rw [h.cl, Bool.true_and]
  have := h.dp
  exact decide_eq_true (by omega)
theorem wt_all {n e : Nat} : ∀ {ds : List PyData}, (∀ d ∈ ds, Wt d n e) → PyData.leavesShortAll 8 ds = true ∧ PyData.weightAll ds ≤ ds.length * (n + 1) ∧ PyData.showableAll ds = true ∧ PyData.depthAll ds ≤ e ∧ PyData.canLayAll0 ds = true
  | [], _ => ⟨rfl, Nat.zero_le _, rfl, Nat.zero_le _, rfl⟩
  | d :: ds, h => by
    obtain ⟨a1, a2, a3, a4, a5⟩ := wt_all (ds := ds) fun x hx => h x (List.mem_cons_of_mem _ hx)
    have b := h d List.mem_cons_self
    refine ⟨?_, ?_, ?_, ?_, ?_⟩
    · show (PyData.leavesShort 8 d && PyData.leavesShortAll 8 ds) = true
      rw [b.lv, a1]
      rfl
    · show PyData.weight d + 1 + PyData.weightAll ds ≤ (ds.length + 1) * (n + 1)
      have := b.wt
      rw [Nat.succ_mul]
      omega
    · show (PyData.showable d && PyData.showableAll ds) = true
      rw [b.sh, a3]
      rfl
    · show max (PyData.depth d) (PyData.depthAll ds) ≤ e
      exact Nat.max_le.mpr ⟨b.dp, a4⟩
    · show (PyData.canLay0 d && PyData.canLayAll0 ds) = true
      rw [b.cl, a5]
      rfl
theorem Wt.list {ds : List PyData} {n e m : Nat} (h : ∀ d ∈ ds, Wt d n e) (l : ds.length ≤ m) : Wt (.list ds) (m * (n + 1)) (e + 1) := by
  obtain ⟨a1, a2, a3, a4, a5⟩ := wt_all h
  exact ⟨a1, Nat.le_trans a2 (Nat.mul_le_mul_right _ l), a3, by show PyData.depthAll ds + 1 ≤ e + 1; omega, a5⟩
theorem Wt.tuple {ds : List PyData} {n e m : Nat} (h : ∀ d ∈ ds, Wt d n e) (l : ds.length ≤ m) : Wt (.tuple ds) (m * (n + 1)) (e + 1) := by
  obtain ⟨a1, a2, a3, a4, a5⟩ := wt_all h
  exact ⟨a1, Nat.le_trans a2 (Nat.mul_le_mul_right _ l), a3, by show PyData.depthAll ds + 1 ≤ e + 1; omega, a5⟩
theorem Wt.none : Wt .none 0 0 := ⟨rfl, Nat.zero_le _, rfl, Nat.zero_le _, rfl⟩
theorem Wt.bit {b : Int} (h : isBt b) : Wt (.int b) 1 0 := by
  rcases h with rfl | rfl
  · exact ⟨by decide +kernel, by decide +kernel, by decide +kernel, by decide +kernel, rfl⟩
  · exact ⟨by decide +kernel, by decide +kernel, by decide +kernel, by decide +kernel, rfl⟩
theorem small_128 {c : Nat} (h : (smalls.contains c || digs.contains c) = true) : c < 128 := by
  have : c ∈ smalls ++ digs := by
    rw [Bool.or_eq_true] at h
    rcases h with h | h
    · exact List.mem_append_left _ (List.contains_iff_mem.mp h)
    · exact List.mem_append_right _ (List.contains_iff_mem.mp h)
  have all : ∀ c ∈ smalls ++ digs, c < 128 := by decide
  exact all c this
theorem Wt.str {z : Str} (h : nameOk z) : Wt (.str z) 12 0 := by
  have short := h.short
  have all : ∀ c ∈ z.cps.toList, c < 128 := by
    unfold nameOk nameL at h
    intro c hc
    split at h
    · next e => rw [e] at hc; cases hc
    · next a r e =>
      rw [Bool.and_eq_true, List.all_eq_true] at h
      rw [e] at hc
      exact small_128 (h.2 c hc)
  refine ⟨?_, short, rfl, Nat.le_refl _, ?_⟩
  · show z.cps.toList.all (fun c => decide (c < 16 ^ 8)) = true
    rw [List.all_eq_true]
    exact fun c hc => decide_eq_true (Nat.lt_trans (all c hc) (by decide))
  · show z.cps.all (· < 0x110000) = true
    rw [← Array.all_toList, List.all_eq_true]
    exact fun c hc => decide_eq_true (Nat.lt_trans (all c hc) (by decide))
theorem kind_name {k : Str} {n : Nat} (h : kindsL.lookup k = some n) : nameOk k := by
  rcases kinds_cases h with ⟨rfl, _⟩ | ⟨rfl, _⟩ | ⟨rfl, _⟩ | ⟨rfl, _⟩ | ⟨rfl, _⟩ | ⟨rfl, _⟩ | ⟨rfl, _⟩ <;> (show nameL _ = true; decide +kernel)
theorem Wt.txts {zs : List Str} {m : Nat} (h : ∀ z ∈ zs, nameOk z) (l : zs.length ≤ m) : Wt (.list (txtD zs)) (m * 13) 1 := Wt.list (fun d hd => by
  obtain ⟨z, hz, rfl⟩ := List.mem_map.mp hd
  exact Wt.str (h z hz)) (by rw [txtD, List.length_map]; exact l)
theorem Wt.bits {bs : List Int} {m : Nat} (h : ∀ b ∈ bs, isBt b) (l : bs.length ≤ m) : Wt (bitsD bs) (m * 2) 1 := Wt.tuple (fun d hd => by
  obtain ⟨b, hb, rfl⟩ := List.mem_map.mp hd
  exact Wt.bit (h b hb)) (by rw [List.length_map]; exact l)
theorem Wt.gate {g : Gt} (h : gateOk g) : Wt (gateD g) 120 2 := by
  have l3 := kinds_few h.2.1
  refine Wt.mono (Wt.tuple (n := 39) (e := 1) (m := 3) (fun d hd => ?_) (Nat.le_refl 3)) (by decide) (Nat.le_refl _)
  have e : d = .str g.1 ∨ d = .str g.2.1 ∨ d = .list (txtD g.2.2) := by simpa using hd
  rcases e with rfl | rfl | rfl
  · exact (Wt.str h.1).mono (by decide) (by decide)
  · exact (Wt.str (kind_name h.2.1)).mono (by decide) (by decide)
  · exact (Wt.txts (m := 3) h.2.2 l3).mono (by decide) (by decide)
theorem Wt.reg {r : Rg} (h : regOk r) : Wt (regD r) 39 1 := by
  refine Wt.mono (Wt.tuple (n := 12) (e := 0) (m := 3) (fun d hd => ?_) (Nat.le_refl 3)) (by decide) (Nat.le_refl _)
  have e : d = .str r.1 ∨ d = .int r.2.1 ∨ d = .str r.2.2 := by simpa using hd
  rcases e with rfl | rfl | rfl
  · exact Wt.str h.1
  · exact (Wt.bit h.2.1).mono (by decide) (by decide)
  · exact Wt.str h.2.2
theorem eqv_txt_nil (zs : List Str) : PyData.eqv (.list (txtD zs)) (.list (txtD [])) = zs.isEmpty := by
  cases zs with
  | nil => rfl
  | cons a r => rfl
end W

set_option Elab.async false
set_option linter.all false
set_option maxRecDepth 100000
set_option maxHeartbeats 16000000
namespace W
open PySem PySem.Spec PyProof.Rows L2 Evl G C
section
variable {P : Program} {w : World} {K : PySem.W.Frag} {mg : Str → Option Value} {base : Heap}
/-- a test of names against the empty list, and what hangs on it -/
theorem rd_ifNil {σ : L2.St} {H : Hp} {Q : VK} {i : Nat} {a : Addr} {ks : List Str} {ta tb : TE} (h : σ[i]? = some (some (.ref a))) (hl : H a = some (.lst (ks.map V.str))) (ok : ∀ z ∈ ks, nameOk z) (few : ks.length ≤ 100)
    (k : ∀ H', Ex H H' → if ks ≠ [] then ta σ H' Q else tb σ H' Q) : tIf (tTest (tOp (rNeD K) (tVar i) (tLst tNil))) ta tb σ H Q := by
  refine ⟨_, h, (by show 0 ≤ sizeLine; decide), fun q nq => ?_⟩
  have e1 : Ex H (upd H q (.lst [])) := Ex.new nq
  refine ⟨.list (txtD ks), .list (txtD []), dp_txl (SqL.of (e1 _ _ hl)), dp_txl (SqL.of upd_same), (Wt.txts (m := 100) ok few).shaped (by decide), (Wt.txts (m := 0) (zs := []) (fun z h => by cases h) (by decide)).shaped (by decide), _, rfl, ?_⟩
  rw [eqv_txt_nil]
  have kk := k _ e1
  cases ks with
  | nil =>
    rw [if_neg (by simp)] at kk
    exact iteF kk
  | cons a r =>
    rw [if_pos (by simp)] at kk
    exact iteT kk
def sorts8 : List Str := ["not", "and", "or", "xor", "pick", "pick", "low", "high"]
def sorts2 : List Str := ["low", "high"]
theorem sorts8_ok : ∀ s ∈ sorts8, ∃ n, kindsL.lookup s = some n := by
  have : sorts8.all (fun s => (kindsL.lookup s).isSome) = true := by decide +kernel
  exact fun s hs => Option.isSome_iff_exists.mp (List.all_eq_true.mp this s hs)
theorem sorts2_ok : ∀ s ∈ sorts2, kindsL.lookup s = some 0 := by
  have : sorts2.all (fun s => decide (kindsL.lookup s = some 0)) = true := by decide +kernel
  exact fun s hs => of_decide_eq_true (List.all_eq_true.mp this s hs)
theorem rd_strs {σ : L2.St} {H : Hp} {Q : VK} {ta : TA} {ss : List Str} (h : ∀ R : List V → Hp → Prop, R (ss.map V.str) H → ta σ H R) (few : ss.length ≤ 100) (k : ∀ q H', Ex H H' → H q = none → H' q = some (.lst (ss.map V.str)) → Q (.ref q) H') : tLst ta σ H Q :=
  h _ ⟨by rw [List.length_map]; exact Nat.le_trans few (by decide), fun q nq => k q _ (Ex.new nq) nq upd_same⟩
theorem rd_sorts {σ : L2.St} {H : Hp} {Q : VK} {i : Nat} {a : Addr} {ks : List Str} {ta tb : TA} (h : σ[i]? = some (some (.ref a))) (hl : H a = some (.lst (ks.map V.str))) (ok : ∀ z ∈ ks, nameOk z) (few : ks.length ≤ 100)
    (h8 : ∀ (H : Hp) (R : List V → Hp → Prop), R (sorts8.map V.str) H → ta σ H R) (h2 : ∀ (H : Hp) (R : List V → Hp → Prop), R (sorts2.map V.str) H → tb σ H R)
    (k : ∀ ss q Hs, Ex H Hs → H q = none → Hs q = some (.lst (ss.map V.str)) → (∀ s ∈ ss, ∃ n, kindsL.lookup s = some n ∧ (ks ≠ [] ∨ n = 0)) → ss ≠ [] → ss.length ≤ 8 → Q (.ref q) Hs) : tIf (tTest (tOp (rNeD K) (tVar i) (tLst tNil))) (tLst ta) (tLst tb) σ H Q := by
  refine rd_ifNil h hl ok few fun H' e => ?_
  by_cases c : ks ≠ []
  · rw [if_pos c]
    exact rd_strs (h8 H') (by decide) fun q H2 e2 nq hq => k sorts8 q H2 (e.trans e2) (ex_none e nq) hq (fun s hs => (sorts8_ok s hs).imp fun n hn => ⟨hn, .inl c⟩) (by decide) (by decide)
  · rw [if_neg c]
    exact rd_strs (h2 H') (by decide) fun q H2 e2 nq hq => k sorts2 q H2 (e.trans e2) (ex_none e nq) hq (fun s hs => ⟨0, sorts2_ok s hs, .inr rfl⟩) (by decide) (by decide)
theorem pot_new {H : Hp} {p a : Addr} (hp : Pot H p) (n : H a = none) : a ≠ p := fun q => by
  obtain ⟨x, y, z, _⟩ := hp
  rw [q, z] at n
  cases n
theorem Pot.upd {H : Hp} {p a : Addr} {o : HO} (hp : Pot H p) (n : a ≠ p) : Pot (upd H a o) p := by
  obtain ⟨x, y, z, w⟩ := hp
  exact ⟨x, y, by rw [upd_ne (Ne.symm n)]; exact z, w⟩
theorem strs_of {A : Str → Prop} : ∀ {vs : List V}, (∀ v ∈ vs, ∃ y, A y ∧ v = V.str y) → ∃ ws : List Str, vs = ws.map V.str ∧ ∀ y ∈ ws, A y
  | [], _ => ⟨[], rfl, fun y h => by cases h⟩
  | v :: vs, h => by
    obtain ⟨y, hy, rfl⟩ := h v List.mem_cons_self
    obtain ⟨ws, rfl, hw⟩ := strs_of (vs := vs) fun v hv => h v (List.mem_cons_of_mem _ hv)
    exact ⟨y :: ws, rfl, fun x hx => (List.mem_cons.mp hx).elim (fun e => e ▸ hy) (hw x)⟩
theorem take_ne {zs : List Str} {n : Nat} (h : n ≤ zs.length) (p : 0 < n) : zs.take n ≠ [] := fun q => by
  have := congrArg List.length q
  rw [List.length_take, List.length_nil, Nat.min_eq_left h] at this
  omega
end
end W

set_option Elab.async false
set_option linter.all false
set_option maxRecDepth 100000
set_option maxHeartbeats 16000000
namespace W
open PySem PySem.Spec PyProof.Rows L2 Evl G C
/-- the same circuit, its gates and registers in another sequence -/
structure SameC (c c' : Cir) : Prop where
  ins : c'.ins = c.ins
  gates : c'.gates.Perm c.gates
  regs : c'.regs.Perm c.regs
  outs : c'.outs = c.outs
theorem SameC.names {c c' : Cir} (h : SameC c c') : (C.names c').Perm (C.names c) := by
  unfold C.names gn rn
  rw [h.ins]
  exact List.Perm.append_left _ (List.Perm.append (h.gates.map _) (h.regs.map _))
theorem SameC.good {c c' : Cir} (h : SameC c c') (g : Good c) : Good c' := by
  have inn : ∀ {z : Str}, z ∈ C.names c → z ∈ C.names c' := fun q => h.names.mem_iff.mpr q
  refine ⟨h.names.nodup_iff.mpr g.nd, by rw [h.ins]; exact g.inm, fun x hx => g.gts x (h.gates.mem_iff.mp hx), fun x hx => g.rgs x (h.regs.mem_iff.mp hx), fun x hx z hz => inn (g.src x (h.gates.mem_iff.mp hx) z hz), fun x hx => inn (g.rsrc x (h.regs.mem_iff.mp hx)), by rw [h.outs]; exact fun z hz => inn (g.out z hz), ?_, by rw [h.ins]; exact g.li, by rw [h.gates.length_eq]; exact g.lg, by rw [h.regs.length_eq]; exact g.lr, by rw [h.outs]; exact g.lo⟩
  obtain ⟨f, hf⟩ := g.rank
  have pb : (bet' c'.gates).Perm (bet' c.gates) := h.gates.map _
  exact ⟨f, fun q hq y hy hk => hf q (pb.mem_iff.mp hq) y hy ((pb.map Prod.fst).mem_iff.mp hk)⟩
theorem SameC.rg {c c' : Cir} (h : SameC c c') {sr : List Rg} : RgOf c' sr ↔ RgOf c sr := ⟨fun q => ⟨q.1.trans h.regs, q.2⟩, fun q => ⟨q.1.trans h.regs.symm, q.2⟩⟩
theorem SameC.val {c c' : Cir} (h : SameC c c') : val c' = val c := by
  funext sr st le fl
  have e : Says c' sr st le fl = Says c sr st le fl := by
    funext f
    refine propext ⟨fun q => ⟨q.held, ?_, fun g hg => q.gate g (h.gates.mem_iff.mpr hg)⟩, fun q => ⟨q.held, ?_, fun g hg => q.gate g (h.gates.mem_iff.mp hg)⟩⟩
    · have b := q.base
      unfold base0 at b ⊢
      rwa [h.ins] at b
    · have b := q.base
      unfold base0 at b ⊢
      rwa [h.ins]
  unfold W.val
  rw [e]
theorem SameC.step {c c' : Cir} (h : SameC c c') : step1 c' = step1 c := by
  unfold step1
  rw [h.val]
theorem SameC.sta {c c' : Cir} (h : SameC c c') : sta c' = sta c := by
  unfold W.sta
  rw [h.step]
theorem SameC.hdf {c c' : Cir} (h : SameC c c') : hdf c' = hdf c := by
  unfold W.hdf
  rw [h.sta, h.val]
theorem SameC.states {c c' : Cir} (h : SameC c c') : states c' = states c := by
  unfold W.states
  rw [h.sta]
theorem SameC.heard {c c' : Cir} (h : SameC c c') : heard c' = heard c := by
  unfold W.heard
  rw [h.hdf]
theorem SameC.line {c c' : Cir} (h : SameC c c') : line c' = line c := by
  unfold W.line
  rw [h.hdf]
theorem SameC.flt {c c' : Cir} (h : SameC c c') {fl : Flt} (f : FltOk c fl) : FltOk c' fl := fun q e => ⟨h.names.mem_iff.mpr (f q e).1, (f q e).2⟩
section
variable {K : PySem.W.Frag} {H H' : Hp} {p : Addr}
theorem dp_perm {α : Type} {f : α → PyData} : ∀ {ys xs : List V}, ys.Perm xs → ∀ {gs : List α}, DpAll K H xs (gs.map f) → ∃ gs' : List α, gs'.Perm gs ∧ DpAll K H ys (gs'.map f) := by
  intro ys xs h
  induction h with
  | nil =>
    intro gs h
    cases gs with
    | nil => exact ⟨[], .refl _, .nil⟩
    | cons a r => cases h
  | cons x _ ih =>
    intro gs h
    cases gs with
    | nil => cases h
    | cons a r =>
      cases h with
      | cons h1 h2 =>
        obtain ⟨gs', pm, d⟩ := ih h2
        exact ⟨a :: gs', pm.cons a, .cons h1 d⟩
  | swap x y l =>
    intro gs h
    cases gs with
    | nil => cases h
    | cons a r =>
      cases r with
      | nil =>
        cases h with
        | cons h1 h2 => cases h2
      | cons b r =>
        cases h with
        | cons h1 h2 =>
          cases h2 with
          | cons h2 h3 => exact ⟨b :: a :: r, List.Perm.swap _ _ _, .cons h2 (.cons h1 h3)⟩
  | trans _ _ ih1 ih2 =>
    intro gs h
    obtain ⟨g1, p1, d1⟩ := ih2 h
    obtain ⟨g2, p2, d2⟩ := ih1 d1
    exact ⟨g2, p2.trans p1, d2⟩
theorem p_st {a : Addr} {xs : List V} (hp : Pot H p) (e : ExBut p H H') (h : SqT K H a xs) : SqT K H' a xs := by
  rcases h with (h | ⟨o, h⟩) | h
  · exact .inl (.inl (e _ _ h (pot_ne hp h fun _ q => by cases q)))
  · exact .inl (.inr ⟨o, e _ _ h (pot_ne hp h fun _ q => by cases q)⟩)
  · exact .inr h
theorem CirAt.pot {C q : Addr} {c : Cir} (h : CirAt K C H q c) (hp : Pot H p) (e : ExBut p H H') : CirAt K C H' q c := by
  obtain ⟨dx, a1, a2, a3, a4, D5, D6, L7, sg, sr, seq, h1, h2, ⟨h3, h4, h5⟩, ⟨h6, h7, h8⟩, h9, ⟨kvs, ps, h10, hk⟩, h11, h12, h13⟩ := h
  refine ⟨dx, a1, a2, a3, a4, D5, D6, L7, sg, sr, seq, e _ _ h1 (pot_ne hp h1 fun _ z => by cases z), p_dp hp e (npDs_map (fun _ => rfl) _) h2, ⟨p_dp hp e (npDs_map (fun g => ?_) _) h3, h4, h5⟩, ⟨p_dp hp e (npDs_map (fun _ => rfl) _) h6, h7, h8⟩, p_dp hp e (npDs_map (fun _ => rfl) _) h9, ⟨kvs, ps, e _ _ h10 (pot_ne hp h10 fun _ z => by cases z), hk.fst, hk.kv, fun q hq => p_st hp e (hk.each q hq)⟩, e _ _ h11 (pot_ne hp h11 fun _ z => by cases z), ?_, h13⟩
  · show (npD (.str g.1) && (npD (.str g.2.1) && (npD (.tuple (txtD g.2.2)) && true))) = true
    rw [show npD (.tuple (txtD g.2.2)) = true from npDs_map (fun _ => rfl) _]
    rfl
  · refine e _ _ h12 fun q => ?_
    obtain ⟨i, j, h0, _⟩ := hp
    rw [q, h0] at h12
    have q3 := HO.lst.inj (Option.some.inj h12)
    cases seq with
    | nil => cases q3
    | cons a r => cases q3
end
end W

set_option Elab.async false
set_option linter.all false
set_option maxRecDepth 100000
set_option maxHeartbeats 16000000
namespace W
open PySem PySem.Spec PyProof.Rows L2 Evl G C
theorem rg_nd {c : Cir} (good : Good c) : (rnm c.regs).Nodup := by
  have nd := good.nd
  unfold names at nd
  exact (List.nodup_append.mp (List.nodup_append.mp nd).2.1).2.1
theorem ints_of {A : Int → Prop} : ∀ {vs : List V}, (∀ v ∈ vs, ∃ y, A y ∧ v = V.int y) → ∃ ws : List Int, vs = ws.map V.int ∧ ∀ y ∈ ws, A y
  | [], _ => ⟨[], rfl, fun y h => by cases h⟩
  | v :: vs, h => by
    obtain ⟨y, hy, rfl⟩ := h v List.mem_cons_self
    obtain ⟨ws, rfl, hw⟩ := ints_of (vs := vs) fun v hv => h v (List.mem_cons_of_mem _ hv)
    exact ⟨y :: ws, rfl, fun x hx => (List.mem_cons.mp hx).elim (fun e => e ▸ hy) (hw x)⟩
theorem Wt.showy {d : PyData} {n e : Nat} (h : Wt d n e) (a : n ≤ 9000) (b : e ≤ 40) : Showy d := ⟨h.sh, Nat.le_trans h.dp b, h.len a⟩
section
variable {c : Cir} {sr : List Rg} {fl : Flt} {st : List Int} {ws : List (List Int)} {zs : List Str}
theorem hdf_bit (good : Good c) (hr : RgOf c sr) (hf : FltOk c fl) (hs : BitsOk c.regs.length st) (hw : ∀ w ∈ ws, BitsOk c.ins.length w) {i : Nat} (hi : i < ws.length) : ∀ z ∈ names c, isBt (hdf c sr fl st ws i z) := by
  have e : ws[i]? = some ws[i] := List.getElem?_eq_getElem hi
  have oki := sta_ok good hr hf hs hw i (Nat.le_of_lt hi)
  have okl := hw _ (List.mem_of_getElem? e)
  rw [(sta_next e).2]
  exact says_bit good hr okl oki hf (val_says good fl hr okl.1 oki.1)
theorem heard_row (good : Good c) (hr : RgOf c sr) (hf : FltOk c fl) (hs : BitsOk c.regs.length st) (hw : ∀ w ∈ ws, BitsOk c.ins.length w) (hz : ∀ z ∈ zs, z ∈ names c) {row : List Int} (h : row ∈ heard c sr fl st ws zs) : row.length = zs.length ∧ ∀ b ∈ row, isBt b := by
  obtain ⟨i, hi, rfl⟩ := List.mem_map.mp h
  refine ⟨List.length_map _, fun b hb => ?_⟩
  obtain ⟨z, hz2, rfl⟩ := List.mem_map.mp hb
  exact hdf_bit good hr hf hs hw (List.mem_range.mp hi) z (hz z hz2)
theorem states_row (good : Good c) (hr : RgOf c sr) (hf : FltOk c fl) (hs : BitsOk c.regs.length st) (hw : ∀ w ∈ ws, BitsOk c.ins.length w) {row : List Int} (h : row ∈ states c sr fl st ws) : BitsOk c.regs.length row := by
  obtain ⟨i, hi, rfl⟩ := List.mem_map.mp h
  have := List.mem_range.mp hi
  exact sta_ok good hr hf hs hw i (by omega)
theorem wt_rows {rs : List (List Int)} {m : Nat} (h : ∀ r ∈ rs, r.length ≤ 8 ∧ ∀ b ∈ r, isBt b) (l : rs.length ≤ m) : Wt (.list (rs.map bitsD)) (m * 17) 2 := Wt.list (n := 16) (e := 1) (fun d hd => by
  obtain ⟨r, hr, rfl⟩ := List.mem_map.mp hd
  exact Wt.bits (m := 8) (h r hr).2 (h r hr).1) (by rw [List.length_map]; exact l)
theorem sta_take {n i : Nat} (h : i ≤ n) : sta c sr fl st (ws.take n) i = sta c sr fl st ws i := by
  unfold sta
  rw [List.take_take, Nat.min_eq_left h]
theorem hdf_take {n i : Nat} (h : i < n) : hdf c sr fl st (ws.take n) i = hdf c sr fl st ws i := by
  unfold hdf
  rw [sta_take (Nat.le_of_lt h)]
  congr 1
  rw [List.getD_eq_getElem?_getD, List.getD_eq_getElem?_getD, List.getElem?_take, if_pos h]
theorem sta_drop {n i : Nat} : sta c sr fl (sta c sr fl st ws n) (ws.drop n) i = sta c sr fl st ws (n + i) := by
  unfold sta
  rw [List.take_add (i := n) (j := i), List.foldl_append]
theorem hdf_drop {n i : Nat} : hdf c sr fl (sta c sr fl st ws n) (ws.drop n) i = hdf c sr fl st ws (n + i) := by
  unfold hdf
  rw [sta_drop]
  congr 1
  rw [List.getD_eq_getElem?_getD, List.getD_eq_getElem?_getD, List.getElem?_drop]
theorem heard_split {n : Nat} (h : n ≤ ws.length) : heard c sr fl st (ws.take n) zs ++ heard c sr fl (sta c sr fl st ws n) (ws.drop n) zs = heard c sr fl st ws zs := by
  unfold heard
  apply List.ext_getElem?
  intro i
  rw [List.length_take, Nat.min_eq_left h, List.length_drop]
  rcases Nat.lt_or_ge i n with lt | ge
  · rw [List.getElem?_append_left (by rw [List.length_map, List.length_range]; exact lt), List.getElem?_map, List.getElem?_map, List.getElem?_range lt, List.getElem?_range (by omega)]
    show some (zs.map (hdf c sr fl st (ws.take n) i)) = some (zs.map (hdf c sr fl st ws i))
    rw [hdf_take lt]
  · rw [List.getElem?_append_right (by rw [List.length_map, List.length_range]; exact ge), List.length_map, List.length_range, List.getElem?_map, List.getElem?_map]
    rcases Nat.lt_or_ge i ws.length with lt2 | ge2
    · rw [List.getElem?_range (by omega), List.getElem?_range lt2]
      show some (zs.map (hdf c sr fl (sta c sr fl st ws n) (ws.drop n) (i - n))) = some (zs.map (hdf c sr fl st ws i))
      rw [hdf_drop, show n + (i - n) = i by omega]
    · rw [List.getElem?_eq_none (by rw [List.length_range]; omega), List.getElem?_eq_none (by rw [List.length_range]; omega)]
      rfl
end
theorem dpAll_app {K : PySem.W.Frag} {H : Hp} : ∀ {xs ys : List V} {as bs : List PyData}, DpAll K H xs as → DpAll K H ys bs → DpAll K H (xs ++ ys) (as ++ bs)
  | _, _, _, _, .nil, h => h
  | _, _, _, _, .cons a r, h => .cons a (dpAll_app r h)
theorem dpAll_take {K : PySem.W.Frag} {H : Hp} : ∀ {n : Nat} {xs : List V} {as : List PyData}, DpAll K H xs as → DpAll K H (xs.take n) (as.take n)
  | 0, _, _, _ => .nil
  | _ + 1, _, _, .nil => .nil
  | n + 1, _, _, .cons a r => .cons a (dpAll_take r)
theorem dpAll_drop {K : PySem.W.Frag} {H : Hp} : ∀ (n : Nat) {xs : List V} {as : List PyData}, DpAll K H xs as → DpAll K H (xs.drop n) (as.drop n)
  | 0, _, _, h => h
  | _ + 1, _, _, .nil => .nil
  | n + 1, _ :: _, _ :: _, .cons _ r => by
    rw [List.drop_succ_cons, List.drop_succ_cons]
    exact dpAll_drop n r
/-! ### sorted names; dicts made of pairs -/
theorem rising_of : ∀ {r : List Str} {p : Str}, PyProof.Rows.risingS p r = true → (p :: r).Nodup → (p :: r).Pairwise NameLt
  | [], p, _, _ => List.pairwise_singleton _ _
  | x :: r, p, h, nd => by
    have h : (!ltCps x.cps.toList p.cps.toList && PyProof.Rows.risingS x r) = true := h
    rw [Bool.and_eq_true] at h
    obtain ⟨n1, n2⟩ := List.nodup_cons.mp nd
    have ih := rising_of h.2 n2
    have px : NameLt p x := NameLt.of_ne (fun q => by
      have q : x.cps.toList < p.cps.toList := q
      have h1 := h.1
      rw [ltCps_eq, decide_eq_true q] at h1
      cases h1) (fun e => n1 (e ▸ List.mem_cons_self))
    refine List.pairwise_cons.mpr ⟨fun y hy => ?_, ih⟩
    rcases List.mem_cons.mp hy with rfl | hy
    · exact px
    · exact List.lt_trans px ((List.pairwise_cons.mp ih).1 y hy)
theorem sortedS_rising {ys : List Str} (h : PyProof.Rows.sortedS ys = true) (nd : ys.Nodup) : Rising (fun z : Str => z) ys := by
  cases ys with
  | nil => exact List.Pairwise.nil
  | cons x r => exact rising_of h nd
theorem sorted_regs {c : Cir} (good : Good c) {sr : List Rg} (hr : RgOf c sr) {ys : List Str} (pm : ys.Perm (rn c)) (so : PyProof.Rows.sortedS ys = true) : ys = sr.map fun r => r.1 := by
  have nd := good.nd
  unfold names at nd
  have n5 := (List.nodup_append.mp (List.nodup_append.mp nd).2.1).2.1
  refine rising_eq (sortedS_rising so (pm.nodup_iff.mpr n5)) ?_ (pm.trans (List.Perm.map (fun r : Rg => r.1) hr.1).symm)
  unfold Rising
  rw [List.pairwise_map]
  exact hr.2
theorem valV_none {kvs : List (Key × V)} {k : Key} (h : k ∉ kvs.map Prod.fst) : valV kvs k = none := by
  unfold valV
  rw [Option.map_eq_none_iff, List.find?_eq_none]
  intro p hp q
  exact h (List.mem_map.mpr ⟨p, hp, of_decide_eq_true q⟩)
theorem mergeK_new : ∀ {kvs acc : List (Key × V)}, ((acc ++ kvs).map Prod.fst).Nodup → mergeK acc kvs = acc ++ kvs
  | [], acc, _ => by rw [List.append_nil]; rfl
  | p :: r, acc, h => by
    have n : p.1 ∉ acc.map Prod.fst := by
      rw [List.map_append, List.map_cons] at h
      exact fun m => (List.nodup_append.mp h).2.2 p.1 m p.1 List.mem_cons_self rfl
    show mergeK (putK acc p.1 p.2) r = _
    rw [putK_new (valV_none n)]
    have e : acc ++ [(p.1, p.2)] ++ r = acc ++ p :: r := by rw [List.append_assoc]; rfl
    rw [mergeK_new (by rw [e]; exact h), e]
theorem putK_keys {kvs : List (Key × V)} {k : Key} {v : V} (h : k ∈ kvs.map Prod.fst) : (putK kvs k v).map Prod.fst = kvs.map Prod.fst := by
  unfold putK
  rw [if_pos]
  · rw [List.map_map]
    refine List.map_congr_left fun p _ => ?_
    show (if p.1 = k then (p.1, v) else p).1 = p.1
    split <;> rfl
  · obtain ⟨p, hp, e⟩ := List.mem_map.mp h
    rw [List.any_eq_true]
    exact ⟨p, hp, decide_eq_true e⟩
/-- a dict is what its keys and what is found say -/
theorem valK_of {ks : List Str} {f : Str → Int} : ∀ {kvs : List (Key × V)}, kvs.map Prod.fst = ks.map Sum.inr → ks.Nodup → HasF ks f kvs → kvs = valK ks f := by
  induction ks with
  | nil =>
    intro kvs h _ _
    cases kvs with
    | nil => rfl
    | cons p r => cases h
  | cons z ks ih =>
    intro kvs h nd hf
    cases kvs with
    | nil => cases h
    | cons p r =>
      rw [List.map_cons, List.map_cons, List.cons.injEq] at h
      obtain ⟨n1, n2⟩ := List.nodup_cons.mp nd
      have hz := hf z List.mem_cons_self
      rw [valV_pos h.1] at hz
      have hp : p = (Sum.inr z, .int (f z)) := by
        rw [← h.1, ← Option.some.inj hz]
      rw [ih h.2 n2 fun y hy => ?_, hp]
      · rfl
      · have q := hf y (List.mem_cons_of_mem _ hy)
        unfold valV at q ⊢
        rw [List.find?_cons_of_neg] at q
        · exact q
        · rw [h.1]
          intro e
          have := Sum.inr.inj (of_decide_eq_true e)
          exact n1 (this ▸ hy)
def kvOf (q : Str × Int) : Key × V := (Sum.inr q.1, .int q.2)
theorem paired_unmap {α β γ : Type} {F : α → γ → Prop} {g : β → γ} : ∀ {xs : List α} {ys : List β}, Paired F xs (ys.map g) → Paired (fun a b => F a (g b)) xs ys
  | [], [], _ => .nil
  | [], _ :: _, h => by cases h
  | _ :: _, [], h => by cases h
  | _ :: _, _ :: _, h => by
    cases h with
    | cons a b => exact .cons a (paired_unmap b)
theorem paired_map {α β γ : Type} {F : α → γ → Prop} {g : β → γ} : ∀ {xs : List α} {ys : List β}, Paired (fun a b => F a (g b)) xs ys → Paired F xs (ys.map g)
  | _, _, .nil => .nil
  | _, _, .cons a b => .cons a (paired_map b)
theorem paired_app {α β : Type} {F : α → β → Prop} : ∀ {a b : List α} {c d : List β}, Paired F a c → Paired F b d → Paired F (a ++ b) (c ++ d)
  | _, _, _, _, .nil, h => h
  | _, _, _, _, .cons x r, h => .cons x (paired_app r h)
theorem laid_pairs {K : PySem.W.Frag} {H H' H2 : Hp} {p : Addr} {ts : List Addr} {zs : List Str} {bs : List Int} (zl : ZipLaid H H' p ts ((zs.map V.str).zip (bs.map V.int))) (e : Ex H' H2) : Paired (fun (t : Addr) (kv : Key × V) => SqT K H2 t [kV kv.1, kv.2]) ts ((zs.zip bs).map kvOf) := by
  have q := zl.each
  rw [List.zip_map] at q
  refine paired_map (Paired.mono (fun t a h => ?_) (paired_unmap q))
  exact st_of (e _ _ h)
def kvH (fl : Flt) : List (Key × V) := fl.toList.map kvOf
theorem kvH_free {fl : Flt} {z : Str} (h : Free fl z) : valV (kvH fl) (Sum.inr z) = none := by
  cases fl with
  | none => rfl
  | some q =>
    refine valV_none fun m => ?_
    have e : (Sum.inr z : Key) = Sum.inr q.1 := by simpa [kvH, kvOf] using m
    exact h q rfl (Sum.inr.inj e).symm
theorem kvH_held {fl : Flt} {q : Str × Int} (h : fl = some q) : valV (kvH fl) (Sum.inr q.1) = some (.int q.2) := by
  subst h
  exact valV_pos rfl
end W

set_option Elab.async false
set_option linter.all false
set_option maxRecDepth 100000
set_option maxHeartbeats 16000000
set_option pp.maxSteps 2000
namespace W
open PySem PySem.Spec PyProof.Rows L2 Evl G C
def flt2 (z : Str) (b : Int) : PyData := .tuple [.str z, .int b]
/-- the faults of wires -/
def faultsD (zs : List Str) : List PyData := zs.flatMap fun z => [flt2 z 0, flt2 z 1]
theorem range_getD (zs : List Str) : (List.range zs.length).map (fun i => zs.getD i "") = zs := by
  apply List.ext_getElem?
  intro i
  rw [List.getElem?_map]
  rcases Nat.lt_or_ge i zs.length with lt | ge
  · rw [List.getElem?_range lt, Option.map_some, List.getD_eq_getElem?_getD, List.getElem?_eq_getElem lt]
    rfl
  · rw [List.getElem?_eq_none (by rw [List.length_range]; exact ge), List.getElem?_eq_none ge]
    rfl
theorem faultsD_range (zs : List Str) : (List.range zs.length).flatMap (fun i => [flt2 (zs.getD i "") 0, flt2 (zs.getD i "") 1]) = faultsD zs := by
  have e : faultsD zs = faultsD ((List.range zs.length).map fun i => zs.getD i "") := by rw [range_getD]
  rw [e]
  unfold faultsD
  rw [List.flatMap_map]
/-- do rows differ -/
def rowsNe (A B : List (List Int)) : Bool := !PyData.eqv (.list (A.map bitsD)) (.list (B.map bitsD))
section
variable {P : Program} {w : World} {K : PySem.W.Frag} {mg : Str → Option Value} {base : Heap} {C : Addr}
def spFaults (K : PySem.W.Frag) (C : Addr) : Sp := fun vs H Q _ => ∃ (p : Addr) (c : Cir), vs = [.ref p] ∧ CirAt K C H p c ∧ Good c ∧ ∀ zs, zs.Perm (names c) → sortedS zs = true → ∀ l xs H', Ex H H' → H l = none → H' l = some (.lst xs) → DpAll K (hid l H') xs (faultsD zs) → Q (.ref l) H'
abbrev nFaults : List Str := ["circuit", "wire", "bit"]
theorem scFaults : FnScope nFaults ["circuit"] (defScope dFaults) := ⟨rfl, rfl, rfl, by decide +kernel, rfl, by decide +kernel, by decide +kernel⟩
theorem okFaults {f : Addr} {fd : FuncData} (F : At K mg "faults" dFaults ["circuit"] f fd) (T : Txt K mg) (CT : CirT K mg C) : FnOk P w K mg base CX0 2 f fd ["circuit"] (spFaults K C) := by
  obtain ⟨fW, gW, FW⟩ := CT.wires
  have GW : FnOk P w K mg base CX0 1 fW gW ["self"] (spM (α := Nat) K C newWs) := okWires FW T CT
  refine F.fn.ok scFaults (fun vs H Q E h => ?_) (fun cdv A outer s H vs Q E hr h => ?_)
  · obtain ⟨p, c, rfl, _⟩ := h
    rfl
  · obtain ⟨p, c, rfl, hc, good, k⟩ := h
    have nds := scFaults.nd
    refine ⟨_, pss_one (ps_ret (pe_lc2 (own := [("wire", 1), ("bit", 2)]) (vs1 := [2]) (g := gName 1) (g1 := gName 2) (by rfl) nds (pi_list (pe_meth0 (pv 0) CT.cl FW.me GW hr FW.bi .nil pass0)) (blkOk_by (own := [("wire", 1), ("bit", 2)]) (N := nFaults) (sc := defScope dFaults) (by decide +kernel)) (by decide)
      (fun _ _ _ _ _ => pg_name (i := 1) nds rfl (Or.inl rfl)) (fun _ _ _ _ _ => pts_nil) (fun _ _ _ _ _ => pi_tupK (K := K) (pe_tup (pa_cons pe_int (pa_cons pe_int pa_nil)))) (fun _ _ _ _ _ => pg_name (i := 2) nds rfl (Or.inl rfl)) (fun _ _ _ _ _ => pts_nil)
      (fun _ _ _ _ _ => pe_tup (pa_cons (pv 1) (pa_cons (pv 2) pa_nil))))), ?_⟩
    obtain ⟨dx, a1, a2, a3, a4, D5, D6, L7, sg, sr, seq, h1, _⟩ := id hc
    refine ⟨_, rfl, p, dx, _, rfl, h1, rfl, p, c, rfl, hc, good, fun zs pm so l H1 e1 nl hl => ?_⟩
    have few := names_few good
    refine lc2_new (K := K) (j := 1) (j2 := 2) (a := l) (xs := zs.map V.str) (σ := [some (.ref p), none, none]) (H := H1) (te := tTup (tCons (tVar 1) (tCons (tVar 2) tNil))) (tl := fun _ H R => R (.ref l) H) (fun i c => flt2 (zs.getD i "") (c : Int)) (SqL.of hl) (by rw [List.length_map, pm.length_eq]; omega) rfl (by decide) (fun i c x hx hc2 Ha ea Q1 q1 => ?_) (fun D vs H' nD eD hD dD => ?_)
    · obtain ⟨z, ez, rfl⟩ := nth_map hx
      refine ⟨_, rfl, _, rfl, (by show 2 ≤ sizeLine; decide), fun t nt => ?_⟩
      refine q1 _ _ (Ex.new nt) ?_
      have ez2 : zs.getD i "" = z := by rw [List.getD_eq_getElem?_getD, ez]; rfl
      rw [ez2]
      exact .tup (st_of (nw_some.mpr ⟨nt, upd_same⟩)) (.cons (.str _) (.cons (.int _) .nil))
    · rw [List.length_map] at dD
      exact k zs pm so D vs H' (e1.trans eD) (ex_none e1 nD) hD (by rw [← faultsD_range zs]; exact dD)
theorem scCFault : FnScope ["circuit", "fault"] ["circuit", "fault"] (defScope dCFault) := ⟨rfl, rfl, rfl, by decide +kernel, rfl, by decide +kernel, by decide +kernel⟩
def spCFault (K : PySem.W.Frag) (C : Addr) : Sp := fun vs H Q _ => ∃ (p : Addr) (x : V) (c : Cir) (q : Str × Int), vs = [.ref p, x] ∧ CirAt K C H p c ∧ Dp K H x (fltD (some q)) ∧ FltOk c (some q) ∧ ∀ H', Ex H H' → Q .non H'
theorem okCFault {f : Addr} {fd : FuncData} (F : At K mg "check_fault" dCFault ["circuit", "fault"] f fd) (T : Txt K mg) (CT : CirT K mg C) : FnOk P w K mg base CX0 4 f fd ["circuit", "fault"] (spCFault K C) := by
  obtain ⟨fI, gI, FI⟩ := T.isFault
  have GI : FnOk P w K mg base CX0 3 fI gI ["circuit", "value"] (spFault K C) := okIsFault FI T CT
  refine F.fn.ok scCFault (fun vs H Q E h => ?_) (fun cdv A outer s H vs Q E hr h => ?_)
  · obtain ⟨p, x, c, q, rfl, _⟩ := h
    rfl
  · obtain ⟨p, x, c, q, rfl, hc, hx, ok, k⟩ := h
    refine ⟨_, pss_one (ps_if (pt_not (pt_val (pe_call GI hr (by rfl) FI.gl FI.fn.kp FI.bi .nil pass0 (pa_cons (pv 0) (pa_cons (pv 1) pa_nil))))) (pss_one ps_never) pss_nil), ?_⟩
    exact ⟨_, rfl, _, rfl, p, x, c, q, rfl, hc, hx, ok, fun H1 e1 => ⟨_, rfl, iteF (k H1 e1)⟩⟩
def gS3 {α : Type} (us its ws : List α) : List α := us ++ (its.take 1 ++ ws)
theorem gS3_rel {vs ds zs : List V} {us its ws : List Value} (h : Vals vs us) (d : Vals ds its) (q : Vals zs ws) : Vals (gS3 vs ds zs) (gS3 us its ws) := h.append ((d.take 1).append q)
def spShows (K : PySem.W.Frag) (C : Addr) : Sp := fun vs H Q _ => ∃ (p : Addr) (x y z : V) (c : Cir) (sr : List Rg) (ws : List (List Int)) (q : Str × Int) (fl : Flt), vs = [.ref p, x, y, z] ∧ Run K C H p x .non y c sr ws none (some q) ∧ Dp K H z (fltD fl) ∧ FltOk c fl ∧ ws.length ≤ 100 ∧
  ∀ H', Ex H H' → Q (.bl (rowsNe (heard c sr (some q) (firstOf sr) ws c.outs) (heard c sr fl (firstOf sr) ws c.outs))) H'
abbrev nShows : List Str := ["circuit", "word", "fault", "other"]
theorem scShows : FnScope nShows ["circuit", "word", "fault", "other"] (defScope dShows) := ⟨rfl, rfl, rfl, by decide +kernel, rfl, by decide +kernel, by decide +kernel⟩
theorem wt_heard {c : Cir} {sr : List Rg} {fl : Flt} {st : List Int} {ws : List (List Int)} (good : Good c) (hr : RgOf c sr) (hf : FltOk c fl) (hs : BitsOk c.regs.length st) (hw : ∀ w ∈ ws, BitsOk c.ins.length w) (few : ws.length ≤ 100) : Wt (.list ((heard c sr fl st ws c.outs).map bitsD)) 1700 2 :=
  wt_rows (m := 100) (fun r hr' => by
    obtain ⟨a, b⟩ := heard_row good hr hf hs hw good.out hr'
    exact ⟨by rw [a]; exact good.lo, b⟩) (by unfold heard; rw [List.length_map, List.length_range]; exact few)
theorem okShows {f : Addr} {fd : FuncData} (F : AtD K mg "shows_at" dShows [.non] ["circuit", "word", "fault", "other"] f fd) (T : Txt K mg) (CT : CirT K mg C) (DT : DicT K w mg) : FnOk P w K mg base CX0 8 f fd ["circuit", "word", "fault", "other"] (spShows K C) := by
  obtain ⟨fW, gW, FW⟩ := T.cWord
  obtain ⟨fF, gF, FF⟩ := T.cFault
  obtain ⟨fS, gS, FS⟩ := T.cStuck
  obtain ⟨fN, gN, FN⟩ := T.answer
  have GW : FnOk P w K mg base CX0 7 fW gW ["circuit", "word"] (spWord K C) := (okCWord FW T CT).mono (by decide)
  have GF : FnOk P w K mg base CX0 7 fF gF ["circuit", "fault"] (spCFault K C) := (okCFault FF T CT).mono (by decide)
  have GS : FnOk P w K mg base CX0 7 fS gS ["circuit", "stuck"] (spStuck K C) := (okCStuck FS T CT).mono (by decide)
  have GN : FnOk P w K mg base CX0 7 fN gN ["circuit", "word", "state", "stuck"] (spAns K C) := okAns FN T CT DT
  obtain ⟨its, kb⟩ := FunD.kbindsD (ps := ["circuit", "word", "state", "stuck"]) FN.fn 2 ["stuck"] gS3 (by simp) gS3_rel fun T kV doc pm an cdv ct us its ws l1 l2 l3 => by
    match us, its, ws, l1, l2, l3 with
    | [a, b], [i, j], [c], _, _, _ => exact ⟨_, rfl, rfl⟩
  refine F.fn.ok scShows (fun vs H Q E h => ?_) (fun cdv A outer s H vs Q E hr h => ?_)
  · obtain ⟨p, x, y, z, c, sr, ws, q, fl, rfl, _⟩ := h
    rfl
  · obtain ⟨p, x, y, z, c, sr, ws, q, fl, rfl, R, hz, okz, few, k⟩ := h
    have hu64 : (cxOf CX0 P w K mg base nShows "shows_at" (defScope dShows) f cdv A outer s H E).nox.A.units + 64 < cLine := by have := hr.units; show (A.deeper _).units + 64 < cLine; omega
    refine ⟨_, pss_cons (ps_expr (pe_call GW hr (by rfl) FW.gl FW.fn.kp FW.bi .nil pass0 (pa_cons (pv 0) (pa_cons (pv 1) pa_nil))))
      (pss_cons (ps_expr (pe_call GF hr (by rfl) FF.gl FF.fn.kp FF.bi .nil pass0 (pa_cons (pv 0) (pa_cons (pv 2) pa_nil))))
      (pss_cons (ps_expr (pe_call GS hr (by rfl) FS.gl FS.fn.kp FS.bi .nil pass0 (pa_cons (pv 0) (pa_cons (pv 3) pa_nil))))
      (pss_one (ps_ret (pe_cmpR (op_neD hu64) (pe_callN GN hr (by rfl) FN.gl FN.fn.kp kb pass0 (pa_cons (pv 0) (pa_cons (pv 1) pa_nil)) (pk_cons (pv 2) pk_nil)) (pe_callN GN hr (by rfl) FN.gl FN.fn.kp kb pass0 (pa_cons (pv 0) (pa_cons (pv 1) pa_nil)) (pk_cons (pv 3) pk_nil)) (nomark _)))))), ?_⟩
    refine ⟨_, rfl, _, rfl, p, x, c, ws, rfl, R.hc, R.good, R.hx, R.okx, R.lw, fun H1 e1 => ?_⟩
    refine ⟨_, rfl, _, rfl, p, y, c, q, rfl, R.hc.ex e1, dp_ex e1 R.hz, R.okf, fun H2 e2 => ?_⟩
    have e12 := e1.trans e2
    refine ⟨_, rfl, _, rfl, p, z, c, fl, rfl, R.hc.ex e12, dp_ex e12 hz, okz, fun H3 e3 => ?_⟩
    have e13 := e12.trans e3
    have R3 := R.ex e13
    refine ⟨_, rfl, _, rfl, _, rfl, rfl, rfl, p, x, .non, y, c, sr, ws, none, some q, rfl, R3, fun l1 H4 N4 => ?_⟩
    have e14 := e13.trans N4.ex
    refine ⟨_, rfl, _, rfl, _, rfl, rfl, rfl, p, x, .non, z, c, sr, ws, none, fl, rfl, ?_, fun l2 H5 N5 => ?_⟩
    · have R4 := R.ex e14
      exact ⟨R4.hc, R4.good, R4.hrg, R4.hx, R4.okx, R4.lw, R4.hy, R4.oky, dp_ex e14 hz, okz⟩
    · have bo := begin_ok R.good R.hrg (st := none) (fun bs h => by cases h)
      obtain ⟨xs1, h1, d1⟩ := N4.at_
      obtain ⟨xs2, h2, d2⟩ := N5.at_
      refine ⟨_, _, .lst (SqL.of (N5.ex _ _ h1)) (dpAll_ex N5.ex d1), .lst (SqL.of h2) d2, (wt_heard R.good R.hrg R.okf bo R.okx few).shaped (by decide), (wt_heard R.good R.hrg okz bo R.okx few).shaped (by decide), ?_⟩
      exact k H5 (e14.trans N5.ex)
end
end W

set_option Elab.async false
set_option linter.all false
set_option maxRecDepth 100000
set_option maxHeartbeats 4000000
/-! Lists put together; what is cut off them. -/
namespace G
open PySem PySem.Spec PyProof.Rows L2 Evl
abbrev pL (ys : Array Value) (n : Nat) (d : Option Addr) (z : Array (Option Value)) : Obj := { cls := .type "list", dict := d, data := .seq ys n, slots := z }
theorem meets_addL (l b : Addr) (ys zs : Array Value) (n m : Nat) (d e : Option Addr) (u v : Array (Option Value)) (hz : ys.size + zs.size ≤ sizeLine) :
    Meets (Builtin.«list.__add__» ⟨[.ref l, .ref b], []⟩) (fun _ R s => s.heap.get? l = some (pL ys n d u) ∧ s.heap.get? b = some (pL zs m e v) ∧ R (.ok (.ret (.ref s.heap.objs.size))) { s with heap := s.heap.push (pL (ys ++ zs) 0 none #[]) }) :=
  .of_wp fun prog w A R s h => by
    obtain ⟨hp, g, dd, tk, os⟩ := s
    obtain ⟨hl, hb, h⟩ := h
    have g1 := AutoSeq1.idx_int
    have g2 := AutoSeq1.sub_list_list
    wp_walk using AutoSeq1.wpAny_loadPart' hl, AutoSeq1.wpAny_loadPart' hb
    exact ⟨_, rfl, h⟩
/-- a list and a list, told or not -/
def rCatL (K : PySem.W.Frag) : R2 := fun x y H Q => ∃ l b xs zs, x = .ref l ∧ y = .ref b ∧ SqL K H l xs ∧ SqL K H b zs ∧ xs.length + zs.length ≤ sizeLine ∧ ∀ p, H p = none → Q (.ref p) (upd H p (.lst (xs ++ zs)))
theorem op_catL {X : Cx} {K : PySem.W.Frag} (hK : X.K = K := by rfl) : OpR X (binaryOp .Add) (rCatL K) := by
  subst hK
  intro pins s σ H x y v u Q I rx ry h
  obtain ⟨l, b, xs, zs, rfl, rfl, hl, hb, hz, q⟩ := h
  cases rx
  cases ry
  obtain ⟨its, r, e, _⟩ := I.list hl
  obtain ⟨its2, r2, e2, _⟩ := I.list hb
  obtain ⟨⟨c1, d1, p1, s1⟩, n1, g1, h1, h2, h3⟩ := e
  obtain ⟨⟨c2, d2, p2, s2⟩, n2, g2, k1, k2, k3⟩ := e2
  replace h1 : c1 = .type "list" := h1
  replace h3 : p1 = .seq its.toArray n1 := h3
  replace k1 : c2 = .type "list" := k1
  replace k3 : p2 = .seq its2.toArray n2 := k3
  subst h1 h3 k1 k3
  have l1 := r.length
  have l2 := r2.length
  refine PySem.concat_meets ⟨_, g1, rfl⟩ ⟨_, g2, rfl⟩ PySem.noFill_list_add PySem.seq_list_add PySem.F.slot_list_add PySem.F.entry_list_add (PySem.F.args_list_add_2 _ _) (meets_addL l b its.toArray its2.toArray n1 n2 d1 d2 s1 s2 (by rw [List.size_toArray, List.size_toArray]; omega)) ⟨g1, g2, ?_⟩
  rw [show its.toArray ++ its2.toArray = (its ++ its2).toArray by simp]
  exact ⟨.ref _, _, I.lnew (t' := s.toks) (r.append r2) (by rw [List.length_append]; omega), rfl, q _ I.fresh⟩
theorem sIx_neg1 (n d : Nat) : HT.sIx n d (some (-1)) = n - 1 := by
  show ((-1 : Int) + (n : Int)).toNat = n - 1
  omega
theorem cutV_last (xs : List V) : cutV xs none (some (-1)) = xs.dropLast := by
  unfold cutV
  rw [sIx_neg1]
  show (xs.drop 0).take (xs.length - 1 - 0) = _
  rw [List.drop_zero, Nat.sub_zero, List.dropLast_eq_take]
end G

set_option Elab.async false
set_option linter.all false
set_option maxRecDepth 100000
set_option maxHeartbeats 8000000
/-! sum(xs, ys): lists one behind another. -/
namespace G
open PySem PySem.Spec PyProof.Rows L2 Evl
theorem args_sum2 (a b : Value) : argsOk "sum" ⟨[a, b], []⟩ := by unfold argsOk; kernel_rfl
section
variable {prog : Program} {w : World} {A : Around} {E Q : Value → Shared → Prop} {s : Shared}
theorem addL_raw {l b : Addr} {its its2 : List Value} (e : s.heap.IsList l its.toArray) (e2 : s.heap.IsList b its2.toArray) (hz : its.length + its2.length ≤ sizeLine)
    (h : Q (.ref s.heap.objs.size) { s with heap := s.heap.push (pL (its ++ its2).toArray 0 none #[]) }) : wpAny (model prog w) A (binaryOp .Add (.ref l) (.ref b)) Q E s := by
  obtain ⟨⟨c1, d1, p1, s1⟩, g1, h1, n1, h3⟩ := e
  obtain ⟨⟨c2, d2, p2, s2⟩, g2, k1, n2, k3⟩ := e2
  replace h1 : c1 = .type "list" := h1
  replace h3 : p1 = .seq its.toArray n1 := h3
  replace k1 : c2 = .type "list" := k1
  replace k3 : p2 = .seq its2.toArray n2 := k3
  subst h1 h3 k1 k3
  refine PySem.concat_meets ⟨_, g1, rfl⟩ ⟨_, g2, rfl⟩ PySem.noFill_list_add PySem.seq_list_add PySem.F.slot_list_add PySem.F.entry_list_add (PySem.F.args_list_add_2 _ _) (meets_addL l b its.toArray its2.toArray n1 n2 d1 d2 s1 s2 (by rw [List.size_toArray, List.size_toArray]; omega)) ⟨g1, g2, ?_⟩
  rw [show its.toArray ++ its2.toArray = (its ++ its2).toArray by simp]
  exact h
end
/-- what is left from i on -/
def restL (its : Nat → List Value) (n i : Nat) : List Value := ((List.range n).drop i).flatMap its
theorem restL_end (its : Nat → List Value) (n : Nat) : restL its n n = [] := by
  unfold restL
  rw [List.drop_of_length_le (by rw [List.length_range]; exact Nat.le_refl _)]
  rfl
theorem restL_next (its : Nat → List Value) {n i : Nat} (h : i < n) : restL its n i = its i ++ restL its n (i + 1) := by
  unfold restL
  rw [List.drop_eq_getElem_cons (by rw [List.length_range]; exact h), List.flatMap_cons, List.getElem_range]
/-- the last object lives, no walk writes it -/
def TopOk (wr : List Addr) (S : Addr) (h : Heap) : Prop := ∃ t o, h.objs.size = t + 1 ∧ h.get? t = some o ∧ t ∉ wr ∧ S ≤ t
section
variable {prog : Program} {w : World} {A : Around} {R : Result → Shared → Prop} {I : Addr} {fp wr : List Addr} {Gx : Array GenState → Array GenState → Prop} {n : Nat} {P : Nat → Value → Prop} {St : Nat → Shared → Prop}
theorem codeAny_sum_loopL (W : WalksS prog w A.in1 I fp wr Gx n P St) (val : Nat → Addr) (its : Nat → List Value) (hval : ∀ i v, P i v → v = .ref (val i)) (S : Addr) (hSf : S ∉ fp) (hwS : ∀ b ∈ wr, b < S) (hv : ∀ i, i < n → val i ∉ wr ∧ val i ≠ S) :
    ∀ (k i : Nat) (s : Shared) (a : Addr) (acc : List Value) (c : Nat) (st : Int), n - i = k → i ≤ n → St i s → s.heap.get? S = some { cls := .type "list", dict := none, data := .seq #[.ref a] c, slots := #[] } →
    s.heap.IsList a acc.toArray → a ∉ wr → a ≠ S → (∀ j, j < n → s.heap.IsList (val j) (its j).toArray) → TopOk wr S s.heap → acc.length + (restL its n i).length ≤ sizeLine →
    (∀ s' r, Moved (S :: wr) Gx s s' → ((i = n ∧ r = a) ∨ (i < n ∧ S < r ∧ s'.heap.get? r = some (pL (acc ++ restL its n i).toArray 0 none #[]))) → R (.ok (.ret (.ref r))) s') → codeAny (model prog w) A (.builtin "sum.loop" ⟨[.ref I, .ref S, rawInt st, rawInt 0], []⟩) R s := by
  have hSw : S ∉ wr := fun h => hSf (W.sub _ h)
  have hsub : ∀ b ∈ wr, b ∈ S :: wr := fun b hb => List.mem_cons_of_mem _ hb
  intro k
  induction k with
  | zero =>
    intro i s a acc c st hk hi hst hS hA aw aS hL hT hz hR
    have hin : i = n := by omega
    subst hin
    refine codeAny_builtin F.entry_sum_loop ?_
    rw [Around.under_plainId F.plain_sum_loop _]
    show wpAny _ A.in1 (seqItems? (.ref S) >>= _) _ _ s
    refine wpAny_bind (wpAny_seqItems hS rfl ?_)
    show wpAny _ A.in1 (tryCatch (pyNext (.ref I)) _ >>= _) _ _ s
    refine wpAny_bind (wpAny_tryCatch (W.done s _ _ hst fun s' hm => ?_))
    exact wpAny_pure (hR s' a (hm.mono hsub) (.inl ⟨rfl, rfl⟩))
  | succ k ih =>
    intro i s a acc c st hk hi hst hS hA aw aS hL hT hz hR
    have hlt : i < n := by omega
    refine codeAny_builtin F.entry_sum_loop ?_
    rw [Around.under_plainId F.plain_sum_loop _]
    show wpAny _ A.in1 (seqItems? (.ref S) >>= _) _ _ s
    refine wpAny_bind (wpAny_seqItems hS rfl ?_)
    show wpAny _ A.in1 (tryCatch (pyNext (.ref I)) _ >>= _) _ _ s
    refine wpAny_bind (wpAny_tryCatch (W.item i s _ _ hlt hst fun v s' hP hst' hm => ?_))
    obtain rfl := hval i v hP
    have hS' := hm.heap S _ hSw hS
    have keepL : ∀ {h' : Heap}, (∀ b o, b ∉ wr → s.heap.get? b = some o → h'.get? b = some o) → ∀ {b : Addr} {xs : Array Value}, b ∉ wr → s.heap.IsList b xs → h'.IsList b xs := fun {_} k {_} {_} nb q => match q with | ⟨o, e, r⟩ => ⟨o, k _ _ nb e, r⟩
    have hA' := keepL hm.heap aw hA
    have hLi := keepL hm.heap (hv i hlt).1 (hL i hlt)
    have rn := restL_next its hlt
    rw [rn, List.length_append] at hz
    show wpAny _ A.in1 ((holding [Value.ref (val i)] (binaryOp .Add (.ref a) (.ref (val i)))).attempt >>= _) _ _ _
    refine wpAny_bind (wpAny_attempt (wpAny_holding (addL_raw hA' hLi (by omega) ?_)))
    obtain ⟨t, ot, ht, hto, htw, hSt⟩ := hT
    have hSt : Nat.le S t := hSt
    have hwS : ∀ b ∈ wr, Nat.lt b S := hwS
    have ht1 : t < s'.heap.objs.size := Heap.lt_size (hm.heap _ _ htw hto)
    have keep2 : ∀ b o, b ≠ S → s'.heap.get? b = some o → (((s'.heap.push (pL (acc ++ its i).toArray 0 none #[])).update S (Obj.mapSeq fun _ => #[Value.ref s'.heap.objs.size])).update S (Obj.mapSeq fun _ => #[Value.ref s'.heap.objs.size])).get? b = some o := fun b o nb e =>
      (Heap.get?_update_other _ _ (Ne.symm nb)).trans ((Heap.get?_update_other _ _ (Ne.symm nb)).trans (Heap.get?_push_of_some _ e))
    have hS1 : (s'.heap.push (pL (acc ++ its i).toArray 0 none #[])).get? S = _ := Heap.get?_push_of_some _ hS'
    have lS : Nat.lt S s'.heap.objs.size := Nat.lt_of_le_of_lt hSt ht1
    have aN : s'.heap.objs.size ≠ S := fun z => Nat.lt_irrefl _ (z ▸ lS)
    have aw2 : s'.heap.objs.size ∉ wr := fun z => Nat.lt_irrefl _ (Nat.lt_trans (hwS _ z) lS)
    show wpAny _ A.in1 (updateSeq S (fun _ => #[.ref s'.heap.objs.size]) >>= _) _ _ _
    refine wpAny_bind (wpAny_updateSeq hS1 rfl ?_)
    have hS₂ := Heap.get?_update_self (Obj.mapSeq fun _ => #[Value.ref s'.heap.objs.size]) hS1 rfl
    refine wpAny_bind (wpAny_letGo ?_)
    have newA : (((s'.heap.push (pL (acc ++ its i).toArray 0 none #[])).update S (Obj.mapSeq fun _ => #[Value.ref s'.heap.objs.size])).update S (Obj.mapSeq fun _ => #[Value.ref s'.heap.objs.size])).get? s'.heap.objs.size = some (pL (acc ++ its i).toArray 0 none #[]) :=
      (Heap.get?_update_other _ _ (Ne.symm aN)).trans ((Heap.get?_update_other _ _ (Ne.symm aN)).trans (Heap.get?_push_size _ rfl))
    refine wpAny_bind (wpAny_updateSeq hS₂ rfl (wpAny_pure ⟨plainId_quiet F.plain_sum_loop _, ih (i + 1) _ s'.heap.objs.size (acc ++ its i) _ 2 (by omega) hlt (W.frame _ s' _ _ hst' (Nat.le_refl _) fun b hb o e => keep2 b o (fun z => hSf (by rw [← z]; exact hb)) e) (Heap.get?_update_self _ hS₂ rfl)
      ⟨_, newA, rfl, 0, rfl⟩ aw2 aN (fun j hj => ?_) ⟨s'.heap.objs.size, _, ?_, newA, aw2, Nat.le_of_lt lS⟩ (by rw [List.length_append]; omega) fun s'' r hm'' hr => ?_⟩))
    · obtain ⟨o, e, q⟩ := keepL hm.heap (hv j hj).1 (hL j hj)
      exact ⟨o, keep2 _ _ (hv j hj).2 e, q⟩
    · show (((s'.heap.push _).update S _).update S _).objs.size = _
      rw [Heap.size_update, Heap.size_update, Heap.size_push]
    · refine hR s'' r (Moved.trans W.gtrans ((hm.mono hsub).then_heap (Nat.le_refl _) fun b o hb e => keep2 b o (fun z => hb (by rw [z]; exact List.mem_cons_self)) e) hm'') ?_
      refine .inr ⟨hlt, ?_⟩
      rw [rn, ← List.append_assoc]
      rcases hr with ⟨e, rfl⟩ | ⟨_, h1, h2⟩
      · rw [e, restL_end, List.append_nil]
        refine ⟨lS, hm''.heap _ _ (fun z => ?_) newA⟩
        rcases List.mem_cons.mp z with z | z
        · exact aN z
        · exact aw2 z
      · exact ⟨h1, h2⟩
end
section
variable {prog : Program} {w : World} {A : Around} {E Q : Value → Shared → Prop} {s : Shared}
theorem sumL_raw {l b : Addr} {as : List Addr} {its : Nat → List Value} {st : List Value} (hh : A.handled = none) (hl : s.heap.IsList l (as.map Value.ref).toArray) (hb : s.heap.IsList b st.toArray) (hs : ∀ i a, as[i]? = some a → s.heap.IsList a (its i).toArray)
    (hz : st.length + ((List.range as.length).flatMap its).length ≤ sizeLine)
    (h : ∀ h' tk r, (∀ b o, s.heap.get? b = some o → h'.get? b = some o) → ((as = [] ∧ r = b) ∨ (as ≠ [] ∧ s.heap.objs.size ≤ r ∧ h'.get? r = some (pL (st ++ (List.range as.length).flatMap its).toArray 0 none #[]))) → Q (.ref r) { s with heap := h', toks := tk }) :
    wpAny (model prog w) A (call (.builtin "sum") [.ref l, .ref b]) Q E s := by
  refine call_function_tree F.kind_sum F.plain_sum F.entry_sum (args_sum2 _ _) ?_
  unfold Builtin.«sum»
  simp only [List.length_cons, List.length_nil]
  rw [if_neg (by decide)]
  refine wpAny_bind (wpAny_of_eq (show Builtin.Builtins.bindParams "sum" ["start"] 0 ⟨[.ref b], []⟩ = pure [some (.ref b)] from rfl) ?_)
  have lt0 : ∀ {c : Addr} {o : Obj}, s.heap.get? c = some o → @LT.lt Nat instLTNat c s.heap.objs.size := fun e => Heap.lt_size e
  have ltl : @LT.lt Nat instLTNat l s.heap.objs.size := by obtain ⟨_, e, _⟩ := hl; exact lt0 e
  have ltb : @LT.lt Nat instLTNat b s.heap.objs.size := by obtain ⟨_, e, _⟩ := hb; exact lt0 e
  refine wpAny_bind (wpAny_pyIter_list hl ?_)
  refine wpAny_bind (wpAny_pure ?_)
  simp only [List.forIn_cons, List.forIn_nil]
  have tb : Shared.TypeIs { s with heap := s.heap.push { cls := .type "list_iterator", data := .fields #[.ref l, .int 0 0] } } (.ref b) "list" := by
    obtain ⟨o, e, c, _⟩ := hb
    exact ⟨o, Heap.get?_push_of_some _ e, c⟩
  refine wpAny_bind (wpAny_bind (wpAny_bind (wpAny_isInstance (T := "list") (b := false) tb sub_list_str ?_)))
  simp only [Bool.false_eq_true, if_false]
  refine wpAny_pure (wpAny_bind (wpAny_bind (wpAny_isInstance (T := "list") (b := false) tb (by rw [isSubtype_type]; kernel_rfl) ?_)))
  simp only [Bool.false_eq_true, if_false]
  refine wpAny_pure (wpAny_bind (wpAny_bind (wpAny_isInstance (T := "list") (b := false) tb (by rw [isSubtype_type]; kernel_rfl) ?_)))
  simp only [Bool.false_eq_true, if_false]
  refine wpAny_pure (wpAny_pure ?_)
  refine wpAny_bind (wpAny_newObj_type ?_)
  have sz1 : (s.heap.push { cls := .type "list_iterator", data := .fields #[.ref l, .int 0 0] }).objs.size = s.heap.objs.size + 1 := Heap.size_push ..
  have W := (Walks.list (prog := prog) (w := w) (A := A.in1) hh s.heap.objs.size l (Nat.ne_of_lt ltl) (as.map Value.ref).toArray).toS
  have hSf : (s.heap.push { cls := .type "list_iterator", data := .fields #[.ref l, .int 0 0] }).objs.size ∉ [s.heap.objs.size, l] := fun hm => by
    rw [sz1] at hm
    rcases List.mem_cons.mp hm with z | z
    · have z : @Eq Nat _ _ := z
      omega
    · have z : @Eq Nat _ _ := List.mem_singleton.mp z
      omega
  have ka : ∀ {c : Addr} {o : Obj}, s.heap.get? c = some o → ((s.heap.push { cls := .type "list_iterator", data := .fields #[.ref l, .int 0 0] }).push { cls := .type "list", data := .seq #[.ref b] }).get? c = some o := fun e => Heap.get?_push_of_some _ (Heap.get?_push_of_some _ e)
  have kl : ∀ {c : Addr} {xs : Array Value}, s.heap.IsList c xs → ((s.heap.push { cls := .type "list_iterator", data := .fields #[.ref l, .int 0 0] }).push { cls := .type "list", data := .seq #[.ref b] }).IsList c xs := fun ⟨o, e, q⟩ => ⟨o, ka e, q⟩
  have la : (as.map Value.ref).toArray.size = as.length := by simp
  have at_ : ∀ {j : Nat} (hj : j < (as.map Value.ref).toArray.size), as[j]? = some (as.getD j 0) := fun {j} hj => by
    rw [List.getD_eq_getElem?_getD, List.getElem?_eq_getElem (by rw [la] at hj; exact hj)]
    rfl
  refine wpAny_pure ⟨plainId_quiet F.plain_sum_loop _, codeAny_sum_loopL W (fun i => as.getD i 0) its (fun i v hP => ?_) _ hSf (fun c hc => ?_) (fun i hi => ?_) _ 0 _ b st 0 2 rfl (Nat.zero_le _) ?_ (Heap.get?_push_size _ rfl) (kl hb) ?_ ?_ (fun j hj => kl (hs j _ (at_ hj))) ?_ ?_ fun s' r hm hr => ?_⟩
  · have hP : (as.map Value.ref).toArray[i]? = some v := hP
    rw [List.getElem?_toArray, List.getElem?_map] at hP
    obtain ⟨a, ha, rfl⟩ := Option.map_eq_some_iff.mp hP
    show Value.ref a = .ref (as.getD i 0)
    rw [List.getD_eq_getElem?_getD, ha]
    rfl
  · rw [List.mem_singleton.mp hc, sz1]
    exact Nat.lt_succ_self _
  · obtain ⟨o, e, _⟩ := hs i _ (at_ hi)
    have := lt0 e
    refine ⟨fun z => ?_, fun z => ?_⟩
    · have z : @Eq Nat _ _ := List.mem_singleton.mp z
      omega
    · have z : @Eq Nat _ _ := z
      rw [sz1] at z
      omega
  · refine W.frame 0 { s with heap := s.heap.push { cls := .type "list_iterator", data := .fields #[.ref l, .int 0 0] } } _ _ ⟨⟨_, Heap.get?_push_size _ rfl, rfl, rfl⟩, ?_⟩ (Nat.le_refl _) fun c _ o e => Heap.get?_push_of_some _ e
    obtain ⟨o, e, q⟩ := hl
    exact ⟨o, Heap.get?_push_of_some _ e, q⟩
  · intro z
    have z : @Eq Nat _ _ := List.mem_singleton.mp z
    omega
  · intro z
    have z : @Eq Nat _ _ := z
    rw [sz1] at z
    omega
  · refine ⟨_, _, ?_, Heap.get?_push_size _ rfl, fun z => ?_, Nat.le_refl _⟩
    · show ((s.heap.push _).push _).objs.size = _
      rw [Heap.size_push]
    · have z : @Eq Nat _ _ := List.mem_singleton.mp z
      rw [sz1] at z
      omega
  · unfold restL
    rw [la, List.drop_zero]
    exact hz
  · have out : ∀ c o, s.heap.get? c = some o → s'.heap.get? c = some o := fun c o e => hm.heap c o (fun z => by
      have := lt0 e
      rcases List.mem_cons.mp z with z | z
      · have z : @Eq Nat _ _ := z
        rw [sz1] at z
        omega
      · have z : @Eq Nat _ _ := List.mem_singleton.mp z
        omega) (ka e)
    have es : s' = { s with heap := s'.heap, toks := s'.toks } := by
      obtain ⟨a1, a2, a3, a4, a5⟩ := s'
      obtain ⟨b1, b2, b3, b4, b5⟩ := s
      have q1 := hm.gens
      have q2 := hm.drawn
      have q3 := hm.os
      simp at q1 q2 q3
      subst q1 q2 q3
      rfl
    rw [es]
    refine h s'.heap s'.toks r out ?_
    rcases hr with ⟨e, rfl⟩ | ⟨h0, h1, h2⟩
    · rw [la] at e
      exact .inl ⟨List.length_eq_zero_iff.mp e.symm, rfl⟩
    · refine .inr ⟨fun z => ?_, ?_, ?_⟩
      · rw [z] at h0
        cases h0
      · have h1 : Nat.lt _ r := h1
        rw [sz1] at h1
        exact Nat.le_of_lt (Nat.lt_trans (Nat.lt_succ_self _) h1)
      · unfold restL at h2
        rw [la, List.drop_zero] at h2
        exact h2
end
/-- sum(xs, ys): xs a list of lists, ys a list -/
def rSumC (K : PySem.W.Frag) : List V → Hp → VK → Prop := fun vs H Q => ∃ (l b : Addr) (as : List Addr) (xs : Nat → List V) (ys : List V), vs = [V.ref l, V.ref b] ∧ SqL K H l (as.map V.ref) ∧ SqL K H b ys ∧ (∀ i a, as[i]? = some a → SqL K H a (xs i)) ∧ ys.length + ((List.range as.length).flatMap xs).length ≤ sizeLine ∧
  (as = [] → Q (.ref b) H) ∧ (as ≠ [] → ∀ r, H r = none → Q (.ref r) (upd H r (.lst (ys ++ (List.range as.length).flatMap xs))))
theorem vals_flat : ∀ {ns : List Nat} {xs : Nat → List V} {its : Nat → List Value}, (∀ i ∈ ns, Vals (xs i) (its i)) → Vals (ns.flatMap xs) (ns.flatMap its)
  | [], _, _, _ => .nil
  | n :: ns, xs, its, h => by
    rw [List.flatMap_cons, List.flatMap_cons]
    exact (h n List.mem_cons_self).append (vals_flat fun i hi => h i (List.mem_cons_of_mem _ hi))
theorem vals_refs : ∀ {as : List Addr} {us : List Value}, Vals (as.map V.ref) us → us = as.map Value.ref
  | [], _, h => by cases h; rfl
  | a :: as, _, h => by
    cases h with
    | cons h1 h2 =>
      rw [vals_refs h2, List.map_cons]
      congr 1
theorem call_sumC {X : Cx} {K : PySem.W.Frag} (hc : X.calm = true) (hK : X.K = K := by rfl) : CallR X (.builtin "sum") (rSumC K) := by
  subst hK
  intro pins s σ H vs us Q I r h
  obtain ⟨l, b, as, xs, ys, rfl, hl, hb, hx, hz, q⟩ := h
  obtain ⟨its, rv, hl1, _⟩ := I.list hl
  obtain rfl := vals_refs rv
  obtain ⟨st, rb, hb1, _⟩ := I.list hb
  have toI : ∀ {a : Addr} {zs : Array Value}, PlainL s.heap a zs → s.heap.IsList a zs := fun ⟨o, n, e, c, _, d⟩ => ⟨o, e, c, n, d⟩
  have one : ∀ i, ∃ its : List Value, ∀ a, as[i]? = some a → Vals (xs i) its ∧ s.heap.IsList a its.toArray := fun i => by
    cases e : as[i]? with
    | none => exact ⟨[], fun a z => by cases z⟩
    | some a =>
      obtain ⟨its, rv, hl, _⟩ := I.list (hx i a e)
      exact ⟨its, fun b z => by cases z; exact ⟨rv, toI hl⟩⟩
  have ch : ∃ its : Nat → List Value, ∀ i a, as[i]? = some a → Vals (xs i) (its i) ∧ s.heap.IsList a (its i).toArray := ⟨fun i => Classical.choose (one i), fun i a e => Classical.choose_spec (one i) a e⟩
  obtain ⟨its, hi⟩ := ch
  have rf : Vals ((List.range as.length).flatMap xs) ((List.range as.length).flatMap its) := vals_flat fun i hi2 => by
    have lt := List.mem_range.mp hi2
    exact (hi i _ (List.getElem?_eq_getElem lt)).1
  have l1 := rf.length
  have l2 := rb.length
  obtain rfl : us = [Value.ref l, Value.ref b] := vals_refs (as := [l, b]) r
  refine sumL_raw (I.ok.hd hc) (toI hl1) (toI hb1) (fun i a e => (hi i a e).2) (by omega) fun h' tk r hk hr => ?_
  rcases hr with ⟨rfl, rfl⟩ | ⟨ne, h1, h2⟩
  · exact ⟨.ref _, H, I.kept hk, rfl, q.1 rfl⟩
  · refine ⟨.ref r, _, I.laid (o := .lst (ys ++ (List.range as.length).flatMap xs)) (t' := tk) hk h1 ⟨by rw [List.length_append]; exact hz, st ++ (List.range as.length).flatMap its, 0, rb.append rf, h2⟩, rfl, q.2 ne r (I.hok.fresh h1)⟩
end G

set_option Elab.async false
set_option linter.all false
set_option maxRecDepth 100000
set_option maxHeartbeats 16000000
set_option pp.maxSteps 2000
namespace W
open PySem PySem.Spec PyProof.Rows L2 Evl G C
theorem op_catAK {Y : Cx} {K : PySem.W.Frag} (h : Y.K = K := by rfl) : OpR Y (binaryOp .Add) (rCatA K) := by
  subst h
  exact op_catA
theorem rd_catA {K : PySem.W.Frag} {H : Hp} {a b : Addr} {xs ys : List V} {Q : VK} (ha : SqT K H a xs) (hb : SqT K H b ys) (sz : xs.length + ys.length ≤ 1000) (k : ∀ t H', Ex H H' → SqT K H' t (xs ++ ys) → Q (.ref t) H') : rCatA K (.ref a) (.ref b) H Q := by
  refine ⟨a, b, xs, ys, rfl, rfl, ha, hb, Nat.le_trans sz (by decide), fun z => ?_, fun _ z => ?_, fun _ _ t nt => ?_⟩
  · subst z
    exact k b H (Ex.refl H) hb
  · subst z
    exact k a H (Ex.refl H) (by rw [List.append_nil]; exact ha)
  · exact k t _ (Ex.new nt) (st_of upd_same)
/-- a model: four lists in a tuple -/
def ModAt (K : PySem.W.Frag) (H : Hp) (a : Addr) (c : Cir) : Prop := ∃ l1 l2 l3 l4, H a = some (.tup [.ref l1, .ref l2, .ref l3, .ref l4]) ∧ Three K H l1 l2 l3 c.ins c.gates c.regs ∧ H l4 = some (.lst (c.outs.map V.str))
theorem ModAt.ex {K : PySem.W.Frag} {H H' : Hp} {d : Addr} {c : Cir} (h : ModAt K H d c) (e : Ex H H') : ModAt K H' d c := by
  obtain ⟨l1, l2, l3, l4, h0, h1, h4⟩ := h
  exact ⟨l1, l2, l3, l4, e _ _ h0, h1.ex e, e _ _ h4⟩
theorem ModAt.but {K : PySem.W.Frag} {H H' : Hp} {d p : Addr} {c : Cir} (h : ModAt K H d c) (hp : Pot H p) (e : ExBut p H H') : ModAt K H' d c := by
  obtain ⟨l1, l2, l3, l4, h0, h1, h4⟩ := h
  exact ⟨l1, l2, l3, l4, e _ _ h0 (pot_ne hp h0 fun _ q => by cases q), h1.but hp e, e _ _ h4 (strs_ne hp h4)⟩
section
variable {P : Program} {w : World} {K : PySem.W.Frag} {mg : Str → Option Value} {base : Heap} {C : Addr}
def spLWires (K : PySem.W.Frag) : Sp := fun vs H Q _ => ∃ (d : Addr) (c : Cir), vs = [.ref d] ∧ ModAt K H d c ∧ Good c ∧ ∀ zs l H', zs.Perm (names c) → sortedS zs = true → Ex H H' → H l = none → H' l = some (.lst (zs.map V.str)) → Q (.ref l) H'
abbrev nLWires : List Str := ["_law_model_here", "_law_gate", "_law_row"]
theorem scLWires : FnScope nLWires ["_law_model_here"] (defScope dLWires) := ⟨rfl, rfl, rfl, by decide +kernel, rfl, by decide +kernel, by decide +kernel⟩
theorem okLWires {f : Addr} {fd : FuncData} (F : At K mg "_law_wires" dLWires ["_law_model_here"] f fd) (T : Txt K mg) : FnOk P w K mg base CX0 1 f fd ["_law_model_here"] (spLWires K) := by
  refine F.fn.ok scLWires (fun vs H Q E h => ?_) (fun cdv A outer s H vs Q E hr h => ?_)
  · obtain ⟨d, c, rfl, _⟩ := h
    rfl
  · obtain ⟨d, c, rfl, hd, good, k⟩ := h
    have nds := scLWires.nd
    refine ⟨_, (pss_one (ps_ret (pe_callB cr_sortedS (by rfl) T.sorted (by decide +kernel) (pa_cons (pe_op (op_catL (K := K)) (pe_op (op_catL (K := K)) (pe_ix ix_tup (pv 0) pe_int (fun _ _ => rfl)) (pe_lc (own := [("_law_gate", 1)]) (g := (gName 1)) (by rfl) nds (pi_list (pe_ix ix_tup (pv 0) pe_int (fun _ _ => rfl))) (blkOk_by (own := [("_law_gate", 1)]) (N := nLWires) (sc := defScope dLWires) (by decide +kernel))
          (fun _ _ _ _ _ => (pg_name (i := 1) nds rfl (Or.inl rfl))) (fun _ _ _ _ _ => pts_nil) (fun _ _ _ _ _ => (pe_ix (ix_tupK (K := K)) (pv 1) pe_int (fun _ _ => rfl))))) (pe_lc (own := [("_law_row", 2)]) (g := (gName 2)) (by rfl) nds (pi_list (pe_ix ix_tup (pv 0) pe_int (fun _ _ => rfl))) (blkOk_by (own := [("_law_row", 2)]) (N := nLWires) (sc := defScope dLWires) (by decide +kernel))
          (fun _ _ _ _ _ => (pg_name (i := 2) nds rfl (Or.inl rfl))) (fun _ _ _ _ _ => pts_nil) (fun _ _ _ _ _ => (pe_ix (ix_tupK (K := K)) (pv 2) pe_int (fun _ _ => rfl))))) pa_nil)))), ?_⟩
    have li := good.li
    have lg := good.lg
    have lr := good.lr
    obtain ⟨l1, l2, l3, l4, h0, ⟨h1, ⟨xs2, hs2, hx2⟩, ⟨xs3, hs3, hx3⟩⟩, h4⟩ := hd
    have n2 := dp_len hx2
    have n3 := dp_len hx3
    refine ⟨_, rfl, d, _, 0, .ref l1, rfl, rfl, st_of h0, rfl, _, rfl, d, _, 1, .ref l2, rfl, rfl, st_of h0, rfl, l2, rfl, ⟨_, SqL.of hs2⟩, fun L nL => ?_⟩
    refine lc_it (walk_list (K := K) (a := l2) (xs := xs2)) (fun i Hc => Ex H Hc ∧ Hc L = some (.lst (((c.gates.take i).map fun r => r.1).map V.str))) ⟨Ex.new nL, upd_same⟩ (fun i Hc _ q => SqL.of (q.1 _ _ hs2)) (fun i x Ha Hb hi q yy => ?_) (fun H1 q => ?_)
    · obtain ⟨rfl, ex⟩ := yy
      obtain ⟨e2, hL⟩ := q
      obtain ⟨g, er, dr⟩ := dp_nth hx2 ex
      obtain ⟨t, l, rfl, ht, _⟩ := gate_of (dp_ex e2 dr)
      refine ⟨rfl, _, rfl, t, _, 0, .str g.1, rfl, rfl, ht, rfl, _, hL, ?_, e2.mut nL, ?_⟩
      · simp only [List.length_map, List.length_take]
        exact Nat.lt_of_le_of_lt (show _ ≤ 1000 by omega) (by decide)
      · rw [upd_same, take_more er]
        simp
    obtain ⟨e1, hL⟩ := q
    rw [n2, List.take_length] at hL
    refine ⟨l1, L, _, _, rfl, rfl, SqL.of (e1 _ _ h1), SqL.of hL, by rw [List.length_map, List.length_map, List.length_map]; exact Nat.le_trans (show _ ≤ 1000 by omega) (by decide), fun q nq => ?_⟩
    have e2 : Ex H1 (upd H1 q (.lst (c.ins.map V.str ++ (c.gates.map fun r => r.1).map V.str))) := Ex.new nq
    have hq : (upd H1 q (.lst (c.ins.map V.str ++ (c.gates.map fun r => r.1).map V.str))) q = some (.lst (c.ins.map V.str ++ (c.gates.map fun r => r.1).map V.str)) := upd_same
    generalize upd H1 q (.lst (c.ins.map V.str ++ (c.gates.map fun r => r.1).map V.str)) = H2 at e2 hq
    have x2 := e1.trans e2
    refine ⟨_, rfl, d, _, 2, .ref l3, rfl, rfl, st_of (x2 _ _ h0), rfl, l3, rfl, ⟨_, SqL.of (x2 _ _ hs3)⟩, fun L2 nL2 => ?_⟩
    refine lc_it (walk_list (K := K) (a := l3) (xs := xs3)) (fun i Hc => Ex H2 Hc ∧ Hc L2 = some (.lst (((c.regs.take i).map fun r => r.1).map V.str))) ⟨Ex.new nL2, upd_same⟩ (fun i Hc _ q => SqL.of (q.1 _ _ (x2 _ _ hs3))) (fun i x Ha Hb hi q yy => ?_) (fun H3 q => ?_)
    · obtain ⟨rfl, ex⟩ := yy
      obtain ⟨e3, hL2⟩ := q
      obtain ⟨g, er, dr⟩ := dp_nth hx3 ex
      obtain ⟨t, rfl, ht⟩ := reg_of (dp_ex (x2.trans e3) dr)
      refine ⟨rfl, _, rfl, t, _, 0, .str g.1, rfl, rfl, ht, rfl, _, hL2, ?_, e3.mut nL2, ?_⟩
      · simp only [List.length_map, List.length_take]
        exact Nat.lt_of_le_of_lt (show _ ≤ 1000 by omega) (by decide)
      · rw [upd_same, take_more er]
        simp
    obtain ⟨e3, hL2⟩ := q
    rw [n3, List.take_length] at hL2
    have x3 := x2.trans e3
    refine ⟨q, L2, _, _, rfl, rfl, SqL.of (e3 _ _ hq), SqL.of hL2, by rw [List.length_append, List.length_map, List.length_map, List.length_map, List.length_map, List.length_map]; exact Nat.le_trans (show _ ≤ 1000 by omega) (by decide), fun m nm => ?_⟩
    have e4 : Ex H3 (upd H3 m (.lst (c.ins.map V.str ++ (c.gates.map fun r => r.1).map V.str ++ (c.regs.map fun r => r.1).map V.str))) := Ex.new nm
    have hm : (upd H3 m (.lst (c.ins.map V.str ++ (c.gates.map fun r => r.1).map V.str ++ (c.regs.map fun r => r.1).map V.str))) m = some (.lst ((names c).map V.str)) := by
      rw [upd_same, names, List.map_append, List.map_append, List.append_assoc]
      rfl
    generalize upd H3 m (.lst (c.ins.map V.str ++ (c.gates.map fun r => r.1).map V.str ++ (c.regs.map fun r => r.1).map V.str)) = H4 at e4 hm
    have few := names_few good
    refine ⟨m, names c, rfl, SqL.of hm, by omega, fun ys p pm so np => ?_⟩
    exact k ys p _ pm so ((x3.trans e4).trans (Ex.new np)) (ex_none (x3.trans e4) np) upd_same
def spLFirst (K : PySem.W.Frag) : Sp := fun vs H Q _ => ∃ (d : Addr) (c : Cir), vs = [.ref d] ∧ ModAt K H d c ∧ Good c ∧ ∀ t H', Ex H H' → H t = none → H' t = some (.tup ((firstOf c.regs).map V.int)) → Q (.ref t) H'
abbrev nLFirst : List Str := ["_law_model_here", "_law_row"]
theorem scLFirst : FnScope nLFirst ["_law_model_here"] (defScope dLFirst) := ⟨rfl, rfl, rfl, by decide +kernel, rfl, by decide +kernel, by decide +kernel⟩
theorem okLFirst {f : Addr} {fd : FuncData} (F : At K mg "_law_first" dLFirst ["_law_model_here"] f fd) (T : Txt K mg) : FnOk P w K mg base CX0 1 f fd ["_law_model_here"] (spLFirst K) := by
  refine F.fn.ok scLFirst (fun vs H Q E h => ?_) (fun cdv A outer s H vs Q E hr h => ?_)
  · obtain ⟨d, c, rfl, _⟩ := h
    rfl
  · obtain ⟨d, c, rfl, hd, good, k⟩ := h
    have nds := scLFirst.nd
    refine ⟨_, (pss_one (ps_ret (pe_callTy (call_tup (K := K)) (by rfl) T.tuple (by decide +kernel) (pa_cons (pe_lc (own := [("_law_row", 1)]) (g := (gName 1)) (by rfl) nds (pi_list (pe_ix ix_tup (pv 0) pe_int (fun _ _ => rfl))) (blkOk_by (own := [("_law_row", 1)]) (N := nLFirst) (sc := defScope dLFirst) (by decide +kernel))
          (fun _ _ _ _ _ => (pg_name (i := 1) nds rfl (Or.inl rfl))) (fun _ _ _ _ _ => pts_nil) (fun _ _ _ _ _ => (pe_ix (ix_tupK (K := K)) (pv 1) pe_int (fun _ _ => rfl)))) pa_nil)))), ?_⟩
    have lr := good.lr
    obtain ⟨l1, l2, l3, l4, h0, ⟨h1, h2, ⟨xs3, hs3, hx3⟩⟩, h4⟩ := hd
    have n3 := dp_len hx3
    refine ⟨_, rfl, d, _, 2, .ref l3, rfl, rfl, st_of h0, rfl, l3, rfl, ⟨_, SqL.of hs3⟩, fun L nL => ?_⟩
    refine lc_it (walk_list (K := K) (a := l3) (xs := xs3)) (fun i Hc => Ex H Hc ∧ Hc L = some (.lst ((firstOf (c.regs.take i)).map V.int))) ⟨Ex.new nL, upd_same⟩ (fun i Hc _ q => SqL.of (q.1 _ _ hs3)) (fun i x Ha Hb hi q yy => ?_) (fun H1 q => ?_)
    · obtain ⟨rfl, ex⟩ := yy
      obtain ⟨e2, hL⟩ := q
      obtain ⟨g, er, dr⟩ := dp_nth hx3 ex
      obtain ⟨t, rfl, ht⟩ := reg_of (dp_ex e2 dr)
      refine ⟨rfl, _, rfl, t, _, 1, .int g.2.1, rfl, rfl, ht, rfl, _, hL, ?_, e2.mut nL, ?_⟩
      · simp only [firstOf, List.length_map, List.length_take]
        exact Nat.lt_of_le_of_lt (show _ ≤ 1000 by omega) (by decide)
      · rw [upd_same, take_more er]
        simp [firstOf]
    obtain ⟨e1, hL⟩ := q
    rw [n3, List.take_length] at hL
    exact ⟨L, _, rfl, .inl ⟨SqL.of hL, fun t nt => k t _ (e1.trans (Ex.new nt)) (ex_none e1 nt) upd_same⟩⟩
def spMade (K : PySem.W.Frag) : Sp := fun vs H Q _ => ∃ (k : Str) (l : Addr) (ys : List Int), vs = [.str k, .ref l] ∧ kindsL.lookup k = some ys.length ∧ SqL K H l (ys.map V.int) ∧ (∀ b ∈ ys, isBt b) ∧ ∀ H', Ex H H' → Q (.int (bitK k ys)) H'
abbrev nMade : List Str := ["_law_kind", "_law_bits"]
theorem scMade : FnScope nMade ["_law_kind", "_law_bits"] (defScope dMade) := ⟨rfl, rfl, rfl, by decide +kernel, rfl, by decide +kernel, by decide +kernel⟩
theorem okMade {f : Addr} {fd : FuncData} (F : At K mg "_law_made" dMade ["_law_kind", "_law_bits"] f fd) (T : Txt K mg) : FnOk P w K mg base CX0 1 f fd ["_law_kind", "_law_bits"] (spMade K) := by
  refine F.fn.ok scMade (fun vs H Q E h => ?_) (fun cdv A outer s H vs Q E hr h => ?_)
  · obtain ⟨k, l, ys, rfl, _⟩ := h
    rfl
  · obtain ⟨k, l, ys, rfl, hk, hl, hb, kk⟩ := h
    refine ⟨_, (pss_cons (ps_if (pt_cmpR op_in_seq (pv 0) (pe_lst (pa_cons pe_str (pa_cons pe_str pa_nil))) (by with_unfolding_all rfl))
        (pss_one (ps_ret (pe_callTy call_int1 (by rfl) T.int (by decide +kernel) (pa_cons (pe_cmpR op_eq (pv 0) pe_str (nomark _)) pa_nil)))) pss_nil)
      (pss_cons (ps_if (pt_cmpR op_eq (pv 0) pe_str (nomark _))
        (pss_one (ps_ret (pe_op op_sub pe_int (pe_ix ix_list (pv 1) pe_int (fun _ _ => rfl))))) pss_nil)
      (pss_cons (ps_if (pt_cmpR op_eq (pv 0) pe_str (nomark _))
        (pss_one (ps_ret (pe_ifExp (pt_cmpR op_eq (pe_ix ix_list (pv 1) pe_int (fun _ _ => rfl)) pe_int (nomark _)) (pe_ix ix_list (pv 1) pe_int (fun _ _ => rfl)) (pe_ix ix_list (pv 1) pe_int (fun _ _ => rfl))))) pss_nil)
      (pss_cons (ps_if (pt_cmpR op_eq (pv 0) pe_str (nomark _))
        (pss_one (ps_ret (pe_callTy call_int1 (by rfl) T.int (by decide +kernel) (pa_cons (pe_cmpR op_ne (pe_ix ix_list (pv 1) pe_int (fun _ _ => rfl)) (pe_ix ix_list (pv 1) pe_int (fun _ _ => rfl)) (nomark _)) pa_nil)))) pss_nil)
      (pss_one (ps_ret (pe_ifExp (pt_cmpR op_eq (pv 0) pe_str (nomark _)) (pe_callB (cr_min rfl) (by rfl) T.min (by decide +kernel) (pa_cons (pv 1) pa_nil)) (pe_callB (cr_max rfl) (by rfl) T.max (by decide +kernel) (pa_cons (pv 1) pa_nil))))))))), ?_⟩
    refine ⟨_, rfl, (by show 2 ≤ sizeLine; decide), fun t nt => ?_⟩
    have e1 : Ex H (upd H t (.lst [.str "low", .str "high"])) := Ex.new nt
    have ht : (upd H t (.lst [.str "low", .str "high"])) t = some (.lst [.str "low", .str "high"]) := upd_same
    have hl := ex_l e1 hl
    generalize upd H t (.lst [.str "low", .str "high"]) = H1 at e1 ht hl
    refine ⟨t, _, rfl, .inl (SqL.of ht), rfl, rfl, _, rfl, ?_⟩
    have kk := kk H1 e1
    have two : ∀ {ys : List Int}, ys.length = 2 → (∀ b ∈ ys, isBt b) → ∃ a b, ys = [a, b] ∧ isBt a ∧ isBt b := by
      intro ys h hb
      match ys, h with
      | [a, b], _ => exact ⟨a, b, rfl, hb a (by simp), hb b (by simp)⟩
    rcases kinds_cases hk with ⟨rfl, e⟩ | ⟨rfl, e⟩ | ⟨rfl, e⟩ | ⟨rfl, e⟩ | ⟨rfl, e⟩ | ⟨rfl, e⟩ | ⟨rfl, e⟩
    · obtain ⟨a, b, rfl, ha, hc⟩ := two e hb
      refine iteF ⟨_, rfl, rfl, _, rfl, iteF ⟨_, rfl, rfl, _, rfl, iteF ⟨_, rfl, rfl, _, rfl, iteF ⟨_, rfl, rfl, _, rfl, iteT ?_⟩⟩⟩⟩
      refine ⟨_, rfl, l, _, rfl, hl, by simp, fun m hm hle => ?_⟩
      have h1 := hle a (by simp)
      have h2 := hle b (by simp)
      obtain rfl : m = bitK "and" [a, b] := by
        have hm : m = a ∨ m = b := by simpa using hm
        have t00 : bitK "and" [0, 0] = 0 := by decide +kernel
        have t01 : bitK "and" [0, 1] = 0 := by decide +kernel
        have t10 : bitK "and" [1, 0] = 0 := by decide +kernel
        have t11 : bitK "and" [1, 1] = 1 := by decide +kernel
        rcases ha with rfl | rfl <;> rcases hc with rfl | rfl <;> simp only [t00, t01, t10, t11] <;> omega
      exact kk
    · obtain rfl := List.length_eq_zero_iff.mp e
      exact iteT ⟨_, rfl, rfl, .inr ⟨_, rfl, kk⟩⟩
    · obtain rfl := List.length_eq_zero_iff.mp e
      exact iteT ⟨_, rfl, rfl, .inr ⟨_, rfl, kk⟩⟩
    · obtain ⟨a, rfl⟩ := List.length_eq_one_iff.mp e
      have ha := hb a (by simp)
      refine iteF ⟨_, rfl, rfl, _, rfl, iteT ?_⟩
      refine ⟨_, rfl, l, _, 0, .int a, rfl, rfl, hl, rfl, _, _, rfl, rfl, ?_⟩
      rcases ha with rfl | rfl <;> exact kk
    · obtain ⟨a, b, rfl, ha, hc⟩ := two e hb
      refine iteF ⟨_, rfl, rfl, _, rfl, iteF ⟨_, rfl, rfl, _, rfl, iteF ⟨_, rfl, rfl, _, rfl, iteF ⟨_, rfl, rfl, _, rfl, iteF ?_⟩⟩⟩⟩
      refine ⟨_, rfl, l, _, rfl, hl, by simp, fun m hm hle => ?_⟩
      have h1 := hle a (by simp)
      have h2 := hle b (by simp)
      obtain rfl : m = bitK "or" [a, b] := by
        have hm : m = a ∨ m = b := by simpa using hm
        have t00 : bitK "or" [0, 0] = 0 := by decide +kernel
        have t01 : bitK "or" [0, 1] = 1 := by decide +kernel
        have t10 : bitK "or" [1, 0] = 1 := by decide +kernel
        have t11 : bitK "or" [1, 1] = 1 := by decide +kernel
        rcases ha with rfl | rfl <;> rcases hc with rfl | rfl <;> simp only [t00, t01, t10, t11] <;> omega
      exact kk
    · match ys, e with
      | [a, b, c], _ =>
        have ha := hb a (by simp)
        have hc := hb b (by simp)
        have hd := hb c (by simp)
        refine iteF ⟨_, rfl, rfl, _, rfl, iteF ⟨_, rfl, rfl, _, rfl, iteT ?_⟩⟩
        refine ⟨_, rfl, l, _, 0, .int a, rfl, rfl, hl, rfl, rfl, _, rfl, ?_⟩
        rcases ha with rfl | rfl
        · refine iteF ⟨_, rfl, l, _, 2, .int c, rfl, rfl, hl, rfl, ?_⟩
          rcases hc with rfl | rfl <;> rcases hd with rfl | rfl <;> exact kk
        · refine iteT ⟨_, rfl, l, _, 1, .int b, rfl, rfl, hl, rfl, ?_⟩
          rcases hc with rfl | rfl <;> rcases hd with rfl | rfl <;> exact kk
    · obtain ⟨a, b, rfl, ha, hc⟩ := two e hb
      refine iteF ⟨_, rfl, rfl, _, rfl, iteF ⟨_, rfl, rfl, _, rfl, iteF ⟨_, rfl, rfl, _, rfl, iteT ?_⟩⟩⟩
      refine ⟨_, rfl, l, _, 0, .int a, rfl, rfl, hl, rfl, _, rfl, l, _, 1, .int b, rfl, rfl, hl, rfl, rfl, .inr ⟨_, rfl, ?_⟩⟩
      rcases ha with rfl | rfl <;> rcases hc with rfl | rfl <;> exact kk
end
end W

set_option Elab.async false
set_option linter.all false
set_option maxRecDepth 100000
set_option maxHeartbeats 16000000
set_option pp.maxSteps 2000
namespace W
open PySem PySem.Spec PyProof.Rows L2 Evl G C
theorem bits_snoc {n : Nat} {w : List Int} {b : Int} (h : BitsOk n w) (hb : isBt b) : BitsOk (n + 1) (w ++ [b]) := by
  refine ⟨by rw [List.length_append, h.1]; rfl, fun x hx => ?_⟩
  rcases List.mem_append.mp hx with hx | hx
  · exact h.2 x hx
  · rw [List.mem_singleton.mp hx]
    exact hb
/-- the letters with one bit more -/
def moreL (ws : List (List Int)) : List (List Int) := ws.flatMap fun w => [w ++ [0], w ++ [1]]
theorem moreL_len (ws : List (List Int)) : (moreL ws).length = 2 * ws.length := by
  induction ws with
  | nil => rfl
  | cons w ws ih =>
    unfold moreL at ih ⊢
    rw [List.flatMap_cons, List.length_append, ih, List.length_cons]
    show 2 + 2 * ws.length = 2 * (ws.length + 1)
    omega
theorem moreL_ok {n : Nat} {ws : List (List Int)} (h : ∀ w ∈ ws, BitsOk n w) : ∀ w ∈ moreL ws, BitsOk (n + 1) w := by
  intro w hw
  obtain ⟨v, hv, hw⟩ := List.mem_flatMap.mp hw
  simp only [List.mem_cons, List.not_mem_nil, or_false] at hw
  rcases hw with rfl | rfl
  · exact bits_snoc (h v hv) (.inl rfl)
  · exact bits_snoc (h v hv) (.inr rfl)
theorem dp_more {K : PySem.W.Frag} {H : Hp} : ∀ {ws : List (List Int)} {xsf : Nat → List V}, (∀ j w, ws[j]? = some w → DpAll K H (xsf j) [bitsD (w ++ [0]), bitsD (w ++ [1])]) → DpAll K H ((List.range ws.length).flatMap xsf) ((moreL ws).map bitsD) := by
  intro ws
  induction ws with
  | nil => exact fun _ => .nil
  | cons w ws ih =>
    intro xsf h
    have e : (List.range (w :: ws).length).flatMap xsf = xsf 0 ++ (List.range ws.length).flatMap (fun j => xsf (j + 1)) := by
      rw [List.length_cons, List.range_succ_eq_map, List.flatMap_cons, List.flatMap_map]
    rw [e]
    have e2 : (moreL (w :: ws)).map bitsD = [bitsD (w ++ [0]), bitsD (w ++ [1])] ++ (moreL ws).map bitsD := rfl
    rw [e2]
    exact dpAll_app (h 0 w rfl) (ih fun j v hv => h (j + 1) v hv)
section
variable {P : Program} {w : World} {K : PySem.W.Frag} {mg : Str → Option Value} {base : Heap} {C : Addr}
def spLLetters (K : PySem.W.Frag) : Sp := fun vs H Q _ => ∃ (d : Addr) (c : Cir), vs = [.ref d] ∧ ModAt K H d c ∧ c.ins.length ≤ 4 ∧ ∀ ws l xs H', ws ≠ [] → ws.length ≤ 16 → (∀ w ∈ ws, BitsOk c.ins.length w) → Ex H H' → H l = none → H' l = some (.lst xs) → DpAll K H' xs (ws.map bitsD) → Q (.ref l) H'
abbrev nLLetters : List Str := ["_law_model_here", "_law_found", "_law_name", "_law_letter"]
theorem scLLetters : FnScope nLLetters ["_law_model_here"] (defScope dLLetters) := ⟨rfl, rfl, rfl, by decide +kernel, rfl, by decide +kernel, by decide +kernel⟩
theorem okLLetters {f : Addr} {fd : FuncData} (F : At K mg "_law_letters" dLLetters ["_law_model_here"] f fd) (T : Txt K mg) : FnOk P w K mg base CX0 1 f fd ["_law_model_here"] (spLLetters K) := by
  refine F.fn.ok scLLetters (fun vs H Q E h => ?_) (fun cdv A outer s H vs Q E hr h => ?_)
  · obtain ⟨d, c, rfl, _⟩ := h
    rfl
  · obtain ⟨d, c, rfl, hd, few, k⟩ := h
    have nds := scLLetters.nd
    refine ⟨_, (pss_cons (ps_set (i := 1) nds rfl (Or.inl rfl) (pe_lst (pa_cons (pe_tup pa_nil) pa_nil)))
      (pss_cons (ps_for PassesOwn.never rfl (pi_list (pe_ix ix_tup (pv 0) pe_int (fun _ _ => rfl))) (pg_name (i := 2) nds rfl (Or.inl rfl))
        (pss_one (ps_set (i := 1) nds rfl (Or.inl rfl) (pe_callB (call_sumC (K := K) rfl) (by rfl) T.sum (by decide +kernel) (pa_cons (pe_lc (own := [("_law_letter", 3)]) (g := (gName 3)) (by rfl) nds (pi_list (pv 1)) (blkOk_by (own := [("_law_letter", 3)]) (N := nLLetters) (sc := defScope dLLetters) (by decide +kernel))
          (fun _ _ _ _ _ => (pg_name (i := 3) nds rfl (Or.inl rfl))) (fun _ _ _ _ _ => pts_nil) (fun _ _ _ _ _ => (pe_lst (pa_cons (pe_op (op_catAK (K := K)) (pv 3) (pe_tup (pa_cons pe_int pa_nil))) (pa_cons (pe_op (op_catAK (K := K)) (pv 3) (pe_tup (pa_cons pe_int pa_nil))) pa_nil))))) (pa_cons (pe_lst pa_nil) pa_nil))))))
      (pss_one (ps_ret (pv 1))))), ?_⟩
    obtain ⟨l1, l2, l3, l4, h0, ⟨h1, h2, h3⟩, h4⟩ := hd
    refine ⟨Nat.zero_le _, fun t ht => ⟨(by show 1 ≤ sizeLine; decide), fun l hl => ?_⟩⟩
    have e1 : Ex H (upd H t (.tup [])) := Ex.new ht
    have ht1 : (upd H t (.tup [])) t = some (.tup []) := upd_same
    generalize upd H t (.tup []) = Ha at e1 ht1 hl ⊢
    have e2 : Ex Ha (upd Ha l (.lst [.ref t])) := Ex.new hl
    have hl2 : (upd Ha l (.lst [.ref t])) l = some (.lst [.ref t]) := upd_same
    generalize upd Ha l (.lst [.ref t]) = Hb at e2 hl2 ⊢
    have e12 := e1.trans e2
    refine ⟨_, rfl, d, _, 0, .ref l1, rfl, rfl, st_of (e12 _ _ h0), rfl, l1, rfl, ⟨_, SqL.of (e12 _ _ h1)⟩, ?_⟩
    refine for_list (K := K) (a := l1) (xs := c.ins.map V.str) (fun i σ Hc => ∃ (l : Addr) (xs : List V) (u2 u3 : Option V) (ws : List (List Int)), σ = [some (.ref d), some (.ref l), u2, u3] ∧ H l = none ∧ Ex H Hc ∧ Hc l = some (.lst xs) ∧ DpAll K Hc xs (ws.map bitsD) ∧ ws.length = 2 ^ i ∧ ∀ w ∈ ws, BitsOk i w)
      ⟨l, [.ref t], _, _, [[]], rfl, ex_none e1 hl, e12, hl2, .cons (dp_bits (st_of (e2 _ _ ht1))) .nil, rfl, fun w hw => ?_⟩ (fun i σ Hc _ q => ?_) (fun i x σ Hc hx q => ?_) (fun σ Hc q => ?_)
    · rw [List.mem_singleton.mp hw]
      exact ⟨rfl, fun b hb => by cases hb⟩
    · obtain ⟨l, xs, u2, u3, ws, rfl, _, ex, _⟩ := q
      exact SqL.of (ex _ _ h1)
    · obtain ⟨l, xs, u2, u3, ws, rfl, nl, ex, hl, dx, lw, ok⟩ := q
      obtain ⟨z, ez, rfl⟩ := nth_map hx
      have hi : i < c.ins.length := (List.getElem?_eq_some_iff.mp ez).1
      have lw16 : ws.length ≤ 8 := by
        rw [lw]
        have : 2 ^ i ≤ 2 ^ 3 := Nat.pow_le_pow_right (by decide) (by omega)
        omega
      have lx := dp_len dx
      refine ⟨_, rfl, l, rfl, ⟨_, SqL.of hl⟩, fun D nD => ?_⟩
      refine lc_it (walk_list (K := K) (a := l) (xs := xs)) (fun i Hx => Ex Hc Hx ∧ ∃ (as : List Addr) (xsf : Nat → List V), as.length = i ∧ Hx D = some (.lst (as.map V.ref)) ∧ ∀ j a, as[j]? = some a → a ≠ D ∧ Hx a = some (.lst (xsf j)) ∧ (xsf j).length = 2 ∧ ∀ w, ws[j]? = some w → DpAll K Hx (xsf j) [bitsD (w ++ [0]), bitsD (w ++ [1])])
        ⟨Ex.new nD, [], fun _ => [], rfl, upd_same, fun j a h => by simp at h⟩ (fun j Hx _ q => SqL.of (q.1 _ _ hl)) (fun j x Hy Hx hj q yy => ?_) (fun Hx q => ?_)
      · obtain ⟨rfl, ex2⟩ := yy
        obtain ⟨e3, as, xsf, las, hD, hA⟩ := q
        obtain ⟨v, ev, dv⟩ := dp_nth dx ex2
        obtain ⟨tv, rfl, htv⟩ := bits_of (dp_ex e3 dv)
        have lv := (ok v (List.mem_of_getElem? ev)).1
        refine ⟨rfl, _, rfl, (by show 1 ≤ sizeLine; decide), fun t0 nt0 => ?_⟩
        have f1 : Ex Hx (upd Hx t0 (.tup [.int 0])) := Ex.new nt0
        have ht0 : (upd Hx t0 (.tup [.int 0])) t0 = some (.tup [.int 0]) := upd_same
        generalize upd Hx t0 (.tup [.int 0]) = Hx1 at f1 ht0 ⊢
        refine rd_catA (xs := v.map V.int) (ys := [.int 0]) (ex_t f1 htv) (st_of ht0) (by rw [List.length_map, lv]; show i + 1 ≤ 1000; omega) fun c0 Hx2 f2 hc0 => ?_
        refine ⟨_, rfl, (by show 1 ≤ sizeLine; decide), fun t1 nt1 => ?_⟩
        have f3 : Ex Hx2 (upd Hx2 t1 (.tup [.int 1])) := Ex.new nt1
        have ht1 : (upd Hx2 t1 (.tup [.int 1])) t1 = some (.tup [.int 1]) := upd_same
        generalize upd Hx2 t1 (.tup [.int 1]) = Hx3 at f3 ht1 ⊢
        refine rd_catA (xs := v.map V.int) (ys := [.int 1]) (ex_t ((f1.trans f2).trans f3) htv) (st_of ht1) (by rw [List.length_map, lv]; show i + 1 ≤ 1000; omega) fun c1 Hx4 f4 hc1 => ?_
        refine ⟨(by show 2 ≤ sizeLine; decide), fun L nL => ?_⟩
        have f5 : Ex Hx4 (upd Hx4 L (.lst [.ref c0, .ref c1])) := Ex.new nL
        have hL : (upd Hx4 L (.lst [.ref c0, .ref c1])) L = some (.lst [.ref c0, .ref c1]) := upd_same
        have e04 := ((f1.trans f2).trans f3).trans f4
        have LD : L ≠ D := fun z => by rw [z, e04 _ _ hD] at nL; cases nL
        have nLa : ∀ (j : Nat) (a : Addr), as[j]? = some a → a ≠ L := fun j a h z => by
          have := (hA j a h).2.1
          rw [z] at this
          rw [e04 _ _ this] at nL
          cases nL
        generalize upd Hx4 L (.lst [.ref c0, .ref c1]) = Hx5 at f5 hL ⊢
        have e05 := e04.trans f5
        have d0 : Dp K Hx5 (.ref c0) (bitsD (v ++ [0])) := dp_bits (by rw [List.map_append]; exact ex_t (((f3.trans f4).trans f5)) hc0)
        have d1 : Dp K Hx5 (.ref c1) (bitsD (v ++ [1])) := dp_bits (by rw [List.map_append]; exact ex_t f5 hc1)
        have hD5 := e05 _ _ hD
        refine ⟨_, hD5, Nat.lt_of_le_of_lt (show _ ≤ 1000 by rw [List.length_map]; omega) (by decide), (e3.trans e05).mut nD, as ++ [L], fun n => if n = j then [.ref c0, .ref c1] else xsf n, by rw [List.length_append, las]; rfl, by rw [upd_same, List.map_append]; rfl, fun n a ha => ?_⟩
        rcases Nat.lt_or_ge n as.length with lt | ge
        · rw [List.getElem?_append_left lt] at ha
          obtain ⟨q1, q2, q3, q4⟩ := hA n a ha
          have nj : n ≠ j := by omega
          simp only [if_neg nj]
          refine ⟨q1, by rw [upd_ne q1]; exact e05 _ _ q2, q3, fun w hw => ?_⟩
          exact rows_upd (bs := [w ++ [0], w ++ [1]]) hD5 (dpAll_ex e05 (q4 w hw))
        · rw [List.getElem?_append_right ge] at ha
          have n0 : n - as.length = 0 := by
            have := (List.getElem?_eq_some_iff.mp ha).1
            simp at this
            omega
          rw [n0] at ha
          obtain rfl : L = a := by simpa using ha
          have nj : n = j := by omega
          simp only [if_pos nj]
          refine ⟨LD, by rw [upd_ne LD]; exact hL, rfl, fun w hw => ?_⟩
          rw [nj, ev] at hw
          obtain rfl := Option.some.inj hw
          exact rows_upd (bs := [v ++ [0], v ++ [1]]) hD5 (.cons d0 (.cons d1 .nil))
      · obtain ⟨e3, as, xsf, las, hD, hA⟩ := q
        refine ⟨Nat.zero_le _, fun z0 nz0 => ?_⟩
        have f1 : Ex Hx (upd Hx z0 (.lst [])) := Ex.new nz0
        have hz0 : (upd Hx z0 (.lst [])) z0 = some (.lst []) := upd_same
        generalize upd Hx z0 (.lst []) = Hx1 at f1 hz0 ⊢
        have l2 : ws.length = as.length := by omega
        have dm : DpAll K Hx1 ((List.range ws.length).flatMap xsf) ((moreL ws).map bitsD) := dp_more fun j w hw => by
          have hj : j < as.length := by
            have := (List.getElem?_eq_some_iff.mp hw).1
            omega
          exact dpAll_ex f1 ((hA j _ (List.getElem?_eq_getElem hj)).2.2.2 w hw)
        have lm := dp_len dm
        rw [moreL_len] at lm
        refine ⟨D, z0, as, xsf, [], rfl, SqL.of (f1 _ _ hD), SqL.of hz0, fun j a ha => SqL.of (f1 _ _ (hA j a ha).2.1), by rw [← l2, lm]; exact Nat.le_trans (show _ ≤ 1000 by simp; omega) (by decide), fun z => ?_, fun _ r nr => ?_⟩
        · rw [z] at l2
          have : 0 < 2 ^ i := Nat.two_pow_pos i
          simp at l2
          rw [l2] at lw
          simp at lw
          omega
        · rw [List.nil_append, ← l2]
          refine ⟨r, _, _, _, moreL ws, rfl, ex_none ((ex.trans e3).trans f1) nr, ((ex.trans e3).trans f1).trans (Ex.new nr), upd_same, dpAll_ex (Ex.new nr) dm, by rw [moreL_len, lw, Nat.pow_succ]; omega, moreL_ok ok⟩
    · obtain ⟨l, xs, u2, u3, ws, rfl, nl, ex, hl, dx, lw, ok⟩ := q
      rw [List.length_map] at lw ok
      have : 0 < 2 ^ c.ins.length := Nat.two_pow_pos _
      have h16 : 2 ^ c.ins.length ≤ 2 ^ 4 := Nat.pow_le_pow_right (by decide) few
      exact ⟨_, rfl, k ws l xs Hc (fun z => by rw [z] at lw; simp at lw; omega) (by omega) ok ex nl hl dx⟩
end
end W

set_option Elab.async false
set_option linter.all false
set_option maxRecDepth 100000
set_option maxHeartbeats 32000000
set_option pp.maxSteps 2000
namespace W
open PySem PySem.Spec PyProof.Rows L2 Evl G C
theorem rd_heldM {K : PySem.W.Frag} {σ : L2.St} {H : Hp} {Q : VK} {z : V} {fl : Flt} (h3 : σ[3]? = some (some z)) (hz : Dp K H z (fltD fl)) (k : ∀ e H', Ex H H' → H e = none → H' e = some (.dK (kvH fl)) → Q (.ref e) H') :
    tIf (tB (tIsN (tVar 3))) tDNewK (tDisp [(tOp (rIxT K) (tVar 3) (tC (.int 0)), tOp (rIxT K) (tVar 3) (tC (.int 1)))]) σ H Q := by
  cases fl with
  | none =>
    cases hz
    exact ⟨_, h3, _, rfl, iteT fun e ne => k e _ (Ex.new ne) ne upd_same⟩
  | some q =>
    obtain ⟨zn, b⟩ := q
    obtain ⟨t, rfl, ht⟩ := flt_of hz
    refine ⟨_, h3, _, rfl, iteF fun e ne => ?_⟩
    have e1 : Ex H (upd H e (.dK [])) := Ex.new ne
    have he : (upd H e (.dK [])) e = some (.dK []) := upd_same
    have ht1 := ex_t e1 ht
    have q : ∀ H', H' = upd H e (.dK []) → Ex H (upd H' e (.dK (mergeK [] [(Sum.inr zn, .int b)]))) := fun H' z => by rw [z]; exact e1.mut ne
    have q := q _ rfl
    generalize upd H e (.dK []) = H1 at e1 he ht1 q ⊢
    refine ⟨_, h3, t, _, 0, .str zn, rfl, rfl, ht1, rfl, _, h3, t, _, 1, .int b, rfl, rfl, ht1, rfl, he, [(Sum.inr zn, .int b)], rfl, (by show 1 ≤ 15; decide), ?_⟩
    exact k e _ q ne upd_same
section
variable {P : Program} {w : World} {K : PySem.W.Frag} {mg : Str → Option Value} {base : Heap} {C : Addr}
def keysL (c : Cir) (sr : List Rg) : List Str := (c.ins ++ sr.map fun r => r.1) ++ gn c
def spLStep (K : PySem.W.Frag) : Sp := fun vs H Q _ => ∃ (d : Addr) (y x z : V) (c : Cir) (st le : List Int) (fl : Flt), vs = [.ref d, y, x, z] ∧ ModAt K H d c ∧ Good c ∧ PlanOk c c.gates ∧ RgOf c c.regs ∧ Dp K H y (bitsD st) ∧ BitsOk c.regs.length st ∧ Dp K H x (bitsD le) ∧ BitsOk c.ins.length le ∧ Dp K H z (fltD fl) ∧ FltOk c fl ∧
  ∀ t t1 t2 H', Ex H H' → H' t = some (.tup [.ref t1, .ref t2]) → SqT K H' t1 ((c.outs.map (val c c.regs st le fl)).map V.int) → SqT K H' t2 ((nxt c.regs (val c c.regs st le fl)).map V.int) → Q (.ref t) H'
abbrev nLStep : List Str := ["_law_model_here", "_law_state", "_law_letter", "_law_stuck", "_law_told", "_law_held", "_law_at", "_law_name", "_law_row", "_law_kind", "_law_sources", "_law_source", "_law_wire"]
theorem scLStep : FnScope nLStep ["_law_model_here", "_law_state", "_law_letter", "_law_stuck"] (defScope dLStep) := ⟨rfl, rfl, rfl, by decide +kernel, rfl, by decide +kernel, by decide +kernel⟩
theorem okLStep {f : Addr} {fd : FuncData} (F : At K mg "_law_step" dLStep ["_law_model_here", "_law_state", "_law_letter", "_law_stuck"] f fd) (T : Txt K mg) : FnOk P w K mg base CX0 2 f fd ["_law_model_here", "_law_state", "_law_letter", "_law_stuck"] (spLStep K) := by
  obtain ⟨fM, gM, FM⟩ := T.made
  have GM : FnOk P w K mg base CX0 1 fM gM ["_law_kind", "_law_bits"] (spMade K) := okMade FM T
  refine F.fn.ok scLStep (fun vs H Q E h => ?_) (fun cdv A outer s H vs Q E hr h => ?_)
  · obtain ⟨d, y, x, z, c, st, le, fl, rfl, _⟩ := h
    rfl
  · obtain ⟨d, y, x, z, c, st, le, fl, rfl, hd, good, po, hrg, hy, oky, hx, okx, hz, okf, k⟩ := h
    have hu := hu_of hr
    have nds := scLStep.nd
    refine ⟨_, (pss_cons (ps_asg (pe_tup (pa_cons pe_dnewK (pa_cons (pe_ifExp (pt_cmp (pc_isN (pv 3))) pe_dnewK (pe_disp (pps_cons (pe_ix ix_tup (pv 3) pe_int (fun _ _ => rfl)) (pe_ix ix_tup (pv 3) pe_int (fun _ _ => rfl)) pps_nil) (by rfl) (by rfl) (by simp) (by decide))) pa_nil))) (pg_tup rfl (pgs_cons (pg_name (i := 4) nds rfl (Or.inr rfl)) (pgs_cons (pg_name (i := 5) nds rfl (Or.inl rfl)) pgs_nil))))
      (pss_cons (ps_for PassesOwn.never rfl (pi_enum (by rfl) T.enumerate (pa_cons (pe_ix ix_tup (pv 0) pe_int (fun _ _ => rfl)) pa_nil)) (pg_tup rfl (pgs_cons (pg_name (i := 6) nds rfl (Or.inl rfl)) (pgs_cons (pg_name (i := 7) nds rfl (Or.inl rfl)) pgs_nil)))
        (pss_one (ps_dput hu (pv 4) (pv 7) (pe_dget2 hu (pv 5) (pv 7) (pe_ix ix_tup (pv 2) (pv 6) (fun _ _ => rfl)) ⟨rfl, rfl, rfl, rfl⟩) rfl)))
      (pss_cons (ps_for PassesOwn.never rfl (pi_enum (by rfl) T.enumerate (pa_cons (pe_ix ix_tup (pv 0) pe_int (fun _ _ => rfl)) pa_nil)) (pg_tup rfl (pgs_cons (pg_name (i := 6) nds rfl (Or.inl rfl)) (pgs_cons (pg_name (i := 8) nds rfl (Or.inl rfl)) pgs_nil)))
        (pss_one (ps_dput hu (pv 4) (pe_ix ix_tup (pv 8) pe_int (fun _ _ => rfl)) (pe_dget2 hu (pv 5) (pe_ix ix_tup (pv 8) pe_int (fun _ _ => rfl)) (pe_ix ix_tup (pv 1) (pv 6) (fun _ _ => rfl)) ⟨rfl, rfl, rfl, rfl⟩) rfl)))
      (pss_cons (ps_for PassesOwn.never rfl (pi_list (pe_ix ix_tup (pv 0) pe_int (fun _ _ => rfl))) (pg_tup rfl (pgs_cons (pg_name (i := 7) nds rfl (Or.inl rfl)) (pgs_cons (pg_name (i := 9) nds rfl (Or.inl rfl)) (pgs_cons (pg_name (i := 10) nds rfl (Or.inl rfl)) pgs_nil))))
        (pss_one (ps_dput hu (pv 4) (pv 7) (pe_dget2 hu (pv 5) (pv 7) (pe_call GM hr (by rfl) FM.gl FM.fn.kp FM.bi .nil pass0 (pa_cons (pv 9) (pa_cons (pe_lc (own := [("_law_source", 11)]) (g := (gName 11)) (by rfl) nds (pi_list (pv 10)) (blkOk_by (own := [("_law_source", 11)]) (N := nLStep) (sc := defScope dLStep) (by decide +kernel))
          (fun _ _ _ _ _ => (pg_name (i := 11) nds rfl (Or.inl rfl))) (fun _ _ _ _ _ => pts_nil) (fun _ _ _ _ _ => (pe_dget hu (pv 4) (pv 11) (fun _ _ => rfl)))) pa_nil))) ⟨rfl, rfl, rfl, rfl⟩) rfl)))
      (pss_one (ps_ret (pe_tup (pa_cons (pe_callTy (call_tup (K := K)) (by rfl) T.tuple (by decide +kernel) (pa_cons (pe_lc (own := [("_law_wire", 12)]) (g := (gName 12)) (by rfl) nds (pi_list (pe_ix ix_tup (pv 0) pe_int (fun _ _ => rfl))) (blkOk_by (own := [("_law_wire", 12)]) (N := nLStep) (sc := defScope dLStep) (by decide +kernel))
          (fun _ _ _ _ _ => (pg_name (i := 12) nds rfl (Or.inl rfl))) (fun _ _ _ _ _ => pts_nil) (fun _ _ _ _ _ => (pe_dget hu (pv 4) (pv 12) (fun _ _ => rfl)))) pa_nil)) (pa_cons (pe_callTy (call_tup (K := K)) (by rfl) T.tuple (by decide +kernel) (pa_cons (pe_lc (own := [("_law_row", 8)]) (g := (gName 8)) (by rfl) nds (pi_list (pe_ix ix_tup (pv 0) pe_int (fun _ _ => rfl))) (blkOk_by (own := [("_law_row", 8)]) (N := nLStep) (sc := defScope dLStep) (by decide +kernel))
          (fun _ _ _ _ _ => (pg_name (i := 8) nds rfl (Or.inl rfl))) (fun _ _ _ _ _ => pts_nil) (fun _ _ _ _ _ => (pe_dget hu (pv 4) (pe_ix (ix_tupK (K := K)) (pv 8) pe_int (fun _ _ => rfl)) (fun _ _ => rfl)))) pa_nil)) pa_nil))))))))), ?_⟩
    obtain ⟨l1, l2, l3, l4, h0, ⟨h1, ⟨xs2, hs2, hx2⟩, ⟨xs3, hs3, hx3⟩⟩, h4⟩ := hd
    obtain ⟨yx, rfl, hyt⟩ := bits_of hy
    obtain ⟨xx, rfl, hxt⟩ := bits_of hx
    have sy := val_says good fl hrg okx.1 oky.1
    have hbit := says_bit good hrg okx oky okf sy
    have li := good.li
    have lr := good.lr
    have lg := good.lg
    have lo := good.lo
    have l3x := dp_len hx3
    have l2x := dp_len hx2
    have nm := good.nd
    unfold names at nm
    obtain ⟨n1, n2, n3⟩ := List.nodup_append.mp nm
    obtain ⟨n4, n5, n6⟩ := List.nodup_append.mp n2
    have ndB : (c.ins ++ c.regs.map fun r => r.1).Nodup := List.nodup_append.mpr ⟨n1, n5, fun a ha b hb => n3 a ha b (List.mem_append_right _ hb)⟩
    have ndL : (keysL c c.regs).Nodup := List.nodup_append.mpr ⟨ndB, n4, fun a ha b hb e => by
      rcases List.mem_append.mp ha with ha | ha
      · exact n3 a ha b (List.mem_append_left _ hb) e
      · exact n6 b hb a ha e.symm⟩
    have hld : ∀ (q : Str × Int), q ∈ base0 c c.regs st le → ((valV (kvH fl) (Sum.inr q.1)).getD (.int q.2)) = .int (val c c.regs st le fl q.1) := fun q hq => by
      rcases free_or fl q.1 with fr | ⟨q', e', e2'⟩
      · rw [kvH_free fr, sy.base q hq fr]
        rfl
      · rw [← e2', kvH_held e', sy.held q' e']
        rfl
    refine fun fd nfd => ?_
    have e1 : Ex H (upd H fd (.dK [])) := Ex.new nfd
    have hfd : (upd H fd (.dK [])) fd = some (.dK []) := upd_same
    generalize upd H fd (.dK []) = H1 at e1 hfd ⊢
    refine rd_heldM (K := K) (z := z) (fl := fl) rfl (dp_ex e1 hz) fun e H2 e2 ne he => ?_
    have efd : e ≠ fd := fun q => by rw [q, hfd] at ne; cases ne
    have hfd2 := e2 _ _ hfd
    refine ⟨(by show 2 ≤ sizeLine; decide), fun tp ntp => ?_⟩
    have e3 : Ex H2 (upd H2 tp (.tup [.ref fd, .ref e])) := Ex.new ntp
    have htp : (upd H2 tp (.tup [.ref fd, .ref e])) tp = some (.tup [.ref fd, .ref e]) := upd_same
    have hfd3 := e3 _ _ hfd2
    have he3 := e3 _ _ he
    generalize upd H2 tp (.tup [.ref fd, .ref e]) = H3 at e3 htp hfd3 he3 ⊢
    have x3 := (e1.trans e2).trans e3
    have toH : ∀ {Hc : Hp}, ExBut fd H3 Hc → Ex H Hc := fun eb => exbut_ex x3 nfd eb
    refine ⟨tp, _, rfl, st_of htp, rfl, _, _, rfl, _, _, rfl, rfl, ?_⟩
    refine ⟨_, rfl, d, _, 0, .ref l1, rfl, rfl, st_of (x3 _ _ h0), rfl, l1, c.ins.map V.str, rfl, SqL.of (x3 _ _ h1), ?_⟩
    refine for_it walk_enum (fun i σ Hc => (∃ u6 u7, σ = [some (.ref d), some (.ref yx), some (.ref xx), some z, some (.ref fd), some (.ref e), u6, u7, none, none, none, none, none]) ∧ ExBut fd H3 Hc ∧ ∃ kvs, Hc fd = some (.dK kvs) ∧ kvs.map Prod.fst = (c.ins.take i).map Sum.inr ∧ HasF (c.ins.take i) (val c c.regs st le fl) kvs)
      ⟨⟨_, _, rfl⟩, ExBut.refl _ _, [], hfd3, rfl, fun z h => by simp at h⟩ (fun i σ Hc _ q => SqL.of (toH q.2.1 _ _ h1)) (fun i xv σ Ha Hb hi q yy => ?_) (fun σ Hc q => ?_)
    · obtain ⟨t, y1, y2, rfl, nt, rfl, z1, z2⟩ := yy
      cases z1
      obtain ⟨⟨u6, u7, rfl⟩, eb, kvs, hk, fk, hf⟩ := q
      obtain ⟨zn, ez, rfl⟩ := nth_map z2
      have hi2 : i < c.ins.length := (List.getElem?_eq_some_iff.mp ez).1
      obtain ⟨b, eb2⟩ : ∃ b, le[i]? = some b := ⟨le[i]'(by rw [okx.1]; exact hi2), List.getElem?_eq_getElem _⟩
      have hq : (zn, b) ∈ base0 c c.regs st le := List.mem_append_left _ (List.mem_of_getElem? (zip_next (α := Int) ez eb2))
      have f1 : Ex Ha (upd Ha t (.tup [.int (i : Int), .str zn])) := Ex.new nt
      have htt : (upd Ha t (.tup [.int (i : Int), .str zn])) t = some (.tup [.int (i : Int), .str zn]) := upd_same
      have hk1 := f1 _ _ hk
      have hec := f1 _ _ (eb _ _ he3 efd)
      have hxt1 := ex_t ((toH eb).trans f1) hxt
      have eb1 := eb.trans (ExBut.of f1)
      generalize upd Ha t (.tup [.int (i : Int), .str zn]) = Hb at f1 htt hk1 hec hxt1 eb1 ⊢
      refine ⟨t, _, rfl, st_of htt, rfl, _, _, rfl, _, _, rfl, rfl, ?_⟩
      refine ⟨_, rfl, e, rfl, .inl ⟨_, .inl hec⟩, _, rfl, _, rfl, _, rfl, xx, _, (i : Int), .int b, rfl, rfl, hxt1, atI_nat (by rw [List.getElem?_map, eb2]; rfl), _, DGet.k (k := Sum.inr zn) hec, ?_⟩
      rw [hld (zn, b) hq]
      have lk : kvs.length ≤ 16 := by
        have := congrArg List.length fk
        rw [List.length_map, List.length_map, List.length_take] at this
        omega
      have notin : (Sum.inr zn : Key) ∉ kvs.map Prod.fst := by
        rw [fk]
        intro m
        obtain ⟨y, hy, ey⟩ := List.mem_map.mp m
        obtain rfl := Sum.inr.inj ey
        exact not_in_take n1 ez hy
      refine ⟨_, rfl, _, rfl, fd, _, rfl, DPut.k (k := Sum.inr zn) hk1 (Nat.lt_of_le_of_lt (show _ ≤ 1000 by omega) (by decide)), ⟨_, _, rfl⟩, eb1.trans ExBut.upd, _, upd_same, ?_, ?_⟩
      · rw [putK_new (valV_none notin), List.map_append, fk, take_more ez, List.map_append]
        rfl
      · rw [take_more ez]
        exact hf.put zn
    · obtain ⟨⟨u6, u7, rfl⟩, eb, kvs, hk, fk, hf⟩ := q
      rw [List.length_map, List.take_length] at fk hf
      have xc := toH eb
      refine ⟨_, rfl, d, _, 2, .ref l3, rfl, rfl, st_of (xc _ _ h0), rfl, l3, xs3, rfl, SqL.of (xc _ _ hs3), ?_⟩
      refine for_it walk_enum (fun i σ Hc => (∃ u6 u7 u8, σ = [some (.ref d), some (.ref yx), some (.ref xx), some z, some (.ref fd), some (.ref e), u6, u7, u8, none, none, none, none]) ∧ ExBut fd H3 Hc ∧ ∃ kvs, Hc fd = some (.dK kvs) ∧ kvs.map Prod.fst = (c.ins ++ (c.regs.take i).map fun r => r.1).map Sum.inr ∧ HasF (c.ins ++ (c.regs.take i).map fun r => r.1) (val c c.regs st le fl) kvs)
        ⟨⟨_, _, _, rfl⟩, eb, kvs, hk, by simpa using fk, by simpa using hf⟩ (fun i σ Hc _ q => SqL.of (toH q.2.1 _ _ hs3)) (fun i xv σ Ha Hb hi q yy => ?_) (fun σ Hc q => ?_)
      · obtain ⟨t, y1, y2, rfl, nt, rfl, z1, z2⟩ := yy
        cases z1
        obtain ⟨⟨u6, u7, u8, rfl⟩, eb, kvs, hk, fk, hf⟩ := q
        obtain ⟨r, er, dr⟩ := dp_nth hx3 z2
        obtain ⟨rt, rfl, hrt⟩ := reg_of (dp_ex (toH eb) dr)
        have hi2 : i < c.regs.length := (List.getElem?_eq_some_iff.mp er).1
        obtain ⟨b, eb2⟩ : ∃ b, st[i]? = some b := ⟨st[i]'(by rw [oky.1]; exact hi2), List.getElem?_eq_getElem _⟩
        have er2 : (c.regs.map fun r => r.1)[i]? = some r.1 := by rw [List.getElem?_map, er]; rfl
        have hq : (r.1, b) ∈ base0 c c.regs st le := List.mem_append_right _ (List.mem_of_getElem? (zip_next (α := Int) er2 eb2))
        have f1 : Ex Ha (upd Ha t (.tup [.int (i : Int), .ref rt])) := Ex.new nt
        have htt : (upd Ha t (.tup [.int (i : Int), .ref rt])) t = some (.tup [.int (i : Int), .ref rt]) := upd_same
        have hk1 := f1 _ _ hk
        have hec := f1 _ _ (eb _ _ he3 efd)
        have hyt1 := ex_t ((toH eb).trans f1) hyt
        have hrt1 := ex_t f1 hrt
        have eb1 := eb.trans (ExBut.of f1)
        generalize upd Ha t (.tup [.int (i : Int), .ref rt]) = Hb at f1 htt hk1 hec hyt1 hrt1 eb1 ⊢
        refine ⟨t, _, rfl, st_of htt, rfl, _, _, rfl, _, _, rfl, rfl, ?_⟩
        refine ⟨_, rfl, e, rfl, .inl ⟨_, .inl hec⟩, _, rfl, rt, _, 0, .str r.1, rfl, rfl, hrt1, rfl, _, rfl, _, rfl, yx, _, (i : Int), .int b, rfl, rfl, hyt1, atI_nat (by rw [List.getElem?_map, eb2]; rfl), _, DGet.k (k := Sum.inr r.1) hec, ?_⟩
        rw [hld (r.1, b) hq]
        have lk : kvs.length ≤ 16 := by
          have := congrArg List.length fk
          rw [List.length_map, List.length_map, List.length_append, List.length_map, List.length_take] at this
          omega
        have nxt' : (c.regs.take (i + 1)).map (fun r => r.1) = (c.regs.take i).map (fun r => r.1) ++ [r.1] := by rw [take_more er, List.map_append]; rfl
        have notin : (Sum.inr r.1 : Key) ∉ kvs.map Prod.fst := by
          rw [fk]
          intro m
          obtain ⟨y, hy, ey⟩ := List.mem_map.mp m
          obtain rfl := Sum.inr.inj ey
          have q : (c.ins ++ c.regs.map fun r => r.1)[c.ins.length + i]? = some r.1 := by
            rw [List.getElem?_append_right (by omega), Nat.add_sub_cancel_left]
            exact er2
          have q2 := not_in_take ndB q
          apply q2
          rw [List.take_append, List.take_of_length_le (by omega), Nat.add_sub_cancel_left, ← List.map_take]
          exact hy
        refine ⟨_, rfl, _, rfl, rt, _, 0, .str r.1, rfl, rfl, hrt1, rfl, fd, _, rfl, DPut.k (k := Sum.inr r.1) hk1 (Nat.lt_of_le_of_lt (show _ ≤ 1000 by omega) (by decide)), ⟨_, _, _, rfl⟩, eb1.trans ExBut.upd, _, upd_same, ?_, ?_⟩
        · rw [putK_new (valV_none notin), List.map_append, fk, nxt']
          simp only [List.map_append, List.map_cons, List.map_nil, List.append_assoc]
        · rw [nxt', ← List.append_assoc]
          exact hf.put r.1
      · obtain ⟨⟨u6, u7, u8, rfl⟩, eb, kvs, hk, fk, hf⟩ := q
        rw [l3x, List.take_length] at fk hf
        have xc := toH eb
        refine ⟨_, rfl, d, _, 1, .ref l2, rfl, rfl, st_of (xc _ _ h0), rfl, l2, rfl, ⟨_, SqL.of (xc _ _ hs2)⟩, ?_⟩
        refine for_list (K := K) (a := l2) (xs := xs2) (fun i σ Hc => (∃ u6 u7 u8 u9 u10, σ = [some (.ref d), some (.ref yx), some (.ref xx), some z, some (.ref fd), some (.ref e), u6, u7, u8, u9, u10, none, none]) ∧ ExBut fd H3 Hc ∧ ∃ kvs, Hc fd = some (.dK kvs) ∧ kvs.map Prod.fst = ((c.ins ++ c.regs.map fun r => r.1) ++ (c.gates.take i).map fun g => g.1).map Sum.inr ∧
            HasF ((c.ins ++ c.regs.map fun r => r.1) ++ (c.gates.take i).map fun g => g.1) (val c c.regs st le fl) kvs)
          ⟨⟨_, _, _, _, _, rfl⟩, eb, kvs, hk, by simpa using fk, by simpa using hf⟩ (fun i σ Hc _ q => SqL.of (toH q.2.1 _ _ hs2)) (fun i x σ Hc hx q => ?_) (fun σ Hc q => ?_)
        · obtain ⟨⟨u6, u7, u8, u9, u10, rfl⟩, eb, kvs, hk, fk, hf⟩ := q
          obtain ⟨g, eg, dg⟩ := dp_nth hx2 hx
          have i1 := (List.getElem?_eq_some_iff.mp eg).1
          have hg : g ∈ c.gates := List.mem_of_getElem? eg
          have xc := toH eb
          obtain ⟨t, l, rfl, ht, hl⟩ := gate_of (dp_ex xc dg)
          have nxt' : (c.gates.take (i + 1)).map (fun g => g.1) = (c.gates.take i).map (fun g => g.1) ++ [g.1] := by rw [take_more eg, List.map_append]; rfl
          have hec := eb _ _ he3 efd
          have inn : ∀ y ∈ g.2.2, valV kvs (Sum.inr y) = some (.int (val c c.regs st le fl y)) := by
            intro y hy
            refine hf y ?_
            rcases names_in.mp (good.src g hg y hy) with q | q | q
            · exact List.mem_append_left _ (List.mem_append_left _ q)
            · have sp : c.gates = c.gates.take i ++ g :: c.gates.drop (i + 1) := by
                have a1 := List.take_append_drop i c.gates
                rw [List.drop_eq_getElem_cons i1] at a1
                have a2 : c.gates[i] = g := Option.some.inj ((List.getElem?_eq_getElem i1).symm.trans eg)
                rw [a2] at a1
                exact a1.symm
              exact List.mem_append_right _ (po.tp _ g _ sp y hy q)
            · exact List.mem_append_left _ (List.mem_append_right _ q)
          have l3' := kinds_few (good.gts g hg).2.1
          refine ⟨t, _, rfl, ht, rfl, _, _, rfl, _, _, rfl, _, _, rfl, rfl, ?_⟩
          refine ⟨_, rfl, e, rfl, .inl ⟨_, .inl hec⟩, _, rfl, _, rfl, _, rfl, l, rfl, ⟨_, hl⟩, fun L nL => ?_⟩
          refine lc_each (as := g.2.2) (em := V.str) (walk_list (K := K) (a := l)) (fun y => .int (val c c.regs st le fl y)) (by omega) (fun H' e => ex_l e hl) (fun y hy => ev_dget (i := 4) (j := 11) (k := Sum.inr y) rfl rfl hk (inn y hy)) nL (fun H2 e2 hL => ?_)
          have hL2 : H2 L = some (.lst ((g.2.2.map (val c c.regs st le fl)).map V.int)) := by rw [hL, List.map_map]; rfl
          refine ⟨g.2.1, L, g.2.2.map (val c c.regs st le fl), rfl, by rw [List.length_map]; exact (good.gts g hg).2.1, SqL.of hL2, (fun b hb' => by
            obtain ⟨y, hy, rfl⟩ := List.mem_map.mp hb'
            exact hbit y (good.src g hg y hy)), fun H3' e3' => ⟨_, DGet.k (k := Sum.inr g.1) (e3' _ _ (e2 _ _ hec)), ?_⟩⟩
          have gv : ((valV (kvH fl) (Sum.inr g.1)).getD (.int (bitK g.2.1 (g.2.2.map (val c c.regs st le fl))))) = .int (val c c.regs st le fl g.1) := by
            rcases free_or fl g.1 with fr | ⟨q', e', e2'⟩
            · rw [kvH_free fr, sy.gate g hg fr]
              rfl
            · rw [← e2', kvH_held e', sy.held q' e']
              rfl
          rw [gv]
          have e23 := e2.trans e3'
          have notin : (Sum.inr g.1 : Key) ∉ kvs.map Prod.fst := by
            rw [fk]
            intro m
            obtain ⟨y, hy, ey⟩ := List.mem_map.mp m
            obtain rfl := Sum.inr.inj ey
            have q : (keysL c c.regs)[(c.ins ++ c.regs.map fun r => r.1).length + i]? = some g.1 := by
              unfold keysL gn
              rw [List.getElem?_append_right (Nat.le_add_right _ _), Nat.add_sub_cancel_left, List.getElem?_map, eg]
              rfl
            have q2 := not_in_take ndL q
            apply q2
            unfold keysL gn
            rw [List.take_append, List.take_of_length_le (Nat.le_add_right _ _), Nat.add_sub_cancel_left, ← List.map_take]
            exact hy
          have lk : kvs.length ≤ 100 := by
            have := congrArg List.length fk
            simp only [List.length_map, List.length_append, List.length_take] at this
            omega
          refine ⟨_, rfl, _, rfl, fd, _, rfl, DPut.k (k := Sum.inr g.1) (e23 _ _ hk) (Nat.lt_of_le_of_lt (show _ ≤ 1000 by omega) (by decide)), ⟨_, _, _, _, _, rfl⟩, (eb.trans (ExBut.of e23)).trans ExBut.upd, _, upd_same, ?_, ?_⟩
          · rw [putK_new (valV_none notin), List.map_append, fk, nxt']
            simp only [List.map_append, List.map_cons, List.map_nil, List.append_assoc]
          · rw [nxt', ← List.append_assoc]
            exact hf.put g.1
        · obtain ⟨⟨u6, u7, u8, u9, u10, rfl⟩, eb, kvs, hk, fk, hf⟩ := q
          rw [l2x, List.take_length] at fk hf
          rw [valK_of fk ndL hf] at hk
          have hk : Hc fd = some (.dK (valK (keysL c c.regs) (val c c.regs st le fl))) := hk
          have xc := toH eb
          have keyIn : ∀ z ∈ names c, valV (valK (keysL c c.regs) (val c c.regs st le fl)) (Sum.inr z) = some (.int (val c c.regs st le fl z)) := fun z hz =>
            valV_hit (fun z : Str => (Sum.inr z : Key)) (fun z => .int (val c c.regs st le fl z)) (keysL c c.regs) z (by
              unfold keysL
              rcases names_in.mp hz with q | q | q
              · exact List.mem_append_left _ (List.mem_append_left _ q)
              · exact List.mem_append_right _ q
              · exact List.mem_append_left _ (List.mem_append_right _ q)) fun _ _ e => Sum.inr.inj e
          have h0c := xc _ _ h0
          have h4c := xc _ _ h4
          have hs3c := xc _ _ hs3
          have hx3c := dpAll_ex xc hx3
          refine ⟨_, rfl, d, _, 3, .ref l4, rfl, rfl, st_of h0c, rfl, l4, rfl, ⟨_, SqL.of h4c⟩, fun L nL => ?_⟩
          refine lc_each (as := c.outs) (em := V.str) (walk_list (K := K) (a := l4)) (fun z => .int (val c c.regs st le fl z)) (by omega) (fun H' e => SqL.of (e _ _ h4c)) (fun z hz => ev_dget (i := 4) (j := 12) (k := Sum.inr z) rfl rfl hk (keyIn z (good.out z hz))) nL (fun H5 e5 hL => ?_)
          refine ⟨L, _, rfl, .inl ⟨SqL.of hL, fun t nt => ?_⟩⟩
          have e6 : Ex H5 (upd H5 t (.tup (c.outs.map fun z => .int (val c c.regs st le fl z)))) := Ex.new nt
          have ht : (upd H5 t (.tup (c.outs.map fun z => .int (val c c.regs st le fl z)))) t = some (.tup ((c.outs.map (val c c.regs st le fl)).map V.int)) := by rw [upd_same, List.map_map]; rfl
          generalize upd H5 t (.tup (c.outs.map fun z => .int (val c c.regs st le fl z))) = H6 at e6 ht ⊢
          have e56 := e5.trans e6
          have hk6 := e56 _ _ hk
          refine ⟨_, rfl, d, _, 2, .ref l3, rfl, rfl, st_of (e56 _ _ h0c), rfl, l3, rfl, ⟨_, SqL.of (e56 _ _ hs3c)⟩, fun L2 nL2 => ?_⟩
          refine lc_it (walk_list (K := K) (a := l3) (xs := xs3)) (fun i Hx => Ex H6 Hx ∧ Hx L2 = some (.lst ((nxt (c.regs.take i) (val c c.regs st le fl)).map V.int))) ⟨Ex.new nL2, upd_same⟩ (fun i Hx _ q => SqL.of (q.1 _ _ (e56 _ _ hs3c))) (fun i x Ha Hb hi q yy => ?_) (fun Hx q => ?_)
          · obtain ⟨rfl, ex⟩ := yy
            obtain ⟨e7, hL2⟩ := q
            obtain ⟨r, er, dr⟩ := dp_nth hx3c ex
            obtain ⟨rt, rfl, hrt⟩ := reg_of (dp_ex (e56.trans e7) dr)
            have g := DGet.k (k := Sum.inr r.2.2) (e7 _ _ hk6)
            rw [keyIn _ (good.rsrc r (List.mem_of_getElem? er))] at g
            refine ⟨rfl, _, rfl, _, rfl, rt, _, 2, .str r.2.2, rfl, rfl, hrt, rfl, fd, _, rfl, g, _, hL2, ?_, e7.mut nL2, ?_⟩
            · simp only [nxt, List.length_map, List.length_take]
              exact Nat.lt_of_le_of_lt (show _ ≤ 1000 by omega) (by decide)
            · rw [upd_same, take_more er]
              simp [nxt]
          · obtain ⟨e7, hL2⟩ := q
            rw [l3x, List.take_length] at hL2
            refine ⟨L2, _, rfl, .inl ⟨SqL.of hL2, fun t2 nt2 => ⟨(by show 2 ≤ sizeLine; decide), fun t3 nt3 => ?_⟩⟩⟩
            have e8 : Ex Hx (upd Hx t2 (.tup ((nxt c.regs (val c c.regs st le fl)).map V.int))) := Ex.new nt2
            have ht2 : (upd Hx t2 (.tup ((nxt c.regs (val c c.regs st le fl)).map V.int))) t2 = some (.tup ((nxt c.regs (val c c.regs st le fl)).map V.int)) := upd_same
            generalize upd Hx t2 (.tup ((nxt c.regs (val c c.regs st le fl)).map V.int)) = H8 at e8 ht2 nt3 ⊢
            have e9 : Ex H8 (upd H8 t3 (.tup [.ref t, .ref t2])) := Ex.new nt3
            have x := e7.trans (e8.trans e9)
            exact k t3 t t2 _ ((xc.trans e56).trans x) upd_same (st_of (x _ _ ht)) (st_of (e9 _ _ ht2))
end
end W

set_option Elab.async false
set_option linter.all false
set_option maxRecDepth 100000
set_option maxHeartbeats 32000000
set_option pp.maxSteps 2000
namespace W
open PySem PySem.Spec PyProof.Rows L2 Evl G C
section
variable {P : Program} {w : World} {K : PySem.W.Frag} {mg : Str → Option Value} {base : Heap} {C : Addr}
def spLAns (K : PySem.W.Frag) : Sp := fun vs H Q _ => ∃ (d l : Addr) (xs : List V) (z : V) (c : Cir) (ws : List (List Int)) (fl : Flt), vs = [.ref d, .ref l, z] ∧ ModAt K H d c ∧ Good c ∧ PlanOk c c.gates ∧ RgOf c c.regs ∧ SqL K H l xs ∧ DpAll K H xs (ws.map bitsD) ∧ (∀ w ∈ ws, BitsOk c.ins.length w) ∧ ws.length ≤ 100 ∧ Dp K H z (fltD fl) ∧ FltOk c fl ∧
  ∀ L ys H', Ex H H' → H L = none → H' L = some (.lst ys) → DpAll K H' ys ((heard c c.regs fl (firstOf c.regs) ws c.outs).map bitsD) → Q (.ref L) H'
abbrev nLAnswer : List Str := ["_law_model_here", "_law_term_here", "_law_stuck", "_law_state", "_law_found", "_law_letter", "_law_said"]
theorem scLAnswer : FnScope nLAnswer ["_law_model_here", "_law_term_here", "_law_stuck"] (defScope dLAnswer) := ⟨rfl, rfl, rfl, by decide +kernel, rfl, by decide +kernel, by decide +kernel⟩
theorem okLAnswer {f : Addr} {fd : FuncData} (F : At K mg "_law_answer" dLAnswer ["_law_model_here", "_law_term_here", "_law_stuck"] f fd) (T : Txt K mg) : FnOk P w K mg base CX0 3 f fd ["_law_model_here", "_law_term_here", "_law_stuck"] (spLAns K) := by
  obtain ⟨fF, gF, FF⟩ := T.lFirst
  obtain ⟨fS, gS, FS⟩ := T.lStep
  have GF : FnOk P w K mg base CX0 2 fF gF ["_law_model_here"] (spLFirst K) := (okLFirst FF T).mono (by decide)
  have GS : FnOk P w K mg base CX0 2 fS gS ["_law_model_here", "_law_state", "_law_letter", "_law_stuck"] (spLStep K) := okLStep FS T
  refine F.fn.ok scLAnswer (fun vs H Q E h => ?_) (fun cdv A outer s H vs Q E hr h => ?_)
  · obtain ⟨d, l, xs, z, c, ws, fl, rfl, _⟩ := h
    rfl
  · obtain ⟨d, l, xs, z, c, ws, fl, rfl, hd, good, po, hrg, hl, dx, okx, few, hz, okf, k⟩ := h
    have nds := scLAnswer.nd
    refine ⟨_, (pss_cons (ps_par (i := 3) (j := 4) rfl nds rfl rfl (by decide) (by rfl) (by rfl) (pa_cons (pe_call GF hr (by rfl) FF.gl FF.fn.kp FF.bi .nil pass0 (pa_cons (pv 0) pa_nil)) (pa_cons (pe_lst pa_nil) pa_nil)) (by rfl))
      (pss_cons (ps_for PassesOwn.never rfl (pi_list (pv 1)) (pg_name (i := 5) nds rfl (Or.inl rfl))
        (pss_cons (ps_asg (pe_call GS hr (by rfl) FS.gl FS.fn.kp FS.bi .nil pass0 (pa_cons (pv 0) (pa_cons (pv 3) (pa_cons (pv 5) (pa_cons (pv 2) pa_nil))))) (pg_tup rfl (pgs_cons (pg_name (i := 6) nds rfl (Or.inl rfl)) (pgs_cons (pg_name (i := 3) nds rfl (Or.inl rfl)) pgs_nil))))
      (pss_one (ps_expr (pe_bm PySem.F.plainAttrs_list PySem.F.slot_list_append PySem.F.type_list_append mt_append (pv 4) (pa_cons (pv 6) pa_nil))))))
      (pss_one (ps_ret (pv 4))))), ?_⟩
    have bo : BitsOk c.regs.length (firstOf c.regs) := begin_ok good hrg (st := none) (fun bs h => by cases h)
    have lx := dp_len dx
    refine ⟨_, rfl, d, c, rfl, hd, good, fun ts H1 e1 nts hts => ?_⟩
    refine ⟨Nat.zero_le _, fun L nL => ?_⟩
    have e2 : Ex H1 (upd H1 L (.lst [])) := Ex.new nL
    have hL : (upd H1 L (.lst [])) L = some (.lst []) := upd_same
    have hts2 := e2 _ _ hts
    generalize upd H1 L (.lst []) = H2 at e2 hL hts2 ⊢
    have e12 := e1.trans e2
    refine ⟨_, _, rfl, ?_⟩
    refine ⟨_, rfl, l, rfl, ⟨_, ex_l e12 hl⟩, ?_⟩
    refine for_list (K := K) (a := l) (xs := xs) (fun i σ Hc => ∃ (ts : Addr) (ys : List V) (u5 u6 : Option V), σ = [some (.ref d), some (.ref l), some z, some (.ref ts), some (.ref L), u5, u6] ∧ Ex H Hc ∧ SqT K Hc ts ((sta c c.regs fl (firstOf c.regs) ws i).map V.int) ∧ Hc L = some (.lst ys) ∧ DpAll K Hc ys (((List.range i).map fun j => c.outs.map (hdf c c.regs fl (firstOf c.regs) ws j)).map bitsD))
      ⟨ts, [], _, _, rfl, e12, st_of hts2, hL, .nil⟩ (fun i σ Hc _ q => ?_) (fun i x σ Hc hx q => ?_) (fun σ Hc q => ?_)
    · obtain ⟨ts, ys, u5, u6, rfl, ex, _⟩ := q
      exact ex_l ex hl
    · obtain ⟨ts, ys, u5, u6, rfl, ex, hts, hL, dy⟩ := q
      obtain ⟨le, ele, dle⟩ := dp_nth dx hx
      have hi : i < ws.length := (List.getElem?_eq_some_iff.mp ele).1
      have oki := sta_ok good hrg okf bo okx i (Nat.le_of_lt hi)
      have okl := okx le (List.mem_of_getElem? ele)
      obtain ⟨s1, s2⟩ := sta_next (c := c) (sr := c.regs) (fl := fl) (st := firstOf c.regs) ele
      refine ⟨_, rfl, _, rfl, _, rfl, _, rfl, d, .ref ts, x, z, c, _, le, fl, rfl, hd.ex ex, good, po, hrg, dp_bits hts, oki, dp_ex ex dle, okl, dp_ex ex hz, okf, fun t t1 t2 H3 e3 ht ht1 ht2 => ?_⟩
      refine ⟨t, _, rfl, st_of ht, rfl, _, _, rfl, _, _, rfl, rfl, ?_⟩
      have hL3 := e3 _ _ hL
      have ly := dp_len dy
      rw [List.length_map, List.length_range] at ly
      refine ⟨_, rfl, .inl ⟨rfl, _, SqL.of hL3⟩, _, rfl, L, _, .ref t1, rfl, rfl, hL3, Nat.lt_of_le_of_lt (show _ ≤ 1000 by omega) (by decide), ?_⟩
      refine ⟨t2, ys ++ [.ref t1], _, _, rfl, (ex.trans e3).mut ?_, ?_, upd_same, ?_⟩
      · cases q : H L with
        | none => rfl
        | some o => rw [e1 _ _ q] at nL; cases nL
      · rw [s1, s2]
        rcases ht2 with (h | ⟨o, h⟩) | h
        · exact .inl (.inl (by rw [upd_ne (fun z => by rw [z, hL3] at h; cases h)]; exact h))
        · exact .inl (.inr ⟨o, by rw [upd_ne (fun z => by rw [z, hL3] at h; cases h)]; exact h⟩)
        · exact .inr h
      · rw [List.range_succ, List.map_append, List.map_append]
        refine dpAll_snoc (rows_upd hL3 (dpAll_ex e3 dy)) ?_
        refine t_dp (ExT.upd hL3) (noL_bits _) ?_
        show Dp K H3 (.ref t1) (bitsD (c.outs.map (hdf c c.regs fl (firstOf c.regs) ws i)))
        rw [s2]
        exact dp_bits ht1
    · obtain ⟨ts, ys, u5, u6, rfl, ex, hts, hL, dy⟩ := q
      rw [lx] at dy
      refine ⟨_, rfl, k L ys Hc ex ?_ hL dy⟩
      cases q : H L with
      | none => rfl
      | some o => rw [e1 _ _ q] at nL; cases nL
def spTerm (K : PySem.W.Frag) : Sp := fun vs H Q _ => ∃ (p d : Addr) (c : Cir), vs = [.ref p, .ref d, .int 6] ∧ Pot H p ∧ ModAt K H d c ∧ c.ins.length ≤ 4 ∧ ∀ (l : Addr) (xs : List V) (ws : List (List Int)) (H' : Hp), (∀ x ∈ ws, BitsOk c.ins.length x) → ws.length ≤ 6 → ExBut p H H' → Pot H' p → H l = none → H' l = some (.lst xs) → DpAll K H' xs (ws.map bitsD) → Q (.ref l) H'
abbrev nTerm : List Str := ["_law_pot_here", "_law_model_here", "_law_most", "_law_turn"]
theorem scTerm : FnScope nTerm ["_law_pot_here", "_law_model_here", "_law_most"] (defScope dTerm) := ⟨rfl, rfl, rfl, by decide +kernel, rfl, by decide +kernel, by decide +kernel⟩
theorem okTerm {f : Addr} {fd : FuncData} (F : At K mg "_law_term" dTerm ["_law_pot_here", "_law_model_here", "_law_most"] f fd) (T : Txt K mg) : FnOk P w K mg base CX0 3 f fd ["_law_pot_here", "_law_model_here", "_law_most"] (spTerm K) := by
  obtain ⟨fD, gD, FD⟩ := T.draw
  obtain ⟨fP, gP, FP⟩ := T.pick
  obtain ⟨fL, gL, FL⟩ := T.lLetters
  have GD : FnOk P w K mg base CX0 2 fD gD ["_law_pot_here", "_law_faces"] spDraw := (okDraw FD T).mono (by decide)
  have GP : FnOk P w K mg base CX0 2 fP gP ["_law_pot_here", "_law_things"] (spPickL K) := okPickL FP T
  have GL : FnOk P w K mg base CX0 2 fL gL ["_law_model_here"] (spLLetters K) := (okLLetters FL T).mono (by decide)
  refine F.fn.ok scTerm (fun vs H Q E h => ?_) (fun cdv A outer s H vs Q E hr h => ?_)
  · obtain ⟨p, d, c, rfl, _⟩ := h
    rfl
  · obtain ⟨p, d, c, rfl, hp, hd, li, k⟩ := h
    have nds := scTerm.nd
    refine ⟨_, (pss_one (ps_ret (pe_lc (own := [("_law_turn", 3)]) (g := (gName 3)) (by rfl) nds (pi_range1 (by rfl) T.range (pa_cons (pe_call GD hr (by rfl) FD.gl FD.fn.kp FD.bi .nil pass0 (pa_cons (pv 0) (pa_cons (pe_op op_add (pv 2) pe_int) pa_nil))) pa_nil)) (blkOk_by (own := [("_law_turn", 3)]) (N := nTerm) (sc := defScope dTerm) (by decide +kernel))
          (fun _ _ _ _ _ => (pg_name (i := 3) nds rfl (Or.inl rfl))) (fun _ _ _ _ _ => pts_nil) (fun _ _ _ _ _ => (pe_call GP hr (by rfl) FP.gl FP.fn.kp FP.bi .nil pass0 (pa_cons (pv 0) (pa_cons (pe_call GL hr (by rfl) FL.gl FL.fn.kp FL.bi .nil pass0 (pa_cons (pv 1) pa_nil)) pa_nil))))))), ?_⟩
    refine ⟨_, rfl, _, rfl, _, _, rfl, rfl, p, 7, rfl, hp, by decide, by decide, fun n H1 n0 n1 e1 hp1 => ⟨n, rfl, by omega, by omega, fun L nL => ?_⟩⟩
    obtain ⟨m, rfl⟩ := Int.eq_ofNat_of_zero_le n0
    have hd1 := hd.but hp e1
    have Lp := pot_new hp1 nL
    refine lc_it (g := gName 3) (tt := tYes) (vs := [3]) walk_range (fun i Hc => ExBut p H1 Hc ∧ Pot Hc p ∧ ∃ ws acc, ws.length = i ∧ Hc L = some (.lst acc) ∧ DpAll K Hc acc (ws.map bitsD) ∧ ∀ x ∈ ws, BitsOk c.ins.length x) ⟨ExBut.of (Ex.new nL), hp1.ex (Ex.new nL), [], [], rfl, upd_same, .nil, fun x h => by cases h⟩ (fun i Hc _ _ => trivial) (fun i x Ha Hb hi q yy => ?_) (fun Hc q => ?_)
    · obtain ⟨rfl, rfl⟩ := yy
      obtain ⟨e2, hpc, ws, acc, lw, hL, da, ok⟩ := q
      refine ⟨rfl, _, rfl, _, rfl, d, c, rfl, hd1.but hp1 e2, li, fun ws2 l2 xs2 H2 ne2 le2 ok2 e3 nl2 hl2 dx2 => ?_⟩
      have hp2 := hpc.ex e3
      have lx2 := dp_len dx2
      refine ⟨p, l2, xs2, rfl, hp2, SqL.of hl2, pot_new hpc nl2, fun z => ?_, by omega, fun v H3 hv e4 hp3 => ?_⟩
      · rw [z] at lx2
        exact ne2 (List.length_eq_zero_iff.mp lx2.symm)
      obtain ⟨j, hj⟩ := List.mem_iff_getElem?.mp hv
      obtain ⟨bs, ebs, dbs⟩ := dp_nth dx2 hj
      have hb := ok2 bs (List.mem_of_getElem? ebs)
      have hL3 := e4 _ _ (e3 _ _ hL) Lp
      refine ⟨acc, hL3, ?_, ?_, hp3.upd Lp, ws ++ [bs], acc ++ [v], by rw [List.length_append, lw]; rfl, upd_same, ?_, fun x hx => ?_⟩
      · have := dp_len da
        have hi2 : i < m := by simpa using hi
        exact Nat.lt_of_le_of_lt (show _ ≤ 1000 by omega) (by decide)
      · intro b o hb n
        rw [upd_ne (fun q => by rw [q, nL] at hb; cases hb)]
        exact e4 _ _ (e3 _ _ (e2 _ _ hb n)) n
      · rw [List.map_append]
        exact dpAll_snoc (rows_upd hL3 (p_dpAll hp2 e4 (npDs_map np_bits _) (dpAll_ex e3 da))) (t_dp (ExT.upd hL3) (noL_bits _) (p_dp hp2 e4 (np_bits _) dbs))
      · rcases List.mem_append.mp hx with hx | hx
        · exact ok x hx
        · rw [List.mem_singleton.mp hx]
          exact hb
    · obtain ⟨e2, hpc, ws, acc, lw, hL, da, ok⟩ := q
      have nLH : H L = none := by
        cases q : H L with
        | none => rfl
        | some o =>
          rw [e1 _ _ q Lp] at nL
          cases nL
      exact k L acc ws Hc ok (by simp at lw; omega) (e1.trans e2) hpc nLH hL da
end
end W

set_option Elab.async false
set_option linter.all false
set_option maxRecDepth 100000
set_option maxHeartbeats 32000000
set_option pp.maxSteps 2000
namespace W
open PySem PySem.Spec PyProof.Rows L2 Evl G C
/-- new lists of names -/
def Wrote (H0 H : Hp) (as : List (Addr × List Str)) : Prop := Ex H0 H ∧ ∀ q ∈ as, H0 q.1 = none ∧ H q.1 = some (.lst (q.2.map V.str))
theorem Wrote.nil {H : Hp} : Wrote H H [] := ⟨Ex.refl H, fun q h => by cases h⟩
theorem Wrote.ex {H0 H H' : Hp} {as : List (Addr × List Str)} (h : Wrote H0 H as) (e : Ex H H') : Wrote H0 H' as := ⟨h.1.trans e, fun q hq => ⟨(h.2 q hq).1, e _ _ (h.2 q hq).2⟩⟩
theorem Wrote.add {H0 H : Hp} {as : List (Addr × List Str)} {a : Addr} {ss : List Str} (h : Wrote H0 H as) (n : H a = none) : Wrote H0 (upd H a (.lst (ss.map V.str))) (as ++ [(a, ss)]) := by
  refine ⟨h.1.trans (Ex.new n), fun q hq => ?_⟩
  rcases List.mem_append.mp hq with hq | hq
  · exact ⟨(h.2 q hq).1, Ex.new n _ _ (h.2 q hq).2⟩
  · rw [List.mem_singleton.mp hq]
    exact ⟨ex_none h.1 n, upd_same⟩
theorem Wrote.pick {H0 H : Hp} {as : List (Addr × List Str)} {v : V} (h : Wrote H0 H as) (hv : v ∈ as.map fun q => V.ref q.1) : ∃ a ss, v = .ref a ∧ ss ∈ as.map Prod.snd ∧ H0 a = none ∧ H a = some (.lst (ss.map V.str)) := by
  obtain ⟨q, hq, rfl⟩ := List.mem_map.mp hv
  exact ⟨q.1, q.2, rfl, List.mem_map.mpr ⟨q, hq, rfl⟩, h.2 q hq⟩
theorem names_of_paired {L : Addr} {H : Hp} : ∀ {ts : List (Addr × Addr)} {gs : List Gt}, PlO L H ts gs → ts.length = gs.length := fun h => Paired.length h
theorem plo_both {L lr p : Addr} {H H' : Hp} {xs : List V} (hp : Pot H p) (hL : H lr = some (.lst xs)) (e : ∀ b o, H b = some o → b ≠ p → b ≠ lr → H' b = some o) : ∀ {ts : List (Addr × Addr)} {gs : List Gt}, PlO L H ts gs → (∀ t ∈ ts, t.2 ≠ lr) → PlO L H' ts gs
  | _, _, .nil, _ => .nil
  | _, _, .cons q r, h => .cons ⟨e _ _ q.1 (pot_ne hp q.1 fun _ z => by cases z) (fun z => by have := q.1; rw [z, hL] at this; cases this), e _ _ q.2.1 (strs_ne hp q.2.1) (h _ List.mem_cons_self), q.2.2⟩ (plo_both hp hL e r fun t ht => h t (List.mem_cons_of_mem _ ht))
section
variable {K : PySem.W.Frag}
/-- what is near: inputs, registers, gates -/
theorem rd_near {H : Hp} {Q : VK} {li ln lg : Addr} {ins nms : List Str} {gs : List Gt} {ts : List (Addr × Addr)} {u0 u1 u4 u6 u7 u8 u9 u10 u11 u12 u13 : Option V} (h1 : H li = some (.lst (ins.map V.str))) (h2 : H ln = some (.lst (nms.map V.str))) (h3 : H lg = some (.lst (ts.map fun t => V.ref t.1))) (hts : PlO lg H ts gs)
    (l1 : ins.length ≤ 10) (l2 : nms.length ≤ 10) (l3 : gs.length ≤ 10) (k : ∀ a H', Ex H H' → H a = none → H' a = some (.lst ((ins ++ nms ++ gs.map (fun g => g.1)).map V.str)) → Q (.ref a) H') :
    tOp (rCatL K) (tOp (rCatL K) (tVar 2) (tVar 3)) (tLc (iList K (tVar 5)) (gName 9) tYes (tOp (rIxT K) (tVar 9) (tC (.int 0))) [9]) [u0, u1, some (.ref li), some (.ref ln), u4, some (.ref lg), u6, u7, u8, u9, u10, u11, u12, u13] H Q := by
  have hd := PlO.dp (K := K) hts
  have lts := names_of_paired hts
  refine ⟨_, rfl, _, rfl, li, ln, _, _, rfl, rfl, SqL.of h1, SqL.of h2, by rw [List.length_map, List.length_map]; exact Nat.le_trans (show _ ≤ 1000 by omega) (by decide), fun q nq => ?_⟩
  have e1 : Ex H (upd H q (.lst (ins.map V.str ++ nms.map V.str))) := Ex.new nq
  have hq : (upd H q (.lst (ins.map V.str ++ nms.map V.str))) q = some (.lst (ins.map V.str ++ nms.map V.str)) := upd_same
  generalize upd H q (.lst (ins.map V.str ++ nms.map V.str)) = H1 at e1 hq ⊢
  refine ⟨_, rfl, lg, rfl, ⟨_, SqL.of (e1 _ _ h3)⟩, fun L nL => ?_⟩
  refine lc_it (walk_list (K := K) (a := lg) (xs := ts.map fun t => V.ref t.1)) (fun i Hc => Ex H1 Hc ∧ Hc L = some (.lst (((gs.take i).map fun r => r.1).map V.str))) ⟨Ex.new nL, upd_same⟩ (fun i Hc _ q => SqL.of (q.1 _ _ (e1 _ _ h3))) (fun i x Ha Hb hi q yy => ?_) (fun H2 q => ?_)
  · obtain ⟨rfl, ex⟩ := yy
    obtain ⟨e2, hL⟩ := q
    obtain ⟨g, er, dr⟩ := dp_nth hd ex
    obtain ⟨t, l, rfl, ht, _⟩ := gate_of (dp_ex (e1.trans e2) dr)
    refine ⟨rfl, _, rfl, t, _, 0, .str g.1, rfl, rfl, ht, rfl, _, hL, ?_, e2.mut nL, ?_⟩
    · simp only [List.length_map, List.length_take]
      exact Nat.lt_of_le_of_lt (show _ ≤ 1000 by omega) (by decide)
    · rw [upd_same, take_more er]
      simp
  obtain ⟨e2, hL⟩ := q
  rw [List.length_map, lts, List.take_length] at hL
  refine ⟨q, L, _, _, rfl, rfl, SqL.of (e2 _ _ hq), SqL.of hL, by simp only [List.length_append, List.length_map]; exact Nat.le_trans (show _ ≤ 1000 by omega) (by decide), fun m nm => ?_⟩
  refine k m _ ((e1.trans e2).trans (Ex.new nm)) (ex_none (e1.trans e2) nm) ?_
  rw [upd_same, List.map_append, List.map_append]
/-- a kind that the near wires allow -/
theorem rd_kind {σ : L2.St} {H : Hp} {Q : VK} {p near : Addr} {ks : List Str} {kd : Str} {n : Nat} {tb : TE} (h8 : σ[8]? = some (some (.ref near))) (h10 : σ[10]? = some (some (.str kd))) (hl : H near = some (.lst (ks.map V.str))) (ok : ∀ z ∈ ks, nameOk z) (few : ks.length ≤ 100) (hp : Pot H p) (hn : kindsL.lookup kd = some n)
    (hb : ∀ (H' : Hp) (Q' : VK), Pot H' p → (∀ v H'', v = V.str "high" ∨ v = V.str "low" → ExBut p H' H'' → Pot H'' p → Q' v H'') → tb σ H' Q')
    (k : ∀ kd' n' H', ExBut p H H' → Pot H' p → kindsL.lookup kd' = some n' → (ks ≠ [] ∨ n' = 0) → Q (.str kd') H') : tIf (tTest (tOp (rNeD K) (tVar 8) (tLst tNil))) (tVar 10) tb σ H Q := by
  refine rd_ifNil h8 hl ok few fun H' e => ?_
  by_cases c : ks ≠ []
  · rw [if_pos c]
    exact ⟨_, h10, k kd n H' (ExBut.of e) (hp.ex e) hn (.inl c)⟩
  · rw [if_neg c]
    refine hb H' _ (hp.ex e) fun v H'' hv e2 hp2 => ?_
    rcases hv with rfl | rfl
    · exact k "high" 0 H'' ((ExBut.of e).trans e2) hp2 (by decide +kernel) (.inr rfl)
    · exact k "low" 0 H'' ((ExBut.of e).trans e2) hp2 (by decide +kernel) (.inr rfl)
end
def insL : List (List Str) := [["x"], ["y", "x"], ["x", "y"], ["x"], ["y", "x"], []]
def tagsL : List (List Str) := [["d", "b", "e", "a", "c"], ["a", "b", "c", "d", "e"], ["c", "e", "a", "d", "b"]]
def zsOf (ins : List Str) (r : Nat) (tags : List Str) : List Str := ins ++ (["p", "q"] : List Str).take r ++ tags
theorem zs_ok {ins tags : List Str} {r : Nat} (hi : ins ∈ insL) (ht : tags ∈ tagsL) (hr : r ≤ 2) : (zsOf ins r tags).Nodup ∧ (∀ z ∈ zsOf ins r tags, nameOk z) ∧ ins.length ≤ 2 ∧ tags.length = 5 := by
  have all : (insL.all fun i => tagsL.all fun t => (List.range 3).all fun r => decide ((zsOf i r t).Nodup) && (zsOf i r t).all (fun z => nameL z.cps.toList) && decide (i.length ≤ 2) && decide (t.length = 5)) = true := by decide +kernel
  have := List.all_eq_true.mp (List.all_eq_true.mp (List.all_eq_true.mp all ins hi) tags ht) r (List.mem_range.mpr (by omega))
  simp only [Bool.and_eq_true, decide_eq_true_eq] at this
  exact ⟨this.1.1.1, fun z hz => List.all_eq_true.mp this.1.1.2 z hz, this.1.2, this.2⟩
theorem pq_rising : ∀ r : Nat, r ≤ 2 → (((["p", "q"] : List Str).take r).Pairwise NameLt) := by
  have one : NameLt "p" "q" := by
    unfold NameLt
    decide +kernel
  intro r hr
  match r, hr with
  | 0, _ => exact List.Pairwise.nil
  | 1, _ => exact List.pairwise_singleton _ _
  | 2, _ => exact List.pairwise_cons.mpr ⟨fun y hy => by rw [List.mem_singleton.mp hy]; exact one, List.pairwise_singleton _ _⟩
def kinds9 : List Str := ["and", "or", "xor", "not", "pick", "xor", "and", "high", "low"]
theorem kinds9_ok : ∀ s ∈ kinds9, ∃ n, kindsL.lookup s = some n := by
  have : kinds9.all (fun s => (kindsL.lookup s).isSome) = true := by decide +kernel
  exact fun s hs => Option.isSome_iff_exists.mp (List.all_eq_true.mp this s hs)
def kindsM6 : List (Key × V) := [(.inr "and", .int 2), (.inr "or", .int 2), (.inr "xor", .int 2), (.inr "not", .int 1), (.inr "pick", .int 3), (.inr "high", .int 0), (.inr "low", .int 0)]
theorem kindsM6_hit {k : Str} {n : Nat} (h : kindsL.lookup k = some n) : valV (mergeK [] kindsM6) (Sum.inr k) = some (.int (n : Int)) := by
  rcases kinds_cases h with ⟨rfl, rfl⟩ | ⟨rfl, rfl⟩ | ⟨rfl, rfl⟩ | ⟨rfl, rfl⟩ | ⟨rfl, rfl⟩ | ⟨rfl, rfl⟩ | ⟨rfl, rfl⟩ <;> kernel_rfl
theorem take_zs {ins nms tags : List Str} {k : Nat} : (ins ++ nms ++ tags).take (ins.length + nms.length + k) = ins ++ nms ++ tags.take k := by
  rw [← List.length_append, List.take_length_add_append]
section
variable {P : Program} {w : World} {K : PySem.W.Frag} {mg : Str → Option Value} {base : Heap} {C : Addr}
def spLModel (K : PySem.W.Frag) : Sp := fun vs H Q _ => ∃ p : Addr, vs = [.ref p, .int 5] ∧ Pot H p ∧ ∀ d c H', Good c → PlanOk c c.gates → RgOf c c.regs → c.ins.length ≤ 2 → c.gates ≠ [] → (names c).length ≤ 9 → H d = none → ExBut p H H' → Pot H' p → ModAt K H' d c → Q (.ref d) H'
abbrev nLModel : List Str := ["_law_pot_here", "_law_most", "_law_inputs", "_law_names", "_law_registers", "_law_gates", "_law_tags", "_law_name", "_law_near", "_law_gate", "_law_kind", "_law_many", "_law_turn", "_law_outputs"]
theorem scLModel : FnScope nLModel ["_law_pot_here", "_law_most"] (defScope dLModel) := ⟨rfl, rfl, rfl, by decide +kernel, rfl, by decide +kernel, by decide +kernel⟩
theorem okLModel {f : Addr} {fd : FuncData} (F : At K mg "_law_model" dLModel ["_law_pot_here", "_law_most"] f fd) (T : Txt K mg) : FnOk P w K mg base CX0 3 f fd ["_law_pot_here", "_law_most"] (spLModel K) := by
  obtain ⟨fD, gD, FD⟩ := T.draw
  obtain ⟨fP, gP, FP⟩ := T.pick
  have GD : FnOk P w K mg base CX0 2 fD gD ["_law_pot_here", "_law_faces"] spDraw := (okDraw FD T).mono (by decide)
  have GP : FnOk P w K mg base CX0 2 fP gP ["_law_pot_here", "_law_things"] (spPickL K) := okPickL FP T
  refine F.fn.ok scLModel (fun vs H Q E h => ?_) (fun cdv A outer s H vs Q E hr h => ?_)
  · obtain ⟨p, rfl, _⟩ := h
    rfl
  · obtain ⟨p, rfl, hp, k⟩ := h
    have hu := hu_of hr
    have hu64 : (cxOf CX0 P w K mg base nLModel "_law_model" (defScope dLModel) f cdv A outer s H E).nox.A.units + 64 < cLine := by have := hr.units; show (A.deeper _).units + 64 < cLine; omega
    have nds := scLModel.nd
    refine ⟨_, (pss_cons (ps_set (i := 2) nds rfl (Or.inl rfl) (pe_call GP hr (by rfl) FP.gl FP.fn.kp FP.bi .nil pass0 (pa_cons (pv 0) (pa_cons (pe_lst (pa_cons (pe_lst (pa_cons pe_str pa_nil)) (pa_cons (pe_lst (pa_cons pe_str (pa_cons pe_str pa_nil))) (pa_cons (pe_lst (pa_cons pe_str (pa_cons pe_str pa_nil))) (pa_cons (pe_lst (pa_cons pe_str pa_nil)) (pa_cons (pe_lst (pa_cons pe_str (pa_cons pe_str pa_nil))) (pa_cons (pe_lst pa_nil) pa_nil))))))) pa_nil))))
      (pss_cons (ps_par3 (i := 3) (j := 4) (l := 5) rfl nds rfl rfl rfl (by decide) (by decide) (by decide) (by rfl) (by rfl) (by rfl) (pa_cons (pe_slice sl_list (pe_lst (pa_cons pe_str (pa_cons pe_str pa_nil))) po_none (po_some (pe_call GP hr (by rfl) FP.gl FP.fn.kp FP.bi .nil pass0 (pa_cons (pv 0) (pa_cons (pe_lst (pa_cons pe_int (pa_cons pe_int (pa_cons pe_int (pa_cons pe_int pa_nil))))) pa_nil))))) (pa_cons (pe_lst pa_nil) (pa_cons (pe_lst pa_nil) pa_nil))) (by rfl))
      (pss_cons (ps_set (i := 6) nds rfl (Or.inl rfl) (pe_call GP hr (by rfl) FP.gl FP.fn.kp FP.bi .nil pass0 (pa_cons (pv 0) (pa_cons (pe_lst (pa_cons (pe_lst (pa_cons pe_str (pa_cons pe_str (pa_cons pe_str (pa_cons pe_str (pa_cons pe_str pa_nil)))))) (pa_cons (pe_lst (pa_cons pe_str (pa_cons pe_str (pa_cons pe_str (pa_cons pe_str (pa_cons pe_str pa_nil)))))) (pa_cons (pe_lst (pa_cons pe_str (pa_cons pe_str (pa_cons pe_str (pa_cons pe_str (pa_cons pe_str pa_nil)))))) pa_nil)))) pa_nil))))
      (pss_cons (ps_for PassesOwn.never rfl (pi_list (pe_slice sl_list (pv 6) po_none (po_some (pe_op op_add pe_int (pe_call GD hr (by rfl) FD.gl FD.fn.kp FD.bi .nil pass0 (pa_cons (pv 0) (pa_cons (pv 1) pa_nil))))))) (pg_name (i := 7) nds rfl (Or.inl rfl))
        (pss_cons (ps_set (i := 8) nds rfl (Or.inr rfl) (pe_op (op_catL (K := K)) (pe_op (op_catL (K := K)) (pv 2) (pv 3)) (pe_lc (own := [("_law_gate", 9)]) (g := (gName 9)) (by rfl) nds (pi_list (pv 5)) (blkOk_by (own := [("_law_gate", 9)]) (N := nLModel) (sc := defScope dLModel) (by decide +kernel))
          (fun _ _ _ _ _ => (pg_name (i := 9) nds rfl (Or.inl rfl))) (fun _ _ _ _ _ => pts_nil) (fun _ _ _ _ _ => (pe_ix (ix_tupK (K := K)) (pv 9) pe_int (fun _ _ => rfl))))))
      (pss_cons (ps_set (i := 10) nds rfl (Or.inl rfl) (pe_call GP hr (by rfl) FP.gl FP.fn.kp FP.bi .nil pass0 (pa_cons (pv 0) (pa_cons (pe_lst (pa_cons pe_str (pa_cons pe_str (pa_cons pe_str (pa_cons pe_str (pa_cons pe_str (pa_cons pe_str (pa_cons pe_str (pa_cons pe_str (pa_cons pe_str pa_nil)))))))))) pa_nil))))
      (pss_cons (ps_set (i := 10) nds rfl (Or.inl rfl) (pe_ifExp (pt_cmpR (op_neD hu64) (pv 8) (pe_lst pa_nil) (nomark _)) (pv 10) (pe_call GP hr (by rfl) FP.gl FP.fn.kp FP.bi .nil pass0 (pa_cons (pv 0) (pa_cons (pe_lst (pa_cons pe_str (pa_cons pe_str pa_nil))) pa_nil)))))
      (pss_cons (ps_set (i := 11) nds rfl (Or.inl rfl) (pe_dget hu (pe_disp (pps_cons pe_str pe_int (pps_cons pe_str pe_int (pps_cons pe_str pe_int (pps_cons pe_str pe_int (pps_cons pe_str pe_int (pps_cons pe_str pe_int (pps_cons pe_str pe_int pps_nil))))))) (by rfl) (by rfl) (by simp) (by decide)) (pv 10) (fun _ _ => rfl)))
      (pss_one (ps_expr (pe_bm PySem.F.plainAttrs_list PySem.F.slot_list_append PySem.F.type_list_append mt_append (pv 5) (pa_cons (pe_tup (pa_cons (pv 7) (pa_cons (pv 10) (pa_cons (pe_lc (own := [("_law_turn", 12)]) (g := (gName 12)) (by rfl) nds (pi_range1 (by rfl) T.range (pa_cons (pv 11) pa_nil)) (blkOk_by (own := [("_law_turn", 12)]) (N := nLModel) (sc := defScope dLModel) (by decide +kernel))
          (fun _ _ _ _ _ => (pg_name (i := 12) nds rfl (Or.inl rfl))) (fun _ _ _ _ _ => pts_nil) (fun _ _ _ _ _ => (pe_call GP hr (by rfl) FP.gl FP.fn.kp FP.bi .nil pass0 (pa_cons (pv 0) (pa_cons (pv 8) pa_nil))))) pa_nil)))) pa_nil)))))))))
      (pss_cons (ps_set (i := 8) nds rfl (Or.inr rfl) (pe_op (op_catL (K := K)) (pe_op (op_catL (K := K)) (pv 2) (pv 3)) (pe_lc (own := [("_law_gate", 9)]) (g := (gName 9)) (by rfl) nds (pi_list (pv 5)) (blkOk_by (own := [("_law_gate", 9)]) (N := nLModel) (sc := defScope dLModel) (by decide +kernel))
          (fun _ _ _ _ _ => (pg_name (i := 9) nds rfl (Or.inl rfl))) (fun _ _ _ _ _ => pts_nil) (fun _ _ _ _ _ => (pe_ix (ix_tupK (K := K)) (pv 9) pe_int (fun _ _ => rfl))))))
      (pss_cons (ps_for PassesOwn.never rfl (pi_list (pv 3)) (pg_name (i := 7) nds rfl (Or.inl rfl))
        (pss_one (ps_expr (pe_bm PySem.F.plainAttrs_list PySem.F.slot_list_append PySem.F.type_list_append mt_append (pv 4) (pa_cons (pe_tup (pa_cons (pv 7) (pa_cons (pe_call GD hr (by rfl) FD.gl FD.fn.kp FD.bi .nil pass0 (pa_cons (pv 0) (pa_cons pe_int pa_nil))) (pa_cons (pe_call GP hr (by rfl) FP.gl FP.fn.kp FP.bi .nil pass0 (pa_cons (pv 0) (pa_cons (pv 8) pa_nil))) pa_nil)))) pa_nil)))))
      (pss_cons (ps_set (i := 13) nds rfl (Or.inl rfl) (pe_op (op_catL (K := K)) (pe_lst (pa_cons (pe_ix ix_tup (pe_ix ix_list (pv 5) (pe_un un_neg pe_int) (fun _ _ => rfl)) pe_int (fun _ _ => rfl)) pa_nil)) (pe_lc (own := [("_law_turn", 12)]) (g := (gName 12)) (by rfl) nds (pi_range1 (by rfl) T.range (pa_cons (pe_call GD hr (by rfl) FD.gl FD.fn.kp FD.bi .nil pass0 (pa_cons (pv 0) (pa_cons pe_int pa_nil))) pa_nil)) (blkOk_by (own := [("_law_turn", 12)]) (N := nLModel) (sc := defScope dLModel) (by decide +kernel))
          (fun _ _ _ _ _ => (pg_name (i := 12) nds rfl (Or.inl rfl))) (fun _ _ _ _ _ => pts_nil) (fun _ _ _ _ _ => (pe_call GP hr (by rfl) FP.gl FP.fn.kp FP.bi .nil pass0 (pa_cons (pv 0) (pa_cons (pv 8) pa_nil)))))))
      (pss_one (ps_ret (pe_tup (pa_cons (pv 2) (pa_cons (pv 5) (pa_cons (pv 4) (pa_cons (pe_ifExp (pt_cmpR op_gt (pe_call GD hr (by rfl) FD.gl FD.fn.kp FD.bi .nil pass0 (pa_cons (pv 0) (pa_cons pe_int pa_nil))) pe_int (nomark _)) (pv 13) (pe_lst pa_nil)) pa_nil)))))))))))))), ?_⟩
    -- the inputs
    have W0 : Wrote H H [] := Wrote.nil
    refine ⟨_, rfl, (by show 1 ≤ sizeLine; decide), fun a1 n1 => ?_⟩
    have W1 : Wrote H (upd H a1 (.lst [.str "x"])) [(a1, ["x"])] := W0.add (ss := ["x"]) n1
    generalize upd H a1 (.lst [.str "x"]) = H1 at W1 ⊢
    refine ⟨(by show 2 ≤ sizeLine; decide), fun a2 n2 => ?_⟩
    have W2 : Wrote H (upd H1 a2 (.lst [.str "y", .str "x"])) [(a1, ["x"]), (a2, ["y", "x"])] := W1.add (ss := ["y", "x"]) n2
    generalize upd H1 a2 (.lst [.str "y", .str "x"]) = H2 at W2 ⊢
    refine ⟨(by show 2 ≤ sizeLine; decide), fun a3 n3 => ?_⟩
    have W3 : Wrote H (upd H2 a3 (.lst [.str "x", .str "y"])) [(a1, ["x"]), (a2, ["y", "x"]), (a3, ["x", "y"])] := W2.add (ss := ["x", "y"]) n3
    generalize upd H2 a3 (.lst [.str "x", .str "y"]) = H3 at W3 ⊢
    refine ⟨(by show 1 ≤ sizeLine; decide), fun a4 n4 => ?_⟩
    have W4 : Wrote H (upd H3 a4 (.lst [.str "x"])) [(a1, ["x"]), (a2, ["y", "x"]), (a3, ["x", "y"]), (a4, ["x"])] := W3.add (ss := ["x"]) n4
    generalize upd H3 a4 (.lst [.str "x"]) = H4 at W4 ⊢
    refine ⟨(by show 2 ≤ sizeLine; decide), fun a5 n5 => ?_⟩
    have W5 : Wrote H (upd H4 a5 (.lst [.str "y", .str "x"])) [(a1, ["x"]), (a2, ["y", "x"]), (a3, ["x", "y"]), (a4, ["x"]), (a5, ["y", "x"])] := W4.add (ss := ["y", "x"]) n5
    generalize upd H4 a5 (.lst [.str "y", .str "x"]) = H5 at W5 ⊢
    refine ⟨(by show 0 ≤ sizeLine; decide), fun a6 n6 => ?_⟩
    have W6 : Wrote H (upd H5 a6 (.lst [])) [(a1, ["x"]), (a2, ["y", "x"]), (a3, ["x", "y"]), (a4, ["x"]), (a5, ["y", "x"]), (a6, [])] := W5.add (ss := []) n6
    generalize upd H5 a6 (.lst []) = H6 at W6 ⊢
    refine ⟨(by show 6 ≤ sizeLine; decide), fun L0 nL0 => ?_⟩
    have W7 := W6.ex (Ex.new (o := .lst [.ref a1, .ref a2, .ref a3, .ref a4, .ref a5, .ref a6]) nL0)
    have hL0 : (upd H6 L0 (.lst [.ref a1, .ref a2, .ref a3, .ref a4, .ref a5, .ref a6])) L0 = some (.lst [.ref a1, .ref a2, .ref a3, .ref a4, .ref a5, .ref a6]) := upd_same
    have pL0 := pot_new (hp.ex W6.1) nL0
    generalize upd H6 L0 (.lst [.ref a1, .ref a2, .ref a3, .ref a4, .ref a5, .ref a6]) = H7 at W7 hL0 ⊢
    have hp7 := hp.ex W7.1
    refine ⟨p, L0, _, rfl, hp7, SqL.of hL0, pL0, by simp, by show 6 ≤ 100; decide, fun v0 H8 hv0 e8 hp8 => ?_⟩
    obtain ⟨li, ins, rfl, hins, nli, hli⟩ := W7.pick hv0
    have hins : ins ∈ insL := hins
    have lip := pot_new hp nli
    have hli8 := e8 _ _ hli lip
    have xb8 : ExBut p H H8 := (ExBut.of W7.1).trans e8
    clear W1 W2 W3 W4 W5 W6 W7 hL0 hli e8 hv0 n1 n2 n3 n4 n5 n6 nL0 pL0
    -- the names
    refine ⟨(by show 2 ≤ sizeLine; decide), fun b1 m1 => ?_⟩
    have f1 : Ex H8 (upd H8 b1 (.lst [.str "p", .str "q"])) := Ex.new m1
    have hb1 : (upd H8 b1 (.lst [.str "p", .str "q"])) b1 = some (.lst [.str "p", .str "q"]) := upd_same
    have b1p := pot_new hp8 m1
    generalize upd H8 b1 (.lst [.str "p", .str "q"]) = H9 at f1 hb1 ⊢
    refine ⟨_, rfl, (by show 4 ≤ sizeLine; decide), fun b2 m2 => ?_⟩
    have f2 : Ex H9 (upd H9 b2 (.lst [.int 0, .int 1, .int 1, .int 2])) := Ex.new m2
    have hb2 : (upd H9 b2 (.lst [.int 0, .int 1, .int 1, .int 2])) b2 = some (.lst [.int 0, .int 1, .int 1, .int 2]) := upd_same
    have b2p := pot_new (hp8.ex f1) m2
    generalize upd H9 b2 (.lst [.int 0, .int 1, .int 1, .int 2]) = H10 at f2 hb2 ⊢
    have f12 := f1.trans f2
    refine ⟨p, b2, _, rfl, hp8.ex f12, SqL.of hb2, b2p, by simp, by show 4 ≤ 100; decide, fun v1 H11 hv1 e11 hp11 => ?_⟩
    obtain ⟨r, rfl, hr2⟩ : ∃ r : Nat, v1 = .int (r : Int) ∧ r ≤ 2 := by
      simp only [List.mem_cons, List.not_mem_nil, or_false] at hv1
      rcases hv1 with rfl | rfl | rfl | rfl
      · exact ⟨0, rfl, by decide⟩
      · exact ⟨1, rfl, by decide⟩
      · exact ⟨1, rfl, by decide⟩
      · exact ⟨2, rfl, by decide⟩
    have hb1e := e11 _ _ (f2 _ _ hb1) b1p
    have hli11 := e11 _ _ (f12 _ _ hli8) lip
    have xb11 : ExBut p H H11 := (xb8.trans (ExBut.of f12)).trans e11
    refine ⟨_, rfl, b1, _, rfl, SqL.of hb1e, fun ln nln => ?_⟩
    have ecut : cutV [V.str "p", V.str "q"] none (some (r : Int)) = ((["p", "q"] : List Str).take r).map V.str := cut_to (zs := ["p", "q"]) hr2
    rw [ecut]
    have g1 : Ex H11 (upd H11 ln (.lst (((["p", "q"] : List Str).take r).map V.str))) := Ex.new nln
    have hln : (upd H11 ln (.lst (((["p", "q"] : List Str).take r).map V.str))) ln = some (.lst (((["p", "q"] : List Str).take r).map V.str)) := upd_same
    have lnp := pot_new hp11 nln
    generalize upd H11 ln (.lst (((["p", "q"] : List Str).take r).map V.str)) = H12 at g1 hln ⊢
    refine ⟨(by show 0 ≤ sizeLine; decide), fun lr nlr => ?_⟩
    have g2 : Ex H12 (upd H12 lr (.lst [])) := Ex.new nlr
    have hlr : (upd H12 lr (.lst [])) lr = some (.lst []) := upd_same
    have lrp := pot_new (hp11.ex g1) nlr
    generalize upd H12 lr (.lst []) = H13 at g2 hlr ⊢
    refine ⟨(by show 0 ≤ sizeLine; decide), fun lg nlg => ?_⟩
    have g3 : Ex H13 (upd H13 lg (.lst [])) := Ex.new nlg
    have hlg : (upd H13 lg (.lst [])) lg = some (.lst []) := upd_same
    have lgp := pot_new ((hp11.ex g1).ex g2) nlg
    have lglr : lg ≠ lr := fun z => by rw [z, hlr] at nlg; cases nlg
    have lgln : lg ≠ ln := fun z => by rw [z, g2 _ _ hln] at nlg; cases nlg
    have lgli : lg ≠ li := fun z => by rw [z, g2 _ _ (g1 _ _ hli11)] at nlg; cases nlg
    have lrln : lr ≠ ln := fun z => by rw [z, hln] at nlr; cases nlr
    have lrli : lr ≠ li := fun z => by rw [z, g1 _ _ hli11] at nlr; cases nlr
    have nlrH : ∀ {b o}, H b = some o → b ≠ p → b ≠ lr ∧ b ≠ lg := fun {b o} hb n => by
      have q := g1 _ _ (xb11 _ _ hb n)
      exact ⟨(fun z => by rw [z] at q; rw [q] at nlr; cases nlr), (fun z => by rw [z] at q; rw [g2 _ _ q] at nlg; cases nlg)⟩
    generalize upd H13 lg (.lst []) = H14 at g3 hlg ⊢
    have g13 := (g1.trans g2).trans g3
    refine ⟨_, _, _, rfl, ?_⟩
    have hli14 := g13 _ _ hli11
    have hln14 := g3 _ _ (g2 _ _ hln)
    have hlr14 := g3 _ _ hlr
    have hp14 := hp11.ex g13
    have xb14 : ExBut p H H14 := xb11.trans (ExBut.of g13)
    clear hln hlr hli11 hli8 nln nlr nlg hb1e m1 m2 hb1 hb2 f1 f2 f12 g1 g2 g3 ecut
    -- the tags
    refine ⟨_, rfl, (by show 5 ≤ sizeLine; decide), fun c1 k1 => ?_⟩
    have V1 : Wrote H14 (upd H14 c1 (.lst [.str "d", .str "b", .str "e", .str "a", .str "c"])) [(c1, ["d", "b", "e", "a", "c"])] := Wrote.nil.add (ss := ["d", "b", "e", "a", "c"]) k1
    generalize upd H14 c1 (.lst [.str "d", .str "b", .str "e", .str "a", .str "c"]) = H15 at V1 ⊢
    refine ⟨(by show 5 ≤ sizeLine; decide), fun c2 k2 => ?_⟩
    have V2 : Wrote H14 (upd H15 c2 (.lst [.str "a", .str "b", .str "c", .str "d", .str "e"])) [(c1, ["d", "b", "e", "a", "c"]), (c2, ["a", "b", "c", "d", "e"])] := V1.add (ss := ["a", "b", "c", "d", "e"]) k2
    generalize upd H15 c2 (.lst [.str "a", .str "b", .str "c", .str "d", .str "e"]) = H16 at V2 ⊢
    refine ⟨(by show 5 ≤ sizeLine; decide), fun c3 k3 => ?_⟩
    have V3 : Wrote H14 (upd H16 c3 (.lst [.str "c", .str "e", .str "a", .str "d", .str "b"])) [(c1, ["d", "b", "e", "a", "c"]), (c2, ["a", "b", "c", "d", "e"]), (c3, ["c", "e", "a", "d", "b"])] := V2.add (ss := ["c", "e", "a", "d", "b"]) k3
    generalize upd H16 c3 (.lst [.str "c", .str "e", .str "a", .str "d", .str "b"]) = H17 at V3 ⊢
    refine ⟨(by show 3 ≤ sizeLine; decide), fun L1 nL1 => ?_⟩
    have V4 := V3.ex (Ex.new (o := .lst [.ref c1, .ref c2, .ref c3]) nL1)
    have hL1 : (upd H17 L1 (.lst [.ref c1, .ref c2, .ref c3])) L1 = some (.lst [.ref c1, .ref c2, .ref c3]) := upd_same
    have pL1 := pot_new (hp14.ex V3.1) nL1
    generalize upd H17 L1 (.lst [.ref c1, .ref c2, .ref c3]) = H18 at V4 hL1 ⊢
    refine ⟨p, L1, _, rfl, hp14.ex V4.1, SqL.of hL1, pL1, by simp, by show 3 ≤ 100; decide, fun v2 H19 hv2 e19 hp19 => ?_⟩
    obtain ⟨lt, tags, rfl, htags, nlt, hlt⟩ := V4.pick hv2
    have htags : tags ∈ tagsL := htags
    have ltp := pot_new hp14 nlt
    have hlt19 := e19 _ _ hlt ltp
    have y19 : ExBut p H14 H19 := (ExBut.of V4.1).trans e19
    have ltlg : lt ≠ lg := fun z => by rw [z, hlg] at nlt; cases nlt
    have ltlr : lt ≠ lr := fun z => by rw [z, hlr14] at nlt; cases nlt
    have hli19 := y19 _ _ hli14 lip
    have hln19 := y19 _ _ hln14 lnp
    have hlr19 := y19 _ _ hlr14 lrp
    have hlg19 := y19 _ _ hlg lgp
    have xb19 : ExBut p H H19 := xb14.trans y19
    clear V1 V2 V3 V4 hL1 hlt e19 y19 hv2 k1 k2 k3 nL1 pL1 nlt hli14 hln14 hlr14 hlg
    obtain ⟨znd, zok, li2, lt5⟩ := zs_ok hins htags hr2
    -- the gates
    refine ⟨_, rfl, _, rfl, _, rfl, p, 5, rfl, hp19, by decide, by decide, fun m0 H20 mn mx e20 hp20 => ⟨_, _, rfl, rfl, _, rfl, lt, _, rfl, SqL.of (e20 _ _ hlt19 ltp), fun tl ntl => ?_⟩⟩
    obtain ⟨m', rfl⟩ := Int.eq_ofNat_of_zero_le mn
    have em : (1 : Int) + (m' : Int) = ((m' + 1 : Nat) : Int) := by omega
    rw [em]
    have hm : m' + 1 ≤ tags.length := by omega
    rw [cut_to hm]
    generalize em2 : m' + 1 = m at hm ⊢
    have m1 : 1 ≤ m := by omega
    clear em
    have g1 : Ex H20 (upd H20 tl (.lst ((tags.take m).map V.str))) := Ex.new ntl
    have htl : (upd H20 tl (.lst ((tags.take m).map V.str))) tl = some (.lst ((tags.take m).map V.str)) := upd_same
    have tlp := pot_new hp20 ntl
    have tllg : tl ≠ lg := fun z => by rw [z, e20 _ _ hlg19 lgp] at ntl; cases ntl
    have tllr : tl ≠ lr := fun z => by rw [z, e20 _ _ hlr19 lrp] at ntl; cases ntl
    generalize upd H20 tl (.lst ((tags.take m).map V.str)) = HB at g1 htl ⊢
    have kB : ∀ {b o}, H19 b = some o → b ≠ p → HB b = some o := fun hb n => g1 _ _ (e20 _ _ hb n)
    have hliB := kB hli19 lip
    have hlnB := kB hln19 lnp
    have hlrB := kB hlr19 lrp
    have hlgB := kB hlg19 lgp
    have hpB := hp20.ex g1
    have xbB : ExBut p H HB := fun b o hb n => kB (xb19 _ _ hb n) n
    clear hli19 hln19 hlr19 hlg19 hlt19 e20 g1 kB ntl hp20 hp19
    have zin : ∀ {n : Nat}, ∀ z ∈ (zsOf ins r tags).take n, nameOk z := fun z hz => zok z (List.mem_of_mem_take hz)
    have zk : ∀ k, (zsOf ins r tags).take (ins.length + ((["p", "q"] : List Str).take r).length + k) = ins ++ (["p", "q"] : List Str).take r ++ tags.take k := fun k => take_zs
    have lpq : ((["p", "q"] : List Str).take r).length = r := by rw [List.length_take]; show min r 2 = r; omega
    refine ⟨tl, rfl, ⟨_, SqL.of htl⟩, ?_⟩
    refine for_list (K := K) (a := tl) (xs := (tags.take m).map V.str) (fun k σ Hc => (∃ u7 u8 u10 u11, σ = [some (.ref p), some (.int 5), some (.ref li), some (.ref ln), some (.ref lr), some (.ref lg), some (.ref lt), u7, u8, none, u10, u11, none, none]) ∧ (∀ b o, HB b = some o → b ≠ p → b ≠ lg → Hc b = some o) ∧ Pot Hc p ∧ ∃ gs ts, gs.length = k ∧ Hc lg = some (.lst (ts.map fun t => V.ref t.1)) ∧ PlO lg Hc ts gs ∧ (∀ t ∈ ts, t.2 ≠ lr) ∧ gs.map (fun g => g.1) = tags.take k ∧
        (∀ j g, gs[j]? = some g → kindsL.lookup g.2.1 = some g.2.2.length ∧ ∀ y ∈ g.2.2, y ∈ (zsOf ins r tags).take (ins.length + ((["p", "q"] : List Str).take r).length + j)))
      ⟨⟨_, _, _, _, rfl⟩, fun b o h _ _ => h, hpB, [], [], rfl, hlgB, .nil, (fun t h => by cases h), by simp, fun j g h => by simp at h⟩ (fun k σ Hc _ q => SqL.of (q.2.1 _ _ htl tlp tllg)) (fun k x σ Hc hx q => ?_) (fun σ Hc q => ?_)
    · obtain ⟨⟨u7, u8, u10, u11, rfl⟩, e, hpc, gs, ts, lgs, h2, hts, tlr, gn, gk⟩ := q
      obtain ⟨z, ez, rfl⟩ := nth_map hx
      have kt : k < m := by
        have := (List.getElem?_eq_some_iff.mp ez).1
        rw [List.length_take] at this
        omega
      have ezt : tags[k]? = some z := by
        rw [List.getElem?_take, if_pos kt] at ez
        exact ez
      have lts := names_of_paired hts
      refine rd_near (K := K) (e _ _ hliB lip (Ne.symm lgli)) (e _ _ hlnB lnp (Ne.symm lgln)) h2 hts (by omega) (by omega) (by omega) fun near Hn en nn hn => ?_
      rw [gn, ← zk k] at hn
      have nearp := pot_new hpc nn
      have nearlg : near ≠ lg := fun z => by rw [z, h2] at nn; cases nn
      refine ⟨_, rfl, (by show 9 ≤ sizeLine; decide), fun s1 ns1 => ?_⟩
      have f1 : Ex Hn (upd Hn s1 (.lst (kinds9.map V.str))) := Ex.new ns1
      have hs1 : (upd Hn s1 (.lst (kinds9.map V.str))) s1 = some (.lst (kinds9.map V.str)) := upd_same
      have s1p := pot_new (hpc.ex en) ns1
      have hpn := (hpc.ex en).ex f1
      refine ⟨p, s1, kinds9.map V.str, rfl, hpn, SqL.of hs1, s1p, by simp [kinds9], by show 9 ≤ 100; decide, fun v H3 hv e3 hp3 => ?_⟩
      obtain ⟨kd, hkd, rfl⟩ := List.mem_map.mp hv
      obtain ⟨n0, hn0⟩ := kinds9_ok kd hkd
      have hn3 := e3 _ _ (f1 _ _ hn) nearp
      have keep3 : ∀ {a : Addr} {o : HO}, Hc a = some o → a ≠ p → H3 a = some o := fun h n => e3 _ _ (f1 _ _ (en _ _ h)) n
      have ts3 : PlO lg H3 ts gs := ((hts.mono (ExBut.of en)).mono (ExBut.of f1)).pot hpn e3
      refine rd_kind (p := p) rfl rfl hn3 zin (by rw [List.length_take]; have := li2; unfold zsOf; simp only [List.length_append]; omega) hp3 hn0 (fun H' Q' hp' kq => ?_) fun kd' n H4 e4 hp4 hnk nn0 => ?_
      · refine ⟨_, rfl, (by show 2 ≤ sizeLine; decide), fun s2 ns2 => ?_⟩
        have f2 : Ex H' (upd H' s2 (.lst [.str "high", .str "low"])) := Ex.new ns2
        have hs2 : (upd H' s2 (.lst [.str "high", .str "low"])) s2 = some (.lst [.str "high", .str "low"]) := upd_same
        refine ⟨p, s2, _, rfl, hp'.ex f2, SqL.of hs2, pot_new hp' ns2, by simp, by show 2 ≤ 100; decide, fun v H'' hv e'' hp'' => kq v H'' ?_ ((ExBut.of f2).trans e'') hp''⟩
        simpa using hv
      have n3 := kinds_few hnk
      have hn4 := e4 _ _ hn3 nearp
      have keep4 : ∀ {a : Addr} {o : HO}, Hc a = some o → a ≠ p → H4 a = some o := fun h n => e4 _ _ (keep3 h n) n
      have ts4 : PlO lg H4 ts gs := ts3.pot hp3 e4
      refine fun d nd => ?_
      have g : DGet (upd (upd H4 d (.dK [])) d (.dK (mergeK [] kindsM6))) d (.str kd') (some (.int (n : Int))) := by
        have g := DGet.k (H := upd (upd H4 d (.dK [])) d (.dK (mergeK [] kindsM6))) (k := Sum.inr kd') upd_same
        rw [kindsM6_hit hnk] at g
        exact g
      refine ⟨upd_same, kindsM6, rfl, (by decide), _, rfl, d, _, rfl, g, ?_⟩
      clear g
      have f5 : Ex H4 (upd (upd H4 d (.dK [])) d (.dK (mergeK [] kindsM6))) := (Ex.new nd).mut nd
      generalize upd (upd H4 d (.dK [])) d (.dK (mergeK [] kindsM6)) = H5 at f5 ⊢
      have hp5 := hp4.ex f5
      have hn5 := f5 _ _ hn4
      have keep5 : ∀ {a : Addr} {o : HO}, Hc a = some o → a ≠ p → H5 a = some o := fun h n => f5 _ _ (keep4 h n)
      have ts5 : PlO lg H5 ts gs := ts4.mono (ExBut.of f5)
      have hg5 := keep5 h2 lgp
      refine ⟨_, rfl, .inl ⟨rfl, _, SqL.of hg5⟩, _, rfl, _, rfl, _, rfl, (n : Int), rfl, by omega, by omega, fun L nL => ?_⟩
      refine lc_draws (A := fun v => ∃ y, y ∈ (zsOf ins r tags).take (ins.length + ((["p", "q"] : List Str).take r).length + k) ∧ v = V.str y) (by omega) hp5 nL (fun i' Hx Q' hi ex hpx kk => ⟨_, rfl, _, rfl, p, near, _, rfl, hpx, SqL.of (ex _ _ hn5 nearp), nearp, ?_, by rw [List.length_map, List.length_take]; have := li2; unfold zsOf; simp only [List.length_append]; omega, fun v H' hv e hp' => kk v H' ?_ e hp'⟩) (fun H6 vs e6 hp6 hL lv av => ?_)
      · rcases nn0 with c | c
        · simpa using c
        · omega
      · obtain ⟨y, hy, rfl⟩ := List.mem_map.mp hv
        exact ⟨y, hy, rfl⟩
      obtain ⟨ws, rfl, hws⟩ := strs_of av
      rw [List.length_map] at lv
      have lws : n = ws.length := by omega
      refine ⟨(by show 3 ≤ sizeLine; decide), fun t nt => ?_⟩
      have e7 : Ex H6 (upd H6 t (.tup [.str z, .str kd', .ref L])) := Ex.new nt
      have ht7 : (upd H6 t (.tup [.str z, .str kd', .ref L])) t = some (.tup [.str z, .str kd', .ref L]) := upd_same
      have hg6 : H6 lg = some (.lst (ts.map fun t => V.ref t.1)) := e6 _ _ hg5 lgp
      have tlg' : t ≠ lg := fun q => by rw [q, hg6] at nt; cases nt
      have Llr : L ≠ lr := fun q => by rw [q, keep5 (e _ _ hlrB lrp (Ne.symm lglr)) lrp] at nL; cases nL
      have Llg : L ≠ lg := fun q => by rw [q, hg5] at nL; cases nL
      generalize upd H6 t (.tup [.str z, .str kd', .ref L]) = H7 at e7 ht7 ⊢
      have keep7 : ∀ {a : Addr} {o : HO}, Hc a = some o → a ≠ p → H7 a = some o := fun h n => e7 _ _ (e6 _ _ (keep5 h n) n)
      have ts7 : PlO lg H7 ts gs := (ts5.pot hp5 e6).mono (ExBut.of e7)
      have hg7 := e7 _ _ hg6
      refine ⟨lg, _, .ref t, rfl, rfl, hg7, by rw [List.length_map]; exact Nat.lt_of_le_of_lt (show _ ≤ 1000 by omega) (by decide), ?_⟩
      have hg8 : (upd H7 lg (.lst ((ts.map fun t => V.ref t.1) ++ [.ref t]))) lg = some (.lst ((ts ++ [(t, L)]).map fun t => V.ref t.1)) := by rw [upd_same, List.map_append]; rfl
      have ts8 : PlO lg (upd H7 lg (.lst ((ts.map fun t => V.ref t.1) ++ [.ref t]))) (ts ++ [(t, L)]) (gs ++ [(z, kd', ws)]) := Paired.snoc (ts7.mono ExBut.upd) ⟨by rw [upd_ne tlg']; exact ht7, by rw [upd_ne Llg]; exact e7 _ _ hL, tlg', Llg⟩
      have keep8 : ∀ {a : Addr} {o : HO}, Hc a = some o → a ≠ p → a ≠ lg → (upd H7 lg (.lst ((ts.map fun t => V.ref t.1) ++ [.ref t]))) a = some o := fun h n n2 => by rw [upd_ne n2]; exact keep7 h n
      have hp8' : Pot (upd H7 lg (.lst ((ts.map fun t => V.ref t.1) ++ [.ref t]))) p := (hp6.ex e7).upd lgp
      generalize upd H7 lg (.lst ((ts.map fun t => V.ref t.1) ++ [.ref t])) = H8' at hg8 ts8 keep8 hp8' ⊢
      refine ⟨⟨_, _, _, _, rfl⟩, fun b o h n1 n2 => keep8 (e _ _ h n1 n2) n1 n2, hp8', gs ++ [(z, kd', ws)], ts ++ [(t, L)], by rw [List.length_append, lgs]; rfl, hg8, ts8, (fun q hq => ?_), ?_, ?_⟩
      · rcases List.mem_append.mp hq with hq | hq
        · exact tlr q hq
        · rw [List.mem_singleton.mp hq]
          exact Llr
      · rw [List.map_append, gn, take_more ezt]
        rfl
      · intro j g hj
        rcases Nat.lt_or_ge j gs.length with c | c
        · rw [List.getElem?_append_left c] at hj
          exact gk j g hj
        · rw [List.getElem?_append_right c] at hj
          have j0 : j - gs.length = 0 := by
            have := (List.getElem?_eq_some_iff.mp hj).1
            simp at this
            omega
          rw [j0] at hj
          simp at hj
          subst hj
          have jk : j = k := by omega
          rw [jk]
          exact ⟨by rw [hnk, lws], hws⟩
    · obtain ⟨⟨u7, u8, u10, u11, rfl⟩, e, hpc, gs, ts, lgs, h2, hts, tlr, gn, gk⟩ := q
      rw [List.length_map, List.length_take, Nat.min_eq_left hm] at lgs gn
      have lts := names_of_paired hts
      have zlen : (zsOf ins r tags).length = ins.length + ((["p", "q"] : List Str).take r).length + tags.length := by
        unfold zsOf
        rw [List.length_append, List.length_append]
      refine rd_near (K := K) (e _ _ hliB lip (Ne.symm lgli)) (e _ _ hlnB lnp (Ne.symm lgln)) h2 hts (by omega) (by omega) (by omega) fun near Hn en nn hn => ?_
      rw [gn, ← zk m] at hn
      have nearp := pot_new hpc nn
      have hpn := hpc.ex en
      have hlnn := en _ _ (e _ _ hlnB lnp (Ne.symm lgln))
      have hlrn := en _ _ (e _ _ hlrB lrp (Ne.symm lglr))
      have hlin := en _ _ (e _ _ hliB lip (Ne.symm lgli))
      have hlgn := en _ _ h2
      have tsn : PlO lg Hn ts gs := hts.mono (ExBut.of en)
      have nearlr : near ≠ lr := fun z => by rw [z, e _ _ hlrB lrp (Ne.symm lglr)] at nn; cases nn
      have xn : ∀ b o, H b = some o → b ≠ p → Hn b = some o := fun b o hb n => en _ _ (e _ _ (xbB _ _ hb n) n (nlrH hb n).2)
      refine ⟨_, rfl, ln, rfl, ⟨_, SqL.of hlnn⟩, ?_⟩
      refine for_list (K := K) (a := ln) (xs := ((["p", "q"] : List Str).take r).map V.str) (fun j σ Hx => (∃ u7, σ = [some (.ref p), some (.int 5), some (.ref li), some (.ref ln), some (.ref lr), some (.ref lg), some (.ref lt), u7, some (.ref near), none, u10, u11, none, none]) ∧ (∀ b o, Hn b = some o → b ≠ p → b ≠ lr → Hx b = some o) ∧ Pot Hx p ∧
          ∃ rs acc, Hx lr = some (.lst acc) ∧ DpAll K Hx acc (rs.map regD) ∧ rs.map (fun r => r.1) = ((["p", "q"] : List Str).take r).take j ∧ ∀ x ∈ rs, isBt x.2.1 ∧ x.2.2 ∈ (zsOf ins r tags).take (ins.length + ((["p", "q"] : List Str).take r).length + m))
        ⟨⟨_, rfl⟩, fun b o h _ _ => h, hpn, [], [], hlrn, .nil, by simp, fun x h => by cases h⟩ (fun j σ Hx _ q => SqL.of (q.2.1 _ _ hlnn lnp (Ne.symm lrln))) (fun j x σ Hx hx q => ?_) (fun σ Hx q => ?_)
      · obtain ⟨⟨u7, rfl⟩, ex, hpx, rs, acc, hL, dacc, rn, rk⟩ := q
        obtain ⟨z, ez, rfl⟩ := nth_map hx
        have lacc := dp_len dacc
        have lrs := congrArg List.length rn
        rw [List.length_map, List.length_take] at lrs
        refine ⟨_, rfl, .inl ⟨rfl, _, SqL.of hL⟩, _, rfl, _, rfl, p, 2, rfl, hpx, by decide, by decide, fun b H1 b0 b1 e1 hp1 => ?_⟩
        have hn1 := e1 _ _ (ex _ _ hn nearp nearlr) nearp
        have hL1 := e1 _ _ hL lrp
        refine ⟨_, rfl, _, rfl, p, near, _, rfl, hp1, SqL.of hn1, nearp, ?_, by rw [List.length_map, List.length_take]; omega, fun v H2 hv e2 hp2 => ⟨(by show 3 ≤ sizeLine; decide), fun t nt => ?_⟩⟩
        · intro q
          have := congrArg List.length q
          rw [List.length_map, List.length_take, List.length_nil] at this
          omega
        obtain ⟨y, hy, rfl⟩ := List.mem_map.mp hv
        have bb : isBt b := by
          show b = 0 ∨ b = 1
          omega
        have e3 : Ex H2 (upd H2 t (.tup [.str z, .int b, .str y])) := Ex.new nt
        have dt : Dp K (upd H2 t (.tup [.str z, .int b, .str y])) (.ref t) (regD (z, b, y)) := .tup (st_of upd_same) (.cons (.str _) (.cons (.int _) (.cons (.str _) .nil)))
        generalize upd H2 t (.tup [.str z, .int b, .str y]) = H3 at e3 dt ⊢
        have hL3 := e3 _ _ (e2 _ _ hL1 lrp)
        have dacc3 := dpAll_ex e3 (p_dpAll hp1 e2 (npDs_map (fun _ => rfl) _) (p_dpAll hpx e1 (npDs_map (fun _ => rfl) _) dacc))
        refine ⟨lr, acc, .ref t, rfl, rfl, hL3, Nat.lt_of_le_of_lt (show _ ≤ 1000 by omega) (by decide), ⟨_, rfl⟩, ?_, (hp2.ex e3).upd lrp, rs ++ [(z, b, y)], acc ++ [.ref t], upd_same, ?_, ?_, ?_⟩
        · intro c o hc n n2
          rw [upd_ne n2]
          exact e3 _ _ (e2 _ _ (e1 _ _ (ex _ _ hc n n2) n) n)
        · rw [List.map_append]
          exact dpAll_snoc (t_dpAll (ExT.upd hL3) (noLs_map noL_reg _) dacc3) (t_dp (ExT.upd hL3) (noL_reg _) dt)
        · rw [List.map_append, rn, take_more ez]
          rfl
        · intro x hx
          rcases List.mem_append.mp hx with hx | hx
          · exact rk x hx
          · rw [List.mem_singleton.mp hx]
            exact ⟨bb, hy⟩
      · obtain ⟨⟨u7, rfl⟩, ex, hpx, rs, acc, hL, dacc, rn, rk⟩ := q
        rw [List.length_map, List.take_length] at rn
        have hnx := ex _ _ hn nearp nearlr
        have hlgx := ex _ _ hlgn lgp lglr
        have hlix := ex _ _ hlin lip (Ne.symm lrli)
        have xx : ∀ b o, H b = some o → b ≠ p → Hx b = some o := fun b o hb n => ex _ _ (xn _ _ hb n) n (nlrH hb n).1
        have tsx := PlO.dp (K := K) (plo_both hpn hlrn ex tsn tlr)
        obtain ⟨ts', t, ets⟩ : ∃ ts' t, ts = ts' ++ [t] := by
          rcases List.eq_nil_or_concat ts with q | ⟨a, b, q⟩
          · rw [q] at lts
            simp at lts
            omega
          · exact ⟨a, b, by rw [q, List.concat_eq_append]⟩
        have hlast : atI (ts.map fun t => V.ref t.1) (-1) = some (.ref t.1) := by
          rw [ets, List.map_append]
          exact atI_last _ _
        obtain ⟨g0, eg0, dg0⟩ := dp_nth tsx (i := ts'.length) (x := .ref t.1) (by rw [ets, List.map_append, List.getElem?_append_right (by rw [List.length_map]; exact Nat.le_refl _), List.length_map, Nat.sub_self]; rfl)
        obtain ⟨tt, l, ett, htt, _⟩ := gate_of dg0
        cases ett
        have g0in : g0.1 ∈ (zsOf ins r tags).take (ins.length + ((["p", "q"] : List Str).take r).length + m) := by
          rw [zk m, ← gn]
          exact List.mem_append_right _ (List.mem_map.mpr ⟨g0, List.mem_of_getElem? eg0, rfl⟩)
        refine ⟨_, rfl, 1, rfl, lg, _, -1, .ref t.1, rfl, rfl, SqL.of hlgx, hlast, t.1, _, 0, .str g0.1, rfl, rfl, htt, rfl, (by show 1 ≤ sizeLine; decide), fun q nq => ?_⟩
        have f1 : Ex Hx (upd Hx q (.lst [.str g0.1])) := Ex.new nq
        have hq : (upd Hx q (.lst [.str g0.1])) q = some (.lst [.str g0.1]) := upd_same
        have qp := pot_new hpx nq
        generalize upd Hx q (.lst [.str g0.1]) = H1 at f1 hq ⊢
        have hp1 := hpx.ex f1
        refine ⟨_, rfl, p, 2, rfl, hp1, by decide, by decide, fun n H2 n0 n1 e2 hp2 => ⟨n, rfl, by omega, by omega, fun L nL => ?_⟩⟩
        obtain ⟨n, rfl⟩ := Int.eq_ofNat_of_zero_le n0
        have hn2 := e2 _ _ (f1 _ _ hnx) nearp
        refine lc_draws (A := fun v => ∃ y, y ∈ (zsOf ins r tags).take (ins.length + ((["p", "q"] : List Str).take r).length + m) ∧ v = V.str y) (by omega) hp2 nL (fun i' Hy Q' hi ey hpy kk => ⟨_, rfl, _, rfl, p, near, _, rfl, hpy, SqL.of (ey _ _ hn2 nearp), nearp, ?_, by rw [List.length_map, List.length_take]; omega, fun v H' hv e hp' => kk v H' ?_ e hp'⟩) (fun H3 vs e3 hp3 hL3 lv av => ?_)
        · intro q
          have := congrArg List.length q
          rw [List.length_map, List.length_take, List.length_nil] at this
          omega
        · obtain ⟨y, hy, rfl⟩ := List.mem_map.mp hv
          exact ⟨y, hy, rfl⟩
        obtain ⟨ws, rfl, hws⟩ := strs_of av
        rw [List.length_map] at lv
        have hq3 := e3 _ _ (e2 _ _ hq qp) qp
        refine ⟨q, L, [V.str g0.1], ws.map V.str, rfl, rfl, SqL.of hq3, SqL.of hL3, by rw [List.length_map]; exact Nat.le_trans (show 1 + _ ≤ 1000 by omega) (by decide), fun lo nlo => ?_⟩
        have f4 : Ex H3 (upd H3 lo (.lst ([V.str g0.1] ++ ws.map V.str))) := Ex.new nlo
        have hlo : (upd H3 lo (.lst ([V.str g0.1] ++ ws.map V.str))) lo = some (.lst ((g0.1 :: ws).map V.str)) := upd_same
        have lop := pot_new hp3 nlo
        generalize upd H3 lo (.lst ([V.str g0.1] ++ ws.map V.str)) = H4 at f4 hlo ⊢
        have hp4 := hp3.ex f4
        have x4 : ∀ {b o}, Hx b = some o → b ≠ p → H4 b = some o := fun hb n => f4 _ _ (e3 _ _ (e2 _ _ (f1 _ _ hb) n) n)
        have eb4 : ExBut p Hx H4 := fun b o hb n => x4 hb n
        refine ⟨_, rfl, _, rfl, _, rfl, _, rfl, p, 16, rfl, hp4, by decide, by decide, fun gg H5 g0' g1' e5 hp5 => ⟨_, _, rfl, rfl, _, rfl, ?_⟩⟩
        -- the end
        have fin : ∀ (lo : Addr) (os : List Str) (Hy : Hp), (∀ z ∈ os, z ∈ (zsOf ins r tags).take (ins.length + ((["p", "q"] : List Str).take r).length + m)) → os.length ≤ 8 → Hy lo = some (.lst (os.map V.str)) → ExBut p Hx Hy → Pot Hy p → ∀ t, Hy t = none → Q (.ref t) (upd Hy t (.tup [.ref li, .ref lg, .ref lr, .ref lo])) := by
          intro lo os Hy hos los hlo ey hpy t nt
          have zdrop : (zsOf ins r tags).drop (ins.length + ((["p", "q"] : List Str).take r).length) = tags := by
            unfold zsOf
            rw [← List.length_append, List.drop_left]
          have zdr1 : ((zsOf ins r tags).drop ins.length).take ((["p", "q"] : List Str).take r).length = (["p", "q"] : List Str).take r := by
            unfold zsOf
            rw [List.append_assoc, List.drop_left, List.take_left]
          have ztk : (zsOf ins r tags).take ins.length = ins := by
            unfold zsOf
            rw [List.append_assoc, List.take_left]
          have D : Drawn (zsOf ins r tags) ins.length ((["p", "q"] : List Str).take r).length m gs rs os := ⟨znd, zok, by omega, by omega, by omega, by omega, by rw [zdrop]; exact gn, gk, by rw [zdr1]; exact rn, rk, hos, los⟩
          have ec : cirOf (zsOf ins r tags) ins.length gs rs os = ⟨ins, gs, rs, os⟩ := by
            unfold cirOf
            rw [ztk]
          have e6 : Ex Hy (upd Hy t (.tup [.ref li, .ref lg, .ref lr, .ref lo])) := Ex.new nt
          have good := D.good
          have plan := D.plan
          have nms := D.names
          rw [ec] at good plan nms
          refine k t ⟨ins, gs, rs, os⟩ _ good plan ⟨List.Perm.refl _, ?_⟩ li2 (fun z => ?_) ?_ ?_ ?_ (hpy.ex e6) ⟨li, lg, lr, lo, upd_same, ⟨e6 _ _ (ey _ _ hlix lip), ⟨_, e6 _ _ (ey _ _ hlgx lgp), dpAll_ex e6 (p_dpAll hpx ey (npDs_map np_gate _) tsx)⟩, ⟨_, e6 _ _ (ey _ _ hL lrp), dpAll_ex e6 (p_dpAll hpx ey (npDs_map (fun _ => rfl) _) dacc)⟩⟩, e6 _ _ hlo⟩
          · have q := pq_rising r hr2
            rw [← rn, List.pairwise_map] at q
            exact q
          · have z : gs = [] := z
            rw [z] at lgs
            simp at lgs
            omega
          · rw [nms.length_eq, List.length_take]
            omega
          · cases q : H t with
            | none => rfl
            | some o =>
              by_cases tp : t = p
              · obtain ⟨x, y, w, _⟩ := hpy
                rw [tp, w] at nt
                cases nt
              · rw [ey _ _ (xx _ _ q tp) tp] at nt
                cases nt
          · exact fun b o hb n => e6 _ _ (ey _ _ (xx _ _ hb n) n)
        by_cases cg : (0 : Int) < gg
        · rw [decide_eq_true cg]
          refine iteT ⟨_, rfl, (by show 4 ≤ sizeLine; decide), fun t nt => fin lo (g0.1 :: ws) H5 (fun z hz => ?_) (by rw [List.length_cons]; omega) (e5 _ _ hlo lop) (eb4.trans e5) hp5 t nt⟩
          rcases List.mem_cons.mp hz with rfl | hz
          · exact g0in
          · exact hws z hz
        · rw [decide_eq_false cg]
          refine iteF ⟨(by show 0 ≤ sizeLine; decide), fun l0 nl0 => ⟨(by show 4 ≤ sizeLine; decide), fun t nt => ?_⟩⟩
          exact fin l0 [] _ (fun z hz => by cases hz) (by decide) upd_same ((eb4.trans e5).trans (ExBut.of (Ex.new nl0))) (hp5.ex (Ex.new nl0)) t nt
end
end W

set_option Elab.async false
set_option linter.all false
set_option maxRecDepth 100000
set_option maxHeartbeats 32000000
set_option pp.maxSteps 2000
namespace W
open PySem PySem.Spec PyProof.Rows L2 Evl G C
theorem rowsNe_comm (A B : List (List Int)) : rowsNe A B = rowsNe B A := by
  unfold rowsNe
  rw [PySem.W.eqv_comm]
theorem call_rxK {X : Cx} {K : PySem.W.Frag} {n : Nat} (q : Rm n X.A) (h : X.K = K := by rfl) : CallR X (.builtin "repr") (rRx K) := by
  subst h
  exact call_rx q
def gk4 {α : Type} : List α → List α → List α
  | [], [a, b, c, d] => [d, c, b, a]
  | _, _ => []
theorem gk4_rel {vs zs : List V} {us ws : List Value} (h : Vals vs us) (q : Vals zs ws) : Vals (gk4 vs zs) (gk4 us ws) := by
  cases h with
  | cons a b => exact .nil
  | nil =>
    match zs, ws, q with
    | _, _, .nil => exact .nil
    | _, _, .cons a .nil => exact .nil
    | _, _, .cons a (.cons b .nil) => exact .nil
    | _, _, .cons a (.cons b (.cons c .nil)) => exact .nil
    | _, _, .cons a (.cons b (.cons c (.cons d .nil))) => exact .cons d (.cons c (.cons b (.cons a .nil)))
    | _, _, .cons a (.cons b (.cons c (.cons d (.cons e f)))) => exact .nil
theorem kb4 {K : PySem.W.Frag} {x qual : Str} {de : Stmt} {f : Addr} {fd : FuncData} {dvs : List V} {p1 p2 p3 p4 : Str} (F : FunD K x qual (defArgs de) (defBody de) (defScope de) dvs [] f fd) (hd : dvs ≠ [])
    (h : ∀ (T : Addr) (kV doc pm : Value) (an : Option Addr) (cdv ct a b c d : Value) (its : List Value), its.length = dvs.length → ∃ k, bindArgs (PySem.W.fnOf x qual (defArgs de) (defBody de) (defScope de) (.ref T) kV doc pm an cdv ct) ⟨[], [(p4, a), (p3, b), (p2, c), (p1, d)]⟩ = seqItems? (.ref T) >>= k ∧ k (some its.toArray) = pure [(p1, d), (p2, c), (p3, b), (p4, a)]) :
    KBinds K fd [p1, p2, p3, p4] [p4, p3, p2, p1] gk4 gk4 := by
  obtain ⟨its, kb⟩ := FunD.kbindsD (ps := [p1, p2, p3, p4]) F 0 [p4, p3, p2, p1] (fun us _ ws => gk4 us ws) hd (fun r1 _ r2 => gk4_rel r1 r2) fun T kV doc pm an cdv ct us its ws l1 l2 l3 => by
    match us, ws, l1, l3 with
    | [], [a, b, c, d], _, _ => exact h T kV doc pm an cdv ct a b c d its l2
  refine ⟨fun s us ws X hl => ?_, gk4_rel⟩
  match us, ws, hl with
  | [], [a, b, c, d], _ => exact kb.to s [] [a, b, c, d] X rfl rfl
theorem wt_flt {c : Cir} {fl : Flt} (good : Good c) (h : FltOk c fl) : Wt (fltD fl) 30 1 := by
  cases fl with
  | none => exact Wt.mono Wt.none (by decide) (by decide)
  | some q =>
    obtain ⟨a, b⟩ := h q rfl
    have nm : nameOk q.1 := by
      rcases names_in.mp a with q1 | q1 | q1
      · exact good.inm _ q1
      · obtain ⟨g, hg, e⟩ := gate_at q1
        rw [← e]
        exact (good.gts g hg).1
      · obtain ⟨r, hr, e⟩ := List.mem_map.mp q1
        rw [← e]
        exact (good.rgs r hr).1
    refine Wt.mono (Wt.tuple (n := 12) (e := 0) (m := 2) (fun d hd => ?_) (Nat.le_refl 2)) (by decide) (Nat.le_refl _)
    have e : d = .str q.1 ∨ d = .int q.2 := by simpa using hd
    rcases e with rfl | rfl
    · exact Wt.str nm
    · exact Wt.mono (Wt.bit b) (by decide) (Nat.le_refl _)
theorem two_bools (b : Bool) : SeqAt.shaped (.list [.bool b, .bool b]) = true := by cases b <;> decide +kernel
section
variable {P : Program} {w : World} {K : PySem.W.Frag} {mg : Str → Option Value} {base : Heap} {C : Addr}
def spWordR (K : PySem.W.Frag) (C : Addr) : Sp := fun vs H Q _ => ∃ (d q l : Addr) (xs : List V) (y z : V) (c : Cir) (ws : List (List Int)) (one : Str × Int) (fl : Flt), vs = [.ref d, .ref q, .ref l, y, z] ∧ ModAt K H d c ∧ CirAt K C H q c ∧ Good c ∧ PlanOk c c.gates ∧ RgOf c c.regs ∧ H l = some (.lst xs) ∧ DpAll K H xs (ws.map bitsD) ∧ (∀ w ∈ ws, BitsOk c.ins.length w) ∧ ws.length ≤ 6 ∧
  Dp K H y (fltD (some one)) ∧ FltOk c (some one) ∧ Dp K H z (fltD fl) ∧ FltOk c fl ∧ ∀ H', Ex H H' → Q (.bl true) H'
abbrev nWordR : List Str := ["_law_model_here", "_law_circuit", "_law_term_here", "_law_one", "_law_far", "_law_due", "_law_shown", "_law_told"]
theorem scWordR : FnScope nWordR ["_law_model_here", "_law_circuit", "_law_term_here", "_law_one", "_law_far"] (defScope dWordR) := ⟨rfl, rfl, rfl, by decide +kernel, rfl, by decide +kernel, by decide +kernel⟩
theorem okWordR {f : Addr} {fd : FuncData} (F : At K mg "_law_word_right" dWordR ["_law_model_here", "_law_circuit", "_law_term_here", "_law_one", "_law_far"] f fd) (T : Txt K mg) (CT : CirT K mg C) (DT : DicT K w mg) : Fn P w K mg base CX0 9 f fd ["_law_model_here", "_law_circuit", "_law_term_here", "_law_one", "_law_far"] (spWordR K C) := by
  obtain ⟨fA, gA, FA⟩ := T.lAnswer
  obtain ⟨fS, gS, FS⟩ := T.shows
  have GA : FnOk P w K mg base CX0 8 fA gA ["_law_model_here", "_law_term_here", "_law_stuck"] (spLAns K) := (okLAnswer FA T).mono (by decide)
  have GS : FnOk P w K mg base CX0 8 fS gS ["circuit", "word", "fault", "other"] (spShows K C) := okShows FS T CT DT
  have kS : KBinds K gS ["circuit", "word", "fault", "other"] ["other", "fault", "word", "circuit"] gk4 gk4 := kb4 FS.fn (by simp) fun T kV doc pm an cdv ct a b c d its hl => by
    match its, hl with
    | [i], _ => exact ⟨_, rfl, rfl⟩
  refine G.okN F.fn scWordR (fun vs H Q E h => ?_) (fun cdv A outer s H vs Q E hr h => ?_)
  · obtain ⟨d, q, l, xs, y, z, c, ws, one, fl, rfl, _⟩ := h
    rfl
  · obtain ⟨d, q, l, xs, y, z, c, ws, one, fl, rfl, hd, hc, good, po, hrg, hl, dx, okx, few, hy, oky, hz, okz, k⟩ := h
    have nds := scWordR.nd
    have hu64 : (cxOf CX0 P w K mg base nWordR "_law_word_right" (defScope dWordR) f cdv A outer s H E).nox.A.units + 64 < cLine := by
      have := hr.rm.units
      show (A.deeper _).units + 64 < cLine
      omega
    refine ⟨_, (pss_cons (ps_set (i := 5) nds rfl (Or.inl rfl) (pe_cmpR (op_neD hu64) (pe_call GA hr.rm (by rfl) FA.gl FA.fn.kp FA.bi .nil pass0 (pa_cons (pv 0) (pa_cons (pv 2) (pa_cons (pv 3) pa_nil)))) (pe_call GA hr.rm (by rfl) FA.gl FA.fn.kp FA.bi .nil pass0 (pa_cons (pv 0) (pa_cons (pv 2) (pa_cons (pv 4) pa_nil)))) (nomark _)))
      (pss_cons (ps_set (i := 6) nds rfl (Or.inl rfl) (pe_callB (call_rxK (K := K) hr) (by rfl) T.repr (by decide +kernel) (pa_cons (pe_lst (pa_cons (pv 2) (pa_cons (pv 3) (pa_cons (pv 4) pa_nil)))) pa_nil)))
      (pss_cons (ps_set (i := 7) nds rfl (Or.inl rfl) (pe_lst (pa_cons (pe_call GS hr.rm (by rfl) FS.gl FS.fn.kp FS.bi .nil pass0 (pa_cons (pv 1) (pa_cons (pv 2) (pa_cons (pv 3) (pa_cons (pv 4) pa_nil))))) (pa_cons (pcK0 (Fn.of GS) hr (by rfl) FS.gl FS.fn.kp kS pass0 (pk_cons (pv 4) (pk_cons (pv 3) (pk_cons (pe_callTy (call_tup (K := K)) (by rfl) T.tuple (by decide +kernel) (pa_cons (pv 2) pa_nil)) (pk_cons (pv 1) pk_nil))))) pa_nil))))
      (pss_cons (ps_if (PW.pt (pw_or (pt_cmpR (op_neD hu64) (pv 7) (pe_lst (pa_cons (pv 5) (pa_cons (pv 5) pa_nil))) (nomark _)) (pw_or1 (pt_cmpR op_ne (pe_callB (call_rxK (K := K) hr) (by rfl) T.repr (by decide +kernel) (pa_cons (pe_lst (pa_cons (pv 2) (pa_cons (pv 3) (pa_cons (pv 4) pa_nil)))) pa_nil)) (pv 6) (nomark _)))))
        (pss_one (ps_ret pe_bl)) pss_nil)
      (pss_one (ps_ret (pe_or (pe_cmp (pc_isN (pv 4))) (pe_one (pe_cmpR op_eq (pe_call GS hr.rm (by rfl) FS.gl FS.fn.kp FS.bi .nil pass0 (pa_cons (pv 1) (pa_cons (pv 2) (pa_cons (pv 4) (pa_cons (pv 3) pa_nil))))) (pv 5) (nomark _)))))))))), ?_⟩
    have bo := begin_ok good hrg (st := none) (fun bs h => by cases h)
    have w1 := (wt_heard (fl := some one) good hrg oky bo okx (by omega)).shaped (by decide)
    have w2 := (wt_heard (fl := fl) good hrg okz bo okx (by omega)).shaped (by decide)
    refine ⟨_, rfl, _, rfl, _, rfl, d, l, xs, y, c, ws, some one, rfl, hd, good, po, hrg, SqL.of hl, dx, okx, by omega, hy, oky, fun L1 y1 H1 e1 n1 h1 d1 => ?_⟩
    refine ⟨_, rfl, _, rfl, _, rfl, d, l, xs, z, c, ws, fl, rfl, hd.ex e1, good, po, hrg, SqL.of (e1 _ _ hl), dpAll_ex e1 dx, okx, by omega, dp_ex e1 hz, okz, fun L2 y2 H2 e2 n2 h2 d2 => ?_⟩
    refine ⟨_, _, .lst (SqL.of (e2 _ _ h1)) (dpAll_ex e2 d1), .lst (SqL.of h2) d2, w1, w2, ?_⟩
    have e12 := e1.trans e2
    have eb : (!PyData.eqv (.list ((heard c c.regs (some one) (firstOf c.regs) ws c.outs).map bitsD)) (.list ((heard c c.regs fl (firstOf c.regs) ws c.outs).map bitsD))) = rowsNe (heard c c.regs (some one) (firstOf c.regs) ws c.outs) (heard c c.regs fl (firstOf c.regs) ws c.outs) := rfl
    rw [eb]
    generalize ebb : rowsNe (heard c c.regs (some one) (firstOf c.regs) ws c.outs) (heard c c.regs fl (firstOf c.regs) ws c.outs) = b at *
    have run : ∀ {H' : Hp} {x : V} {f1 : Flt} {v : V}, Ex H H' → (Dp K H' x (wordL ws) ∨ Dp K H' x (wordT ws)) → Dp K H' v (fltD f1) → FltOk c f1 → Run K C H' q x .non v c c.regs ws none f1 := fun e hx hv ov => ⟨hc.ex e, good, hrg, hx, okx, by omega, .non, (fun bs h => by cases h), hv, ov⟩
    have word : ∀ {H' : Hp}, Ex H H' → Dp K H' (.ref l) (wordL ws) := fun e => .lst (SqL.of (e _ _ hl)) (dpAll_ex e dx)
    have showy : Showy (.list [wordL ws, fltD (some one), fltD fl]) := by
      refine (Wt.list (ds := [wordL ws, fltD (some one), fltD fl]) (n := 102) (e := 2) (m := 3) (fun d hd => ?_) (Nat.le_refl 3)).showy (by decide) (by decide)
      have e : d = wordL ws ∨ d = fltD (some one) ∨ d = fltD fl := by simpa using hd
      have li := good.li
      rcases e with rfl | rfl | rfl
      · exact Wt.mono (wt_rows (m := 6) (fun r hr => by have := okx r hr; exact ⟨by rw [this.1]; exact li, this.2⟩) few) (by decide) (Nat.le_refl _)
      · exact Wt.mono (wt_flt good oky) (by decide) (by decide)
      · exact Wt.mono (wt_flt good okz) (by decide) (by decide)
    refine ⟨_, rfl, _, rfl, _, rfl, (by show 3 ≤ sizeLine; decide), fun L3 n3 => ?_⟩
    have e3 : Ex H2 (upd H2 L3 (.lst [.ref l, y, z])) := Ex.new n3
    have h3 : (upd H2 L3 (.lst [.ref l, y, z])) L3 = some (.lst [.ref l, y, z]) := upd_same
    generalize upd H2 L3 (.lst [.ref l, y, z]) = H3 at e3 h3 ⊢
    have e13 := e12.trans e3
    refine ⟨_, _, rfl, .dp (.lst (SqL.of h3) (.cons (word e13) (.cons (dp_ex e13 hy) (.cons (dp_ex e13 hz) .nil)))), showy, ?_⟩
    refine ⟨_, rfl, _, rfl, _, rfl, _, rfl, q, .ref l, y, z, c, c.regs, ws, one, fl, rfl, run e13 (.inl (word e13)) (dp_ex e13 hy) oky, dp_ex e13 hz, okz, by omega, fun H4 e4 => ?_⟩
    rw [ebb]
    have e14 := e13.trans e4
    refine ⟨_, rfl, _, rfl, _, rfl, l, _, rfl, .inl ⟨SqL.of (e14 _ _ hl), fun tw ntw => ?_⟩⟩
    have e5 : Ex H4 (upd H4 tw (.tup xs)) := Ex.new ntw
    have htw : (upd H4 tw (.tup xs)) tw = some (.tup xs) := upd_same
    generalize upd H4 tw (.tup xs) = H5 at e5 htw ⊢
    have e15 := e14.trans e5
    refine ⟨_, rfl, q, .ref tw, y, z, c, c.regs, ws, one, fl, rfl, run e15 (.inr (.tup (st_of htw) (dpAll_ex e15 dx))) (dp_ex e15 hy) oky, dp_ex e15 hz, okz, by omega, fun H6 e6 => ?_⟩
    rw [ebb]
    have e16 := e15.trans e6
    refine ⟨(by show 2 ≤ sizeLine; decide), fun L7 n7 => ?_⟩
    have e7 : Ex H6 (upd H6 L7 (.lst [.bl b, .bl b])) := Ex.new n7
    have h7 : (upd H6 L7 (.lst [.bl b, .bl b])) L7 = some (.lst [.bl b, .bl b]) := upd_same
    generalize upd H6 L7 (.lst [.bl b, .bl b]) = H7 at e7 h7 ⊢
    have e17 := e16.trans e7
    refine ⟨_, rfl, _, rfl, _, rfl, (by show 2 ≤ sizeLine; decide), fun L8 n8 => ?_⟩
    have e8 : Ex H7 (upd H7 L8 (.lst [.bl b, .bl b])) := Ex.new n8
    have h8 : (upd H7 L8 (.lst [.bl b, .bl b])) L8 = some (.lst [.bl b, .bl b]) := upd_same
    generalize upd H7 L8 (.lst [.bl b, .bl b]) = H8 at e8 h8 ⊢
    have e18 := e17.trans e8
    refine ⟨.list [.bool b, .bool b], .list [.bool b, .bool b], .lst (SqL.of (e8 _ _ h7)) (.cons (.bl b) (.cons (.bl b) .nil)), .lst (SqL.of h8) (.cons (.bl b) (.cons (.bl b) .nil)), two_bools b, two_bools b, _, rfl, ?_⟩
    rw [SeqAt.eqv_refl _ (SeqAt.canLay_of_shaped (two_bools b))]
    refine iteF ?_
    refine ⟨_, rfl, _, rfl, _, rfl, (by show 3 ≤ sizeLine; decide), fun L9 n9 => ?_⟩
    have e9 : Ex H8 (upd H8 L9 (.lst [.ref l, y, z])) := Ex.new n9
    have h9 : (upd H8 L9 (.lst [.ref l, y, z])) L9 = some (.lst [.ref l, y, z]) := upd_same
    generalize upd H8 L9 (.lst [.ref l, y, z]) = H9 at e9 h9 ⊢
    have e19 := e18.trans e9
    refine ⟨_, _, rfl, .dp (.lst (SqL.of h9) (.cons (word e19) (.cons (dp_ex e19 hy) (.cons (dp_ex e19 hz) .nil)))), showy, ?_⟩
    refine ⟨_, rfl, rfl, _, rfl, ?_⟩
    rw [decide_eq_true rfl]
    refine iteF ?_
    cases fl with
    | none =>
      cases hz
      exact ⟨_, rfl, _, rfl, iteT (k H9 e19)⟩
    | some far =>
      obtain ⟨tz, rfl, htz⟩ := flt_of (z := far.1) (b := far.2) hz
      refine ⟨_, rfl, _, rfl, iteF ?_⟩
      refine ⟨_, rfl, _, rfl, _, rfl, _, rfl, q, .ref l, .ref tz, y, c, c.regs, ws, far, some one, rfl, run e19 (.inl (word e19)) (dp_ex e19 hz) okz, dp_ex e19 hy, oky, by omega, fun H10 e10 => ?_⟩
      rw [rowsNe_comm, ebb]
      refine ⟨_, rfl, rfl, ?_⟩
      rw [decide_eq_true rfl]
      exact k H10 (e19.trans e10)
end
end W

set_option Elab.async false
set_option linter.all false
set_option maxRecDepth 100000
set_option maxHeartbeats 32000000
set_option pp.maxSteps 2000
/-! A wide circuit: a row of and-gates. -/
namespace W
open PySem PySem.Spec PyProof.Rows L2 Evl G C
def nI (j : Nat) : Str := ("i" : Str) ++ (toString (j : Int) : String)
def nG (j : Nat) : Str := ("g" : Str) ++ (toString (j : Int) : String)
def wG (k : Nat) : Gt := (nG k, "and", [nI (k + 1), if k = 0 then nI 0 else nG (k - 1)])
def wIns (n : Nat) : List Str := (List.range n).map nI
def wGs (n : Nat) : List Gt := (List.range (n - 1)).map wG
def wZ (n : Nat) : List Str := wIns n ++ (List.range (n - 1)).map nG
def wC (n : Nat) : Cir := ⟨wIns n, wGs n, [], [nG (n - 2)]⟩
def gkB (zs : List Str) (i : Nat) (gs : List Gt) : Bool := (List.range gs.length).all fun j => match gs[j]? with
  | some g => decide (kindsL.lookup g.2.1 = some g.2.2.length) && g.2.2.all (fun y => decide (y ∈ zs.take (i + j)))
  | none => true
theorem gkB_ok {zs : List Str} {i : Nat} {gs : List Gt} (h : gkB zs i gs = true) : ∀ j g, gs[j]? = some g → kindsL.lookup g.2.1 = some g.2.2.length ∧ ∀ y ∈ g.2.2, y ∈ zs.take (i + j) := by
  intro j g e
  have lt := (List.getElem?_eq_some_iff.mp e).1
  have q := List.all_eq_true.mp h j (List.mem_range.mpr lt)
  simp only [e, Bool.and_eq_true, decide_eq_true_eq] at q
  exact ⟨q.1, fun y hy => of_decide_eq_true (List.all_eq_true.mp q.2 y hy)⟩
def wideB (n : Nat) : Bool := decide ((wZ n).Nodup) && (wZ n).all (fun z => nameL z.cps.toList) && decide ((wGs n).map (fun g => g.1) = ((wZ n).drop (n + 0)).take (n - 1)) && gkB (wZ n) (n + 0) (wGs n) && decide (nG (n - 2) ∈ (wZ n).take (n + 0 + (n - 1))) && decide ((wZ n).take n = wIns n) && decide (n + 0 + (n - 1) ≤ (wZ n).length)
theorem wide_all : wideB 5 = true ∧ wideB 6 = true ∧ wideB 7 = true ∧ wideB 8 = true := ⟨by decide +kernel, by decide +kernel, by decide +kernel, by decide +kernel⟩
theorem wide_b {n : Nat} (h1 : 5 ≤ n) (h2 : n ≤ 8) : wideB n = true := by
  have : n = 5 ∨ n = 6 ∨ n = 7 ∨ n = 8 := by omega
  rcases this with rfl | rfl | rfl | rfl
  · exact wide_all.1
  · exact wide_all.2.1
  · exact wide_all.2.2.1
  · exact wide_all.2.2.2
theorem wide_good {n : Nat} (h1 : 5 ≤ n) (h2 : n ≤ 8) : Good (wC n) := by
  have b := wide_b h1 h2
  unfold wideB at b
  simp only [Bool.and_eq_true, decide_eq_true_eq] at b
  obtain ⟨⟨⟨⟨⟨⟨b1, b2⟩, b3⟩, b4⟩, b5⟩, b6⟩, b7⟩ := b
  have D : Drawn (wZ n) n 0 (n - 1) (wGs n) [] [nG (n - 2)] := ⟨b1, fun z hz => List.all_eq_true.mp b2 z hz, b7, h2, by decide, by omega, b3, gkB_ok b4, rfl, (fun x h => by cases h), (fun z hz => by rw [List.mem_singleton.mp hz]; exact b5), (by show 1 ≤ 8; decide)⟩
  have g := D.good
  have e : cirOf (wZ n) n (wGs n) [] [nG (n - 2)] = wC n := by
    unfold cirOf wC
    rw [b6]
  rwa [e] at g
theorem wide_names (n : Nat) : (names (wC n)).length = n + (n - 1) := by
  unfold names gn rn wC wIns wGs
  simp only [List.length_append, List.length_map, List.length_range, List.length_nil, Nat.add_zero]
theorem nm_short : ∀ j : Fin 9, (toString ((j.1 : Nat) : Int) : String).length ≤ 100 ∧ ((j.1 : Int)).natAbs.log2 < 1920 := by decide +kernel
theorem nI_ne_nG {a k : Nat} (ha : a < 8) (hk : k < 8) : nI a ≠ nG k := by
  have all : ((List.range 8).all fun a => (List.range 8).all fun k => decide (nI a ≠ nG k)) = true := by decide +kernel
  exact of_decide_eq_true (List.all_eq_true.mp (List.all_eq_true.mp all a (List.mem_range.mpr ha)) k (List.mem_range.mpr hk))
theorem nI_inj {a b : Nat} (ha : a < 8) (hb : b < 8) (h : nI a = nI b) : a = b := by
  have all : ((List.range 8).all fun a => (List.range 8).all fun b => decide (nI a = nI b → a = b)) = true := by decide +kernel
  exact of_decide_eq_true (List.all_eq_true.mp (List.all_eq_true.mp all a (List.mem_range.mpr ha)) b (List.mem_range.mpr hb)) h
theorem and_bits {a b : Int} (ha : isBt a) (hb : isBt b) : bitK "and" [a, b] = if a = 1 ∧ b = 1 then 1 else 0 := by
  rcases ha with rfl | rfl <;> rcases hb with rfl | rfl <;> decide +kernel
/-- what the last gate says -/
theorem wide_says {n : Nat} {le : List Int} {fl : Flt} {f : Str → Int} (h1 : 5 ≤ n) (h2 : n ≤ 8) (hb : ∀ z ∈ names (wC n), isBt (f z)) (sy : Says (wC n) [] [] le fl f) (hf : ∀ q, fl = some q → ∃ a, a < n ∧ q.1 = nI a) : ∀ k, k + 1 < n → f (nG k) = if ∀ j, j ≤ k + 1 → f (nI j) = 1 then 1 else 0 := by
  have bi : ∀ j, j < n → isBt (f (nI j)) := fun j hj => hb _ (names_in.mpr (.inl (List.mem_map.mpr ⟨j, List.mem_range.mpr hj, rfl⟩)))
  have fr : ∀ k, k + 1 < n → Free fl (nG k) := fun k hk q e z => by
    obtain ⟨a, ha, ea⟩ := hf q e
    rw [ea] at z
    exact nI_ne_nG (by omega) (by omega) z
  have gt : ∀ k, k + 1 < n → f (nG k) = bitK "and" [f (nI (k + 1)), f (if k = 0 then nI 0 else nG (k - 1))] := fun k hk => sy.gate (wG k) (List.mem_map.mpr ⟨k, List.mem_range.mpr (by omega), rfl⟩) (fr k hk)
  intro k
  induction k with
  | zero =>
    intro hk
    rw [gt 0 hk, if_pos rfl, and_bits (bi 1 (by omega)) (bi 0 (by omega))]
    by_cases c : f (nI 1) = 1 ∧ f (nI 0) = 1
    · rw [if_pos (show f (nI (0 + 1)) = 1 ∧ f (nI 0) = 1 from c), if_pos fun j hj => by
        have : j = 0 ∨ j = 1 := by omega
        rcases this with rfl | rfl
        · exact c.2
        · exact c.1]
    · rw [if_neg (show ¬ (f (nI (0 + 1)) = 1 ∧ f (nI 0) = 1) from c), if_neg fun h => c ⟨h 1 (by omega), h 0 (by omega)⟩]
  | succ k ih =>
    intro hk
    have ihk := ih (by omega)
    rw [gt (k + 1) hk, if_neg (by omega), Nat.add_sub_cancel]
    have bg : isBt (f (nG k)) := by
      rw [ihk]
      split
      · exact .inr rfl
      · exact .inl rfl
    rw [and_bits (bi (k + 1 + 1) hk) bg]
    by_cases c : ∀ j, j ≤ k + 1 + 1 → f (nI j) = 1
    · rw [if_pos c, if_pos ⟨c _ (Nat.le_refl _), by rw [ihk, if_pos fun j hj => c j (by omega)]⟩]
    · rw [if_neg c, if_neg]
      intro ⟨q1, q2⟩
      apply c
      intro j hj
      rcases Nat.lt_or_ge j (k + 1 + 1) with lt | ge
      · rw [ihk] at q2
        by_cases d : ∀ j, j ≤ k + 1 → f (nI j) = 1
        · exact d j (by omega)
        · rw [if_neg d] at q2
          exact absurd q2 (by decide)
      · have : j = k + 1 + 1 := by omega
        rw [this]
        exact q1
theorem wide_rg (n : Nat) : RgOf (wC n) [] := ⟨List.Perm.refl _, List.Pairwise.nil⟩
/-- what is heard of one letter -/
theorem wide_heard {n : Nat} (le : List Int) (fl : Flt) : heard (wC n) [] fl (firstOf []) [le] (wC n).outs = [[val (wC n) [] [] le fl (nG (n - 2))]] := rfl
/-- of a letter: 1 where all inputs say 1 -/
theorem wide_val {n : Nat} (h1 : 5 ≤ n) (h2 : n ≤ 8) {le : List Int} {fl : Flt} (hl : BitsOk n le) (ok : FltOk (wC n) fl) (hf : ∀ q, fl = some q → ∃ a, a < n ∧ q.1 = nI a) :
    val (wC n) [] [] le fl (nG (n - 2)) = if ∀ j, j < n → val (wC n) [] [] le fl (nI j) = 1 then 1 else 0 := by
  have good := wide_good h1 h2
  have ll : BitsOk (wC n).ins.length le := by
    show BitsOk (wIns n).length le
    unfold wIns
    rw [List.length_map, List.length_range]
    exact hl
  have sy := val_says good fl (wide_rg n) ll.1 (st := []) rfl
  have hb := says_bit good (wide_rg n) ll (st := []) ⟨rfl, fun b h => by cases h⟩ ok sy
  have q := wide_says h1 h2 hb sy hf (n - 2) (by omega)
  rw [q]
  by_cases c : ∀ j, j < n → val (wC n) [] [] le fl (nI j) = 1
  · rw [if_pos c, if_pos fun j hj => c j (by omega)]
  · rw [if_neg c, if_neg fun h => c fun j hj => h j (by omega)]
theorem wide_in {n : Nat} (h1 : 5 ≤ n) (h2 : n ≤ 8) {le : List Int} {fl : Flt} (hl : BitsOk n le) {j : Nat} (hj : j < n) (b : Int) (eb : le[j]? = some b) : val (wC n) [] [] le fl (nI j) = match fl with
    | none => b
    | some q => if q.1 = nI j then q.2 else b := by
  have good := wide_good h1 h2
  have ll : le.length = (wC n).ins.length := by
    show le.length = (wIns n).length
    unfold wIns
    rw [List.length_map, List.length_range]
    exact hl.1
  have sy := val_says good fl (wide_rg n) ll (st := []) rfl
  have base : (nI j, b) ∈ base0 (wC n) [] [] le := List.mem_append_left _ (List.mem_of_getElem? (zip_next (α := Int) (by
    show ((List.range n).map nI)[j]? = some (nI j)
    rw [List.getElem?_map, List.getElem?_range hj]
    rfl) eb))
  cases fl with
  | none => exact sy.base _ base fun q h => by cases h
  | some q =>
    show val (wC n) [] [] le (some q) (nI j) = if q.1 = nI j then q.2 else b
    by_cases c : q.1 = nI j
    · rw [if_pos c, ← c]
      exact sy.held q rfl
    · rw [if_neg c]
      exact sy.base _ base fun q' h => by cases h; exact c
/-- the three letters -/
def le1 (n : Nat) : List Int := List.replicate n 1
def le2 (n a : Nat) : List Int := (List.range n).map fun j => if j = a then 0 else 1
def le0 (n : Nat) : List Int := List.replicate n 0
theorem le_ok (n a : Nat) : BitsOk n (le1 n) ∧ BitsOk n (le2 n a) ∧ BitsOk n (le0 n) := by
  refine ⟨⟨List.length_replicate, fun b hb => .inr (List.eq_of_mem_replicate hb)⟩, ⟨by unfold le2; rw [List.length_map, List.length_range], fun b hb => ?_⟩, ⟨List.length_replicate, fun b hb => .inl (List.eq_of_mem_replicate hb)⟩⟩
  obtain ⟨j, _, rfl⟩ := List.mem_map.mp hb
  show isBt (if j = a then (0 : Int) else 1)
  by_cases c : j = a
  · rw [if_pos c]
    exact .inl rfl
  · rw [if_neg c]
    exact .inr rfl
theorem one_row (a b : Int) (ha : isBt a) (hb : isBt b) : rowsNe [[a]] [[b]] = decide (a ≠ b) := by
  rcases ha with rfl | rfl <;> rcases hb with rfl | rfl <;> decide +kernel
theorem ite_bt {p : Prop} [Decidable p] : isBt (if p then (1 : Int) else 0) := by
  split
  · exact .inr rfl
  · exact .inl rfl
theorem wide_fault {n a : Nat} {b : Int} (h : a < n) (hb : isBt b) : FltOk (wC n) (some (nI a, b)) := fun q e => by
  cases e
  exact ⟨names_in.mpr (.inl (List.mem_map.mpr ⟨a, List.mem_range.mpr h, rfl⟩)), hb⟩
theorem wide_told {n a : Nat} {b : Int} (h1 : 5 ≤ n) (h2 : n ≤ 8) (ha : a < n) (hb : isBt b) {le : List Int} (hl : BitsOk n le) (x : Nat → Int) (hx : ∀ j, j < n → le[j]? = some (x j)) :
    rowsNe (heard (wC n) [] (some (nI a, b)) (firstOf []) [le] (wC n).outs) (heard (wC n) [] none (firstOf []) [le] (wC n).outs) = decide ((if ∀ j, j < n → (if j = a then b else x j) = 1 then (1 : Int) else 0) ≠ (if ∀ j, j < n → x j = 1 then 1 else 0)) := by
  rw [wide_heard, wide_heard]
  have v1 := wide_val h1 h2 hl (wide_fault (b := b) ha hb) (fun q e => by cases e; exact ⟨a, ha, rfl⟩)
  have v2 := wide_val (fl := none) h1 h2 hl (fun q e => by cases e) (fun q e => by cases e)
  have c1 : (∀ j, j < n → val (wC n) [] [] le (some (nI a, b)) (nI j) = 1) ↔ ∀ j, j < n → (if j = a then b else x j) = 1 := by
    refine ⟨fun h j hj => ?_, fun h j hj => ?_⟩
    · have q := h j hj
      rw [wide_in h1 h2 hl hj (x j) (hx j hj)] at q
      by_cases c : j = a
      · subst c
        simpa using q
      · have ne : ¬ (nI a = nI j) := fun z => c (nI_inj (by omega) (by omega) z).symm
        simp only [if_neg ne] at q
        simp only [if_neg c]
        exact q
    · have q := h j hj
      rw [wide_in h1 h2 hl hj (x j) (hx j hj)]
      by_cases c : j = a
      · subst c
        simpa using q
      · have ne : ¬ (nI a = nI j) := fun z => c (nI_inj (by omega) (by omega) z).symm
        simp only [if_neg ne]
        simp only [if_neg c] at q
        exact q
  have c2 : (∀ j, j < n → val (wC n) [] [] le none (nI j) = 1) ↔ ∀ j, j < n → x j = 1 := by
    refine ⟨fun h j hj => ?_, fun h j hj => ?_⟩
    · have q := h j hj
      rw [wide_in h1 h2 hl hj (x j) (hx j hj)] at q
      exact q
    · rw [wide_in h1 h2 hl hj (x j) (hx j hj)]
      exact h j hj
  rw [v1, v2]
  simp only [c1, c2]
  exact one_row _ _ ite_bt ite_bt
theorem told1 {n a : Nat} {b : Int} (h1 : 5 ≤ n) (h2 : n ≤ 8) (ha : a < n) (hb : isBt b) : rowsNe (heard (wC n) [] (some (nI a, b)) (firstOf []) [le1 n] (wC n).outs) (heard (wC n) [] none (firstOf []) [le1 n] (wC n).outs) = decide (b = 0) := by
  rw [wide_told h1 h2 ha hb (le_ok n a).1 (fun _ => 1) (fun j hj => by unfold le1; rw [List.getElem?_replicate, if_pos hj])]
  rw [if_pos (show ∀ j, j < n → (1 : Int) = 1 from fun _ _ => rfl)]
  rcases hb with rfl | rfl
  · rw [if_neg fun h => by have := h a ha; rw [if_pos rfl] at this; exact absurd this (by decide)]
    decide
  · rw [if_pos fun j _ => by split <;> rfl]
    decide
theorem told2 {n a : Nat} {b : Int} (h1 : 5 ≤ n) (h2 : n ≤ 8) (ha : a < n) (hb : isBt b) : rowsNe (heard (wC n) [] (some (nI a, b)) (firstOf []) [le2 n a] (wC n).outs) (heard (wC n) [] none (firstOf []) [le2 n a] (wC n).outs) = decide (b = 1) := by
  rw [wide_told h1 h2 ha hb (le_ok n a).2.1 (fun j => if j = a then 0 else 1) (fun j hj => by unfold le2; rw [List.getElem?_map, List.getElem?_range hj]; rfl)]
  have no : ¬ ∀ j, j < n → (if j = a then (0 : Int) else 1) = 1 := fun h => by
    have := h a ha
    rw [if_pos rfl] at this
    exact absurd this (by decide)
  rw [if_neg no]
  rcases hb with rfl | rfl
  · rw [if_neg fun h => by have := h a ha; rw [if_pos rfl] at this; exact absurd this (by decide)]
    decide
  · rw [if_pos fun j _ => by
      by_cases c : j = a
      · rw [if_pos c]
      · rw [if_neg c, if_neg c]]
    decide
theorem told0 {n a : Nat} {b : Int} (h1 : 5 ≤ n) (h2 : n ≤ 8) (ha : a < n) (hb : isBt b) : rowsNe (heard (wC n) [] (some (nI a, b)) (firstOf []) [le0 n] (wC n).outs) (heard (wC n) [] none (firstOf []) [le0 n] (wC n).outs) = false := by
  rw [wide_told h1 h2 ha hb (le_ok n a).2.2 (fun _ => 0) (fun j hj => by unfold le0; rw [List.getElem?_replicate, if_pos hj])]
  obtain ⟨j, hj, ja⟩ : ∃ j, j < n ∧ j ≠ a := by
    by_cases c : a = 0
    · exact ⟨1, by omega, by omega⟩
    · exact ⟨0, by omega, fun z => c z.symm⟩
  rw [if_neg fun h => by have := h j hj; rw [if_neg ja] at this; exact absurd this (by decide), if_neg fun h => by have := h 0 (by omega); exact absurd this (by decide)]
  decide
end W

set_option Elab.async false
set_option linter.all false
set_option maxRecDepth 100000
set_option maxHeartbeats 32000000
set_option pp.maxSteps 2000
namespace W
open PySem PySem.Spec PyProof.Rows L2 Evl G C
theorem if_join {tt : TT} {ta tb : TE} {σ : L2.St} {H : Hp} {Q : VK} (A : V → Hp → Prop) (h : ∀ Q' : VK, (∀ v H', A v H' → Q' v H') → tIf tt ta tb σ H Q') (k : ∀ v H', A v H' → Q v H') : tIf tt ta tb σ H Q := h Q k
theorem ix_listK {Y : Cx} {K : PySem.W.Frag} (h : Y.K = K := by rfl) : IxR Y (rIxL K) := by
  subst h
  exact ix_list
theorem rep_flat {α : Type} (x : α) : ∀ n : Nat, (List.replicate n [x]).flatten = List.replicate n x
  | 0 => rfl
  | n + 1 => by rw [List.replicate_succ, List.replicate_succ, List.flatten_cons, rep_flat x n]; rfl
theorem nmI {j : Nat} (h : j < 9) : ((j : Int)).natAbs.log2 < 1920 ∧ (("i" : Str).length + ((toString (j : Int) : String) : Str).length ≤ sizeLine) ∧ (("g" : Str).length + ((toString (j : Int) : String) : Str).length ≤ sizeLine) := by
  have all : ((List.range 9).all fun j => decide (((j : Int)).natAbs.log2 < 1920) && decide (("i" : Str).length + ((toString (j : Int) : String) : Str).length ≤ sizeLine) && decide (("g" : Str).length + ((toString (j : Int) : String) : Str).length ≤ sizeLine)) = true := by decide +kernel
  have := List.all_eq_true.mp all j (List.mem_range.mpr h)
  simp only [Bool.and_eq_true, decide_eq_true_eq] at this
  exact ⟨this.1.1, this.1.2, this.2⟩
section
variable {P : Program} {w : World} {K : PySem.W.Frag} {mg : Str → Option Value} {base : Heap} {C : Addr}
def spWideR : Sp := fun vs H Q _ => ∃ p : Addr, vs = [.ref p] ∧ Pot H p ∧ ∀ H', ExBut p H H' → Pot H' p → Q (.bl true) H'
abbrev nWideR : List Str := ["_law_pot_here", "_law_many", "_law_gates", "_law_names", "_law_at", "_law_circuit", "_law_bit", "_law_letters_now", "_law_near", "_law_told", "_law_letter"]
theorem scWideR : FnScope nWideR ["_law_pot_here"] (defScope dWideR) := ⟨rfl, rfl, rfl, by decide +kernel, rfl, by decide +kernel, by decide +kernel⟩
theorem okWideR {f : Addr} {fd : FuncData} (F : At K mg "_law_wide_right" dWideR ["_law_pot_here"] f fd) (T : Txt K mg) (CT : CirT K mg C) (DT : DicT K w mg) : FnOk P w K mg base CX0 9 f fd ["_law_pot_here"] spWideR := by
  obtain ⟨fD, gD, FD⟩ := T.draw
  obtain ⟨fF, gF, FF⟩ := T.faults
  obtain ⟨fS, gS, FS⟩ := T.shows
  obtain ⟨fI, gI, dvs, FI, hI1, hI2, bI⟩ := CT.init
  have GD : FnOk P w K mg base CX0 8 fD gD ["_law_pot_here", "_law_faces"] spDraw := (okDraw FD T).mono (by decide)
  have GF : FnOk P w K mg base CX0 8 fF gF ["circuit"] (spFaults K C) := (okFaults FF T CT).mono (by decide)
  have GS : FnOk P w K mg base CX0 8 fS gS ["circuit", "word", "fault", "other"] (spShows K C) := okShows FS T CT DT
  have GI : FnOk P w K mg base CX0 7 fI gI ["self", "inputs", "gates", "registers", "outputs"] (spInit K C) := (okInit FI T DT CT).mono (by decide)
  obtain ⟨dS, rS, bS⟩ := FS.fn.binds1 (ps := ["circuit", "word", "fault", "other"]) 3 0 (by simp) rfl fun T kV doc pm an cdv ct us its h1 h2 => by
    match us, its, h1, h2 with
    | [a, b, c], [i], _, _ => exact ⟨_, rfl, rfl⟩
  refine F.fn.ok scWideR (fun vs H Q E h => ?_) (fun cdv A outer s H vs Q E hr h => ?_)
  · obtain ⟨p, rfl, _⟩ := h
    rfl
  · obtain ⟨p, rfl, hp, k⟩ := h
    have nds := scWideR.nd
    have hu64 : (cxOf CX0 P w K mg base nWideR "_law_wide_right" (defScope dWideR) f cdv A outer s H E).nox.A.units + 64 < cLine := by have := hr.units; show (A.deeper _).units + 64 < cLine; omega
    refine ⟨_, (pss_cons (ps_par (i := 1) (j := 2) rfl nds rfl rfl (by decide) (by rfl) (by rfl) (pa_cons (pe_op op_add pe_int (pe_call GD hr (by rfl) FD.gl FD.fn.kp FD.bi .nil pass0 (pa_cons (pv 0) (pa_cons pe_int pa_nil)))) (pa_cons (pe_lst pa_nil) pa_nil)) (by rfl))
      (pss_cons (ps_set (i := 3) nds rfl (Or.inr rfl) (pe_lc (own := [("_law_at", 4)]) (g := (gName 4)) (by rfl) nds (pi_range1 (by rfl) T.range (pa_cons (pv 1) pa_nil)) (blkOk_by (own := [("_law_at", 4)]) (N := nWideR) (sc := defScope dWideR) (by decide +kernel))
          (fun _ _ _ _ _ => (pg_name (i := 4) nds rfl (Or.inl rfl))) (fun _ _ _ _ _ => pts_nil) (fun _ _ _ _ _ => (pe_op op_add_str pe_str (pe_callTy call_str_int (by rfl) T.str (by decide +kernel) (pa_cons (pv 4) pa_nil))))))
      (pss_cons (ps_for PassesOwn.never rfl (pi_range1 (by rfl) T.range (pa_cons (pe_op op_sub (pv 1) pe_int) pa_nil)) (pg_name (i := 4) nds rfl (Or.inr rfl))
        (pss_one (ps_expr (pe_bm PySem.F.plainAttrs_list PySem.F.slot_list_append PySem.F.type_list_append mt_append (pv 2) (pa_cons (pe_tup (pa_cons (pe_op op_add_str pe_str (pe_callTy call_str_int (by rfl) T.str (by decide +kernel) (pa_cons (pv 4) pa_nil))) (pa_cons pe_str (pa_cons (pe_lst (pa_cons (pe_ix ix_list (pv 3) (pe_op op_add (pv 4) pe_int) (fun _ _ => rfl)) (pa_cons (pe_ifExp (pt_cmpR op_eq (pv 4) pe_int (nomark _)) (pe_ix ix_list (pv 3) pe_int (fun _ _ => rfl)) (pe_op op_add_str pe_str (pe_callTy call_str_int (by rfl) T.str (by decide +kernel) (pa_cons (pe_op op_sub (pv 4) pe_int) pa_nil)))) pa_nil))) pa_nil)))) pa_nil)))))
      (pss_cons (ps_set (i := 5) nds rfl (Or.inr rfl) (pe_make ⟨CT.makes, hI1, hI2, CT.kp⟩ GI hr (by rfl) CT.gl bI .nil pass0 (pa_cons (pv 3) (pa_cons (pv 2) (pa_cons (pe_lst pa_nil) (pa_cons (pe_lst (pa_cons (pe_op op_add_str pe_str (pe_callTy call_str_int (by rfl) T.str (by decide +kernel) (pa_cons (pe_op op_sub (pv 1) pe_int) pa_nil))) pa_nil)) pa_nil))))))
      (pss_cons (ps_if (pt_cmpR op_ne (pe_callB call_len_seq (by rfl) T.len PySem.boot_len (pa_cons (pe_call GF hr (by rfl) FF.gl FF.fn.kp FF.bi .nil pass0 (pa_cons (pv 5) pa_nil)) pa_nil)) (pe_op op_mul pe_int (pe_op op_sub (pe_op op_mul pe_int (pv 1)) pe_int)) (nomark _))
        (pss_one (ps_ret pe_bl)) pss_nil)
      (pss_cons (ps_asg (pe_tup (pa_cons (pe_call GD hr (by rfl) FD.gl FD.fn.kp FD.bi .nil pass0 (pa_cons (pv 0) (pa_cons (pv 1) pa_nil))) (pa_cons (pe_call GD hr (by rfl) FD.gl FD.fn.kp FD.bi .nil pass0 (pa_cons (pv 0) (pa_cons pe_int pa_nil))) pa_nil))) (pg_tup rfl (pgs_cons (pg_name (i := 4) nds rfl (Or.inr rfl)) (pgs_cons (pg_name (i := 6) nds rfl (Or.inr rfl)) pgs_nil))))
      (pss_cons (ps_set (i := 7) nds rfl (Or.inl rfl) (pe_lst (pa_cons (pe_callTy (call_tup (K := K)) (by rfl) T.tuple (by decide +kernel) (pa_cons (pe_op op_rep (pe_lst (pa_cons pe_int pa_nil)) (pv 1)) pa_nil)) (pa_cons (pe_callTy (call_tup (K := K)) (by rfl) T.tuple (by decide +kernel) (pa_cons (pe_lc (own := [("_law_near", 8)]) (g := (gName 8)) (by rfl) nds (pi_range1 (by rfl) T.range (pa_cons (pv 1) pa_nil)) (blkOk_by (own := [("_law_near", 8)]) (N := nWideR) (sc := defScope dWideR) (by decide +kernel))
          (fun _ _ _ _ _ => (pg_name (i := 8) nds rfl (Or.inl rfl))) (fun _ _ _ _ _ => pts_nil) (fun _ _ _ _ _ => (pe_callTy call_int1 (by rfl) T.int (by decide +kernel) (pa_cons (pe_cmpR op_ne (pv 8) (pv 4) (nomark _)) pa_nil)))) pa_nil)) (pa_cons (pe_callTy (call_tup (K := K)) (by rfl) T.tuple (by decide +kernel) (pa_cons (pe_op op_rep (pe_lst (pa_cons pe_int pa_nil)) (pv 1)) pa_nil)) pa_nil)))))
      (pss_cons (ps_setLc (i := 9) (own := [("_law_letter", 10)]) (g := (gName 10)) (by rfl) nds rfl rfl (sw_true rfl rfl rfl (by decide +kernel)) (pi_list (pv 7)) (blkOk_by (own := [("_law_letter", 10)]) (N := nWideR) (sc := defScope dWideR) (by decide +kernel))
          (fun _ _ _ _ _ => (pg_name (i := 10) nds rfl (Or.inl rfl))) (fun _ _ _ _ _ => pts_nil) (fun _ _ _ _ _ => (pe_call GS hr (by rfl) FS.gl FS.fn.kp bS rS pass0 (pa_cons (pv 5) (pa_cons (pe_lst (pa_cons (pv 10) pa_nil)) (pa_cons (pe_tup (pa_cons (pe_ix (ix_listK (K := K)) (pv 3) (pv 4) (fun _ _ => rfl)) (pa_cons (pv 6) pa_nil))) pa_nil))))))
      (pss_one (ps_ret (pe_cmpR (op_eqD hu64) (pv 9) (pe_lst (pa_cons (pe_cmpR op_eq (pv 6) pe_int (nomark _)) (pa_cons (pe_cmpR op_eq (pv 6) pe_int (nomark _)) (pa_cons pe_bl pa_nil)))) (nomark _)))))))))))), ?_⟩
    refine ⟨_, rfl, p, 4, rfl, hp, by decide, by decide, fun r H1 r0 r1 e1 hp1 => ⟨_, _, rfl, rfl, (by show 0 ≤ sizeLine; decide), fun lg nlg => ?_⟩⟩
    obtain ⟨m, rfl⟩ := Int.eq_ofNat_of_zero_le r0
    have f2 : Ex H1 (upd H1 lg (.lst [])) := Ex.new nlg
    have hlg : (upd H1 lg (.lst [])) lg = some (.lst []) := upd_same
    have lgp := pot_new hp1 nlg
    generalize upd H1 lg (.lst []) = H2 at f2 hlg ⊢
    have hp2 := hp1.ex f2
    have xb2 : ExBut p H H2 := e1.trans (ExBut.of f2)
    have new2 : ∀ {a : Addr}, a ≠ p → H2 a = none → H a = none := fun {a} n z => by
      cases q : H a with
      | none => rfl
      | some o => rw [xb2 _ _ q n] at z; cases z
    refine ⟨V.int ((5 + m : Nat) : Int), _, rfl, ?_⟩
    have n5 : 5 ≤ 5 + m := by omega
    have n8 : 5 + m ≤ 8 := by omega
    generalize 5 + m = n at n5 n8 ⊢
    refine ⟨_, rfl, (n : Int), rfl, by omega, by omega, fun ln nln => ?_⟩
    have lnp := pot_new hp2 nln
    have lnlg : ln ≠ lg := fun z => by rw [z, hlg] at nln; cases nln
    refine lc_it (g := gName 4) (tt := tYes) (vs := [4]) walk_range (fun i Hc => Ex H2 Hc ∧ Hc ln = some (.lst (((List.range i).map nI).map V.str))) ⟨Ex.new nln, upd_same⟩ (fun i Hc _ _ => trivial) (fun i x Ha Hb hi q yy => ?_) (fun H3 q => ?_)
    · obtain ⟨rfl, rfl⟩ := yy
      obtain ⟨e2, hL⟩ := q
      have hi2 : i < n := by simpa using hi
      obtain ⟨q1, q2, _⟩ := nmI (j := i) (by omega)
      rw [show (fun i : Nat => V.int (0 + (i : Int))) i = V.int (i : Int) from congrArg V.int (Int.zero_add _)]
      refine ⟨wipe_set _ 4 _, ?_⟩
      refine ⟨_, rfl, (i : Int), rfl, q1, _, _, rfl, rfl, q2, _, hL, ?_, e2.mut nln, ?_⟩
      · rw [List.length_map, List.length_map, List.length_range]
        exact Nat.lt_of_le_of_lt (show _ ≤ 1000 by omega) (by decide)
      · rw [upd_same, List.range_succ, List.map_append, List.map_append]
        rfl
    obtain ⟨e3, hln⟩ := q
    rw [Int.toNat_natCast] at hln
    have hlg3 := e3 _ _ hlg
    have hp3 := hp2.ex e3
    have en1 : (n : Int) - 1 = ((n - 1 : Nat) : Int) := by omega
    refine ⟨_, rfl, _, _, rfl, rfl, ((n - 1 : Nat) : Int), congrArg (fun z => [V.int z]) en1, by omega, by omega, ?_⟩
    refine for_range (lo := 0) (n := ((n - 1 : Nat) : Int).toNat) (fun k σ Hc => (∃ u4, σ = [some (.ref p), some (.int (n : Int)), some (.ref lg), some (.ref ln), u4, none, none, none, none, none, none]) ∧ ExBut lg H3 Hc ∧ ∃ ts, Hc lg = some (.lst (ts.map fun t => V.ref t.1)) ∧ PlO lg Hc ts ((List.range k).map wG))
      ⟨⟨_, rfl⟩, ExBut.refl _ _, [], hlg3, .nil⟩ (fun k σ Hc hk q => ?_) (fun σ Hc q => ?_)
    · obtain ⟨⟨u4, rfl⟩, eb, ts, h2, hts⟩ := q
      have hk2 : k < n - 1 := by simpa using hk
      rw [Int.zero_add]
      have lts := names_of_paired hts
      rw [List.length_map, List.length_range] at lts
      have hlnc := eb _ _ hln lnlg
      obtain ⟨q1, _, q3⟩ := nmI (j := k) (by omega)
      have ix : ∀ {j : Nat}, j < n → atI (((List.range n).map nI).map V.str) (j : Int) = some (.str (nI j)) := fun {j} hj => atI_nat (by rw [List.getElem?_map, List.getElem?_map, List.getElem?_range hj]; rfl)
      refine ⟨_, rfl, .inl ⟨rfl, _, SqL.of h2⟩, _, rfl, (k : Int), rfl, q1, _, _, rfl, rfl, q3, ?_⟩
      refine ⟨_, rfl, _, rfl, _, _, rfl, rfl, ln, _, ((k + 1 : Nat) : Int), .str (nI (k + 1)), rfl, rfl, SqL.of hlnc, ix (by omega), ?_⟩
      refine if_join (fun v H' => v = .str (if k = 0 then nI 0 else nG (k - 1)) ∧ H' = Hc) (fun Q' kq => ?_) (fun v H' hv => ?_)
      · refine ⟨_, rfl, rfl, _, rfl, ?_⟩
        by_cases c : k = 0
        · subst c
          exact iteT ⟨_, rfl, ln, _, 0, .str (nI 0), rfl, rfl, SqL.of hlnc, ix (j := 0) (by omega), kq _ _ ⟨by rw [if_pos rfl], rfl⟩⟩
        · have d : decide (V.int (k : Int) = V.int 0) = false := decide_eq_false fun z => c (by injection z; omega)
          rw [d]
          have ek : (k : Int) - 1 = ((k - 1 : Nat) : Int) := by omega
          obtain ⟨p1, _, p3⟩ := nmI (j := k - 1) (by omega)
          refine iteF ⟨_, rfl, _, _, rfl, rfl, ((k - 1 : Nat) : Int), congrArg (fun z => [V.int z]) ek, p1, _, _, rfl, rfl, p3, kq _ _ ⟨by rw [if_neg c]; rfl, rfl⟩⟩
      obtain ⟨rfl, rfl⟩ := hv
      refine ⟨(by show 2 ≤ sizeLine; decide), fun L nL => ?_⟩
      have f1 : Ex H' (upd H' L (.lst [.str (nI (k + 1)), .str (if k = 0 then nI 0 else nG (k - 1))])) := Ex.new nL
      have hL : (upd H' L (.lst [.str (nI (k + 1)), .str (if k = 0 then nI 0 else nG (k - 1))])) L = some (.lst ((wG k).2.2.map V.str)) := upd_same
      have Llg : L ≠ lg := fun q => by rw [q, h2] at nL; cases nL
      generalize upd H' L (.lst [.str (nI (k + 1)), .str (if k = 0 then nI 0 else nG (k - 1))]) = H4 at f1 hL ⊢
      refine ⟨(by show 3 ≤ sizeLine; decide), fun t nt => ?_⟩
      have f2' : Ex H4 (upd H4 t (.tup [.str (nG k), .str "and", .ref L])) := Ex.new nt
      have ht : (upd H4 t (.tup [.str (nG k), .str "and", .ref L])) t = some (.tup [.str (wG k).1, .str (wG k).2.1, .ref L]) := upd_same
      have tlg : t ≠ lg := fun q => by rw [q, f1 _ _ h2] at nt; cases nt
      have e5 : (upd H4 t (.tup [.str (("g" : Str) ++ (toString (k : Int) : String)), .str "and", .ref L])) = upd H4 t (.tup [.str (nG k), .str "and", .ref L]) := rfl
      rw [e5]
      generalize upd H4 t (.tup [.str (nG k), .str "and", .ref L]) = H5 at f2' ht ⊢
      have f12 := f1.trans f2'
      refine ⟨lg, _, .ref t, rfl, rfl, f12 _ _ h2, by rw [List.length_map]; exact Nat.lt_of_le_of_lt (show _ ≤ 1000 by omega) (by decide), ⟨_, rfl⟩, (eb.trans (ExBut.of f12)).trans ExBut.upd, ts ++ [(t, L)], by rw [upd_same, List.map_append]; rfl, ?_⟩
      rw [List.range_succ, List.map_append]
      exact Paired.snoc ((hts.mono (ExBut.of f12)).mono ExBut.upd) ⟨by rw [upd_ne tlg]; exact ht, by rw [upd_ne Llg]; exact f2' _ _ hL, tlg, Llg⟩
    · obtain ⟨⟨u4, rfl⟩, eb, ts, h2, hts⟩ := q
      rw [Int.toNat_natCast] at hts
      have hlnc := eb _ _ hln lnlg
      have hpc : Pot Hc p := by
        obtain ⟨a, b, h, r⟩ := hp3
        exact ⟨a, b, eb _ _ h (Ne.symm lgp), r⟩
      have xbc : ExBut p H Hc := fun b o hb n => eb _ _ (e3 _ _ (f2 _ _ (e1 _ _ hb n))) (fun z => by have := e1 _ _ hb n; rw [z, nlg] at this; cases this)
      clear hlg hlg3 hln nln nlg new2
      -- the circuit
      refine ⟨_, rfl, _, rfl, (by show 0 ≤ sizeLine; decide), fun l3 n3 => ?_⟩
      have g1 : Ex Hc (upd Hc l3 (.lst [])) := Ex.new n3
      have hl3 : (upd Hc l3 (.lst [])) l3 = some (.lst []) := upd_same
      generalize upd Hc l3 (.lst []) = H6 at g1 hl3 ⊢
      have en2 : (n : Int) - 2 = ((n - 2 : Nat) : Int) := by omega
      obtain ⟨q1, _, q3⟩ := nmI (j := n - 2) (by omega)
      refine ⟨_, rfl, _, _, rfl, rfl, ((n - 2 : Nat) : Int), congrArg (fun z => [V.int z]) en2, q1, _, _, rfl, rfl, q3, (by show 1 ≤ sizeLine; decide), fun l4 n4 => ?_⟩
      have g2 : Ex H6 (upd H6 l4 (.lst [.str (nG (n - 2))])) := Ex.new n4
      have hl4 : (upd H6 l4 (.lst [.str (nG (n - 2))])) l4 = some (.lst (([nG (n - 2)] : List Str).map V.str)) := upd_same
      have e0 : upd H6 l4 (.lst [.str (("g" : Str) ++ (toString ((n - 2 : Nat) : Int) : String))]) = upd H6 l4 (.lst [.str (nG (n - 2))]) := rfl
      rw [e0]
      generalize upd H6 l4 (.lst [.str (nG (n - 2))]) = H7 at g2 hl4 ⊢
      have g12 := g1.trans g2
      have hp7 := hpc.ex g12
      refine fun q dx nq ndx dq => ?_
      have x3 : Ex H7 (upd (upd H7 dx (.own q)) q (.ins C dx [])) := by
        intro b o hb
        rw [upd_ne (fun z => by rw [z, nq] at hb; cases hb), upd_ne (fun z => by rw [z, ndx] at hb; cases hb)]
        exact hb
      have good := wide_good n5 n8
      refine ⟨q, dx, _, _, _, _, wC n, rfl, good, upd_same, dp_txl (SqL.of (x3 _ _ (g12 _ _ hlnc))), .lst (SqL.of (x3 _ _ (g12 _ _ h2))) (dpAll_ex (g12.trans x3) (PlO.dp hts)), .lst (SqL.of (x3 _ _ (g2 _ _ hl3))) .nil, dp_txl (zs := [nG (n - 2)]) (SqL.of (x3 _ _ hl4)), fun H8 e8 hc => ⟨rfl, ?_⟩⟩
      have x8 : ExBut p Hc H8 := fun b o hb n => e8 _ _ (x3 _ _ (g12 _ _ hb)) (fun z => by rw [z] at hb; rw [g12 _ _ hb] at nq; cases nq)
      have qp : q ≠ p := pot_new hp7 nq
      have hp8 : Pot H8 p := by
        obtain ⟨a, b, h, r⟩ := hp7
        exact ⟨a, b, e8 _ _ (x3 _ _ h) (Ne.symm qp), r⟩
      have lnq : ln ≠ q := fun z => by rw [← z, g12 _ _ hlnc] at nq; cases nq
      have hln8 : H8 ln = some (.lst (((List.range n).map nI).map V.str)) := x8 _ _ hlnc lnp
      have xb8 := xbc.trans x8
      clear x3 x8 e8 nq ndx dq hp7 g1 g2 g12 hl3 hl4 h2 hts hlnc hpc e0
      refine ⟨_, rfl, q, wC n, rfl, hc, good, fun zs pm so l xs H9 e9 nl hl dxs => ?_⟩
      have lxs : xs.length = 2 * (n + (n - 1)) := by
        have a := dpAll_len dxs
        have b : ∀ zs : List Str, (faultsD zs).length = 2 * zs.length := by
          intro zs
          induction zs with
          | nil => rfl
          | cons z zs ih =>
            unfold faultsD at ih ⊢
            rw [List.flatMap_cons, List.length_append, ih, List.length_cons]
            show 2 + 2 * zs.length = 2 * (zs.length + 1)
            omega
        rw [a, b, pm.length_eq, wide_names]
      refine ⟨l, _, rfl, .inl (SqL.of hl), _, rfl, _, _, rfl, rfl, .inl ⟨by decide, by decide⟩, _, _, rfl, rfl, _, _, rfl, rfl, .inl ⟨by decide, by decide⟩, rfl, _, rfl, ?_⟩
      have dl : decide (V.int (xs.length : Int) = V.int (2 * (2 * (n : Int) - 1))) = true := decide_eq_true (by congr 1; omega)
      rw [dl]
      refine iteF ?_
      have hc9 := hc.ex e9
      have hp9 := hp8.ex e9
      have hln9 := e9 _ _ hln8
      -- the places
      refine ⟨_, rfl, _, rfl, p, (n : Int), rfl, hp9, by omega, by omega, fun a H10 a0 a1 e10 hp10 => ?_⟩
      obtain ⟨a, rfl⟩ := Int.eq_ofNat_of_zero_le a0
      have ha : a < n := by omega
      refine ⟨_, rfl, p, 2, rfl, hp10, by decide, by decide, fun b H11 b0 b1 e11 hp11 => ⟨(by show 2 ≤ sizeLine; decide), fun tp ntp => ?_⟩⟩
      have bb : isBt b := by
        show b = 0 ∨ b = 1
        omega
      have g1 : Ex H11 (upd H11 tp (.tup [.int (a : Int), .int b])) := Ex.new ntp
      have htp : (upd H11 tp (.tup [.int (a : Int), .int b])) tp = some (.tup [.int (a : Int), .int b]) := upd_same
      generalize upd H11 tp (.tup [.int (a : Int), .int b]) = H12 at g1 htp ⊢
      refine ⟨tp, _, rfl, st_of htp, rfl, _, _, rfl, _, _, rfl, rfl, ?_⟩
      have hc12 : CirAt K C H12 q (wC n) := (((hc9.pot hp9 e10).pot hp10 e11)).ex g1
      have hp12 := hp11.ex g1
      have hln12 := g1 _ _ (e11 _ _ (e10 _ _ hln9 lnp) lnp)
      have xb12 : ExBut p H H12 := fun b o hb n => g1 _ _ (e11 _ _ (e10 _ _ (e9 _ _ (xb8 _ _ hb n)) n) n)
      clear hc hc9 hp9 hp10 hp11 hln9 hln8 e9 e10 e11 g1 xb8 xbc hp8 htp ntp
      -- the letters
      refine ⟨(by show 1 ≤ sizeLine; decide), fun s1 m1 => ?_⟩
      have g1 : Ex H12 (upd H12 s1 (.lst [.int 1])) := Ex.new m1
      have hs1 : (upd H12 s1 (.lst [.int 1])) s1 = some (.lst [.int 1]) := upd_same
      generalize upd H12 s1 (.lst [.int 1]) = H13 at g1 hs1 ⊢
      refine ⟨_, rfl, s1, (n : Int), [.int 1], rfl, rfl, hs1, by omega, by omega, Nat.le_trans (show 1 * (n : Int).toNat ≤ 1000 by omega) (by decide), fun r1 k1 => ?_⟩
      have ev1 : (List.replicate (n : Int).toNat [V.int 1]).flatten = (le1 n).map V.int := by
        rw [Int.toNat_natCast, rep_flat]
        unfold le1
        rw [List.map_replicate]
      rw [ev1]
      have g2 : Ex H13 (upd H13 r1 (.lst ((le1 n).map V.int))) := Ex.new k1
      have hr1 : (upd H13 r1 (.lst ((le1 n).map V.int))) r1 = some (.lst ((le1 n).map V.int)) := upd_same
      generalize upd H13 r1 (.lst ((le1 n).map V.int)) = H14 at g2 hr1 ⊢
      refine ⟨r1, _, rfl, .inl ⟨SqL.of hr1, fun t1 w1 => ?_⟩⟩
      have g3 : Ex H14 (upd H14 t1 (.tup ((le1 n).map V.int))) := Ex.new w1
      have ht1 : (upd H14 t1 (.tup ((le1 n).map V.int))) t1 = some (.tup ((le1 n).map V.int)) := upd_same
      generalize upd H14 t1 (.tup ((le1 n).map V.int)) = H15 at g3 ht1 ⊢
      refine ⟨_, rfl, (n : Int), rfl, by omega, by omega, fun L2 nL2 => ?_⟩
      refine lc_it (g := gName 8) (tt := tYes) (vs := [8]) walk_range (fun i Hc => Ex H15 Hc ∧ Hc L2 = some (.lst (((List.range i).map fun j => if j = a then (0 : Int) else 1).map V.int))) ⟨Ex.new nL2, upd_same⟩ (fun i Hc _ _ => trivial) (fun i x Ha Hb hi q yy => ?_) (fun H16 q => ?_)
      · obtain ⟨rfl, rfl⟩ := yy
        obtain ⟨e2, hL⟩ := q
        have hi2 : i < n := by simpa using hi
        rw [show (fun i : Nat => V.int (0 + (i : Int))) i = V.int (i : Int) from congrArg V.int (Int.zero_add _)]
        refine ⟨wipe_set _ 8 _, ?_⟩
        refine ⟨_, rfl, _, rfl, rfl, .inr ⟨_, rfl, _, hL, ?_, e2.mut nL2, ?_⟩⟩
        · rw [List.length_map, List.length_map, List.length_range]
          exact Nat.lt_of_le_of_lt (show _ ≤ 1000 by omega) (by decide)
        · rw [upd_same, List.range_succ, List.map_append, List.map_append]
          by_cases c : i = a
          · subst c
            simp
          · have d : decide (V.int (i : Int) = V.int (a : Int)) = false := decide_eq_false fun z => c (by injection z; omega)
            simp [c]
            omega
      obtain ⟨g4, hL2⟩ := q
      rw [Int.toNat_natCast] at hL2
      have hL2 : H16 L2 = some (.lst ((le2 n a).map V.int)) := hL2
      refine ⟨L2, _, rfl, .inl ⟨SqL.of hL2, fun t2 w2 => ?_⟩⟩
      have g5 : Ex H16 (upd H16 t2 (.tup ((le2 n a).map V.int))) := Ex.new w2
      have ht2 : (upd H16 t2 (.tup ((le2 n a).map V.int))) t2 = some (.tup ((le2 n a).map V.int)) := upd_same
      generalize upd H16 t2 (.tup ((le2 n a).map V.int)) = H17 at g5 ht2 ⊢
      refine ⟨(by show 1 ≤ sizeLine; decide), fun s3 m3 => ?_⟩
      have g6 : Ex H17 (upd H17 s3 (.lst [.int 0])) := Ex.new m3
      have hs3 : (upd H17 s3 (.lst [.int 0])) s3 = some (.lst [.int 0]) := upd_same
      generalize upd H17 s3 (.lst [.int 0]) = H18 at g6 hs3 ⊢
      refine ⟨_, rfl, s3, (n : Int), [.int 0], rfl, rfl, hs3, by omega, by omega, Nat.le_trans (show 1 * (n : Int).toNat ≤ 1000 by omega) (by decide), fun r3 k3 => ?_⟩
      have ev3 : (List.replicate (n : Int).toNat [V.int 0]).flatten = (le0 n).map V.int := by
        rw [Int.toNat_natCast, rep_flat]
        unfold le0
        rw [List.map_replicate]
      rw [ev3]
      have g7 : Ex H18 (upd H18 r3 (.lst ((le0 n).map V.int))) := Ex.new k3
      have hr3 : (upd H18 r3 (.lst ((le0 n).map V.int))) r3 = some (.lst ((le0 n).map V.int)) := upd_same
      generalize upd H18 r3 (.lst ((le0 n).map V.int)) = H19 at g7 hr3 ⊢
      refine ⟨r3, _, rfl, .inl ⟨SqL.of hr3, fun t3 w3 => ?_⟩⟩
      have g8 : Ex H19 (upd H19 t3 (.tup ((le0 n).map V.int))) := Ex.new w3
      have ht3 : (upd H19 t3 (.tup ((le0 n).map V.int))) t3 = some (.tup ((le0 n).map V.int)) := upd_same
      generalize upd H19 t3 (.tup ((le0 n).map V.int)) = H20 at g8 ht3 ⊢
      refine ⟨(by show 3 ≤ sizeLine; decide), fun L4 n4 => ?_⟩
      have g9 : Ex H20 (upd H20 L4 (.lst [.ref t1, .ref t2, .ref t3])) := Ex.new n4
      have hL4 : (upd H20 L4 (.lst [.ref t1, .ref t2, .ref t3])) L4 = some (.lst [.ref t1, .ref t2, .ref t3]) := upd_same
      generalize upd H20 L4 (.lst [.ref t1, .ref t2, .ref t3]) = H21 at g9 hL4 ⊢
      have g59 := ((g6.trans g7).trans g8).trans g9
      have g39 := (g4.trans g5).trans g59
      have g19 := ((g1.trans g2).trans g3).trans g39
      have hc21 := hc12.ex g19
      have hln21 := g19 _ _ hln12
      have hp21 := hp12.ex g19
      have ht1' := g39 _ _ ht1
      have ht2' := g59 _ _ ht2
      have ht3' := g9 _ _ ht3
      have xb21 : ExBut p H H21 := fun b o hb n => g19 _ _ (xb12 _ _ hb n)
      obtain ⟨ok1, ok2, ok0⟩ := le_ok n a
      -- what they tell
      have run : ∀ {t : Addr} {le : List Int} {Hx : Hp} {l1 t' : Addr}, Ex H21 Hx → H21 t = some (.tup (le.map V.int)) → BitsOk n le → Hx l1 = some (.lst [.ref t]) → Hx t' = some (.tup [.str (nI a), .int b]) → Run K C Hx q (.ref l1) .non (.ref t') (wC n) [] [le] none (some (nI a, b)) := by
        intro t le Hx l1 t' ex ht ok hl1 ht'
        refine ⟨hc21.ex ex, good, wide_rg n, .inl (.lst (SqL.of hl1) (.cons (dp_bits (st_of (ex _ _ ht))) .nil)), (fun w hw => ?_), (by show 1 ≤ 500; decide), .non, (fun bs h => by cases h), .tup (st_of ht') (.cons (.str _) (.cons (.int _) .nil)), wide_fault ha bb⟩
        rw [List.mem_singleton.mp hw]
        show BitsOk (wIns n).length le
        unfold wIns
        rw [List.length_map, List.length_range]
        exact ok
      refine ⟨_, rfl, L4, rfl, ⟨_, SqL.of hL4⟩, fun L5 nL5 => ?_⟩
      refine lc_it (walk_list (K := K) (a := L4) (xs := [.ref t1, .ref t2, .ref t3])) (fun i Hx => Ex H21 Hx ∧ Hx L5 = some (.lst ((([decide (b = 0), decide (b = 1), false] : List Bool).take i).map V.bl))) ⟨Ex.new nL5, upd_same⟩ (fun i Hx _ q => SqL.of (q.1 _ _ hL4)) (fun i x Ha Hx hi q yy => ?_) (fun Hx q => ?_)
      · obtain ⟨rfl, ex⟩ := yy
        obtain ⟨e2, hL⟩ := q
        obtain ⟨t, le, B, rfl, ht, okl, eB, nB⟩ : ∃ t le B, x = V.ref t ∧ H21 t = some (.tup (le.map V.int)) ∧ BitsOk n le ∧ rowsNe (heard (wC n) [] (some (nI a, b)) (firstOf []) [le] (wC n).outs) (heard (wC n) [] none (firstOf []) [le] (wC n).outs) = B ∧ ([decide (b = 0), decide (b = 1), false] : List Bool)[i]? = some B := by
          match i, hi, ex with
          | 0, _, ex =>
            cases ex
            exact ⟨t1, le1 n, _, rfl, ht1', ok1, told1 n5 n8 ha bb, rfl⟩
          | 1, _, ex =>
            cases ex
            exact ⟨t2, le2 n a, _, rfl, ht2', ok2, told2 n5 n8 ha bb, rfl⟩
          | 2, _, ex =>
            cases ex
            exact ⟨t3, le0 n, _, rfl, ht3', ok0, told0 n5 n8 ha bb, rfl⟩
        have hi3 : i < 3 := hi
        refine ⟨rfl, _, rfl, _, rfl, (by show 1 ≤ sizeLine; decide), fun l1 nl1 => ?_⟩
        have f1 : Ex Hx (upd Hx l1 (.lst [.ref t])) := Ex.new nl1
        have hl1 : (upd Hx l1 (.lst [.ref t])) l1 = some (.lst [.ref t]) := upd_same
        generalize upd Hx l1 (.lst [.ref t]) = Hy at f1 hl1 ⊢
        refine ⟨_, rfl, _, rfl, ln, _, (a : Int), .str (nI a), rfl, rfl, SqL.of (f1 _ _ (e2 _ _ hln21)), atI_nat (by rw [List.getElem?_map, List.getElem?_map, List.getElem?_range ha]; rfl), _, rfl, (by show 2 ≤ sizeLine; decide), fun t' nt' => ?_⟩
        have f2 : Ex Hy (upd Hy t' (.tup [.str (nI a), .int b])) := Ex.new nt'
        have ht' : (upd Hy t' (.tup [.str (nI a), .int b])) t' = some (.tup [.str (nI a), .int b]) := upd_same
        generalize upd Hy t' (.tup [.str (nI a), .int b]) = Hz at f2 ht' ⊢
        refine ⟨q, .ref l1, .ref t', .non, wC n, [], [le], (nI a, b), none, rfl, run ((e2.trans f1).trans f2) ht okl (f2 _ _ hl1) ht', .non, (fun q e => by cases e), (by show 1 ≤ 100; decide), fun H' e' => ?_⟩
        rw [eB]
        have e0' := (f1.trans f2).trans e'
        refine ⟨_, e0' _ _ hL, ?_, (e2.trans e0').mut nL5, ?_⟩
        · rw [List.length_map, List.length_take]
          exact Nat.lt_of_le_of_lt (show min i 3 ≤ 1000 by omega) (by decide)
        · rw [upd_same, take_more nB, List.map_append]
          rfl
      · obtain ⟨e2, hL5⟩ := q
        have q0 : decide (V.int b = V.int 0) = decide (b = 0) := by rcases bb with rfl | rfl <;> decide
        have q1 : decide (V.int b = V.int 1) = decide (b = 1) := by rcases bb with rfl | rfl <;> decide
        refine ⟨_, rfl, _, rfl, rfl, _, rfl, rfl, (by show 3 ≤ sizeLine; decide), fun l nl => ?_⟩
        rw [q0, q1]
        have f1 : Ex Hx (upd Hx l (.lst [.bl (decide (b = 0)), .bl (decide (b = 1)), .bl false])) := Ex.new nl
        have hl : (upd Hx l (.lst [.bl (decide (b = 0)), .bl (decide (b = 1)), .bl false])) l = some (.lst [.bl (decide (b = 0)), .bl (decide (b = 1)), .bl false]) := upd_same
        generalize upd Hx l (.lst [.bl (decide (b = 0)), .bl (decide (b = 1)), .bl false]) = Hy at f1 hl ⊢
        have sh : SeqAt.shaped (.list [.bool (decide (b = 0)), .bool (decide (b = 1)), .bool false]) = true := by rcases bb with rfl | rfl <;> decide +kernel
        have dd : ∀ {a : Addr}, Hy a = some (.lst [.bl (decide (b = 0)), .bl (decide (b = 1)), .bl false]) → Dp K Hy (.ref a) (.list [.bool (decide (b = 0)), .bool (decide (b = 1)), .bool false]) := fun h => .lst (SqL.of h) (.cons (.bl _) (.cons (.bl _) (.cons (.bl _) .nil)))
        refine ⟨_, _, dd (f1 _ _ hL5), dd hl, sh, sh, ?_⟩
        rw [SeqAt.eqv_refl _ (SeqAt.canLay_of_shaped sh)]
        exact k Hy (fun b o hb n => f1 _ _ (e2 _ _ (xb21 _ _ hb n))) ((hp21.ex e2).ex f1)
end
end W

set_option Elab.async false
set_option linter.all false
set_option maxRecDepth 100000
set_option maxHeartbeats 32000000
set_option pp.maxSteps 2000
namespace W
open PySem PySem.Spec PyProof.Rows L2 Evl G C
def gk1 {α : Type} : List α → List α → List α
  | [], [a] => [a]
  | _, _ => []
theorem gk1_rel {vs zs : List V} {us ws : List Value} (h : Vals vs us) (q : Vals zs ws) : Vals (gk1 vs zs) (gk1 us ws) := by
  cases h with
  | cons a b => exact .nil
  | nil =>
    match zs, ws, q with
    | _, _, .nil => exact .nil
    | _, _, .cons a .nil => exact .cons a .nil
    | _, _, .cons a (.cons b c) => exact .nil
theorem noL_flt2 (z : Str) (b : Int) : noL (flt2 z b) = true := rfl
theorem np_flt2 (z : Str) (b : Int) : npD (flt2 z b) = true := rfl
theorem faultsD_mem {zs : List Str} {d : PyData} (h : d ∈ faultsD zs) : ∃ z b, z ∈ zs ∧ isBt b ∧ d = flt2 z b := by
  obtain ⟨z, hz, hd⟩ := List.mem_flatMap.mp h
  simp only [List.mem_cons, List.not_mem_nil, or_false] at hd
  rcases hd with rfl | rfl
  · exact ⟨z, 0, hz, .inl rfl, rfl⟩
  · exact ⟨z, 1, hz, .inr rfl, rfl⟩
theorem faultsD_len (zs : List Str) : (faultsD zs).length = 2 * zs.length := by
  induction zs with
  | nil => rfl
  | cons z zs ih =>
    unfold faultsD at ih ⊢
    rw [List.flatMap_cons, List.length_append, ih, List.length_cons]
    show 2 + 2 * zs.length = 2 * (zs.length + 1)
    omega
theorem npDs_all : ∀ {ds : List PyData}, (∀ d ∈ ds, npD d = true) → npDs ds = true
  | [], _ => rfl
  | d :: ds, h => by
    show (npD d && npDs ds) = true
    rw [h d List.mem_cons_self, npDs_all fun x hx => h x (List.mem_cons_of_mem _ hx)]
    rfl
theorem np_faults (zs : List Str) : npDs (faultsD zs) = true := npDs_all fun d hd => by
  obtain ⟨z, b, _, _, rfl⟩ := faultsD_mem hd
  rfl
theorem noLs_all : ∀ {ds : List PyData}, (∀ d ∈ ds, noL d = true) → noLs ds = true
  | [], _ => rfl
  | d :: ds, h => by
    show (noL d && noLs ds) = true
    rw [h d List.mem_cons_self, noLs_all fun x hx => h x (List.mem_cons_of_mem _ hx)]
    rfl
theorem noL_faults (zs : List Str) : noLs (faultsD zs) = true := noLs_all fun d hd => by
  obtain ⟨z, b, _, _, rfl⟩ := faultsD_mem hd
  rfl
theorem dp_faults {K : PySem.W.Frag} {H : Hp} : ∀ {zs : List Str} {xsf : Nat → List V}, (∀ j z, zs[j]? = some z → DpAll K H (xsf j) [flt2 z 0, flt2 z 1]) → DpAll K H ((List.range zs.length).flatMap xsf) (faultsD zs) := by
  intro zs
  induction zs with
  | nil => exact fun _ => .nil
  | cons z zs ih =>
    intro xsf h
    have e : (List.range (z :: zs).length).flatMap xsf = xsf 0 ++ (List.range zs.length).flatMap (fun j => xsf (j + 1)) := by
      rw [List.length_cons, List.range_succ_eq_map, List.flatMap_cons, List.flatMap_map]
    rw [e]
    have e2 : faultsD (z :: zs) = [flt2 z 0, flt2 z 1] ++ faultsD zs := rfl
    rw [e2]
    exact dpAll_app (h 0 z rfl) (ih fun j v hv => h (j + 1) v hv)
theorem wt_faults {zs : List Str} (ok : ∀ z ∈ zs, nameOk z) (few : zs.length ≤ 9) : Wt (.list (faultsD zs)) 600 2 := by
  refine Wt.mono (Wt.list (ds := faultsD zs) (n := 30) (e := 1) (m := 18) (fun d hd => ?_) (by rw [faultsD_len]; omega)) (by decide) (Nat.le_refl _)
  obtain ⟨z, b, hz, hb, rfl⟩ := faultsD_mem hd
  refine Wt.mono (Wt.tuple (ds := [.str z, .int b]) (n := 12) (e := 0) (m := 2) (fun d hd => ?_) (Nat.le_refl 2)) (by decide) (Nat.le_refl _)
  have e : d = .str z ∨ d = .int b := by simpa using hd
  rcases e with rfl | rfl
  · exact Wt.str (ok z hz)
  · exact Wt.mono (Wt.bit hb) (by decide) (Nat.le_refl _)
theorem names_ok {c : Cir} (good : Good c) : ∀ z ∈ names c, nameOk z := fun z hz => by
  rcases names_in.mp hz with q1 | q1 | q1
  · exact good.inm _ q1
  · obtain ⟨g, hg, e⟩ := gate_at q1
    rw [← e]
    exact (good.gts g hg).1
  · obtain ⟨r, hr, e⟩ := List.mem_map.mp q1
    rw [← e]
    exact (good.rgs r hr).1
section
variable {P : Program} {w : World} {K : PySem.W.Frag} {mg : Str → Option Value} {base : Heap} {C : Addr}
def spRight : Sp := fun vs H Q _ => ∃ p : Addr, vs = [.ref p] ∧ Pot H p ∧ ∀ H', ExBut p H H' → Q (.bl true) H'
abbrev nRight : List Str := ["_law_pot_here", "_law_model_here", "_law_circuit", "_law_due", "_law_wire", "_law_told", "_law_turn", "_law_term_here", "_law_one", "_law_far"]
theorem scRight : FnScope nRight ["_law_pot_here"] (defScope dRight) := ⟨rfl, rfl, rfl, by decide +kernel, rfl, by decide +kernel, by decide +kernel⟩
theorem okRight {f : Addr} {fd : FuncData} (F : At K mg "_law_right" dRight ["_law_pot_here"] f fd) (T : Txt K mg) (CT : CirT K mg C) (DT : DicT K w mg) : Fn P w K mg base CX0 10 f fd ["_law_pot_here"] spRight := by
  obtain ⟨fM, gM, FM⟩ := T.lModel
  obtain ⟨fWs, gWs, FWs⟩ := T.lWires
  obtain ⟨fF, gF, FF⟩ := T.faults
  obtain ⟨fS, gS, FS⟩ := T.shows
  obtain ⟨fT, gT, FT⟩ := T.term
  obtain ⟨fP, gP, FP⟩ := T.pick
  obtain ⟨fD, gD, FD⟩ := T.draw
  obtain ⟨fW, gW, FW⟩ := T.wordR
  obtain ⟨fV, gV, FV⟩ := T.wideR
  obtain ⟨fI, gI, dvs, FI, hI1, hI2, bI⟩ := CT.init
  have GM : FnOk P w K mg base CX0 9 fM gM ["_law_pot_here", "_law_most"] (spLModel K) := (okLModel FM T).mono (by decide)
  have GWs : FnOk P w K mg base CX0 9 fWs gWs ["_law_model_here"] (spLWires K) := (okLWires FWs T).mono (by decide)
  have GF : FnOk P w K mg base CX0 9 fF gF ["circuit"] (spFaults K C) := (okFaults FF T CT).mono (by decide)
  have GS : FnOk P w K mg base CX0 9 fS gS ["circuit", "word", "fault", "other"] (spShows K C) := (okShows FS T CT DT).mono (by decide)
  have GT : FnOk P w K mg base CX0 9 fT gT ["_law_pot_here", "_law_model_here", "_law_most"] (spTerm K) := (okTerm FT T).mono (by decide)
  have GP : FnOk P w K mg base CX0 9 fP gP ["_law_pot_here", "_law_things"] (spPickL K) := (okPickL FP T).mono (by decide)
  have GD : FnOk P w K mg base CX0 9 fD gD ["_law_pot_here", "_law_faces"] spDraw := (okDraw FD T).mono (by decide)
  have SW : Fn P w K mg base CX0 9 fW gW ["_law_model_here", "_law_circuit", "_law_term_here", "_law_one", "_law_far"] (spWordR K C) := okWordR FW T CT DT
  have GV : FnOk P w K mg base CX0 9 fV gV ["_law_pot_here"] spWideR := okWideR FV T CT DT
  have GI : FnOk P w K mg base CX0 8 fI gI ["self", "inputs", "gates", "registers", "outputs"] (spInit K C) := (okInit FI T DT CT).mono (by decide)
  have kF : KBinds K gF ["circuit"] ["circuit"] gk1 gk1 := by
    refine ⟨fun s us ws X hl => ?_, gk1_rel⟩
    obtain ⟨oc, od, kV, doc, pm, an, cdv, ct, osl, rfl, _⟩ := FF.fn.ex
    match us, ws, hl with
    | [], [a], _ => exact .of_eq rfl
  obtain ⟨dS, rS, bS⟩ := FS.fn.binds1 (ps := ["circuit", "word", "fault", "other"]) 3 0 (by simp) rfl fun T kV doc pm an cdv ct us its h1 h2 => by
    match us, its, h1, h2 with
    | [a, b, c], [i], _, _ => exact ⟨_, rfl, rfl⟩
  refine G.okN F.fn scRight (fun vs H Q E h => ?_) (fun cdv A outer s H vs Q E hr h => ?_)
  · obtain ⟨p, rfl, _⟩ := h
    rfl
  · obtain ⟨p, rfl, hp, k⟩ := h
    have nds := scRight.nd
    have hu64 : (cxOf CX0 P w K mg base nRight "_law_right" (defScope dRight) f cdv A outer s H E).nox.A.units + 64 < cLine := by
      have := hr.rm.units
      show (A.deeper _).units + 64 < cLine
      omega
    refine ⟨_, (pss_cons (ps_set (i := 1) nds rfl (Or.inl rfl) (pe_call GM hr.rm (by rfl) FM.gl FM.fn.kp FM.bi .nil pass0 (pa_cons (pv 0) (pa_cons pe_int pa_nil))))
      (pss_cons (ps_set (i := 2) nds rfl (Or.inl rfl) (pe_make ⟨CT.makes, hI1, hI2, CT.kp⟩ GI hr.rm (by rfl) CT.gl bI .nil pass0 (pa_cons (pe_ix ix_tup (pv 1) pe_int (fun _ _ => rfl)) (pa_cons (pe_ix ix_tup (pv 1) pe_int (fun _ _ => rfl)) (pa_cons (pe_ix ix_tup (pv 1) pe_int (fun _ _ => rfl)) (pa_cons (pe_ix ix_tup (pv 1) pe_int (fun _ _ => rfl)) pa_nil))))))
      (pss_cons (ps_set (i := 3) nds rfl (Or.inl rfl) (pe_callB (call_sumC (K := K) rfl) (by rfl) T.sum (by decide +kernel) (pa_cons (pe_lc (own := [("_law_wire", 4)]) (g := (gName 4)) (by rfl) nds (pi_list (pe_call GWs hr.rm (by rfl) FWs.gl FWs.fn.kp FWs.bi .nil pass0 (pa_cons (pv 1) pa_nil))) (blkOk_by (own := [("_law_wire", 4)]) (N := nRight) (sc := defScope dRight) (by decide +kernel))
          (fun _ _ _ _ _ => (pg_name (i := 4) nds rfl (Or.inl rfl))) (fun _ _ _ _ _ => pts_nil) (fun _ _ _ _ _ => (pe_lst (pa_cons (pe_tup (pa_cons (pv 4) (pa_cons pe_int pa_nil))) (pa_cons (pe_tup (pa_cons (pv 4) (pa_cons pe_int pa_nil))) pa_nil))))) (pa_cons (pe_lst pa_nil) pa_nil))))
      (pss_cons (ps_set (i := 5) nds rfl (Or.inl rfl) (pe_lst (pa_cons (pe_call GF hr.rm (by rfl) FF.gl FF.fn.kp FF.bi .nil pass0 (pa_cons (pv 2) pa_nil)) (pa_cons (pcK0 (Fn.of GF) hr (by rfl) FF.gl FF.fn.kp kF pass0 (pk_cons (pv 2) pk_nil)) pa_nil))))
      (pss_cons (ps_if (pt_cmpR (op_neD hu64) (pv 5) (pe_lst (pa_cons (pv 3) (pa_cons (pv 3) pa_nil))) (nomark _))
        (pss_one (ps_ret pe_bl)) pss_nil)
      (pss_cons (ps_expr (pe_bm PySem.F.plainAttrs_list PySem.F.slot_list_append PySem.F.type_list_append mt_append (pe_ix ix_list (pv 5) pe_int (fun _ _ => rfl)) (pa_cons pe_non pa_nil)))
      (pss_cons (ps_if (PW.pt (pw_or (pt_cmpR (op_neD hu64) (pe_call GF hr.rm (by rfl) FF.gl FF.fn.kp FF.bi .nil pass0 (pa_cons (pv 2) pa_nil)) (pv 3) (nomark _)) (pw_or1 (pt_cmpR op_isnot_bl (pe_call GS hr.rm (by rfl) FS.gl FS.fn.kp bS rS pass0 (pa_cons (pv 2) (pa_cons (pe_lst pa_nil) (pa_cons (pe_ix ix_list (pv 3) pe_int (fun _ _ => rfl)) pa_nil)))) pe_bl (nomark _)))))
        (pss_one (ps_ret pe_bl)) pss_nil)
      (pss_cons (ps_for PassesOwn.never rfl (pi_range1 (by rfl) T.range (pa_cons pe_int pa_nil)) (pg_name (i := 6) nds rfl (Or.inl rfl))
        (pss_cons (ps_par (i := 7) (j := 8) rfl nds rfl rfl (by decide) (by rfl) (by rfl) (pa_cons (pe_call GT hr.rm (by rfl) FT.gl FT.fn.kp FT.bi .nil pass0 (pa_cons (pv 0) (pa_cons (pv 1) (pa_cons pe_int pa_nil)))) (pa_cons (pe_call GP hr.rm (by rfl) FP.gl FP.fn.kp FP.bi .nil pass0 (pa_cons (pv 0) (pa_cons (pv 3) pa_nil))) pa_nil)) (by rfl))
      (pss_cons (ps_set (i := 9) nds rfl (Or.inl rfl) (pe_call GP hr.rm (by rfl) FP.gl FP.fn.kp FP.bi .nil pass0 (pa_cons (pv 0) (pa_cons (pe_op (op_catL (K := K)) (pe_lst (pa_cons pe_non (pa_cons pe_non (pa_cons (pv 8) pa_nil)))) (pv 3)) pa_nil))))
      (pss_one (ps_if (pt_not (pt_val (pc SW hr (by rfl) FW.gl FW.fn.kp FW.bi .nil pass0 (pa_cons (pv 1) (pa_cons (pv 2) (pa_cons (pv 7) (pa_cons (pv 8) (pa_cons (pv 9) pa_nil))))))))
        (pss_one (ps_ret pe_bl)) pss_nil)))))
      (pss_one (ps_ret (pe_or (pe_cmpR op_gt (pe_call GD hr.rm (by rfl) FD.gl FD.fn.kp FD.bi .nil pass0 (pa_cons (pv 0) (pa_cons pe_int pa_nil))) pe_int (nomark _)) (pe_one (pe_call GV hr.rm (by rfl) FV.gl FV.fn.kp FV.bi .nil pass0 (pa_cons (pv 0) pa_nil)))))))))))))), ?_⟩
    refine ⟨_, rfl, p, rfl, hp, fun d c H1 good po hrg li2 gne few nd e1 hp1 hd => ?_⟩
    obtain ⟨l1, l2, l3, l4, h0, ⟨h1, ⟨xs2, hs2, hx2⟩, ⟨xs3, hs3, hx3⟩⟩, h4⟩ := id hd
    refine ⟨_, rfl, d, _, 0, .ref l1, rfl, rfl, st_of h0, rfl, _, rfl, d, _, 1, .ref l2, rfl, rfl, st_of h0, rfl, _, rfl, d, _, 2, .ref l3, rfl, rfl, st_of h0, rfl, _, rfl, d, _, 3, .ref l4, rfl, rfl, st_of h0, rfl, ?_⟩
    refine fun q dx nq ndx dq => ?_
    have x3 : Ex H1 (upd (upd H1 dx (.own q)) q (.ins C dx [])) := by
      intro b o hb
      rw [upd_ne (fun z => by rw [z, nq] at hb; cases hb), upd_ne (fun z => by rw [z, ndx] at hb; cases hb)]
      exact hb
    refine ⟨q, dx, _, _, _, _, c, rfl, good, upd_same, dp_txl (SqL.of (x3 _ _ h1)), .lst (SqL.of (x3 _ _ hs2)) (dpAll_ex x3 hx2), .lst (SqL.of (x3 _ _ hs3)) (dpAll_ex x3 hx3), dp_txl (SqL.of (x3 _ _ h4)), fun H2 e2' hc => ⟨rfl, ?_⟩⟩
    have e2 : Ex H1 H2 := fun b o hb => e2' _ _ (x3 _ _ hb) (fun z => by rw [z, nq] at hb; cases hb)
    have hd2 := hd.ex e2
    have hp2 := hp1.ex e2
    have xb2 : ExBut p H H2 := e1.trans (ExBut.of e2)
    clear x3 e2' dq ndx nq h0 h1 hs2 hx2 hs3 hx3 h4 hd hp1 e1 e2
    -- what is due
    refine ⟨_, rfl, d, c, rfl, hd2, good, fun zs lw H3 pm so e3 nlw hlw => ?_⟩
    have lzs : zs.length ≤ 9 := by rw [pm.length_eq]; exact few
    refine ⟨lw, rfl, ⟨_, SqL.of hlw⟩, fun D nD => ?_⟩
    refine lc_it (walk_list (K := K) (a := lw) (xs := zs.map V.str)) (fun i Hx => Ex H3 Hx ∧ ∃ (as : List Addr) (xsf : Nat → List V), as.length = i ∧ Hx D = some (.lst (as.map V.ref)) ∧ ∀ j a, as[j]? = some a → a ≠ D ∧ Hx a = some (.lst (xsf j)) ∧ (xsf j).length = 2 ∧ ∀ z, zs[j]? = some z → DpAll K Hx (xsf j) [flt2 z 0, flt2 z 1])
      ⟨Ex.new nD, [], fun _ => [], rfl, upd_same, fun j a h => by simp at h⟩ (fun j Hx _ q => SqL.of (q.1 _ _ hlw)) (fun j x Hy Hx hj q yy => ?_) (fun Hx q => ?_)
    · obtain ⟨rfl, ex2⟩ := yy
      obtain ⟨e4, as, xsf, las, hD, hA⟩ := q
      obtain ⟨z, ez, rfl⟩ := nth_map ex2
      have hj9 : j < zs.length := (List.getElem?_eq_some_iff.mp ez).1
      refine ⟨rfl, _, rfl, (by show 2 ≤ sizeLine; decide), fun t0 nt0 => ?_⟩
      have f1 : Ex Hx (upd Hx t0 (.tup [.str z, .int 0])) := Ex.new nt0
      have ht0 : (upd Hx t0 (.tup [.str z, .int 0])) t0 = some (.tup [.str z, .int 0]) := upd_same
      generalize upd Hx t0 (.tup [.str z, .int 0]) = Hx1 at f1 ht0 ⊢
      refine ⟨_, rfl, (by show 2 ≤ sizeLine; decide), fun t1 nt1 => ?_⟩
      have f3 : Ex Hx1 (upd Hx1 t1 (.tup [.str z, .int 1])) := Ex.new nt1
      have ht1 : (upd Hx1 t1 (.tup [.str z, .int 1])) t1 = some (.tup [.str z, .int 1]) := upd_same
      generalize upd Hx1 t1 (.tup [.str z, .int 1]) = Hx3 at f3 ht1 ⊢
      refine ⟨(by show 2 ≤ sizeLine; decide), fun L nL => ?_⟩
      have f5 : Ex Hx3 (upd Hx3 L (.lst [.ref t0, .ref t1])) := Ex.new nL
      have hL : (upd Hx3 L (.lst [.ref t0, .ref t1])) L = some (.lst [.ref t0, .ref t1]) := upd_same
      have e04 := f1.trans f3
      have LD : L ≠ D := fun z => by rw [z, e04 _ _ hD] at nL; cases nL
      generalize upd Hx3 L (.lst [.ref t0, .ref t1]) = Hx5 at f5 hL ⊢
      have e05 := e04.trans f5
      have d0 : Dp K Hx5 (.ref t0) (flt2 z 0) := .tup (st_of ((f3.trans f5) _ _ ht0)) (.cons (.str _) (.cons (.int _) .nil))
      have d1 : Dp K Hx5 (.ref t1) (flt2 z 1) := .tup (st_of (f5 _ _ ht1)) (.cons (.str _) (.cons (.int _) .nil))
      have hD5 := e05 _ _ hD
      refine ⟨_, hD5, Nat.lt_of_le_of_lt (show _ ≤ 1000 by rw [List.length_map]; omega) (by decide), (e4.trans e05).mut nD, as ++ [L], fun n => if n = j then [.ref t0, .ref t1] else xsf n, by rw [List.length_append, las]; rfl, by rw [upd_same, List.map_append]; rfl, fun n a ha => ?_⟩
      rcases Nat.lt_or_ge n as.length with lt | ge
      · rw [List.getElem?_append_left lt] at ha
        obtain ⟨q1, q2, q3, q4⟩ := hA n a ha
        have nj : n ≠ j := by omega
        simp only [if_neg nj]
        exact ⟨q1, by rw [upd_ne q1]; exact e05 _ _ q2, q3, fun w hw => t_dpAll (ExT.upd hD5) rfl (dpAll_ex e05 (q4 w hw))⟩
      · rw [List.getElem?_append_right ge] at ha
        have n0 : n - as.length = 0 := by
          have := (List.getElem?_eq_some_iff.mp ha).1
          simp at this
          omega
        rw [n0] at ha
        obtain rfl : L = a := by simpa using ha
        have nj : n = j := by omega
        simp only [if_pos nj]
        refine ⟨LD, by rw [upd_ne LD]; exact hL, rfl, fun w hw => ?_⟩
        rw [nj, ez] at hw
        obtain rfl := Option.some.inj hw
        exact t_dpAll (ExT.upd hD5) rfl (.cons d0 (.cons d1 .nil))
    obtain ⟨e4, as, xsf, las, hD, hA⟩ := q
    rw [List.length_map] at las
    refine ⟨Nat.zero_le _, fun z0 nz0 => ?_⟩
    have f1 : Ex Hx (upd Hx z0 (.lst [])) := Ex.new nz0
    have hz0 : (upd Hx z0 (.lst [])) z0 = some (.lst []) := upd_same
    generalize upd Hx z0 (.lst []) = H4 at f1 hz0 ⊢
    have dm : DpAll K H4 ((List.range zs.length).flatMap xsf) (faultsD zs) := dp_faults fun j w hw => by
      have hj : j < as.length := by
        have := (List.getElem?_eq_some_iff.mp hw).1
        omega
      exact dpAll_ex f1 ((hA j _ (List.getElem?_eq_getElem hj)).2.2.2 w hw)
    have lm := dpAll_len dm
    rw [faultsD_len] at lm
    have zne : zs ≠ [] := fun z => by
      have q := pm.length_eq
      rw [z] at q
      have g0 : c.gates.length ≤ (names c).length := by
        unfold names gn rn
        simp only [List.length_append, List.length_map]
        omega
      exact gne (List.length_eq_zero_iff.mp (by rw [← q] at g0; simpa using g0))
    refine ⟨D, z0, as, xsf, [], rfl, SqL.of (f1 _ _ hD), SqL.of hz0, fun j a ha => SqL.of (f1 _ _ (hA j a ha).2.1), by rw [las, lm]; exact Nat.le_trans (show _ ≤ 1000 by simp; omega) (by decide), fun z => ?_, fun _ ld nld => ?_⟩
    · rw [z] at las
      exact absurd (List.length_eq_zero_iff.mp las.symm) zne
    rw [List.nil_append, las]
    generalize (List.range zs.length).flatMap xsf = xsD at dm lm ⊢
    have g1 : Ex H4 (upd H4 ld (.lst xsD)) := Ex.new nld
    have hld : (upd H4 ld (.lst xsD)) ld = some (.lst xsD) := upd_same
    have dmd := dpAll_ex g1 dm
    generalize upd H4 ld (.lst xsD) = H5 at g1 hld dmd ⊢
    have e25 : Ex H2 H5 := ((e3.trans e4).trans f1).trans g1
    have hc5 := hc.ex e25
    have hd5 := hd2.ex e25
    have hp5 := hp2.ex e25
    have xb5 : ExBut p H H5 := xb2.trans (ExBut.of e25)
    have ldp : ld ≠ p := pot_new (((hp2.ex e3).ex e4).ex f1) nld
    clear hA hD las hz0 dm f1 g1 e3 e4 e25 hlw nlw nD nz0 nld hd2 hp2 hc xb2
    have nmok : ∀ z ∈ zs, nameOk z := fun z hz => names_ok good z (pm.mem_iff.mp hz)
    have one : ∀ {ws : List Str}, ws.Perm (names c) → PyProof.Rows.sortedS ws = true → ws = zs := fun {ws} p' so' => rising_eq (sortedS_rising so' (p'.nodup_iff.mpr good.nd)) (sortedS_rising so (pm.nodup_iff.mpr good.nd)) (p'.trans pm.symm)
    have wf := wt_faults nmok lzs
    -- what faults tells
    refine ⟨_, rfl, q, c, rfl, hc5, good, fun zs1 p1 s1 lf xs1 H6 e6 nlf hlf dx1 => ?_⟩
    obtain rfl := (one p1 s1).symm
    have dx1 := dpAll_exG hid_out dx1
    refine ⟨_, rfl, q, c, rfl, hc5.ex e6, good, fun zs2 p2 s2 lf2 xs2' H7 e7 nlf2 hlf2 dx2 => ?_⟩
    obtain rfl := (one p2 s2).symm
    have dx2 := dpAll_exG hid_out dx2
    refine ⟨(by show 2 ≤ sizeLine; decide), fun lt nlt => ?_⟩
    have g1 : Ex H7 (upd H7 lt (.lst [.ref lf, .ref lf2])) := Ex.new nlt
    have hlt : (upd H7 lt (.lst [.ref lf, .ref lf2])) lt = some (.lst [.ref lf, .ref lf2]) := upd_same
    generalize upd H7 lt (.lst [.ref lf, .ref lf2]) = H8 at g1 hlt ⊢
    refine ⟨_, rfl, _, rfl, _, rfl, (by show 2 ≤ sizeLine; decide), fun lu nlu => ?_⟩
    have g2 : Ex H8 (upd H8 lu (.lst [.ref ld, .ref ld])) := Ex.new nlu
    have hlu : (upd H8 lu (.lst [.ref ld, .ref ld])) lu = some (.lst [.ref ld, .ref ld]) := upd_same
    generalize upd H8 lu (.lst [.ref ld, .ref ld]) = H9 at g2 hlu ⊢
    have g12 := g1.trans g2
    have e79 := e7.trans g12
    have e59 := e6.trans e79
    have hlf9 := e79 _ _ hlf
    have wf2 : Wt (.list [.list (faultsD zs), .list (faultsD zs)]) 1300 3 := by
      refine Wt.mono (Wt.list (ds := [.list (faultsD zs), .list (faultsD zs)]) (n := 600) (e := 2) (m := 2) (fun d hd => ?_) (Nat.le_refl 2)) (by decide) (Nat.le_refl _)
      have e : d = .list (faultsD zs) := by simpa using hd
      rw [e]
      exact wf
    refine ⟨.list [.list (faultsD zs), .list (faultsD zs)], .list [.list (faultsD zs), .list (faultsD zs)], .lst (SqL.of (g2 _ _ hlt)) (.cons (.lst (SqL.of hlf9) (dpAll_ex e79 dx1)) (.cons (.lst (SqL.of (g12 _ _ hlf2)) (dpAll_ex g12 dx2)) .nil)), .lst (SqL.of hlu) (.cons (.lst (SqL.of (e59 _ _ hld)) (dpAll_ex e59 dmd)) (.cons (.lst (SqL.of (e59 _ _ hld)) (dpAll_ex e59 dmd)) .nil)), wf2.shaped (by decide), wf2.shaped (by decide), _, rfl, ?_⟩
    rw [SeqAt.eqv_refl _ wf2.cl]
    refine iteF ?_
    -- the told list is changed
    refine ⟨_, rfl, lt, _, 0, .ref lf, rfl, rfl, SqL.of (g2 _ _ hlt), rfl, .inl ⟨rfl, _, SqL.of hlf9⟩, lf, xs1, .non, rfl, rfl, hlf9, ?_, ?_⟩
    · have := dpAll_len dx1
      rw [faultsD_len] at this
      exact Nat.lt_of_le_of_lt (show _ ≤ 1000 by omega) (by decide)
    have e5a : Ex H5 (upd H9 lf (.lst (xs1 ++ [.non]))) := e59.mut nlf
    generalize upd H9 lf (.lst (xs1 ++ [.non])) = H10 at e5a ⊢
    have hcA := hc5.ex e5a
    have hdA := hd5.ex e5a
    have hpA := hp5.ex e5a
    have hldA := e5a _ _ hld
    have dmA := dpAll_ex e5a dmd
    have xbA : ExBut p H H10 := xb5.trans (ExBut.of e5a)
    clear e5a g1 g2 g12 e79 e59 hlf9 hlt hlu hlf hlf2 dx1 dx2 nlf nlf2 nlt nlu e6 e7 hc5 hd5 hp5 hld dmd xb5
    refine ⟨_, rfl, q, c, rfl, hcA, good, fun zs3 p3 s3 lf3 xs3' H11 e11 nlf3 hlf3 dx3 => ?_⟩
    obtain rfl := (one p3 s3).symm
    have dx3 := dpAll_exG hid_out dx3
    refine ⟨_, rfl, .list (faultsD zs), .list (faultsD zs), .lst (SqL.of hlf3) dx3, .lst (SqL.of (e11 _ _ hldA)) (dpAll_ex e11 dmA), wf.shaped (by decide), wf.shaped (by decide), _, rfl, ?_⟩
    rw [SeqAt.eqv_refl _ wf.cl]
    refine iteF ?_
    -- nothing shows at no letter
    have xne : xsD ≠ [] := fun z => by
      rw [z] at lm
      have : zs.length = 0 := by simp at lm; omega
      exact zne (List.length_eq_zero_iff.mp this)
    have fok : ∀ {z : Str} {b : Int}, z ∈ zs → isBt b → FltOk c (some (z, b)) := fun hz hb q e => by
      cases e
      exact ⟨pm.mem_iff.mp hz, hb⟩
    have pickD : ∀ {v : V} {Hy : Hp}, v ∈ xsD → DpAll K Hy xsD (faultsD zs) → ∃ z b, z ∈ zs ∧ isBt b ∧ Dp K Hy v (fltD (some (z, b))) := fun {v Hy} hv hh => by
      obtain ⟨j, hj⟩ := List.mem_iff_getElem?.mp hv
      obtain ⟨dd, e1, e2⟩ := dpAll_at hh hj
      obtain ⟨z, b, hz, hb, rfl⟩ := faultsD_mem (List.mem_of_getElem? e1)
      exact ⟨z, b, hz, hb, e2⟩
    refine ⟨_, rfl, Nat.zero_le _, fun l0 nl0 => ?_⟩
    have g1 : Ex H11 (upd H11 l0 (.lst [])) := Ex.new nl0
    have hl0 : (upd H11 l0 (.lst [])) l0 = some (.lst []) := upd_same
    generalize upd H11 l0 (.lst []) = H12 at g1 hl0 ⊢
    have eA := e11.trans g1
    obtain ⟨v0, hv0⟩ : ∃ v0, xsD[0]? = some v0 := by
      cases xsD with
      | nil => exact absurd rfl xne
      | cons a r => exact ⟨a, rfl⟩
    obtain ⟨z0', b0', hz0', hb0', dv0⟩ := pickD (List.mem_of_getElem? hv0) (dpAll_ex eA dmA)
    refine ⟨_, rfl, ld, xsD, 0, v0, rfl, rfl, SqL.of (eA _ _ hldA), atI_nat (j := 0) hv0, ?_⟩
    refine ⟨q, .ref l0, v0, .non, c, c.regs, [], (z0', b0'), none, rfl, ⟨hcA.ex eA, good, hrg, .inl (.lst (SqL.of hl0) .nil), (fun w hw => by cases hw), by decide, .non, (fun bs h => by cases h), dv0, fok hz0' hb0'⟩, .non, (fun q e => by cases e), by decide, fun H13 e13 => ?_⟩
    have er : rowsNe (heard c c.regs (some (z0', b0')) (firstOf c.regs) [] c.outs) (heard c c.regs none (firstOf c.regs) [] c.outs) = false := rfl
    rw [er]
    refine ⟨false, false, rfl, rfl, _, rfl, iteF ?_⟩
    have eB := eA.trans e13
    have hcB := hcA.ex eB
    have hdB := hdA.ex eB
    have hpB := hpA.ex eB
    have hldB := eB _ _ hldA
    have dmB := dpAll_ex eB dmA
    have xbB : ExBut p H H13 := xbA.trans (ExBut.of eB)
    clear eB eA e13 e11 g1 hl0 hcA hdA hpA hldA dmA xbA dx3 hlf3 dv0
    refine ⟨8, rfl, by decide, by decide, ?_⟩
    refine for_range (lo := 0) (n := (8 : Int).toNat) (fun i σ Hc => (∃ u6 u7 u8 u9, σ = [some (.ref p), some (.ref d), some (.ref q), some (.ref ld), none, some (.ref lt), u6, u7, u8, u9]) ∧ ExBut p H13 Hc ∧ Pot Hc p)
      ⟨⟨_, _, _, _, rfl⟩, ExBut.refl _ _, hpB⟩ (fun i σ Hc _ inv => ?_) (fun σ Hc inv => ?_)
    · obtain ⟨⟨u6, u7, u8, u9, rfl⟩, ex, hpc⟩ := inv
      have dmc := p_dpAll hpB ex (np_faults zs) dmB
      have hldc := ex _ _ hldB ldp
      refine ⟨_, rfl, _, rfl, p, d, c, rfl, hpc, hdB.but hpB ex, by omega, fun l xs ws H14 okw lw e14 hp14 nl hl dx => ?_⟩
      have hld14 := e14 _ _ hldc ldp
      have dm14 := p_dpAll hpc e14 (np_faults zs) dmc
      refine ⟨_, rfl, _, rfl, p, ld, xsD, rfl, hp14, SqL.of hld14, ldp, xne, by omega, fun v H15 hv e15 hp15 => ?_⟩
      have dm15 := p_dpAll hp14 e15 (np_faults zs) dm14
      obtain ⟨zf, bf, hzf, hbf, dvf⟩ := pickD hv dm15
      have lp : l ≠ p := pot_new hpc nl
      have hl15 := e15 _ _ hl lp
      have dx15 := p_dpAll hp14 e15 (npDs_map np_bits _) dx
      have hld15 := e15 _ _ hld14 ldp
      refine ⟨_, _, rfl, ?_⟩
      refine ⟨_, rfl, _, rfl, (by show 3 ≤ sizeLine; decide), fun la nla => ?_⟩
      have f1 : Ex H15 (upd H15 la (.lst [.non, .non, v])) := Ex.new nla
      have hla : (upd H15 la (.lst [.non, .non, v])) la = some (.lst [.non, .non, v]) := upd_same
      generalize upd H15 la (.lst [.non, .non, v]) = H16 at f1 hla ⊢
      refine ⟨_, rfl, la, ld, [.non, .non, v], xsD, rfl, rfl, SqL.of hla, SqL.of (f1 _ _ hld15), Nat.le_trans (show 3 + xsD.length ≤ 1000 by omega) (by decide), fun lb nlb => ?_⟩
      have f2 : Ex H16 (upd H16 lb (.lst ([.non, .non, v] ++ xsD))) := Ex.new nlb
      have hlb : (upd H16 lb (.lst ([.non, .non, v] ++ xsD))) lb = some (.lst ([.non, .non, v] ++ xsD)) := upd_same
      have lbp : lb ≠ p := pot_new (hp15.ex f1) nlb
      generalize upd H16 lb (.lst ([.non, .non, v] ++ xsD)) = H17 at f2 hlb ⊢
      have f12 := f1.trans f2
      have hp17 := hp15.ex f12
      refine ⟨p, lb, _, rfl, hp17, SqL.of hlb, lbp, by simp, by simp; omega, fun v2 H18 hv2 e18 hp18 => ?_⟩
      have dm18 := p_dpAll hp17 e18 (np_faults zs) (dpAll_ex f12 dm15)
      have dvf18 := p_dp hp17 e18 (np_flt (some (zf, bf))) (dp_ex f12 dvf)
      obtain ⟨fl, okfl, dfl⟩ : ∃ fl, FltOk c fl ∧ Dp K H18 v2 (fltD fl) := by
        have hv2 : v2 = .non ∨ v2 = .non ∨ v2 = v ∨ v2 ∈ xsD := by simpa using hv2
        rcases hv2 with rfl | rfl | rfl | hv2
        · exact ⟨none, (fun q e => by cases e), .non⟩
        · exact ⟨none, (fun q e => by cases e), .non⟩
        · exact ⟨some (zf, bf), fok hzf hbf, dvf18⟩
        · obtain ⟨z, b, hz, hb, dd⟩ := pickD hv2 dm18
          exact ⟨some (z, b), fok hz hb, dd⟩
      have x18 : ExBut p H13 H18 := fun b o hb n => e18 _ _ (f12 _ _ (e15 _ _ (e14 _ _ (ex _ _ hb n) n) n)) n
      refine ⟨_, rfl, _, rfl, _, rfl, _, rfl, _, rfl, d, q, l, xs, v, v2, c, ws, (zf, bf), fl, rfl, hdB.but hpB x18, hcB.pot hpB x18, good, po, hrg, e18 _ _ (f12 _ _ hl15) lp, p_dpAll hp17 e18 (npDs_map np_bits _) (dpAll_ex f12 dx15), okw, lw, dvf18, fok hzf hbf, dfl, okfl, fun H19 e19 => ⟨true, rfl, iteF ?_⟩⟩
      exact ⟨⟨_, _, _, _, rfl⟩, x18.trans (ExBut.of e19), hp18.ex e19⟩
    · obtain ⟨⟨u6, u7, u8, u9, rfl⟩, ex, hpc⟩ := inv
      refine ⟨_, rfl, p, 4, rfl, hpc, by decide, by decide, fun g H14 g0 g1 e14 hp14 => ⟨_, _, rfl, rfl, _, rfl, ?_⟩⟩
      have x14 : ExBut p H H14 := (xbB.trans ex).trans e14
      by_cases cg : (0 : Int) < g
      · rw [decide_eq_true cg]
        exact iteT (k H14 x14)
      · rw [decide_eq_false cg]
        exact iteF ⟨_, rfl, p, rfl, hp14, fun H15 e15 hp15 => k H15 (x14.trans e15)⟩
theorem rep_all (n : Nat) : (List.replicate n true).all id = true := by
  rw [List.all_eq_true]
  intro x hx
  exact (List.mem_replicate.mp hx).2
def spLaw (K : PySem.W.Frag) : Sp := fun vs H Q _ => ∃ (a : Addr) (ns : List Int), vs = [.ref a] ∧ SqL K H a (ns.map V.int) ∧ ns.length ≤ 1000 ∧ ∀ H', Q (.bl true) H'
abbrev nLaw : List Str := ["_law_script", "_law_k"]
theorem scLaw : FnScope nLaw ["_law_script"] (defScope dLaw) := ⟨rfl, rfl, rfl, by decide +kernel, rfl, by decide +kernel, by decide +kernel⟩
theorem okLaw {f : Addr} {fd : FuncData} (F : At K mg "law" dLaw ["_law_script"] f fd) (T : Txt K mg) (CT : CirT K mg C) (DT : DicT K w mg) : Fn P w K mg base CX0 11 f fd ["_law_script"] (spLaw K) := by
  obtain ⟨fP, gP, FP⟩ := T.pot
  obtain ⟨fX, gX, FX⟩ := T.right
  have GP : FnOk P w K mg base CX0 10 fP gP ["_law_script", "_law_k"] (spPot K) := (okPot FP T).mono (by decide)
  have GR : Fn P w K mg base CX0 10 fX gX ["_law_pot_here"] spRight := okRight FX T CT DT
  refine G.okN F.fn scLaw (fun vs H Q E h => ?_) (fun cdv A outer s H vs Q E hr h => ?_)
  · obtain ⟨a, ns, rfl, _⟩ := h
    rfl
  · obtain ⟨a, ns, rfl, hs, hl, k⟩ := h
    have nds := scLaw.nd
    refine ⟨_, (pss_one (ps_ret (pe_callB (cr_all rfl) (by rfl) T.all (by decide +kernel) (pa_cons (pe_lc (own := [("_law_k", 1)]) (g := (gName 1)) (by rfl) nds (pi_range1 (by rfl) T.range (pa_cons (pe_callB (call_max2 rfl) (by rfl) T.max (by decide +kernel) (pa_cons pe_int (pa_cons (pe_callB (call_min2 rfl) (by rfl) T.min (by decide +kernel) (pa_cons (pe_callB call_len_seq (by rfl) T.len PySem.boot_len (pa_cons (pv 0) pa_nil)) (pa_cons pe_int pa_nil))) pa_nil))) pa_nil)) (blkOk_by (own := [("_law_k", 1)]) (N := nLaw) (sc := defScope dLaw) (by decide +kernel))
          (fun _ _ _ _ _ => (pg_name (i := 1) nds rfl (Or.inl rfl))) (fun _ _ _ _ _ => pts_nil) (fun _ _ _ _ _ => (pc GR hr (by rfl) FX.gl FX.fn.kp FX.bi .nil pass0 (pa_cons (pe_call GP hr.rm (by rfl) FP.gl FP.fn.kp FP.bi .nil pass0 (pa_cons (pv 0) (pa_cons (pv 1) pa_nil))) pa_nil)))) pa_nil)))), ?_⟩
    refine ⟨_, rfl, a, _, rfl, .inl hs, _, _, rfl, _, _, rfl, _, rfl, ?_⟩
    have hj : 1 ≤ (if (if (3 : Int) < ((ns.map V.int).length : Int) then (3 : Int) else ((ns.map V.int).length : Int)) > 1 then (if (3 : Int) < ((ns.map V.int).length : Int) then (3 : Int) else ((ns.map V.int).length : Int)) else 1) ∧ (if (if (3 : Int) < ((ns.map V.int).length : Int) then (3 : Int) else ((ns.map V.int).length : Int)) > 1 then (if (3 : Int) < ((ns.map V.int).length : Int) then (3 : Int) else ((ns.map V.int).length : Int)) else 1) ≤ 3 := by
      constructor <;> split <;> (try split) <;> omega
    generalize (if (if (3 : Int) < ((ns.map V.int).length : Int) then (3 : Int) else ((ns.map V.int).length : Int)) > 1 then (if (3 : Int) < ((ns.map V.int).length : Int) then (3 : Int) else ((ns.map V.int).length : Int)) else 1) = j at hj ⊢
    refine ⟨by omega, by omega, fun D nD => ?_⟩
    refine lc_it (g := gName 1) (tt := tYes) (vs := [1]) walk_range (fun i Hc => Ex H Hc ∧ Hc D = some (.lst ((List.replicate i true).map V.bl))) ⟨Ex.new nD, upd_same⟩ (fun i Hc _ _ => trivial) (fun i x Ha Hb hi q yy => ?_) (fun Hc q => ?_)
    · obtain ⟨rfl, rfl⟩ := yy
      obtain ⟨eN, hD⟩ := q
      refine ⟨wipe_set _ 1 _, ?_⟩
      refine ⟨_, rfl, _, rfl, a, ns, _, rfl, by omega, by omega, ex_l eN hs, hl, fun p H2 np e2 hp => ?_⟩
      refine ⟨p, rfl, hp, fun H3 e3 => ?_⟩
      have x3 : Ex Hb H3 := fun b o hb => e3 _ _ (e2 _ _ hb) (fun z => by rw [z, np] at hb; cases hb)
      refine ⟨_, x3 _ _ hD, Nat.lt_of_le_of_lt (show _ ≤ 1000 by rw [List.length_map, List.length_replicate]; omega) (by decide), (eN.trans x3).mut nD, ?_⟩
      rw [upd_same, List.replicate_succ', List.map_append]
      rfl
    · obtain ⟨_, hD⟩ := q
      refine ⟨D, _, rfl, SqL.of hD, ?_⟩
      rw [rep_all]
      exact k Hc
end
end W

set_option Elab.async false
set_option linter.all false
set_option maxRecDepth 100000
set_option maxHeartbeats 4000000
/-! The end of a law whose promise wants that no repr is under way, with tables of code objects. -/
namespace G
open PySem PySem.Spec PyProof.Rows L2
/-- tracked at first: the tables, and the script where it is not written out -/
def hp0 (ts : List Addr) (a : Addr) (u : Option HO) : Hp := fun b => if b ∈ ts then some (.tbl #[]) else if b = a then u else none
section
variable {ts : List Addr} {a : Addr} {u : Option HO}
theorem hp0_t {b : Addr} (h : b ∈ ts) : hp0 ts a u b = some (.tbl #[]) := if_pos h
theorem hp0_a (h : a ∉ ts) : hp0 ts a u a = u := (if_neg h).trans (if_pos rfl)
theorem hp0_is {b : Addr} {o : HO} (e : hp0 ts a u b = some o) : (b ∈ ts ∧ o = .tbl #[]) ∨ (b = a ∧ b ∉ ts ∧ u = some o) := by
  unfold hp0 at e
  by_cases h : b ∈ ts
  · rw [if_pos h] at e
    exact .inl ⟨h, (Option.some.inj e).symm⟩
  · rw [if_neg h] at e
    by_cases h2 : b = a
    · rw [if_pos h2] at e
      exact .inr ⟨h2, h, e⟩
    · rw [if_neg h2] at e
      cases e
end
theorem end_call {P : Program} {w : World} {K : PySem.W.Frag} {mg mb : Str → Option Value} {n : Nat} {fa a : Addr} {cs : List (Addr × Addr)} {fd : FuncData} {x : Str} {pro : Sp} {s1 : Shared} {vs : List Value} {ns : List Int}
    (KX : K.In s1.heap) (hns : s1.heap.Ns mainGlobals mg) (hb : s1.heap.Ns builtinsNs mb) (hbb : ∀ x : Str, x ≠ "__name__" → mb x = bootBuiltins x) (hlim : s1.heap.NoLimit) (hg : s1.gens = #[])
    (hT : ∀ p ∈ cs, s1.heap.get? p.2 = some { cls := .none, data := .fields #[] }) (nT : ∀ p ∈ cs, K.lookup p.2 = none) (hC : ∀ p ∈ cs, PySem.W.CodeHd s1.heap p.1 p.2)
    (hbm : ∃ (bm : Addr) (ob : Obj), mg "__builtins__" = some (.ref bm) ∧ bm ≠ builtinsNs ∧ s1.heap.get? bm = some ob ∧ ob.cls = .type "module" ∧ ob.dict = some builtinsNs ∧ ob.data = .plain)
    (ha : s1.heap.get? a = some { cls := .type "list", data := .seq vs.toArray }) (hi : IntsAre vs ns) (hl : ns.length ≤ sizeLine) (hr : Room n callerA)
    (F : ∀ ba : Heap, K.In ba → ba.Ns mainGlobals mg → (∀ p ∈ cs, LamX.TabB ba mg p.1 p.2) → Fn P w K mg ba CX0 n fa fd [x] pro) (hbind : ∀ (s : Shared) (u : Value), BindsTo s fd ⟨[u], []⟩ [(x, u)])
    (hpro : ∀ H : Hp, (∀ p ∈ cs, H p.2 = some (.tbl #[])) → SqL K H a (ns.map V.int) → pro [.ref a] H (fun v _ => v = .bl true) fun _ _ _ => False) :
    codeAny (model P w) callerA (.call (.ref fa) ⟨[.ref a], []⟩) (fun r s' => r = .ok (.ret (.bool true)) ∧ OldK s1.heap s'.heap ∧ s'.os = s1.os ∧ AllBare s'.gens) s1 := by
  have rel := vals_ints hi
  have vl := hi.length
  have atT : ∀ {b : Addr}, b ∈ cs.map (·.2) → s1.heap.get? b = some { cls := .none, data := .fields #[] } := fun {b} m => by
    obtain ⟨p, hp, e⟩ := List.mem_map.mp m
    rw [← e]
    exact hT p hp
  have aT : a ∉ cs.map (·.2) := fun m => by
    have q := (atT m).symm.trans ha
    exact nomatch (congrArg Obj.data (Option.some.inj q))
  obtain ⟨u, hu, hKa, hseq⟩ : ∃ u : Option HO, (∀ o, u = some o → ∃ xs, o = .frz { cls := .type "list", data := .seq vs.toArray } (.lst xs) ∧ xs = ns.map V.int) ∧ (u ≠ none → K.lookup a = none) ∧ SqL K (hp0 (cs.map (·.2)) a u) a (ns.map V.int) := by
    cases hk : K.lookup a with
    | some o =>
      have e := (KX a o hk).symm.trans ha
      cases e
      exact ⟨none, (fun o z => nomatch z), (fun z => absurd rfl z), .inr ⟨_, vs.toArray, _, hk, rfl, rfl, rfl, by rw [List.size_toArray, vl]; exact hl, by simpa using rel⟩⟩
    | none => exact ⟨some _, (fun o z => ⟨_, (Option.some.inj z).symm, rfl⟩), (fun _ => rfl), .inl (.inr ⟨_, hp0_a aT⟩)⟩
  generalize hH : hp0 (cs.map (·.2)) a u = H at hseq
  have hHt : ∀ {b : Addr}, b ∈ cs.map (·.2) → H b = some (.tbl #[]) := fun m => by rw [← hH]; exact hp0_t m
  have hHis : ∀ {b : Addr} {o : HO}, H b = some o → (b ∈ cs.map (·.2) ∧ o = .tbl #[]) ∨ (b = a ∧ b ∉ cs.map (·.2) ∧ u = some o) := fun e => hp0_is (by rw [hH]; exact e)
  have hok : HOk P w H s1.heap := fun b o e => by
    rcases hHis e with ⟨m, rfl⟩ | ⟨rfl, _, eu⟩
    · exact atT m
    · obtain ⟨xs, rfl, rfl⟩ := hu o eu
      exact ⟨ha, by rw [List.length_map]; exact hl, vs, _, rel, ha⟩
  have un0 : ∀ {b : Addr} {o : Obj}, s1.heap.get? b = some o → (∀ vs n, o.data ≠ .seq vs n) → o.data ≠ .fields #[] → H b = none := fun {b o} e h1 h2 => by
    cases q : H b with
    | none => rfl
    | some z =>
      rcases hHis q with ⟨m, _⟩ | ⟨eb, _, _⟩
      · have e2 := e.symm.trans (atT m)
        cases e2
        exact absurd rfl h2
      · subst eb
        have e2 := e.symm.trans ha
        cases e2
        exact absurd rfl (h1 _ _)
  have keepB : ∀ {b : Addr} {o : Obj}, s1.heap.get? b = some o → (∀ vs n, o.data ≠ .seq vs n) → o.data ≠ .fields #[] → (hidT s1.heap H).get? b = some o := fun e h1 h2 => hidT_get e (un0 e h1 h2)
  have nsB : ∀ {b : Addr} {m : Str → Option Value}, s1.heap.Ns b m → (hidT s1.heap H).Ns b m := fun {b m} ⟨o, es, ep, e, d, r⟩ => ⟨o, es, ep, keepB e (fun vs n z => by rw [d] at z; cases z) (fun z => by rw [d] at z; cases z), d, r⟩
  have KB : K.In (hidT s1.heap H) := fun b o e => hidT_get (KX b o e) (by
    cases q : H b with
    | none => rfl
    | some z =>
      rcases hHis q with ⟨m, _⟩ | ⟨eb, _, eu⟩
      · obtain ⟨p, hp, ep⟩ := List.mem_map.mp m
        rw [← ep, nT p hp] at e
        cases e
      · subst eb
        rw [hKa (by rw [eu]; simp)] at e
        cases e)
  have md : L2.Mod K mg (hidT s1.heap H) := ⟨KB, nsB hns, ⟨mb, nsB hb, hbb⟩, by
    obtain ⟨mc, h1, h2⟩ := hlim
    exact ⟨mc, nsB h1, h2⟩⟩
  have TB : ∀ p ∈ cs, LamX.TabB (hidT s1.heap H) mg p.1 p.2 := fun p hp => by
    have tp := hT p hp
    refine ⟨?_, ?_, fun z => ?_⟩
    · obtain ⟨o, us, file, tf, flags, tg, inF, text, tt, g1, r1, r2, r3, r⟩ := hC p hp
      refine ⟨o, us, file, tf, flags, tg, inF, text, tt, keepB g1 (fun vs n z => by rw [r2] at z; cases z) (fun z => ?_), r1, r2, r3, r⟩
      rw [r2] at z
      cases z
      simp at r3
    · obtain ⟨bm, ob, b1, b2, b3, b4, b5, b6⟩ := hbm
      refine ⟨bm, ob, b1, b2, fun z => ?_, fun z => ?_, keepB b3 (fun vs n z => by rw [b6] at z; cases z) (fun z => by rw [b6] at z; cases z), b4, b5, b6⟩
      · obtain ⟨o, es, ep, e, d, _⟩ := hns
        rw [z, e] at b3
        cases b3
        rw [d] at b6
        cases b6
      · rw [z, tp] at b3
        cases b3
        cases b6
    · obtain ⟨o, es, ep, e, d, _⟩ := hns
      rw [z, tp] at e
      cases e
      cases d
  have e0 : Env0 P w K mg (hidT s1.heap H) callerA [] s1 H := ⟨rfl, md, fun b o e => of_hidT e, Nat.le_of_eq (hidT_size _ _), trivial, fun b hb => (by cases hb), hok, .of_eq hg⟩
  refine codeAny_mono ((F _ KB (nsB hns) TB).go callerA [] s1 H ⟨[.ref a], []⟩ [.ref a] [.ref a] _ _ ⟨hr, rfl⟩ e0 (hbind s1 (.ref a)) (.cons rfl .nil) (hpro H (fun p hp => hHt (List.mem_map.mpr ⟨p, hp, rfl⟩)) hseq)) fun r s' h => ?_
  cases r with
  | error e => exact (show False from h).elim
  | ok fl =>
    cases fl with
    | next => exact False.elim h
    | brk => exact False.elim h
    | cont => exact False.elim h
    | ret z =>
      obtain ⟨v, H', os, bare, un, hok', rz, q⟩ := h
      have q : v = .bl true := q
      subst q
      obtain rfl : z = Value.bool true := rz
      have more : ∀ {b : Addr}, b ∈ cs.map (·.2) → ∃ ms : Array Value, s'.heap.get? b = some { cls := .none, data := .fields ms } := fun {b} m => by
        obtain ⟨ms, e⟩ := un.tbls b #[] (hHt m)
        exact ⟨_, hok' b _ e⟩
      have old : ∀ {b : Addr} {o : Obj}, b ∉ cs.map (·.2) → s1.heap.get? b = some o → s'.heap.get? b = some o := fun {b o} nm e => by
        cases y : H b with
        | none => exact un.keep b o e y (fun z => by cases z) (fun z => by cases z)
        | some t =>
          rcases hHis y with ⟨m, _⟩ | ⟨_, _, eu⟩
          · exact absurd m nm
          · obtain ⟨xs, rfl, _⟩ := hu t eu
            obtain ⟨g1, _⟩ := hok b _ y
            obtain ⟨g2, _⟩ := hok' b _ (un.frzs b _ _ y)
            have := e.symm.trans g1
            cases this
            exact g2
      refine ⟨rfl, ⟨fun b o e => ?_, fun b o e => ?_⟩, os, bare⟩
      · by_cases m : b ∈ cs.map (·.2)
        · obtain ⟨ms, g2⟩ := more m
          obtain ⟨p, hp, ep⟩ := List.mem_map.mp m
          have e2 := e.symm.trans (atT m)
          cases e2
          refine .inr (.inl ⟨?_, rfl, #[], ms, rfl, by rw [Array.empty_append]; exact g2⟩)
          rw [← ep]
          exact ((hC p hp).tab (hT p hp)).isCodeTable
        · exact .inl (old m e)
      · by_cases m : b ∈ cs.map (·.2)
        · obtain ⟨ms, g2⟩ := more m
          exact ⟨_, g2⟩
        · exact ⟨o, old m e⟩
/-- what the head has told of the law's promise -/
def LawAt (l : PySem.W.OpenLaw) (w : World) (K : PySem.W.Frag) (n most : Nat) (x : Str) (mg : Str → Option Value) (fa : Addr) (h : Heap) : Prop :=
  ∃ (fd : FuncData) (cs : List (Addr × Addr)) (pro : Sp), (∀ p ∈ cs, h.get? p.2 = some { cls := .none, data := .fields #[] }) ∧ (∀ p ∈ cs, K.lookup p.2 = none) ∧ (∀ p ∈ cs, PySem.W.CodeHd h p.1 p.2) ∧ (∀ (s : Shared) (u : Value), BindsTo s fd ⟨[u], []⟩ [(x, u)]) ∧
    (∀ (H : Hp) (a : Addr) (ns : List Int), ns.length ≤ most → (∀ z ∈ ns, Builtin.Int.intBits z ≤ 1048576) → (∀ p ∈ cs, H p.2 = some (.tbl #[])) → SqL K H a (ns.map V.int) → pro [.ref a] H (fun v _ => v = .bl true) fun _ _ _ => False) ∧
    ∀ ba : Heap, K.In ba → ba.Ns mainGlobals mg → (∀ p ∈ cs, LamX.TabB ba mg p.1 p.2) → Fn l.prog w K mg ba CX0 n fa fd [x] pro
theorem walk {l : PySem.W.OpenLaw} {most n : Nat} {q : Program} {loose : List Str} {XP : (Str → Option Value) → Heap → Prop} {YP : World → Heap → Prop} {d : DefRec} {K : Params → PySem.W.Frag} {x : Str}
    (hm : l.most = some most) (hm2 : most ≤ sizeLine) (hdf : d.params.defaults = []) (hr : Room n callerA) (hY : ∀ (w : World) (h : Heap), YP w h → (K w.params).In h)
    (F : ∀ (w : World) (mg : Str → Option Value) (fa : Addr) (h : Heap), YP w h → (K w.params).In h → h.Ns mainGlobals mg → mg d.name = some (.ref fa) → LawAt l w (K w.params) n most x mg fa h) :
    PySem.W.WalkO q loose XP YP l.row.toRowW d [] (fun f vs => PySem.call f vs) := by
  refine Att.attach_callB hm hdf fun w s0 s1 mg mb fa o pm cd doc a vs ns G Y ho hd hcd hmg hobj hints hlen hbits hg => ?_
  have KX := hY w _ Y
  obtain ⟨fd, cs, pro, hT, nT, hC, hb, hpro, hF⟩ := F w mg fa _ Y KX G.T.g hmg
  exact end_call KX G.T.g G.T.b G.T.builtins G.T.nolimit hg hT nT hC G.T.bmain hobj hints (Nat.le_trans hlen hm2) hr hF hb fun H h1 h2 => hpro H a ns hlen hbits h1 h2
end G

set_option Elab.async false
set_option linter.all false
set_option maxRecDepth 100000
set_option maxHeartbeats 8000000
/-! What the head tells, put together. -/
namespace W
open PySem PySem.Spec PyProof.Rows L2 Evl G C
section
variable {K : PySem.W.Frag} {h : Heap} {mg : Str → Option Value}
/-- a def of the top, by its four facts -/
theorem at_mk {x : Str} {de : Stmt} {ps : List Str} {f : Addr} {oc kV doc pm cdv ct : Value} {od an : Option Addr} {osl : Array (Option Value)} (X : K.In h) (G : h.Ns mainGlobals mg) (b : ∀ (kV doc pm : Value) (an : Option Addr) (cdv ct : Value) (us : List Value), us.length = ps.length → bindArgs (PySem.W.fnOf x x (defArgs de) (defBody de) (defScope de) .none kV doc pm an cdv ct) ⟨us, []⟩ = pure (ps.zip us))
    (a : PySem.W.nsIn K mainGlobals x = some (some (.ref f)))
    (l : K.lookup f = some ⟨oc, od, .func (PySem.W.fnOf x x (defArgs de) (defBody de) (defScope de) .none kV doc pm an cdv ct), osl⟩) (c : PySem.W.codeIn K cdv x = true) (k : PySem.W.keepIn K (.ref f) = true) : ∃ f fd, At K mg x de ps f fd := by
  have F := fun_mk (st := de) l c k
  exact ⟨f, _, F, PySem.W.mg_of X G a, F.binds b⟩
theorem none_mk {x : Str} (X : K.In h) (G : h.Ns mainGlobals mg) (z : PySem.W.nsIn K mainGlobals x = some none) : mg x = none := PySem.W.mg_none_of X G z
theorem str_mk {x z : Str} {t : Tok} (X : K.In h) (G : h.Ns mainGlobals mg) (a : PySem.W.nsIn K mainGlobals x = some (some (.str z t))) : ∃ t, mg x = some (.str z t) := ⟨t, PySem.W.mg_of X G a⟩
theorem int_mk {x : Str} {i : Int} {t : Tok} (X : K.In h) (G : h.Ns mainGlobals mg) (a : PySem.W.nsIn K mainGlobals x = some (some (.int i t))) : ∃ t, mg x = some (.int i t) := ⟨t, PySem.W.mg_of X G a⟩
theorem val_mk {x : Str} {u : Value} (X : K.In h) (G : h.Ns mainGlobals mg) (a : PySem.W.nsIn K mainGlobals x = some (some u)) : mg x = some u := PySem.W.mg_of X G a
end
/-- a written tuple of ints -/
theorem isBits_mk {K : PySem.W.Frag} {a : Addr} {bs : List Int} {vs : List Value} {dd : Option Addr} {n : Nat} {sl : Array (Option Value)} (l : K.lookup a = some ⟨.type "tuple", dd, .seq vs.toArray n, sl⟩) (r : Vals (bs.map V.int) vs) (hz : bs.length ≤ 1000) : isBits K bs (.ref a) := by
  refine ⟨a, rfl, fun H => .inr ⟨_, vs.toArray, n, l, rfl, rfl, ?_, by simpa using r⟩⟩
  have e := r.length
  rw [List.length_map] at e
  rw [List.size_toArray, ← e]
  exact Nat.le_trans hz (by decide)
/-- a def whose defaults stand in a tuple -/
theorem funD_mk {K : PySem.W.Frag} {x qual : Str} {de : Stmt} {f T : Addr} {oc kV doc pm cdv ct tc : Value} {od an td : Option Addr} {osl ts : Array (Option Value)} {its : List Value} {n : Nat} {dvs : List V}
    (l : K.lookup f = some ⟨oc, od, .func (PySem.W.fnOf x qual (defArgs de) (defBody de) (defScope de) (.ref T) kV doc pm an cdv ct), osl⟩) (lT : K.lookup T = some ⟨tc, td, .seq its.toArray n, ts⟩) (r : Vals dvs its) (ne : dvs ≠ []) (c : PySem.W.codeIn K cdv qual = true) (k : PySem.W.keepIn K (.ref f) = true) :
    FunD K x qual (defArgs de) (defBody de) (defScope de) dvs [] f (PySem.W.fnOf x qual (defArgs de) (defBody de) (defScope de) (.ref T) kV doc pm an cdv ct) :=
  ⟨⟨oc, od, .ref T, kV, doc, pm, an, cdv, ct, osl, rfl, l, c, .inr ⟨ne, T, _, its, n, rfl, lT, rfl, r⟩, .inl rfl⟩, k⟩
theorem binds_all {K : PySem.W.Frag} {x qual : Str} {de : Stmt} {f : Addr} {fd : FuncData} {ps : List Str} {dvs : List V} (F : FunD K x qual (defArgs de) (defBody de) (defScope de) dvs [] f fd) (ne : dvs ≠ [])
    (b : ∀ (T : Addr) (kV doc pm : Value) (an : Option Addr) (cdv ct : Value) (us its : List Value), us.length = ps.length → its.length = dvs.length → ∃ k, bindArgs (PySem.W.fnOf x qual (defArgs de) (defBody de) (defScope de) (.ref T) kV doc pm an cdv ct) ⟨us, []⟩ = seqItems? (.ref T) >>= k ∧ k (some its.toArray) = pure (ps.zip us)) : Binds K fd ps [] := by
  obtain ⟨ds, r, q⟩ := F.binds1 (ps := ps) ps.length dvs.length ne (by omega) fun T kV doc pm an cdv ct us its h1 h2 => by
    obtain ⟨k, e1, e2⟩ := b T kV doc pm an cdv ct us its h1 h2
    refine ⟨k, e1, ?_⟩
    rw [List.drop_of_length_le (by omega), List.append_nil]
    exact e2
  rw [List.drop_of_length_le (Nat.le_refl _)] at r
  cases r
  exact q
theorem atD_mk {K : PySem.W.Frag} {h : Heap} {mg : Str → Option Value} {x : Str} {de : Stmt} {ps : List Str} {f T : Addr} {oc kV doc pm cdv ct tc : Value} {od an td : Option Addr} {osl ts : Array (Option Value)} {its : List Value} {n : Nat} {dvs : List V} (X : K.In h) (G : h.Ns mainGlobals mg)
    (a : PySem.W.nsIn K mainGlobals x = some (some (.ref f)))
    (l : K.lookup f = some ⟨oc, od, .func (PySem.W.fnOf x x (defArgs de) (defBody de) (defScope de) (.ref T) kV doc pm an cdv ct), osl⟩) (lT : K.lookup T = some ⟨tc, td, .seq its.toArray n, ts⟩) (r : Vals dvs its) (ne : dvs ≠ []) (c : PySem.W.codeIn K cdv x = true) (k : PySem.W.keepIn K (.ref f) = true)
    (b : ∀ (T : Addr) (kV doc pm : Value) (an : Option Addr) (cdv ct : Value) (us its : List Value), us.length = ps.length → its.length = dvs.length → ∃ k, bindArgs (PySem.W.fnOf x x (defArgs de) (defBody de) (defScope de) (.ref T) kV doc pm an cdv ct) ⟨us, []⟩ = seqItems? (.ref T) >>= k ∧ k (some its.toArray) = pure (ps.zip us)) :
    ∃ f fd, AtD K mg x de dvs ps f fd := by
  have F := funD_mk (de := de) l lT r ne c k
  exact ⟨f, _, F, PySem.W.mg_of X G a, binds_all F ne b⟩
theorem mth_mk {K : PySem.W.Frag} {x qual : Str} {de : Stmt} {ps : List Str} {C f : Addr} {oc kV doc pm cdv ct : Value} {od an : Option Addr} {osl : Array (Option Value)} (b : ∀ (kV doc pm : Value) (an : Option Addr) (cdv ct : Value) (us : List Value), us.length = ps.length → bindArgs (PySem.W.fnOf x qual (defArgs de) (defBody de) (defScope de) .none kV doc pm an cdv ct) ⟨us, []⟩ = pure (ps.zip us))
    (l : K.lookup f = some ⟨oc, od, .func (PySem.W.fnOf x qual (defArgs de) (defBody de) (defScope de) .none kV doc pm an cdv ct), osl⟩) (c : PySem.W.codeIn K cdv qual = true) (k : PySem.W.keepIn K (.ref f) = true) (at_ : PySem.W.findIn K (.ref C) x = some (some (.ref f))) (fn : PySem.W.isFn K (.ref f) = true) : ∃ f fd, MthT K C x qual de ps f fd := by
  have F := fun_mk (st := de) l c k
  exact ⟨f, _, F, ⟨at_, fn, k⟩, F.binds b⟩
theorem init_mk {K : PySem.W.Frag} {x qual : Str} {de : Stmt} {ps : List Str} {C f T : Addr} {oc kV doc pm cdv ct tc : Value} {od an td : Option Addr} {osl ts : Array (Option Value)} {its : List Value} {n : Nat} {d : V} {dr : List V}
    (l : K.lookup f = some ⟨oc, od, .func (PySem.W.fnOf x qual (defArgs de) (defBody de) (defScope de) (.ref T) kV doc pm an cdv ct), osl⟩) (lT : K.lookup T = some ⟨tc, td, .seq its.toArray n, ts⟩) (r : Vals (d :: dr) its) (c : PySem.W.codeIn K cdv qual = true) (k : PySem.W.keepIn K (.ref f) = true)
    (at_ : PySem.W.findIn K (.ref C) x = some (some (.ref f))) (fn : PySem.W.isFn K (.ref f) = true)
    (b : ∀ (T : Addr) (kV doc pm : Value) (an : Option Addr) (cdv ct : Value) (us its : List Value), us.length = ps.length → its.length = (d :: dr).length → ∃ k, bindArgs (PySem.W.fnOf x qual (defArgs de) (defBody de) (defScope de) (.ref T) kV doc pm an cdv ct) ⟨us, []⟩ = seqItems? (.ref T) >>= k ∧ k (some its.toArray) = pure (ps.zip us)) :
    ∃ f fd dvs, FunD K x qual (defArgs de) (defBody de) (defScope de) dvs [] f fd ∧ PySem.W.findIn K (.ref C) x = some (some (.ref f)) ∧ PySem.W.isFn K (.ref f) = true ∧ Binds K fd ps [] := by
  have F := funD_mk (de := de) l lT r (List.cons_ne_nil _ _) c k
  exact ⟨f, _, _, F, at_, fn, binds_all F (List.cons_ne_nil _ _) b⟩
theorem facts {K : PySem.W.Frag} {h : Heap} {mg : Str → Option Value} {l : PySem.W.OpenLaw} {w : World} {fa C qdK qdM : Addr} {eK eM : Array DictEntry} {nK nM : Nat} (X : K.In h) (G : h.Ns mainGlobals mg) (hfa : mg "law" = some (.ref fa))
    (A_integer : ∃ f fd, At K mg "is_integer" (top 22) ["value"] f fd)
    (A_bit : ∃ f fd, At K mg "is_bit" (top 23) ["value"] f fd)
    (A_name : ∃ f fd, At K mg "is_name" (top 24) ["value"] f fd)
    (A_lst : ∃ f fd, At K mg "is_list" (top 25) ["value"] f fd)
    (A_letter : ∃ f fd, At K mg "is_letter" (top 26) ["value", "width"] f fd)
    (A_word : ∃ f fd, At K mg "is_word" (top 27) ["value", "width"] f fd)
    (A_kind : ∃ f fd, At K mg "is_kind" (top 28) ["value"] f fd)
    (A_numberOf : ∃ f fd, At K mg "number_of" (top 29) ["bits"] f fd)
    (A_bitOf : ∃ f fd, At K mg "bit_of" (top 30) ["kind", "bits"] f fd)
    (A_cInputs : ∃ f fd, At K mg "check_inputs" (top 32) ["inputs"] f fd)
    (A_isGate : ∃ f fd, At K mg "is_gate" (top 33) ["value"] f fd)
    (A_cGates : ∃ f fd, At K mg "check_gates" (top 34) ["gates", "inputs"] f fd)
    (A_isReg : ∃ f fd, At K mg "is_register" (top 35) ["value"] f fd)
    (A_cRegs : ∃ f fd, At K mg "check_registers" (top 36) ["registers", "taken"] f fd)
    (A_cSources : ∃ f fd, At K mg "check_sources" (top 37) ["sources", "wires"] f fd)
    (A_cOutputs : ∃ f fd, At K mg "check_outputs" (top 38) ["outputs", "wires"] f fd)
    (A_cNumber : ∃ f fd, At K mg "check_number" (top 39) ["what", "rows", "limit"] f fd)
    (A_seqOf : ∃ f fd, At K mg "sequence_of" (top 40) ["sources"] f fd)
    (A_gateOnRing : ∃ f fd, At K mg "gate_on_ring" (top 42) ["sources"] f fd)
    (A_cNoRing : ∃ f fd, At K mg "check_no_ring" (top 43) ["sources"] f fd)
    (A_cWire : ∃ f fd, At K mg "check_wire" (top 44) ["circuit", "wire"] f fd)
    (A_cState : ∃ f fd, At K mg "check_state" (top 45) ["circuit", "state"] f fd)
    (A_cWord : ∃ f fd, At K mg "check_word" (top 46) ["circuit", "word"] f fd)
    (A_isFault : ∃ f fd, At K mg "is_fault" (top 47) ["circuit", "value"] f fd)
    (A_cStuck : ∃ f fd, At K mg "check_stuck" (top 48) ["circuit", "stuck"] f fd)
    (A_planOf : ∃ f fd, At K mg "plan_of" (top 50) ["circuit"] f fd)
    (A_saidBy : ∃ f fd, At K mg "said_by" (top 51) ["circuit", "plan", "state", "letter", "stuck"] f fd)
    (A_nextState : ∃ f fd, At K mg "next_state" (top 52) ["circuit", "said"] f fd)
    (A_course : ∃ f fd, At K mg "course" (top 53) ["circuit", "wires", "word", "state", "stuck"] f fd)
    (A_cCourse : ∃ f fd, At K mg "check_course" (top 54) ["circuit", "word", "state", "stuck"] f fd)
    (A_faults : ∃ f fd, At K mg "faults" (top 63) ["circuit"] f fd)
    (A_cFault : ∃ f fd, At K mg "check_fault" (top 64) ["circuit", "fault"] f fd)
    (A_pot : ∃ f fd, At K mg "_law_pot" (top 67) ["_law_script", "_law_k"] f fd)
    (A_draw : ∃ f fd, At K mg "_law_draw" (top 68) ["_law_pot_here", "_law_faces"] f fd)
    (A_pick : ∃ f fd, At K mg "_law_pick" (top 69) ["_law_pot_here", "_law_things"] f fd)
    (A_lModel : ∃ f fd, At K mg "_law_model" (top 70) ["_law_pot_here", "_law_most"] f fd)
    (A_lWires : ∃ f fd, At K mg "_law_wires" (top 71) ["_law_model_here"] f fd)
    (A_lFirst : ∃ f fd, At K mg "_law_first" (top 72) ["_law_model_here"] f fd)
    (A_lLetters : ∃ f fd, At K mg "_law_letters" (top 73) ["_law_model_here"] f fd)
    (A_made : ∃ f fd, At K mg "_law_made" (top 74) ["_law_kind", "_law_bits"] f fd)
    (A_lStep : ∃ f fd, At K mg "_law_step" (top 75) ["_law_model_here", "_law_state", "_law_letter", "_law_stuck"] f fd)
    (A_lAnswer : ∃ f fd, At K mg "_law_answer" (top 76) ["_law_model_here", "_law_term_here", "_law_stuck"] f fd)
    (A_term : ∃ f fd, At K mg "_law_term" (top 77) ["_law_pot_here", "_law_model_here", "_law_most"] f fd)
    (A_wordR : ∃ f fd, At K mg "_law_word_right" (top 79) ["_law_model_here", "_law_circuit", "_law_term_here", "_law_one", "_law_far"] f fd)
    (A_wideR : ∃ f fd, At K mg "_law_wide_right" (top 80) ["_law_pot_here"] f fd)
    (A_right : ∃ f fd, At K mg "_law_right" (top 81) ["_law_pot_here"] f fd)
    (A_shows : ∃ f fd, AtD K mg "shows_at" (top 65) [.non] ["circuit", "word", "fault", "other"] f fd)
    (A_answer : ∃ f fd, AtD K mg "answer" (top 55) [.non, .non] ["circuit", "word", "state", "stuck"] f fd)
    (A_law : ∃ f fd, At K mg "law" (top 82) ["_law_script"] f fd)
    (N_isinstance : mg "isinstance" = none)
    (N_int : mg "int" = none)
    (N_bool : mg "bool" = none)
    (N_str : mg "str" = none)
    (N_list : mg "list" = none)
    (N_tuple : mg "tuple" = none)
    (N_len : mg "len" = none)
    (N_all : mg "all" = none)
    (N_abs : mg "abs" = none)
    (N_max : mg "max" = none)
    (N_min : mg "min" = none)
    (N_divmod : mg "divmod" = none)
    (N_range : mg "range" = none)
    (N_repr : mg "repr" = none)
    (N_dict : mg "dict" = none)
    (N_sorted : mg "sorted" = none)
    (N_zip : mg "zip" = none)
    (N_enumerate : mg "enumerate" = none)
    (N_sum : mg "sum" = none)
    (N_small : ∃ t, mg "SMALL" = some (.str "abcdefghijklmnopqrstuvwxyz" t))
    (N_digits : ∃ t, mg "DIGITS" = some (.str "0123456789" t))
    (N_longest : ∃ t, mg "LONGEST_NAME" = some (.int 12 t))
    (N_mInputs : ∃ t, mg "MOST_INPUTS" = some (.int 8 t))
    (N_mGates : ∃ t, mg "MOST_GATES" = some (.int 200 t))
    (N_mRegisters : ∃ t, mg "MOST_REGISTERS" = some (.int 8 t))
    (N_mOutputs : ∃ t, mg "MOST_OUTPUTS" = some (.int 8 t))
    (N_push : mg "heappush" = some (.builtin "_heapq.heappush"))
    (N_popH : mg "heappop" = some (.builtin "_heapq.heappop"))
    (aC : PySem.W.nsIn K mainGlobals "Circuit" = some (some (.ref C)))
    (c_pg : PySem.W.plainGet K C Str.empty = true)
    (c_hd : PySem.W.hasDictIn K C = true)
    (c_po : PySem.W.plainOver K C = true)
    (c_sa : PySem.W.findIn K (.ref C) "__setattr__" = some (some (.builtin "object.__setattr__")))
    (c_kp : PySem.W.keepIn K (.ref C) = true)
    (c_mk : PySem.W.makesIn K C = true)
    (c_ca : PySem.W.findIn K (.ref C) "__class__" = some (some (.builtin "object.__class__")))
    (c_cn : PySem.W.specialIn K (.builtin "object.__class__") "__get__" = some (some (.builtin "getset_descriptor.__get__")))
    (c_ct : PySem.W.takesIn K (.builtin "object.__class__") = some true)
    (c_cm : PySem.W.mroIn K C (.type "object") = some true)
    (c_is : PySem.W.kitOne K (.ref C) (.ref C) = some true)
    (c_n_inputs : PySem.W.findIn K (.ref C) "_inputs" = some none)
    (c_n_gates : PySem.W.findIn K (.ref C) "_gates" = some none)
    (c_n_registers : PySem.W.findIn K (.ref C) "_registers" = some none)
    (c_n_outputs : PySem.W.findIn K (.ref C) "_outputs" = some none)
    (c_n_sources : PySem.W.findIn K (.ref C) "_sources" = some none)
    (c_n_kinds : PySem.W.findIn K (.ref C) "_kinds" = some none)
    (c_n_sequence : PySem.W.findIn K (.ref C) "_sequence" = some none)
    (M_inputs : ∃ f fd, MthT K C "inputs" "Circuit.inputs" (dM 1) ["self"] f fd)
    (M_gates : ∃ f fd, MthT K C "gates" "Circuit.gates" (dM 2) ["self"] f fd)
    (M_registers : ∃ f fd, MthT K C "registers" "Circuit.registers" (dM 3) ["self"] f fd)
    (M_outputs : ∃ f fd, MthT K C "outputs" "Circuit.outputs" (dM 4) ["self"] f fd)
    (M_wires : ∃ f fd, MthT K C "wires" "Circuit.wires" (dM 5) ["self"] f fd)
    (M_first : ∃ f fd, MthT K C "first" "Circuit.first" (dM 6) ["self"] f fd)
    (M_kind : ∃ f fd, MthT K C "kind" "Circuit.kind" (dM 7) ["self", "wire"] f fd)
    (M_sources : ∃ f fd, MthT K C "sources" "Circuit.sources" (dM 8) ["self", "wire"] f fd)
    (M_sequence : ∃ f fd, MthT K C "sequence" "Circuit.sequence" (dM 11) ["self"] f fd)
    (M_cont : ∃ f fd, MthT K C "__contains__" "Circuit.__contains__" (dM 13) ["self", "value"] f fd)
    (M_eq : ∃ f fd, MthT K C "__eq__" "Circuit.__eq__" (dM 14) ["self", "other"] f fd)
    (M_init : ∃ f fd dvs, FunD K "__init__" "Circuit.__init__" (defArgs (dM 0)) (defBody (dM 0)) (defScope (dM 0)) dvs [] f fd ∧ PySem.W.findIn K (.ref C) "__init__" = some (some (.ref f)) ∧ PySem.W.isFn K (.ref f) = true ∧ Binds K fd ["self", "inputs", "gates", "registers", "outputs"] [])
    (aK : PySem.W.nsIn K mainGlobals "KINDS" = some (some (.ref qdK)))
    (lK : K.lookup qdK = some ⟨.type "dict", none, .dict eK nK, #[]⟩)
    (yK : PySem.W.KeysLit w.params eK.toList)
    (rK : KEs isInt eK.toList kindsL)
    (sK : (qdK == sysModules) = false)
    (aM : PySem.W.nsIn K mainGlobals "MADE" = some (some (.ref qdM)))
    (lM : K.lookup qdM = some ⟨.type "dict", none, .dict eM nM, #[]⟩)
    (yM : PySem.W.KeysLit w.params eM.toList)
    (rM : KEs (isBits K) eM.toList madeL)
    (sM : (qdM == sysModules) = false) : LawAt l w K 11 63 "_law_script" mg fa h := by
  obtain ⟨f, fd, F⟩ := A_law
  have e := hfa.symm.trans F.gl
  cases e
  have bl : ∀ (s : Shared) (u : Value), BindsTo s fd ⟨[u], []⟩ [("_law_script", u)] := by
    obtain ⟨oc, od, kV, doc, pm, an, cdv, ct, osl, rfl, _, _⟩ := F.fn.ex
    exact fun s u => .of_eq rfl
  have T : Txt K mg := { integer := A_integer, bit := A_bit, name := A_name, lst := A_lst, letter := A_letter, word := A_word, kind := A_kind, numberOf := A_numberOf, bitOf := A_bitOf, cInputs := A_cInputs, isGate := A_isGate, cGates := A_cGates, isReg := A_isReg, cRegs := A_cRegs, cSources := A_cSources, cOutputs := A_cOutputs, cNumber := A_cNumber, seqOf := A_seqOf, gateOnRing := A_gateOnRing, cNoRing := A_cNoRing, cWire := A_cWire, cState := A_cState, cWord := A_cWord, isFault := A_isFault, cStuck := A_cStuck, planOf := A_planOf, saidBy := A_saidBy, nextState := A_nextState, course := A_course, cCourse := A_cCourse, faults := A_faults, cFault := A_cFault, pot := A_pot, draw := A_draw, pick := A_pick, lModel := A_lModel, lWires := A_lWires, lFirst := A_lFirst, lLetters := A_lLetters, made := A_made, lStep := A_lStep, lAnswer := A_lAnswer, term := A_term, wordR := A_wordR, wideR := A_wideR, right := A_right, shows := A_shows, answer := A_answer, isinstance := N_isinstance, int := N_int, bool := N_bool, str := N_str, list := N_list, tuple := N_tuple, len := N_len, all := N_all, abs := N_abs, max := N_max, min := N_min, divmod := N_divmod, range := N_range, repr := N_repr, dict := N_dict, sorted := N_sorted, zip := N_zip, enumerate := N_enumerate, sum := N_sum, small := N_small, digits := N_digits, longest := N_longest, mInputs := N_mInputs, mGates := N_mGates, mRegisters := N_mRegisters, mOutputs := N_mOutputs, push := N_push, popH := N_popH }
  have DT : DicT K w mg := ⟨⟨qdK, eK, nK, PySem.W.mg_of X G aK, ⟨lK, yK, sK⟩, rK⟩, ⟨qdM, eM, nM, PySem.W.mg_of X G aM, ⟨lM, yM, sM⟩, rM⟩⟩
  have CL : Cls K C := ⟨c_pg, c_hd, c_po, c_sa⟩
  have CT : CirT K mg C := { gl := PySem.W.mg_of X G aC, cl := CL, kp := c_kp, makes := c_mk, isC := c_is, ty := fun H a dx fs e => .ins e CL c_ca c_cn c_ct c_cm, eqIn := (by obtain ⟨f, fd, q⟩ := M_eq; exact ⟨f, q.me.at_⟩), n_inputs := c_n_inputs, n_gates := c_n_gates, n_registers := c_n_registers, n_outputs := c_n_outputs, n_sources := c_n_sources, n_kinds := c_n_kinds, n_sequence := c_n_sequence, inputs := M_inputs, gates := M_gates, registers := M_registers, outputs := M_outputs, wires := M_wires, first := M_first, kind := M_kind, sources := M_sources, sequence := M_sequence, cont := M_cont, eq := M_eq, init := M_init }
  refine ⟨fd, [], spLaw K, fun p hp => (by cases hp), fun p hp => (by cases hp), fun p hp => (by cases hp), fun s u => bl s u, fun H a ns hl _ _ hs => ⟨a, ns, rfl, hs, by omega, fun _ => rfl⟩, fun ba kb gb tb => okLaw F T CT DT⟩
end W

set_option Elab.async false
set_option linter.all false
set_option maxRecDepth 100000
open PySem PySem.W PySem.Calls PyProof.Rows
set_option maxRecDepth 100000 in
set_option maxHeartbeats 0 in
theorem PySem.Challenge.cw_wirewords_k61_answers_with_faults_holds : PySem.Challenge.rw_wirewords_k61_answers_with_faults.Holds := by
  w_on; o_law
  refine W.holdsH (by kernel_rfl) (by assumption) ?hw ?hc
  case hw => w_witness2
  case hc =>
   k_fill
   refine G.walk (l := PySem.Challenge.rw_wirewords_k61_answers_with_faults) (most := 63) (n := 11) (x := "_law_script") rfl (by decide) (by kernel_rfl) ⟨rfl, by decide, by decide⟩ (fun w h Y => kIn_of Y) ?F
   case F =>
    intro w mg fa h Y KX G hmg0
    have hmg : mg ("law" : PySem.Str) = some (.ref fa) := by
      have e : (HandSHeadRun.topDef W.rowH.prog 82).name = ("law" : PySem.Str) := by kernel_rfl
      rw [← e]
      exact hmg0
    refine' W.facts KX G hmg ?z_A_integer ?z_A_bit ?z_A_name ?z_A_lst ?z_A_letter ?z_A_word ?z_A_kind ?z_A_numberOf ?z_A_bitOf ?z_A_cInputs ?z_A_isGate ?z_A_cGates ?z_A_isReg ?z_A_cRegs ?z_A_cSources ?z_A_cOutputs ?z_A_cNumber ?z_A_seqOf ?z_A_gateOnRing ?z_A_cNoRing ?z_A_cWire ?z_A_cState ?z_A_cWord ?z_A_isFault ?z_A_cStuck ?z_A_planOf ?z_A_saidBy ?z_A_nextState ?z_A_course ?z_A_cCourse ?z_A_faults ?z_A_cFault ?z_A_pot ?z_A_draw ?z_A_pick ?z_A_lModel ?z_A_lWires ?z_A_lFirst ?z_A_lLetters ?z_A_made ?z_A_lStep ?z_A_lAnswer ?z_A_term ?z_A_wordR ?z_A_wideR ?z_A_right ?z_A_shows ?z_A_answer ?z_A_law ?z_N_isinstance ?z_N_int ?z_N_bool ?z_N_str ?z_N_list ?z_N_tuple ?z_N_len ?z_N_all ?z_N_abs ?z_N_max ?z_N_min ?z_N_divmod ?z_N_range ?z_N_repr ?z_N_dict ?z_N_sorted ?z_N_zip ?z_N_enumerate ?z_N_sum ?z_N_small ?z_N_digits ?z_N_longest ?z_N_mInputs ?z_N_mGates ?z_N_mRegisters ?z_N_mOutputs ?z_N_push ?z_N_popH ?z_aC ?z_c_pg ?z_c_hd ?z_c_po ?z_c_sa ?z_c_kp ?z_c_mk ?z_c_ca ?z_c_cn ?z_c_ct ?z_c_cm ?z_c_is ?z_c_n_inputs ?z_c_n_gates ?z_c_n_registers ?z_c_n_outputs ?z_c_n_sources ?z_c_n_kinds ?z_c_n_sequence ?z_M_inputs ?z_M_gates ?z_M_registers ?z_M_outputs ?z_M_wires ?z_M_first ?z_M_kind ?z_M_sources ?z_M_sequence ?z_M_cont ?z_M_eq ?z_M_init ?z_aK ?z_lK ?z_yK ?z_rK ?z_sK ?z_aM ?z_lM ?z_yM ?z_rM ?z_sM
    case z_A_integer =>
      refine' W.at_mk KX G (fun _ _ _ _ _ _ us hl => match us, hl with | [_], _ => rfl) ?a ?l ?c ?k
      (case a => k_is); (case l => k_is); (case c => k_is); (case k => k_is)
    case z_A_bit =>
      refine' W.at_mk KX G (fun _ _ _ _ _ _ us hl => match us, hl with | [_], _ => rfl) ?a ?l ?c ?k
      (case a => k_is); (case l => k_is); (case c => k_is); (case k => k_is)
    case z_A_name =>
      refine' W.at_mk KX G (fun _ _ _ _ _ _ us hl => match us, hl with | [_], _ => rfl) ?a ?l ?c ?k
      (case a => k_is); (case l => k_is); (case c => k_is); (case k => k_is)
    case z_A_lst =>
      refine' W.at_mk KX G (fun _ _ _ _ _ _ us hl => match us, hl with | [_], _ => rfl) ?a ?l ?c ?k
      (case a => k_is); (case l => k_is); (case c => k_is); (case k => k_is)
    case z_A_letter =>
      refine' W.at_mk KX G (fun _ _ _ _ _ _ us hl => match us, hl with | [_, _], _ => rfl) ?a ?l ?c ?k
      (case a => k_is); (case l => k_is); (case c => k_is); (case k => k_is)
    case z_A_word =>
      refine' W.at_mk KX G (fun _ _ _ _ _ _ us hl => match us, hl with | [_, _], _ => rfl) ?a ?l ?c ?k
      (case a => k_is); (case l => k_is); (case c => k_is); (case k => k_is)
    case z_A_kind =>
      refine' W.at_mk KX G (fun _ _ _ _ _ _ us hl => match us, hl with | [_], _ => rfl) ?a ?l ?c ?k
      (case a => k_is); (case l => k_is); (case c => k_is); (case k => k_is)
    case z_A_numberOf =>
      refine' W.at_mk KX G (fun _ _ _ _ _ _ us hl => match us, hl with | [_], _ => rfl) ?a ?l ?c ?k
      (case a => k_is); (case l => k_is); (case c => k_is); (case k => k_is)
    case z_A_bitOf =>
      refine' W.at_mk KX G (fun _ _ _ _ _ _ us hl => match us, hl with | [_, _], _ => rfl) ?a ?l ?c ?k
      (case a => k_is); (case l => k_is); (case c => k_is); (case k => k_is)
    case z_A_cInputs =>
      refine' W.at_mk KX G (fun _ _ _ _ _ _ us hl => match us, hl with | [_], _ => rfl) ?a ?l ?c ?k
      (case a => k_is); (case l => k_is); (case c => k_is); (case k => k_is)
    case z_A_isGate =>
      refine' W.at_mk KX G (fun _ _ _ _ _ _ us hl => match us, hl with | [_], _ => rfl) ?a ?l ?c ?k
      (case a => k_is); (case l => k_is); (case c => k_is); (case k => k_is)
    case z_A_cGates =>
      refine' W.at_mk KX G (fun _ _ _ _ _ _ us hl => match us, hl with | [_, _], _ => rfl) ?a ?l ?c ?k
      (case a => k_is); (case l => k_is); (case c => k_is); (case k => k_is)
    case z_A_isReg =>
      refine' W.at_mk KX G (fun _ _ _ _ _ _ us hl => match us, hl with | [_], _ => rfl) ?a ?l ?c ?k
      (case a => k_is); (case l => k_is); (case c => k_is); (case k => k_is)
    case z_A_cRegs =>
      refine' W.at_mk KX G (fun _ _ _ _ _ _ us hl => match us, hl with | [_, _], _ => rfl) ?a ?l ?c ?k
      (case a => k_is); (case l => k_is); (case c => k_is); (case k => k_is)
    case z_A_cSources =>
      refine' W.at_mk KX G (fun _ _ _ _ _ _ us hl => match us, hl with | [_, _], _ => rfl) ?a ?l ?c ?k
      (case a => k_is); (case l => k_is); (case c => k_is); (case k => k_is)
    case z_A_cOutputs =>
      refine' W.at_mk KX G (fun _ _ _ _ _ _ us hl => match us, hl with | [_, _], _ => rfl) ?a ?l ?c ?k
      (case a => k_is); (case l => k_is); (case c => k_is); (case k => k_is)
    case z_A_cNumber =>
      refine' W.at_mk KX G (fun _ _ _ _ _ _ us hl => match us, hl with | [_, _, _], _ => rfl) ?a ?l ?c ?k
      (case a => k_is); (case l => k_is); (case c => k_is); (case k => k_is)
    case z_A_seqOf =>
      refine' W.at_mk KX G (fun _ _ _ _ _ _ us hl => match us, hl with | [_], _ => rfl) ?a ?l ?c ?k
      (case a => k_is); (case l => k_is); (case c => k_is); (case k => k_is)
    case z_A_gateOnRing =>
      refine' W.at_mk KX G (fun _ _ _ _ _ _ us hl => match us, hl with | [_], _ => rfl) ?a ?l ?c ?k
      (case a => k_is); (case l => k_is); (case c => k_is); (case k => k_is)
    case z_A_cNoRing =>
      refine' W.at_mk KX G (fun _ _ _ _ _ _ us hl => match us, hl with | [_], _ => rfl) ?a ?l ?c ?k
      (case a => k_is); (case l => k_is); (case c => k_is); (case k => k_is)
    case z_A_cWire =>
      refine' W.at_mk KX G (fun _ _ _ _ _ _ us hl => match us, hl with | [_, _], _ => rfl) ?a ?l ?c ?k
      (case a => k_is); (case l => k_is); (case c => k_is); (case k => k_is)
    case z_A_cState =>
      refine' W.at_mk KX G (fun _ _ _ _ _ _ us hl => match us, hl with | [_, _], _ => rfl) ?a ?l ?c ?k
      (case a => k_is); (case l => k_is); (case c => k_is); (case k => k_is)
    case z_A_cWord =>
      refine' W.at_mk KX G (fun _ _ _ _ _ _ us hl => match us, hl with | [_, _], _ => rfl) ?a ?l ?c ?k
      (case a => k_is); (case l => k_is); (case c => k_is); (case k => k_is)
    case z_A_isFault =>
      refine' W.at_mk KX G (fun _ _ _ _ _ _ us hl => match us, hl with | [_, _], _ => rfl) ?a ?l ?c ?k
      (case a => k_is); (case l => k_is); (case c => k_is); (case k => k_is)
    case z_A_cStuck =>
      refine' W.at_mk KX G (fun _ _ _ _ _ _ us hl => match us, hl with | [_, _], _ => rfl) ?a ?l ?c ?k
      (case a => k_is); (case l => k_is); (case c => k_is); (case k => k_is)
    case z_A_planOf =>
      refine' W.at_mk KX G (fun _ _ _ _ _ _ us hl => match us, hl with | [_], _ => rfl) ?a ?l ?c ?k
      (case a => k_is); (case l => k_is); (case c => k_is); (case k => k_is)
    case z_A_saidBy =>
      refine' W.at_mk KX G (fun _ _ _ _ _ _ us hl => match us, hl with | [_, _, _, _, _], _ => rfl) ?a ?l ?c ?k
      (case a => k_is); (case l => k_is); (case c => k_is); (case k => k_is)
    case z_A_nextState =>
      refine' W.at_mk KX G (fun _ _ _ _ _ _ us hl => match us, hl with | [_, _], _ => rfl) ?a ?l ?c ?k
      (case a => k_is); (case l => k_is); (case c => k_is); (case k => k_is)
    case z_A_course =>
      refine' W.at_mk KX G (fun _ _ _ _ _ _ us hl => match us, hl with | [_, _, _, _, _], _ => rfl) ?a ?l ?c ?k
      (case a => k_is); (case l => k_is); (case c => k_is); (case k => k_is)
    case z_A_cCourse =>
      refine' W.at_mk KX G (fun _ _ _ _ _ _ us hl => match us, hl with | [_, _, _, _], _ => rfl) ?a ?l ?c ?k
      (case a => k_is); (case l => k_is); (case c => k_is); (case k => k_is)
    case z_A_faults =>
      refine' W.at_mk KX G (fun _ _ _ _ _ _ us hl => match us, hl with | [_], _ => rfl) ?a ?l ?c ?k
      (case a => k_is); (case l => k_is); (case c => k_is); (case k => k_is)
    case z_A_cFault =>
      refine' W.at_mk KX G (fun _ _ _ _ _ _ us hl => match us, hl with | [_, _], _ => rfl) ?a ?l ?c ?k
      (case a => k_is); (case l => k_is); (case c => k_is); (case k => k_is)
    case z_A_pot =>
      refine' W.at_mk KX G (fun _ _ _ _ _ _ us hl => match us, hl with | [_, _], _ => rfl) ?a ?l ?c ?k
      (case a => k_is); (case l => k_is); (case c => k_is); (case k => k_is)
    case z_A_draw =>
      refine' W.at_mk KX G (fun _ _ _ _ _ _ us hl => match us, hl with | [_, _], _ => rfl) ?a ?l ?c ?k
      (case a => k_is); (case l => k_is); (case c => k_is); (case k => k_is)
    case z_A_pick =>
      refine' W.at_mk KX G (fun _ _ _ _ _ _ us hl => match us, hl with | [_, _], _ => rfl) ?a ?l ?c ?k
      (case a => k_is); (case l => k_is); (case c => k_is); (case k => k_is)
    case z_A_lModel =>
      refine' W.at_mk KX G (fun _ _ _ _ _ _ us hl => match us, hl with | [_, _], _ => rfl) ?a ?l ?c ?k
      (case a => k_is); (case l => k_is); (case c => k_is); (case k => k_is)
    case z_A_lWires =>
      refine' W.at_mk KX G (fun _ _ _ _ _ _ us hl => match us, hl with | [_], _ => rfl) ?a ?l ?c ?k
      (case a => k_is); (case l => k_is); (case c => k_is); (case k => k_is)
    case z_A_lFirst =>
      refine' W.at_mk KX G (fun _ _ _ _ _ _ us hl => match us, hl with | [_], _ => rfl) ?a ?l ?c ?k
      (case a => k_is); (case l => k_is); (case c => k_is); (case k => k_is)
    case z_A_lLetters =>
      refine' W.at_mk KX G (fun _ _ _ _ _ _ us hl => match us, hl with | [_], _ => rfl) ?a ?l ?c ?k
      (case a => k_is); (case l => k_is); (case c => k_is); (case k => k_is)
    case z_A_made =>
      refine' W.at_mk KX G (fun _ _ _ _ _ _ us hl => match us, hl with | [_, _], _ => rfl) ?a ?l ?c ?k
      (case a => k_is); (case l => k_is); (case c => k_is); (case k => k_is)
    case z_A_lStep =>
      refine' W.at_mk KX G (fun _ _ _ _ _ _ us hl => match us, hl with | [_, _, _, _], _ => rfl) ?a ?l ?c ?k
      (case a => k_is); (case l => k_is); (case c => k_is); (case k => k_is)
    case z_A_lAnswer =>
      refine' W.at_mk KX G (fun _ _ _ _ _ _ us hl => match us, hl with | [_, _, _], _ => rfl) ?a ?l ?c ?k
      (case a => k_is); (case l => k_is); (case c => k_is); (case k => k_is)
    case z_A_term =>
      refine' W.at_mk KX G (fun _ _ _ _ _ _ us hl => match us, hl with | [_, _, _], _ => rfl) ?a ?l ?c ?k
      (case a => k_is); (case l => k_is); (case c => k_is); (case k => k_is)
    case z_A_wordR =>
      refine' W.at_mk KX G (fun _ _ _ _ _ _ us hl => match us, hl with | [_, _, _, _, _], _ => rfl) ?a ?l ?c ?k
      (case a => k_is); (case l => k_is); (case c => k_is); (case k => k_is)
    case z_A_wideR =>
      refine' W.at_mk KX G (fun _ _ _ _ _ _ us hl => match us, hl with | [_], _ => rfl) ?a ?l ?c ?k
      (case a => k_is); (case l => k_is); (case c => k_is); (case k => k_is)
    case z_A_right =>
      refine' W.at_mk KX G (fun _ _ _ _ _ _ us hl => match us, hl with | [_], _ => rfl) ?a ?l ?c ?k
      (case a => k_is); (case l => k_is); (case c => k_is); (case k => k_is)
    case z_A_shows =>
      refine' W.atD_mk KX G ?a ?l ?lT ?r ?ne ?c ?k (fun _ _ _ _ _ _ _ us its hl hi => match us, its, hl, hi with | [_, _, _, _], [_], _, _ => ⟨_, rfl, rfl⟩)
      (case a => k_is); (case l => k_is); (case lT => k_is); (case r => exact (.cons rfl .nil)); (case ne => exact List.cons_ne_nil _ _); (case c => k_is); (case k => k_is)
    case z_A_answer =>
      refine' W.atD_mk KX G ?a ?l ?lT ?r ?ne ?c ?k (fun _ _ _ _ _ _ _ us its hl hi => match us, its, hl, hi with | [_, _, _, _], [_, _], _, _ => ⟨_, rfl, rfl⟩)
      (case a => k_is); (case l => k_is); (case lT => k_is); (case r => exact (.cons rfl (.cons rfl .nil))); (case ne => exact List.cons_ne_nil _ _); (case c => k_is); (case k => k_is)
    case z_A_law =>
      refine' W.at_mk KX G (fun _ _ _ _ _ _ us hl => match us, hl with | [_], _ => rfl) ?a ?l ?c ?k
      (case a => k_is); (case l => k_is); (case c => k_is); (case k => k_is)
    case z_N_isinstance =>
      refine' W.none_mk KX G ?a
      (case a => k_is)
    case z_N_int =>
      refine' W.none_mk KX G ?a
      (case a => k_is)
    case z_N_bool =>
      refine' W.none_mk KX G ?a
      (case a => k_is)
    case z_N_str =>
      refine' W.none_mk KX G ?a
      (case a => k_is)
    case z_N_list =>
      refine' W.none_mk KX G ?a
      (case a => k_is)
    case z_N_tuple =>
      refine' W.none_mk KX G ?a
      (case a => k_is)
    case z_N_len =>
      refine' W.none_mk KX G ?a
      (case a => k_is)
    case z_N_all =>
      refine' W.none_mk KX G ?a
      (case a => k_is)
    case z_N_abs =>
      refine' W.none_mk KX G ?a
      (case a => k_is)
    case z_N_max =>
      refine' W.none_mk KX G ?a
      (case a => k_is)
    case z_N_min =>
      refine' W.none_mk KX G ?a
      (case a => k_is)
    case z_N_divmod =>
      refine' W.none_mk KX G ?a
      (case a => k_is)
    case z_N_range =>
      refine' W.none_mk KX G ?a
      (case a => k_is)
    case z_N_repr =>
      refine' W.none_mk KX G ?a
      (case a => k_is)
    case z_N_dict =>
      refine' W.none_mk KX G ?a
      (case a => k_is)
    case z_N_sorted =>
      refine' W.none_mk KX G ?a
      (case a => k_is)
    case z_N_zip =>
      refine' W.none_mk KX G ?a
      (case a => k_is)
    case z_N_enumerate =>
      refine' W.none_mk KX G ?a
      (case a => k_is)
    case z_N_sum =>
      refine' W.none_mk KX G ?a
      (case a => k_is)
    case z_N_small =>
      refine' W.str_mk KX G ?a
      (case a => k_is)
    case z_N_digits =>
      refine' W.str_mk KX G ?a
      (case a => k_is)
    case z_N_longest =>
      refine' W.int_mk KX G ?a
      (case a => k_is)
    case z_N_mInputs =>
      refine' W.int_mk KX G ?a
      (case a => k_is)
    case z_N_mGates =>
      refine' W.int_mk KX G ?a
      (case a => k_is)
    case z_N_mRegisters =>
      refine' W.int_mk KX G ?a
      (case a => k_is)
    case z_N_mOutputs =>
      refine' W.int_mk KX G ?a
      (case a => k_is)
    case z_N_push =>
      refine' W.val_mk KX G ?a
      (case a => k_is)
    case z_N_popH =>
      refine' W.val_mk KX G ?a
      (case a => k_is)
    case z_aC => k_is
    case z_c_pg => k_is
    case z_c_hd => k_is
    case z_c_po => k_is
    case z_c_sa => k_is
    case z_c_kp => k_is
    case z_c_mk => k_is
    case z_c_ca => k_is
    case z_c_cn => k_is
    case z_c_ct => k_is
    case z_c_cm => k_is
    case z_c_is => kit_is
    case z_c_n_inputs => k_is
    case z_c_n_gates => k_is
    case z_c_n_registers => k_is
    case z_c_n_outputs => k_is
    case z_c_n_sources => k_is
    case z_c_n_kinds => k_is
    case z_c_n_sequence => k_is
    case z_M_inputs =>
      refine' W.mth_mk (fun _ _ _ _ _ _ us hl => match us, hl with | [_], _ => rfl) ?l ?c ?k ?fnd ?fn
      (case fnd => k_is); (case l => k_is); (case c => k_is); (case k => k_is); (case fn => k_is)
    case z_M_gates =>
      refine' W.mth_mk (fun _ _ _ _ _ _ us hl => match us, hl with | [_], _ => rfl) ?l ?c ?k ?fnd ?fn
      (case fnd => k_is); (case l => k_is); (case c => k_is); (case k => k_is); (case fn => k_is)
    case z_M_registers =>
      refine' W.mth_mk (fun _ _ _ _ _ _ us hl => match us, hl with | [_], _ => rfl) ?l ?c ?k ?fnd ?fn
      (case fnd => k_is); (case l => k_is); (case c => k_is); (case k => k_is); (case fn => k_is)
    case z_M_outputs =>
      refine' W.mth_mk (fun _ _ _ _ _ _ us hl => match us, hl with | [_], _ => rfl) ?l ?c ?k ?fnd ?fn
      (case fnd => k_is); (case l => k_is); (case c => k_is); (case k => k_is); (case fn => k_is)
    case z_M_wires =>
      refine' W.mth_mk (fun _ _ _ _ _ _ us hl => match us, hl with | [_], _ => rfl) ?l ?c ?k ?fnd ?fn
      (case fnd => k_is); (case l => k_is); (case c => k_is); (case k => k_is); (case fn => k_is)
    case z_M_first =>
      refine' W.mth_mk (fun _ _ _ _ _ _ us hl => match us, hl with | [_], _ => rfl) ?l ?c ?k ?fnd ?fn
      (case fnd => k_is); (case l => k_is); (case c => k_is); (case k => k_is); (case fn => k_is)
    case z_M_kind =>
      refine' W.mth_mk (fun _ _ _ _ _ _ us hl => match us, hl with | [_, _], _ => rfl) ?l ?c ?k ?fnd ?fn
      (case fnd => k_is); (case l => k_is); (case c => k_is); (case k => k_is); (case fn => k_is)
    case z_M_sources =>
      refine' W.mth_mk (fun _ _ _ _ _ _ us hl => match us, hl with | [_, _], _ => rfl) ?l ?c ?k ?fnd ?fn
      (case fnd => k_is); (case l => k_is); (case c => k_is); (case k => k_is); (case fn => k_is)
    case z_M_sequence =>
      refine' W.mth_mk (fun _ _ _ _ _ _ us hl => match us, hl with | [_], _ => rfl) ?l ?c ?k ?fnd ?fn
      (case fnd => k_is); (case l => k_is); (case c => k_is); (case k => k_is); (case fn => k_is)
    case z_M_cont =>
      refine' W.mth_mk (fun _ _ _ _ _ _ us hl => match us, hl with | [_, _], _ => rfl) ?l ?c ?k ?fnd ?fn
      (case fnd => k_is); (case l => k_is); (case c => k_is); (case k => k_is); (case fn => k_is)
    case z_M_eq =>
      refine' W.mth_mk (fun _ _ _ _ _ _ us hl => match us, hl with | [_, _], _ => rfl) ?l ?c ?k ?fnd ?fn
      (case fnd => k_is); (case l => k_is); (case c => k_is); (case k => k_is); (case fn => k_is)
    case z_M_init =>
      refine' W.init_mk ?l ?lT ?r ?c ?k ?fnd ?fn ?b
      (case fnd => k_is); (case l => k_is); (case lT => k_is); (case r => exact .cons (a := L2.V.ref _) rfl (.cons (a := L2.V.ref _) rfl (.cons (a := L2.V.ref _) rfl .nil))); (case c => k_is); (case k => k_is); (case fn => k_is); (case b => exact (fun _ _ _ _ _ _ _ us its hl hi => match us, its, hl, hi with | [_, _, _, _, _], [_, _, _], _, _ => ⟨_, rfl, rfl⟩))
    case z_aK => k_is
    case z_lK => k_is
    case z_yK => k_keys
    case z_aM => k_is
    case z_lM => k_is
    case z_yM => k_keys
    case z_rK => exact (.cons ⟨_, rfl⟩ ⟨_, rfl⟩ (.cons ⟨_, rfl⟩ ⟨_, rfl⟩ (.cons ⟨_, rfl⟩ ⟨_, rfl⟩ (.cons ⟨_, rfl⟩ ⟨_, rfl⟩ (.cons ⟨_, rfl⟩ ⟨_, rfl⟩ (.cons ⟨_, rfl⟩ ⟨_, rfl⟩ (.cons ⟨_, rfl⟩ ⟨_, rfl⟩ .nil)))))))
    case z_rM => exact (.cons ⟨_, rfl⟩ (W.isBits_mk (by k_is) (by first | exact .nil | exact .cons ⟨_, rfl⟩ .nil | exact .cons ⟨_, rfl⟩ (.cons ⟨_, rfl⟩ .nil) | exact .cons ⟨_, rfl⟩ (.cons ⟨_, rfl⟩ (.cons ⟨_, rfl⟩ (.cons ⟨_, rfl⟩ .nil))) | exact .cons ⟨_, rfl⟩ (.cons ⟨_, rfl⟩ (.cons ⟨_, rfl⟩ (.cons ⟨_, rfl⟩ (.cons ⟨_, rfl⟩ (.cons ⟨_, rfl⟩ (.cons ⟨_, rfl⟩ (.cons ⟨_, rfl⟩ .nil))))))) ) (by decide)) (.cons ⟨_, rfl⟩ (W.isBits_mk (by k_is) (by first | exact .nil | exact .cons ⟨_, rfl⟩ .nil | exact .cons ⟨_, rfl⟩ (.cons ⟨_, rfl⟩ .nil) | exact .cons ⟨_, rfl⟩ (.cons ⟨_, rfl⟩ (.cons ⟨_, rfl⟩ (.cons ⟨_, rfl⟩ .nil))) | exact .cons ⟨_, rfl⟩ (.cons ⟨_, rfl⟩ (.cons ⟨_, rfl⟩ (.cons ⟨_, rfl⟩ (.cons ⟨_, rfl⟩ (.cons ⟨_, rfl⟩ (.cons ⟨_, rfl⟩ (.cons ⟨_, rfl⟩ .nil))))))) ) (by decide)) (.cons ⟨_, rfl⟩ (W.isBits_mk (by k_is) (by first | exact .nil | exact .cons ⟨_, rfl⟩ .nil | exact .cons ⟨_, rfl⟩ (.cons ⟨_, rfl⟩ .nil) | exact .cons ⟨_, rfl⟩ (.cons ⟨_, rfl⟩ (.cons ⟨_, rfl⟩ (.cons ⟨_, rfl⟩ .nil))) | exact .cons ⟨_, rfl⟩ (.cons ⟨_, rfl⟩ (.cons ⟨_, rfl⟩ (.cons ⟨_, rfl⟩ (.cons ⟨_, rfl⟩ (.cons ⟨_, rfl⟩ (.cons ⟨_, rfl⟩ (.cons ⟨_, rfl⟩ .nil))))))) ) (by decide)) (.cons ⟨_, rfl⟩ (W.isBits_mk (by k_is) (by first | exact .nil | exact .cons ⟨_, rfl⟩ .nil | exact .cons ⟨_, rfl⟩ (.cons ⟨_, rfl⟩ .nil) | exact .cons ⟨_, rfl⟩ (.cons ⟨_, rfl⟩ (.cons ⟨_, rfl⟩ (.cons ⟨_, rfl⟩ .nil))) | exact .cons ⟨_, rfl⟩ (.cons ⟨_, rfl⟩ (.cons ⟨_, rfl⟩ (.cons ⟨_, rfl⟩ (.cons ⟨_, rfl⟩ (.cons ⟨_, rfl⟩ (.cons ⟨_, rfl⟩ (.cons ⟨_, rfl⟩ .nil))))))) ) (by decide)) (.cons ⟨_, rfl⟩ (W.isBits_mk (by k_is) (by first | exact .nil | exact .cons ⟨_, rfl⟩ .nil | exact .cons ⟨_, rfl⟩ (.cons ⟨_, rfl⟩ .nil) | exact .cons ⟨_, rfl⟩ (.cons ⟨_, rfl⟩ (.cons ⟨_, rfl⟩ (.cons ⟨_, rfl⟩ .nil))) | exact .cons ⟨_, rfl⟩ (.cons ⟨_, rfl⟩ (.cons ⟨_, rfl⟩ (.cons ⟨_, rfl⟩ (.cons ⟨_, rfl⟩ (.cons ⟨_, rfl⟩ (.cons ⟨_, rfl⟩ (.cons ⟨_, rfl⟩ .nil))))))) ) (by decide)) (.cons ⟨_, rfl⟩ (W.isBits_mk (by k_is) (by first | exact .nil | exact .cons ⟨_, rfl⟩ .nil | exact .cons ⟨_, rfl⟩ (.cons ⟨_, rfl⟩ .nil) | exact .cons ⟨_, rfl⟩ (.cons ⟨_, rfl⟩ (.cons ⟨_, rfl⟩ (.cons ⟨_, rfl⟩ .nil))) | exact .cons ⟨_, rfl⟩ (.cons ⟨_, rfl⟩ (.cons ⟨_, rfl⟩ (.cons ⟨_, rfl⟩ (.cons ⟨_, rfl⟩ (.cons ⟨_, rfl⟩ (.cons ⟨_, rfl⟩ (.cons ⟨_, rfl⟩ .nil))))))) ) (by decide)) (.cons ⟨_, rfl⟩ (W.isBits_mk (by k_is) (by first | exact .nil | exact .cons ⟨_, rfl⟩ .nil | exact .cons ⟨_, rfl⟩ (.cons ⟨_, rfl⟩ .nil) | exact .cons ⟨_, rfl⟩ (.cons ⟨_, rfl⟩ (.cons ⟨_, rfl⟩ (.cons ⟨_, rfl⟩ .nil))) | exact .cons ⟨_, rfl⟩ (.cons ⟨_, rfl⟩ (.cons ⟨_, rfl⟩ (.cons ⟨_, rfl⟩ (.cons ⟨_, rfl⟩ (.cons ⟨_, rfl⟩ (.cons ⟨_, rfl⟩ (.cons ⟨_, rfl⟩ .nil))))))) ) (by decide)) .nil)))))))
    case z_sK => decide
    case z_sM => decide

