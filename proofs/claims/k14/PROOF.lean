import PyProof.Rows.All
import Wide.All
import OpenK.AllK
import Wide.FinOn
import HandS.Ends
import HandS.Lambda
import KE.KNestM
import KE.OsRunLaw
import HandS.Head2
import PySem.Challenge.RW_wirewords_k14_runs_refused
import HandS.ForMost
import HandS.Exc
import HandS.ExcOwn
import HandS.TryOnly
import HandS.TryMany
import HandS.ExcInit
import HandS.WordsExc
import HandS.IsInst
import HandS.Walk
import HandS.Evl
import HandS.TupMul
import HandS.TupAny
import HandS.ExcField
import HandS.ExcIs
import KE.SortData
import PyProof.WalkLemmas
import HandS.Set
import HandS.SetBool
import HandS.More
import OpenK.KMeth
import HandS.OwnEq
import HandS.DictComp
import HandS.Zip
import HandS.ListItems
import KE.KDictZip
import KE.KDictItemsList
import KE.KItemsList
import HandS.Defaults
import HandS.Gcd
import HandS.EndTab
import HandS.Style
import KE.KExcIs
import KE.KExcInit
import PyProof.StrOps2
import PyProof.Rows.StrMul
import HandS.MakeKw
import HandS.Words
set_option Elab.async false
set_option linter.all false
set_option maxRecDepth 100000
section
set_option maxHeartbeats 0
namespace W
def loose0 : List PySem.Str := ["heappop", "heappush", "_wall", "__name__", "WireError", "MissingError", "LimitError", "InvalidInputs", "InvalidGates", "InvalidRegisters", "InvalidOutputs", "InvalidLetter", "InvalidWord", "InvalidState", "InvalidFault", "GateRing", "UnknownWire", "TooMany"]
def loose1 : List PySem.Str := ["KINDS", "MADE", "SMALL", "DIGITS", "LONGEST_NAME", "is_integer", "is_bit", "is_name", "is_list", "is_letter", "is_word", "is_kind", "number_of", "bit_of", "check_inputs", "is_gate", "check_gates", "is_register"]
def loose2 : List PySem.Str := ["check_registers", "check_sources", "check_outputs", "check_number", "sequence_of", "leads_back", "gate_on_ring", "check_no_ring", "check_wire", "check_state", "check_letter", "check_word", "is_fault", "check_stuck", "plan_of", "said_by", "next_state", "course"]
def loose3 : List PySem.Str := ["check_course", "check_step", "values", "step", "answer", "states_along", "told", "MOST_INPUTS", "MOST_GATES", "MOST_REGISTERS", "MOST_OUTPUTS", "Circuit", "_law_size", "_law_pot", "_law_draw", "_law_pick", "_law_mixed", "_law_plan"]
def loose4 : List PySem.Str := ["_law_circuit", "_law_tags", "_law_heard", "_law_no_bits", "_law_no_words", "_law_no_faults", "_law_steps_right", "_law_words_right", "_law_right"]
def looseH : List PySem.Str := loose0 ++ loose1 ++ loose2 ++ loose3 ++ loose4
end W
namespace W
def asH0 : List PySem.Addr := [2, 3, 43, 45, 46, 48, 49, 50, 57, 58, 59, 60, 63, 70, 71, 72, 73, 76, 83, 84, 85, 86, 89, 96, 98, 99, 101, 102, 103, 104, 105, 108, 115, 117, 118, 120, 121, 122, 123, 124, 127, 134, 136, 137, 139, 140, 141, 142, 143, 146, 153, 155, 156, 158, 159, 160, 161, 162, 165, 172]
def asH1 : List PySem.Addr := [174, 175, 177, 178, 179, 180, 181, 184, 191, 193, 194, 196, 197, 198, 199, 200, 203, 210, 212, 213, 215, 216, 217, 218, 219, 222, 229, 231, 232, 234, 235, 236, 237, 238, 241, 248, 250, 251, 253, 254, 255, 256, 257, 260, 267, 269, 270, 272, 273, 274, 275, 276, 279, 286, 288, 289, 291, 292, 293, 294]
def asH2 : List PySem.Addr := [295, 298, 299, 300, 301, 302, 303, 304, 305, 306, 307, 309, 310, 312, 313, 314, 316, 317, 319, 320, 321, 324, 325, 326, 328, 329, 331, 332, 333, 336, 337, 338, 341, 342, 343, 345, 346, 348, 349, 350, 352, 353, 355, 356, 357, 359, 360, 362, 363, 364, 366, 367, 369, 370, 371, 374, 375, 376, 379, 380]
def asH3 : List PySem.Addr := [381, 383, 384, 386, 387, 388, 391, 392, 393, 395, 396, 398, 399, 400, 402, 403, 405, 406, 407, 409, 410, 412, 413, 414, 417, 418, 419, 421, 422, 424, 425, 426, 429, 430, 431, 433, 434, 436, 437, 438, 440, 441, 443, 444, 445, 447, 448, 450, 451, 452, 454, 455, 457, 458, 459, 461, 462, 464, 465, 466]
def asH4 : List PySem.Addr := [468, 469, 471, 472, 473, 475, 476, 478, 479, 480, 483, 484, 485, 488, 489, 490, 493, 494, 495, 498, 499, 500, 502, 503, 505, 506, 507, 509, 510, 512, 513, 514, 515, 518, 519, 520, 521, 524, 525, 526, 527, 529, 530, 532, 533, 534, 535, 537, 538, 540, 541, 542, 543, 546, 547, 555, 556, 557, 558, 559]
def asH5 : List PySem.Addr := [562, 563, 564, 566, 567, 569, 570, 571, 574, 575, 576, 578, 579, 581, 582, 583, 585, 586, 588, 589, 590, 592, 593, 595, 596, 597, 600, 601, 602, 604, 605, 607, 608, 609, 611, 612, 614, 615, 616, 618, 619, 621, 622, 623, 625, 626, 628, 629, 630, 632, 633, 635, 636, 637, 639, 640, 642, 643, 644, 646]
def asH6 : List PySem.Addr := [647, 649, 650, 651, 653, 654, 656, 657, 658, 660, 661, 663, 664, 665, 666, 667, 668, 669, 672, 674, 675, 677, 678, 679, 681, 682, 684, 685, 686, 688, 689, 691, 692, 693, 695, 696, 698, 699, 700, 702, 703, 705, 706, 707, 710, 711, 712, 714, 715, 717, 718, 719, 722, 723, 724, 726, 727, 729, 730, 731]
def asH7 : List PySem.Addr := [733, 734, 736, 737, 738, 741, 742, 743, 745, 746, 748, 749, 750, 752, 753, 755, 756, 757, 759, 760, 762, 763, 764, 766, 767, 769, 770, 771, 773, 774, 776, 777]
def asH : List PySem.Addr := asH0 ++ (asH1 ++ (asH2 ++ (asH3 ++ (asH4 ++ (asH5 ++ (asH6 ++ (asH7)))))))
def tsH : List PySem.Addr := [758, 751]
abbrev rowH : PySem.W.OpenRow := PySem.W.OpenLaw.row PySem.Challenge.rw_wirewords_k14_runs_refused
abbrev qH : PySem.Program := PySem.W.view rowH.prog [85]
end W
section
open PySem PySem.W PySem.Calls PyProof.Rows
local macro_rules | `(tactic| o_head $H) => `(tactic| (have hk := congrArg Hook.says (Eq.refl $H); assumption))
theorem W.headT (h : W.rowH.Holds) : W.rowH.Holds := by
  k_head
theorem W.ekH : ∀ P, W.asH = (W.headT.heap_1 P).map (·.1) := fun _ => by kernel_rfl
noncomputable abbrev W.hookH : Hook := kmHook W.headT.heap_1 W.asH W.ekH W.tsH
def W.RunH (w : World) : Prop := (HeadRun.wholeF (fun p => HeadRun.stepQ (HeadRun.denQ HeadRun.tabQ) p w) HeadRun.fenceQ 14000 W.rowH.prog).map (fun x => (HeadRun.looksF W.rowH.prog x.1.heap x.2.abs, HeadRun.seenQ W.qH W.looseH (importedModules W.rowH.prog.main.body) (fun s => xlAt W.qH [] s && recOk W.rowH.records s) x.2.abs, (W.asH.map (HeadRun.getT x.2), W.tsH.map (HeadRun.getT x.2)))) = some (true, openGood W.qH W.looseH, ((W.headT.heap_1 w.params).map fun x => some x.2, W.tsH.map fun _ => some (tabObj #[])))
theorem W.run0 (w : World) : W.RunH (w.withFollow "special-get-raises" false) := by
  unfold W.RunH
  kernel_rfl
theorem W.run1 (w : World) : W.RunH (w.withFollow "special-get-raises" true) := by
  unfold W.RunH
  kernel_rfl
/-- the run tells what the Hook asks of the objects and of the tables -/
theorem W.leftH : LeftO W.rowH.prog W.qH W.looseH (fun s => xlAt W.qH [] s && recOk W.rowH.records s) (Hook.obs W.hookH) (Hook.val W.hookH) 14000 true :=
  HeadRun.left_imp fun w => by
    have told : W.RunH w := byRow2 "special-get-raises" W.run0 W.run1 w
    unfold W.RunH at told
    have same : (fun x : Shared × SharedT => (HeadRun.looksF W.rowH.prog x.1.heap x.2.abs, HeadRun.seenQ W.qH W.looseH (importedModules W.rowH.prog.main.body) (fun s => xlAt W.qH [] s && recOk W.rowH.records s) x.2.abs, (W.asH.map (HeadRun.getT x.2), W.tsH.map (HeadRun.getT x.2)))) = fun x => (HeadRun.looksF W.rowH.prog x.1.heap x.2.abs, HeadRun.seenQ W.qH W.looseH (importedModules W.rowH.prog.main.body) (fun s => xlAt W.qH [] s && recOk W.rowH.records s) x.2.abs, Hook.obs W.hookH x.2.abs) := by
      funext x
      have g : ∀ l : List Addr, l.map (HeadRun.getT x.2) = l.map x.2.abs.heap.get? := fun l => List.map_congr_left fun a _ => HeadRun.getT_eq x.2 a
      rw [g W.asH, g W.tsH]
      rfl
    rw [same] at told
    rw [HeadRun.wholeQ_eq]
    simp only [HeadRun.seenQ_eq]
    exact told
theorem W.holdsH (hp : W.rowH.prog.theDef W.rowH.name = some ((HandSHeadRun.topDef W.rowH.prog 85).params, (HandSHeadRun.topDef W.rowH.prog 85).body, (HandSHeadRun.topDef W.rowH.prog 85).scope)) (said : W.rowH.wellSaid = true) (hw : W.rowH.toRowW.promised)
    (hc : WalkO W.qH W.looseH (XL W.qH []) W.hookH.says W.rowH.toRowW (HandSHeadRun.topDef W.rowH.prog 85) [] fun f vs => PySem.call f vs) : W.rowH.Holds :=
  holds_open (r := W.rowH) (q := W.qH) (loose := W.looseH) (Xt := fun s => xlAt W.qH [] s && recOk W.rowH.records s) (XP := XL W.qH []) (d := HandSHeadRun.topDef W.rowH.prog 85) (kwd := []) W.leftH (Hook.of _) (Hook.keeps _) (fun s e => xl_of s (Bool.and_eq_true_iff.mp e).1) XL.keeps (by kernel_rfl) hp (by kernel_rfl)
    (fun s e => recFacts_of (Bool.and_eq_true_iff.mp e).2) (by rfl) said (by decide +kernel) ⟨rfl, rfl, rfl, rfl, rfl, by decide +kernel⟩ hw hc
end

end

set_option Elab.async false
set_option linter.all false
set_option maxRecDepth 100000
set_option maxHeartbeats 4000000
/-! A def's promise where no repr is under way: what the callers' stack tells of guards is carried with the room. -/
namespace G
open PySem PySem.Spec PyProof.Rows L2

/-- room for n calls, and no repr under way -/
structure Rm (n : Nat) (B : Around) : Prop where
  rm : Room n B
  gd : B.guards = some []
theorem Rm.mono {i n : Nat} {B : Around} (q : Rm n B) (h : i ≤ n) : Rm i B := ⟨q.rm.mono h, q.gd⟩
theorem Rm.deeper {n : Nat} {B : Around} (q : Rm (n + 1) B) (env : Env) : Rm n (B.deeper env) := ⟨q.rm.deeper env, q.gd⟩

/-- the def at fa keeps its promise wherever no repr is under way -/
structure Fn (pr : Program) (wo : World) (KK : PySem.W.Frag) (mm : Str → Option Value) (ba : Heap) (CC : CXT) (n : Nat) (fa : Addr) (fd : FuncData) (pars : List Str) (pro : Sp) : Prop where
  ar : ∀ xs HH QQ EE, pro xs HH QQ EE → xs.length = pars.length
  go : ∀ (B : Around) (out : List Env) (st : Shared) (HH : Hp) (gs : Args) (ys : List Value) (xs : List V) (QQ : VK) (EE : XK), Rm n B → Env0 pr wo KK mm ba B out st HH → BindsTo st fd gs (pars.zip ys) → Vals xs ys → pro xs HH QQ EE →
    codeAny (model pr wo) B (.call (.ref fa) gs) (CR CC out pr wo HH st QQ EE) st
section
variable {pr : Program} {wo : World} {KK : PySem.W.Frag} {mm : Str → Option Value} {ba : Heap} {CC : CXT} {i n : Nat} {fa : Addr} {fd : FuncData} {pars : List Str} {pro : Sp}
theorem Fn.mono (F : Fn pr wo KK mm ba CC i fa fd pars pro) (h : i ≤ n) : Fn pr wo KK mm ba CC n fa fd pars pro :=
  ⟨F.ar, fun B out st HH gs ys xs QQ EE q => F.go B out st HH gs ys xs QQ EE (q.mono h)⟩
/-- one of the layer's own promises -/
theorem Fn.of (F : FnOk pr wo KK mm ba CC n fa fd pars pro) : Fn pr wo KK mm ba CC n fa fd pars pro :=
  ⟨F.len, fun B out st HH gs ys xs QQ EE q => F.run B out st HH gs ys xs QQ EE q.rm⟩
theorem ok {x qual : Str} {de : Stmt} {NN : List Str} (F : Fun KK x qual de fa fd) (S : FnScope NN pars (defScope de)) (ar : ∀ xs HH QQ EE, pro xs HH QQ EE → xs.length = pars.length)
    (body : ∀ (cdv : Value) (B : Around) (out : List Env) (st : Shared) (HH : Hp) (xs : List V) (QQ : VK) (EE : XK), Rm n (B.deeper (envOfC qual (defScope de) st.heap.objs.size fa cdv)) → pro xs HH QQ EE →
      ∃ t, PSs (cxOf CC pr wo KK mm ba NN qual (defScope de) fa cdv B out st HH EE) (defBody de) t ∧ t { nx := fun _ H' => QQ .non H', rt := QQ } (L2.start NN xs) HH) : Fn pr wo KK mm ba CC (n + 1) fa fd pars pro := by
  obtain ⟨oc, od, kV, doc, pm, an, cdv, ct, osl, rfl, lk, hcd⟩ := F.ex
  refine ⟨ar, fun B out st HH gs ys xs QQ EE q e0 hb r hp => ?_⟩
  exact LamX.run_ofS lk hcd S q.rm e0 hb r (ar _ _ _ _ hp) fun _ => body cdv B out st HH xs QQ EE (q.deeper _) hp
/-- nothing leaves it by an exception -/
theorem okN {x qual : Str} {de : Stmt} {NN : List Str} (F : Fun KK x qual de fa fd) (S : FnScope NN pars (defScope de)) (ar : ∀ xs HH QQ EE, pro xs HH QQ EE → xs.length = pars.length)
    (body : ∀ (cdv : Value) (B : Around) (out : List Env) (st : Shared) (HH : Hp) (xs : List V) (QQ : VK) (EE : XK), Rm n (B.deeper (envOfC qual (defScope de) st.heap.objs.size fa cdv)) → pro xs HH QQ EE →
      ∃ t, PSs (cxOf CX0 pr wo KK mm ba NN qual (defScope de) fa cdv B out st HH EE).nox (defBody de) t ∧ t { nx := fun _ H' => QQ .non H', rt := QQ } (L2.start NN xs) HH) : Fn pr wo KK mm ba CX0 (n + 1) fa fd pars pro :=
  ok F S ar fun cdv B out st HH xs QQ EE q hp => by
    obtain ⟨t, a, b⟩ := body cdv B out st HH xs QQ EE q hp
    exact ⟨t, a.nox, b⟩
end

section
variable {X : Cx} {CC : CXT} {n : Nat} {fa : Addr} {fd : FuncData} {pars kw : List Str} {pro : Sp} {dv : List V} {du : List Value} {EE : XK} {x : Str} {p q0 : Pos} {e1 : Expr} {er : List Expr} {ta tk : TA} {kws : List Keyword}
  {gU : List Value → List Value → List Value} {gW : List V → List V → List V}
/-- what a call's end gives the caller -/
theorem ended {pins : List (Addr × Obj)} {σ : L2.St} {HH : Hp} {st : Shared} {QQ : VK} {c : Code} (I : Inv X pins σ HH st) (hx : Passes CC X EE)
    (rc : codeAny (model X.prog X.w) X.A c (CR CC X.stack X.prog X.w HH st QQ EE) st) :
    codeAny (model X.prog X.w) X.A c (fun r s' => match r with
      | .ok (.ret u) => EP X pins σ QQ u s'
      | .ok _ => False
      | .error e => X.xe e s') st := codeAny_mono rc fun r s' hq => by
  match r, hq with
  | .error e, hq => exact hx pins σ HH st e s' I hq
  | .ok (.ret u), hq => exact I.after hq
  | .ok .next, hq => exact hq.elim
  | .ok .brk, hq => exact hq.elim
  | .ok .cont, hq => exact hq.elim
theorem run {pins : List (Addr × Obj)} {σ : L2.St} {HH : Hp} {st : Shared} {QQ : VK} {ys : List Value} {xs : List V} (F : Fn X.prog X.w X.K X.mg X.base CC n fa fd pars pro) (q : Rm n X.A) (hb : Binds X.K fd pars du) (hd : Vals dv du) (hx : Passes CC X EE)
    (I : Inv X pins σ HH st) (r : Vals xs ys) (h : pro (xs ++ dv) HH QQ EE) : wpAny (model X.prog X.w) X.A (call (.ref fa) ys) (EP X pins σ QQ) X.xe st := by
  have both : Vals (xs ++ dv) (ys ++ du) := r.append hd
  have many : (ys ++ du).length = pars.length := both.length.symm.trans (F.ar _ _ _ _ h)
  refine wpAny_call (codeAny_mono (ended I hx (F.go X.A X.stack st HH ⟨ys, []⟩ (ys ++ du) (xs ++ dv) QQ EE q I.env0 (hb st ys I.kIn many) both h)) fun r s' w => ?_)
  match r, w with
  | .error e, w => exact w
  | .ok (.ret u), w => exact w
  | .ok .next, w => exact w.elim
  | .ok .brk, w => exact w.elim
  | .ok .cont, w => exact w.elim
/-- f(a, ..) -/
theorem pc (F : Fn X.prog X.w X.K X.mg X.base CC n fa fd pars pro) (q : Rm n X.A) (hg : Gl X x) (hm : X.mg x = some (.ref fa)) (hk : PySem.W.keepIn X.K (.ref fa) = true) (hb : Binds X.K fd pars du) (hd : Vals dv du) (hx : Passes CC X EE)
    (ha : PA X (e1 :: er) ta) (hdb : (x == ("__debug__" : Str)) = false := by decide) (hs : starEach (e1 :: er) X.env = (false, eval e1 X.env) :: starEach er X.env := by rfl)
    (hp : (backTo q0 (starEach er X.env)).any (·.1) = false := by rfl) : PE X (.Call (.Name x p) (e1 :: er) [] q0) (tCall pro dv EE ta) :=
  ⟨fun pins st σ HH QQ I h => wpAny_Call_Name_kw (ld_glob I hg hm (PySem.W.callWith_K (h₀ := X.base) I.ok.mod.kin hk
    (thn (ha.run q0 pins st σ HH _ I h) fun _ _ ⟨_, _, I1, r, w⟩ => ⟨I1.kIn, run F q hb hd hx I1 r w⟩) hs hp) hdb)⟩
/-- f() -/
theorem pc0 (F : Fn X.prog X.w X.K X.mg X.base CC n fa fd pars pro) (q : Rm n X.A) (hg : Gl X x) (hm : X.mg x = some (.ref fa)) (hk : PySem.W.keepIn X.K (.ref fa) = true) (hb : Binds X.K fd pars du) (hd : Vals dv du) (hx : Passes CC X EE)
    (hdb : (x == ("__debug__" : Str)) = false := by decide) : PE X (.Call (.Name x p) [] [] q0) (tCall pro dv EE tNil) :=
  ⟨fun pins st σ HH QQ I h => wpAny_Call_Name_kw (ld_glob I hg hm (PySem.W.callWith_K0 I.kIn hk (run (ys := []) F q hb hd hx I .nil h)) hdb)⟩
theorem runK {pins : List (Addr × Obj)} {σ : L2.St} {HH : Hp} {st : Shared} {QQ : VK} {ys zs : List Value} {xs ws : List V} (F : Fn X.prog X.w X.K X.mg X.base CC n fa fd pars pro) (q : Rm n X.A) (hb : KBinds X.K fd pars kw gU gW) (hx : Passes CC X EE)
    (I : Inv X pins σ HH st) (r : Vals xs ys) (r2 : Vals ws zs) (h : pro (gW xs ws) HH QQ EE) : wpAny (model X.prog X.w) X.A (call (.ref fa) ys (kw.zip zs)) (EP X pins σ QQ) X.xe st := by
  have both := hb.rel r r2
  have many : (gU ys zs).length = pars.length := both.length.symm.trans (F.ar _ _ _ _ h)
  refine wpAny_call (codeAny_mono (ended I hx (F.go X.A X.stack st HH ⟨ys, kw.zip zs⟩ (gU ys zs) (gW xs ws) QQ EE q I.env0 (hb.to st ys zs I.kIn many) both h)) fun r s' w => ?_)
  match r, w with
  | .error e, w => exact w
  | .ok (.ret u), w => exact w
  | .ok .next, w => exact w.elim
  | .ok .brk, w => exact w.elim
  | .ok .cont, w => exact w.elim
/-- f(a, .., k = b, ..) -/
theorem pcK (F : Fn X.prog X.w X.K X.mg X.base CC n fa fd pars pro) (q : Rm n X.A) (hg : Gl X x) (hm : X.mg x = some (.ref fa)) (hk : PySem.W.keepIn X.K (.ref fa) = true) (hb : KBinds X.K fd pars kw gU gW) (hx : Passes CC X EE)
    (ha : PA X (e1 :: er) ta) (hkw : PK X kws tk) (h1 : (backToKw q0 (keywordEach kws X.env)).all (·.1.isSome) = true := by rfl) (h2 : (backToKw q0 (keywordEach kws X.env)).filterMap (·.1) = kw := by rfl)
    (hdb : (x == ("__debug__" : Str)) = false := by decide) (hs : starEach (e1 :: er) X.env = (false, eval e1 X.env) :: starEach er X.env := by rfl)
    (h3 : ((backTo q0 (starEach (e1 :: er) X.env)).any (·.1) || (backToKw q0 (keywordEach kws X.env)).any (·.1.isNone)) = false := by rfl) :
    PE X (.Call (.Name x p) (e1 :: er) kws q0) (tCallK pro gW EE ta tk) := by
  refine ⟨fun pins st σ HH QQ I h => wpAny_Call_Name_kw (ld_glob I hg hm ?_ hdb)⟩
  refine PySem.W.callWith_KW (h₀ := X.base) I.ok.mod.kin hk h1 (thn (ha.run q0 pins st σ HH _ I h) fun _ s1 ⟨_, H1, I1, r, w⟩ => ?_) h3 hs
  refine thn (hkw.run q0 pins s1 σ H1 _ I1 w) fun _ _ ⟨_, _, I2, r2, w2⟩ => ⟨I2.kIn, ?_⟩
  rw [h2]
  exact runK F q hb hx I2 r r2 w2
/-- f(k = b, ..) -/
theorem pcK0 (F : Fn X.prog X.w X.K X.mg X.base CC n fa fd pars pro) (q : Rm n X.A) (hg : Gl X x) (hm : X.mg x = some (.ref fa)) (hk : PySem.W.keepIn X.K (.ref fa) = true) (hb : KBinds X.K fd pars kw gU gW) (hx : Passes CC X EE)
    (hkw : PK X kws tk) (h1 : (backToKw q0 (keywordEach kws X.env)).all (·.1.isSome) = true := by rfl) (h2 : (backToKw q0 (keywordEach kws X.env)).filterMap (·.1) = kw := by rfl)
    (hdb : (x == ("__debug__" : Str)) = false := by decide) (h3 : (backToKw q0 (keywordEach kws X.env)).any (·.1.isNone) = false := by rfl) :
    PE X (.Call (.Name x p) [] kws q0) (tCallK pro gW EE tNil tk) := by
  refine ⟨fun pins st σ HH QQ I h => wpAny_Call_Name_kw (ld_glob I hg hm ?_ hdb)⟩
  refine PySem.W.callWith_KW0 (h₀ := X.base) I.ok.mod.kin hk h1 ?_ h3
  refine thn (hkw.run q0 pins st σ HH _ I h) fun _ _ ⟨_, _, I2, r2, w2⟩ => ⟨I2.kIn, ?_⟩
  rw [h2]
  exact runK F q hb hx I2 .nil r2 w2
end
end G

set_option Elab.async false
set_option linter.all false
set_option maxRecDepth 100000
set_option maxHeartbeats 4000000
/-! Data: what a value is, its repr, its type. -/
namespace G
open PySem PySem.Spec PyProof.Rows L2 Evl

theorem showsz {d : PyData} (h : d.shown.length ≤ 100000) : d.shown.length ≤ sizeLine := Nat.le_trans h (by decide)

/-- repr(x), x a datum without dicts -/
def rRp (K : PySem.W.Frag) : List V → Hp → VK → Prop := fun xs H Q => ∃ x d, xs = [x] ∧ Dp K H x d ∧ d.showable = true ∧ d.hasDict = false ∧ d.depth ≤ 40 ∧ d.shown.length ≤ 100000 ∧ Q (.str d.shown) H
theorem call_rp {X : Cx} {n : Nat} (q : Rm n X.A) : CallR X (.builtin "repr") (rRp X.K) := by
  intro pins s σ H xs us Q I r h
  obtain ⟨x, d, rfl, hd, h1, h2, h3, h4, k⟩ := h
  obtain ⟨u, rfl, rx⟩ : ∃ u, us = [u] ∧ RelV x u := by
    cases r with
    | cons a b => cases b; exact ⟨_, rfl, a⟩
  have hz := showsz h4
  have hu := q.rm.units
  cases hd with
  | non =>
    cases (show u = Value.none from rx)
    exact P.repr_of_none ⟨.str _, H, I.tok _, ⟨_, rfl⟩, k⟩
  | bl b =>
    cases (show u = Value.bool b from rx)
    refine P.repr_of_bool ⟨.str _, H, I.tok _, ⟨_, rfl⟩, ?_⟩
    cases b <;> exact k
  | int i =>
    obtain ⟨t, rfl⟩ := (show ∃ t, u = Value.int i t from rx)
    exact P.repr_of_int (by simpa [PyData.showable] using h1) ⟨.str _, H, I.tok _, ⟨_, rfl⟩, k⟩
  | str z =>
    obtain ⟨t, rfl⟩ := (show ∃ t, u = Value.str z t from rx)
    exact P.repr_of_str ⟨.str _, H, I.tok _, ⟨_, rfl⟩, k⟩ hz
  | @lst a ys ds hs ha =>
    cases (show u = Value.ref a from rx)
    obtain ⟨as, rd⟩ := Dp.reads I (.list ds) (.ref a) (.ref a) (.lst hs ha) rfl
    exact repr_of_reads' rd h1 (PyData.noDict_hsm h2) q.gd (by omega) (fun _ _ e => e) (fun h' w tk kp => ⟨.str _, H, I.kept kp, ⟨_, rfl⟩, k⟩) hz
  | @tup a ys ds hs ha =>
    cases (show u = Value.ref a from rx)
    obtain ⟨as, rd⟩ := Dp.reads I (.tuple ds) (.ref a) (.ref a) (.tup hs ha) rfl
    exact repr_of_reads' rd h1 (PyData.noDict_hsm h2) q.gd (by omega) (fun _ _ e => e) (fun h' w tk kp => ⟨.str _, H, I.kept kp, ⟨_, rfl⟩, k⟩) hz

/-! ### a dict of scalars -/
def scD : V → Option PyData
  | .non => some .none
  | .bl b => some (.bool b)
  | .int i => some (.int i)
  | .str x => some (.str x)
  | _ => none
def keyD : Key → PyData
  | .inl i => .int i
  | .inr x => .str x
/-- the data of a dict's pairs -/
inductive Kd : List (Key × V) → List (PyData × PyData) → Prop
  | nil : Kd [] []
  | cons {k : Key} {v : V} {d : PyData} {r : List (Key × V)} {ds : List (PyData × PyData)} : scD v = some d → Kd r ds → Kd ((k, v) :: r) ((keyD k, d) :: ds)
theorem scD_reads {v : V} {u : Value} {d : PyData} {h : Heap} (e : scD v = some d) (r : RelV v u) : Reads h u d [] := by
  cases v <;> simp only [scD, Option.some.injEq, reduceCtorEq] at e
  · subst e; cases (show u = Value.none from r); exact .none
  · subst e; cases (show u = Value.bool _ from r); exact .bool _
  · subst e; obtain ⟨t, rfl⟩ := (show ∃ t, u = Value.int _ t from r); exact .int _ _
  · subst e; obtain ⟨t, rfl⟩ := (show ∃ t, u = Value.str _ t from r); exact .str _ _
theorem keyD_reads {k : Key} {u : Value} {h : Heap} (e : keyIs k u = true) : Reads h u (keyD k) [] := by
  rcases keyIs_shape e with ⟨i, t, rfl, rfl⟩ | ⟨x, t, rfl, rfl⟩
  · exact .int _ _
  · exact .str _ _
theorem Kd.reads {pr : Program} {w : World} {h : Heap} : ∀ {kvs : List (Key × V)} {ds : List (PyData × PyData)} {vs : List (Key × Value)} {es : List DictEntry}, Kd kvs ds → KV kvs vs → Pairs (mixKind pr w) es vs →
    ReadsAll h (es.map (·.key)) (ds.map (·.1)) [] ∧ ReadsAll h (es.map (·.val)) (ds.map (·.2)) []
  | _, _, _, _, .nil, r, p => by
    cases r
    cases p
    exact ⟨.nil, .nil⟩
  | _, _, _, _, .cons e k, r, p => by
    cases r with
    | cons r1 r2 =>
      cases p with
      | cons p1 p2 p3 =>
        obtain ⟨a, b⟩ := Kd.reads k r2 p3
        have r0 : RelV _ _ := r1.2
        refine ⟨?_, ?_⟩
        · have q : keyIs _ _ = true := p1
          rw [← r1.1] at q
          exact ReadsAll.cons (as := []) (bs := []) (keyD_reads q) a
        · rw [← p2] at r0
          exact ReadsAll.cons (as := []) (bs := []) (scD_reads e r0) b
/-- repr(d) -/
def rRpD : List V → Hp → VK → Prop := fun xs H Q => ∃ a kvs ds, xs = [.ref a] ∧ Rd H a (.dK kvs) ∧ Kd kvs ds ∧ (PyData.dict ds).showable = true ∧ (PyData.dict ds).depth ≤ 40 ∧ (PyData.dict ds).shown.length ≤ 100000 ∧ Q (.str (PyData.dict ds).shown) H
theorem call_rpD {X : Cx} {n : Nat} (q : Rm n X.A) : CallR X (.builtin "repr") rRpD := by
  intro pins s σ H xs us Q I r h
  obtain ⟨a, kvs, ds, rfl, hd, hk, h1, h3, h4, k⟩ := h
  obtain ⟨u, rfl, rx⟩ : ∃ u, us = [u] ∧ RelV (.ref a) u := by
    cases r with
    | cons a b => cases b; exact ⟨_, rfl, a⟩
  have hz := showsz h4
  have hu := q.rm.units
  cases (show u = Value.ref a from rx)
  obtain ⟨_, hs, vs, rv, o, es, ep, e1, e2, e3, _, e5, _⟩ := (show ObjOk X.prog X.w H s.heap a (.dK kvs) from hd.ok I.hok)
  obtain ⟨r1, r2⟩ := Kd.reads (h := s.heap) hk rv e5
  have rd : Reads s.heap (.ref a) (.dict ds) (a :: [] ++ []) := .dict e1 e2.1 e3 r1 r2
  have nsm : (PyData.dict ds).hasDict = true → sysModules ∉ a :: [] ++ [] := fun _ z => by
    have e : sysModules = a := by simpa using z
    rw [← e] at hs
    simp at hs
  exact repr_of_reads' rd h1 nsm q.gd (by omega) (fun _ _ e => e) (fun h' w tk kp => ⟨.str _, H, I.kept kp, ⟨_, rfl⟩, k⟩) hz

/-! ### data as a whole: what Dp tells, or a dict of scalars -/
inductive Dd (K : PySem.W.Frag) (H : Hp) : V → PyData → Prop
  | dp {x : V} {d : PyData} (h : Dp K H x d) : Dd K H x d
  | dk {a : Addr} {kvs : List (Key × V)} {ds : List (PyData × PyData)} (h : H a = some (.dK kvs)) (k : Kd kvs ds) : Dd K H (.ref a) (.dict ds)
def Showy (d : PyData) : Prop := d.showable = true ∧ d.depth ≤ 40 ∧ d.shown.length ≤ 100000
def rRx (K : PySem.W.Frag) : List V → Hp → VK → Prop := fun xs H Q => ∃ x d, xs = [x] ∧ Dd K H x d ∧ Showy d ∧ Q (.str d.shown) H
mutual
theorem Dp.noD {K : PySem.W.Frag} {H : Hp} : ∀ {d : PyData} {x : V}, Dp K H x d → d.hasDict = false
  | .none, _, _ => rfl
  | .bool _, _, _ => rfl
  | .int _, _, _ => rfl
  | .str _, _, _ => rfl
  | .list ds, _, h => by
    cases h with
    | lst _ a => exact DpAll.noD a
  | .tuple ds, _, h => by
    cases h with
    | tup _ a => exact DpAll.noD a
  | .dict _, _, h => by cases h
theorem DpAll.noD {K : PySem.W.Frag} {H : Hp} : ∀ {ds : List PyData} {xs : List V}, DpAll K H xs ds → PyData.hasDictAll ds = false
  | [], _, _ => rfl
  | d :: ds, _, h => by
    cases h with
    | cons a b =>
      show (d.hasDict || PyData.hasDictAll ds) = false
      rw [Dp.noD a, DpAll.noD b]
      rfl
end
theorem call_rx {X : Cx} {n : Nat} (q : Rm n X.A) : CallR X (.builtin "repr") (rRx X.K) := by
  intro pins s σ H xs us Q I r h
  obtain ⟨x, d, rfl, hd, ⟨h1, h2, h3⟩, k⟩ := h
  cases hd with
  | dp e => exact call_rp q pins s σ H _ us Q I r ⟨x, d, rfl, e, h1, Dp.noD e, h2, h3, k⟩
  | dk e kd => exact call_rpD q pins s σ H _ us Q I r ⟨_, _, _, rfl, .inl e, kd, h1, h2, h3, k⟩

/-! ### types -/
def tyD : PyData → String
  | .none => "NoneType"
  | .bool _ => "bool"
  | .int _ => "int"
  | .str _ => "str"
  | .list _ => "list"
  | .tuple _ => "tuple"
  | .dict _ => "dict"
theorem Dd.ty {K : PySem.W.Frag} {H : Hp} {x : V} {d : PyData} (h : Dd K H x d) : TyX K H x (.type (tyD d)) := by
  cases h with
  | dk e _ => exact .base (.dK e)
  | dp e =>
    cases e with
    | non => exact .base .non
    | bl b => exact .base (.bl b)
    | int i => exact .base (.int i)
    | str z => exact .base (.str z)
    | lst hs _ =>
      rcases hs with (z | ⟨o, z⟩) | ⟨o, _, _, z, c, _⟩
      · exact .base (.lst z)
      · exact .base (.frz z)
      · exact .kList z c
    | tup hs _ =>
      rcases hs with (z | ⟨o, z⟩) | ⟨o, _, _, z, c, _⟩
      · exact .base (.tup z)
      · exact .fTuple z
      · exact .kTuple z c
/-- isinstance(x, T) -/
def isI : PyData → Bool | .bool _ | .int _ => true | _ => false
def isB : PyData → Bool | .bool _ => true | _ => false
def isS : PyData → Bool | .str _ => true | _ => false
def isT : PyData → Bool | .tuple _ => true | _ => false
def isL : PyData → Bool | .list _ => true | _ => false
theorem kit_I (d : PyData) : kitB (tyD d) "int" = some (isI d) := by cases d <;> (simp only [tyD, isI]; decide +kernel)
theorem kit_B (d : PyData) : kitB (tyD d) "bool" = some (isB d) := by cases d <;> (simp only [tyD, isB]; decide +kernel)
theorem kit_S (d : PyData) : kitB (tyD d) "str" = some (isS d) := by cases d <;> (simp only [tyD, isS]; decide +kernel)
theorem kit_T (d : PyData) : kitB (tyD d) "tuple" = some (isT d) := by cases d <;> (simp only [tyD, isT]; decide +kernel)
theorem kit_L (d : PyData) : kitB (tyD d) "list" = some (isL d) := by cases d <;> (simp only [tyD, isL]; decide +kernel)
end G

set_option Elab.async false
set_option linter.all false
set_option maxRecDepth 100000
set_option maxHeartbeats 4000000
/-! Comprehensions that change nothing. -/
namespace G
open PySem PySem.Spec PyProof.Rows L2 Evl
/-- what a comprehension over J asks, its one name in slot j -/
def LcG (J : It) (j : Nat) (te : TE) (σ : L2.St) (H : Hp) (D : Addr) (Qd : Hp → Prop) : Prop :=
  ∃ W : Nat → Nat → Hp → Prop, (∃ m, W 0 m (upd H D (.lst []))) ∧
    ∀ i m Hx, W i m Hx → (J.stop i Hx ∧ Qd Hx) ∨
      (J.go i Hx ∧ ∃ Nx : Hp → Prop, (∀ H', Nx H' → ∃ m', m' < m ∧ W (i + 1) m' H') ∧
        ∀ x H', J.yld i Hx x H' → gName j x (wipe σ [j]) H' fun σ2 H2 =>
          wipe σ2 [j] = wipe σ [j] ∧ tYes σ2 H2 fun b H3 =>
            if b = true then te σ2 H3 fun y H4 => ∃ acc, H4 D = some (.lst acc) ∧ acc.length < sizeLine ∧
              Nx (upd H4 D (.lst (acc ++ [y]))) else Nx H3)
theorem wipe_set (σ : L2.St) (j : Nat) (x : V) : wipe ((wipe σ [j]).set j (some x)) [j] = wipe σ [j] := by
  show ((σ.set j none).set j (some x)).set j none = σ.set j none
  simp
/-- what each turn's item makes is told by f; nothing that was known changes -/
theorem lc_pure {J : It} {n : Nat} {Gd : Hp → Prop} {Y : Nat → Hp → V → Hp → Prop} (W : Walk J n Gd Y) {te : TE} {σ : L2.St} {j : Nat} {H : Hp} {D : Addr} {Qd : Hp → Prop} (f : Nat → V) (hn : n ≤ 100000)
    (hG : ∀ H', Ex H H' → Gd H') (It : Nat → V → Prop) (hY : ∀ i Ha x Hb, i < n → Ex H Ha → Y i Ha x Hb → Hb = Ha ∧ It i x)
    (he : ∀ i x, i < n → It i x → Ev te ((wipe σ [j]).set j (some x)) H (f i))
    (new : H D = none) (hd : ∀ H', Ex H H' → H' D = some (.lst ((List.range n).map f)) → Qd H') : LcG J j te σ H D Qd := by
  refine lc_it (g := gName j) (tt := tYes) (te := te) (vs := [j]) (σ := σ) W (fun i Hc => Ex H Hc ∧ Hc D = some (.lst ((List.range i).map f))) ⟨Ex.new new, upd_same⟩ (fun i Hc _ p => hG Hc p.1) (fun i x Ha Hb hi p y => ?_) (fun Hc p => hd Hc p.1 p.2)
  obtain ⟨e, ix⟩ := hY i Ha x Hb hi p.1 y
  rw [e]
  refine ⟨wipe_set σ j x, ?_⟩
  show te ((wipe σ [j]).set j (some x)) Ha _
  refine he i x hi ix Ha p.1 _ fun H2 e2 => ⟨_, e2 _ _ p.2, ?_, ?_, ?_⟩
  · simp only [List.length_map, List.length_range]
    exact Nat.lt_of_lt_of_le (Nat.lt_of_lt_of_le hi hn) (by decide)
  · exact (p.1.trans e2).mut new
  · rw [upd_same, List.range_succ, List.map_append]
    rfl
/-- .. over the data of a list or tuple: a test of each -/
theorem range_map {α β : Type} (xs : List α) (f : Nat → β) (g : α → β) (h : ∀ i x, xs[i]? = some x → f i = g x) : (List.range xs.length).map f = xs.map g := by
  apply List.ext_getElem?
  intro i
  rw [List.getElem?_map, List.getElem?_map]
  by_cases hi : i < xs.length
  · rw [List.getElem?_range hi, List.getElem?_eq_getElem hi]
    show some (f i) = some (g xs[i])
    rw [h i xs[i] (List.getElem?_eq_getElem hi)]
  · rw [List.getElem?_eq_none (by simpa using Nat.le_of_not_lt hi), List.getElem?_eq_none (Nat.le_of_not_lt hi)]
    rfl
theorem lc_data {K : PySem.W.Frag} {J : It} {xs : List V} {ds : List PyData} {Gd : Hp → Prop} (W : Walk J xs.length Gd (YAt xs)) {te : TE} {σ : L2.St} {j : Nat} {H : Hp} {D : Addr} {Qd : Hp → Prop} (t : PyData → Bool) (hn : xs.length ≤ 100000)
    (hG : ∀ H', Ex H H' → Gd H') (hx : DpAll K H xs ds) (he : ∀ x d, Dp K H x d → Ev te ((wipe σ [j]).set j (some x)) H (.bl (t d)))
    (hK : ∀ (i : Nat) (x : V), xs[i]? = some x → ∃ d, ds[i]? = some d ∧ Dp K H x d)
    (new : H D = none) (hd : ∀ H', Ex H H' → H' D = some (.lst ((ds.map t).map V.bl)) → Qd H') : LcG J j te σ H D Qd := by
  have hl : xs.length = ds.length := by
    clear hG he hK hd W hn new
    induction hx using DpAll.rec (motive_1 := fun _ _ _ => True) <;> simp_all
  refine lc_pure W (fun i => .bl (t (ds.getD i .none))) hn hG (fun i x => xs[i]? = some x) (fun i Ha x Hb _ _ y => ⟨y.1, y.2⟩) (fun i x hi e => ?_) new (fun H' e q => hd H' e ?_)
  · obtain ⟨d, e1, e2⟩ := hK i x e
    have e3 : ds.getD i .none = d := by rw [List.getD_eq_getElem?_getD, e1]; rfl
    rw [e3]
    exact he x d e2
  · rw [q, hl, List.map_map]
    congr 2
    exact range_map ds _ _ fun i d e => by
      show V.bl (t (ds.getD i .none)) = V.bl (t d)
      rw [List.getD_eq_getElem?_getD, e]
      rfl
/-- .. the parts of which have a property -/
theorem lc_dataS {S : PyData → Prop} {K : PySem.W.Frag} {J : It} {xs : List V} {ds : List PyData} {Gd : Hp → Prop} (W : Walk J xs.length Gd (YAt xs)) {te : TE} {σ : L2.St} {j : Nat} {H : Hp} {D : Addr} {Qd : Hp → Prop} (t : PyData → Bool) (hn : xs.length ≤ 100000)
    (hG : ∀ H', Ex H H' → Gd H') (hx : DpAll K H xs ds) (hS : ∀ d ∈ ds, S d) (he : ∀ x d, Dp K H x d → S d → Ev te ((wipe σ [j]).set j (some x)) H (.bl (t d)))
    (hK : ∀ (i : Nat) (x : V), xs[i]? = some x → ∃ d, ds[i]? = some d ∧ Dp K H x d)
    (new : H D = none) (hd : ∀ H', Ex H H' → H' D = some (.lst ((ds.map t).map V.bl)) → Qd H') : LcG J j te σ H D Qd := by
  have hl : xs.length = ds.length := by
    clear hG he hK hd W hn new hS
    induction hx using DpAll.rec (motive_1 := fun _ _ _ => True) <;> simp_all
  refine lc_pure W (fun i => .bl (t (ds.getD i .none))) hn hG (fun i x => xs[i]? = some x) (fun i Ha x Hb _ _ y => ⟨y.1, y.2⟩) (fun i x hi e => ?_) new (fun H' e q => hd H' e ?_)
  · obtain ⟨d, e1, e2⟩ := hK i x e
    have e3 : ds.getD i .none = d := by rw [List.getD_eq_getElem?_getD, e1]; rfl
    rw [e3]
    exact he x d e2 (hS d (List.mem_of_getElem? e1))
  · rw [q, hl, List.map_map]
    congr 2
    exact range_map ds _ _ fun i d e => by
      show V.bl (t (ds.getD i .none)) = V.bl (t d)
      rw [List.getD_eq_getElem?_getD, e]
      rfl
end G

set_option Elab.async false
set_option linter.all false
set_option maxRecDepth 100000
set_option maxHeartbeats 4000000
/-! A tuple once, or not at all: t * 1, t * 0. -/
namespace G
open PySem PySem.Spec PyProof.Rows L2 Evl
theorem tmul_one (l : Addr) (items : Array Value) (n : Nat) (sl : Array (Option Value)) (u : Tok) (dd : Option Addr) :
    Meets (Builtin.«tuple.__mul__» ⟨[.ref l, .int 1 u], []⟩) (fun _ R s => s.heap.get? l = some { cls := .type "tuple", dict := dd, data := .seq items n, slots := sl } ∧ R (.ok (.ret (Value.ref l))) s) :=
  .of_wp fun prog w A R s h => by
    obtain ⟨hp, g, d, tk, os⟩ := s
    obtain ⟨hl, h⟩ := h
    have f1 := AutoSeq1.idx_int
    wp_walk using wpAny_loadPart' hl
    exact ⟨_, rfl, h⟩
theorem tmul_zero (l : Addr) (items : Array Value) (n : Nat) (sl : Array (Option Value)) (u : Tok) (dd : Option Addr) (hi : items.isEmpty = false) :
    Meets (Builtin.«tuple.__mul__» ⟨[.ref l, .int 0 u], []⟩) (fun _ R s => s.heap.get? l = some { cls := .type "tuple", dict := dd, data := .seq items n, slots := sl } ∧
      R (.ok (.ret (Value.ref s.heap.objs.size))) { s with heap := s.heap.push { cls := Value.type "tuple", data := Data.seq #[] }, toks := s.toks }) :=
  .of_wp fun prog w A R s h => by
    obtain ⟨hp, g, d, tk, os⟩ := s
    obtain ⟨hl, h⟩ := h
    have f1 := AutoSeq1.idx_int
    wp_walk using wpAny_loadPart' hl
    exact ⟨_, rfl, h⟩
/-- t * k, 0 ≤ k -/
def rRepA (K : PySem.W.Frag) : R2 := fun x y H Q => ∃ l k xs, x = .ref l ∧ y = .int k ∧ SqT K H l xs ∧ xs ≠ [] ∧ 0 ≤ k ∧ k ≤ 1000 ∧ xs.length ≤ 1000 ∧ (k = 1 → Q (.ref l) H) ∧ (k ≠ 1 → ∀ p, H p = none → Q (.ref p) (upd H p (.tup (List.replicate k.toNat xs).flatten)))
theorem op_repA {X : Cx} : OpR X (binaryOp .Mult) (rRepA X.K) := by
  intro pins s σ H x y v u Q I rx ry h
  obtain ⟨l, k, xs, rfl, rfl, hT, hne, h0, h1, hz, q1, q2⟩ := h
  by_cases c2 : 2 ≤ k
  · exact op_repT pins s σ H _ _ v u Q I rx ry ⟨l, k, xs, rfl, rfl, hT, hne, c2, h1, hz, q2 (by omega)⟩
  · cases rx
    obtain ⟨t, rfl⟩ := ry
    obtain ⟨its, r, ⟨⟨cl, dd, dat, sl⟩, ho, hc, n, hd⟩, hs⟩ := I.tuple hT
    simp only at hc hd
    subst hc hd
    have hi : its.toArray.isEmpty = false := by
      cases its with
      | nil =>
        cases r
        exact absurd rfl hne
      | cons a b => rfl
    by_cases c1 : k = 1
    · subst c1
      refine wpAny_binaryOp_repeat_ref (T := "tuple") (U := "int") (by decide) ⟨_, ho, rfl⟩ (fun s' => typeIs_int s' 1 t) noFill_tuple_mul F.fills_int_mul F.slot_int_rmul repeat_tuple F.slot_int_index.lookup ?_
      refine call_meets F.slot_int_rmul (typeIs_int s 1 t) F.entry_int_rmul (F.args_int_rmul_2 _ _) (int_rmul_tuple 1 t l its.toArray n dd sl) ⟨ho, rfl, ⟨_, ho, rfl⟩, ?_⟩
      exact call_meets F.slot_tuple_mul ⟨_, ho, rfl⟩ F.entry_tuple_mul (F.args_tuple_mul_2 _ _) (tmul_one l its.toArray n sl t dd) ⟨ho, .ref l, H, I.tok _, rfl, q1 rfl⟩
    · obtain rfl : k = 0 := by omega
      refine wpAny_binaryOp_repeat_ref (T := "tuple") (U := "int") (by decide) ⟨_, ho, rfl⟩ (fun s' => typeIs_int s' 0 t) noFill_tuple_mul F.fills_int_mul F.slot_int_rmul repeat_tuple F.slot_int_index.lookup ?_
      refine call_meets F.slot_int_rmul (typeIs_int s 0 t) F.entry_int_rmul (F.args_int_rmul_2 _ _) (int_rmul_tuple 0 t l its.toArray n dd sl) ⟨ho, rfl, ⟨_, ho, rfl⟩, ?_⟩
      refine call_meets F.slot_tuple_mul ⟨_, ho, rfl⟩ F.entry_tuple_mul (F.args_tuple_mul_2 _ _) (tmul_zero l its.toArray n sl t dd hi) ⟨ho, ?_⟩
      refine ⟨.ref s.heap.objs.size, _, I.laid (t' := s.toks) (o := .tup (List.replicate (0 : Int).toNat xs).flatten) (fun b ob q => Heap.get?_push_of_some _ q) (Nat.le_refl _) ?_, rfl, q2 (by decide) _ (I.hok.fresh (Nat.le_refl _))⟩
      exact ⟨Nat.zero_le _, [], .nil, IsTup.new _ _⟩
end G

set_option Elab.async false
set_option linter.all false
set_option maxRecDepth 100000
set_option maxHeartbeats 4000000
/-! What is written out as data: everything in it is new. -/
namespace G
open PySem PySem.Spec PyProof.Rows L2 Evl
/-- what H' has and H had not -/
def nw (H H' : Hp) : Hp := fun b => if H b = none then H' b else none
theorem nw_some {H H' : Hp} {b : Addr} {o : HO} : nw H H' b = some o ↔ H b = none ∧ H' b = some o := by
  unfold nw
  by_cases h : H b = none
  · rw [if_pos h]; exact ⟨fun e => ⟨h, e⟩, fun e => e.2⟩
  · rw [if_neg h]; exact ⟨fun e => (by cases e), fun e => absurd e.1 h⟩
theorem nw_ex {H H1 H2 : Hp} (e : Ex H1 H2) : Ex (nw H H1) (nw H H2) := fun b o h => by
  rw [nw_some] at h ⊢
  exact ⟨h.1, e b o h.2⟩
theorem nw_back {H H1 H2 : Hp} (e : Ex H H1) : Ex (nw H1 H2) (nw H H2) := fun b o h => by
  rw [nw_some] at h ⊢
  exact ⟨fresh_back e h.1, h.2⟩
theorem nw_out {H H' : Hp} : Ex (nw H H') H' := fun b o h => (nw_some.mp h).2
mutual
theorem dp_exG {K : PySem.W.Frag} {H H' : Hp} (e : Ex H H') : ∀ {d : PyData} {x : V}, Dp K H x d → Dp K H' x d
  | .none, _, h => by cases h; exact .non
  | .bool b, _, h => by cases h; exact .bl b
  | .int i, _, h => by cases h; exact .int i
  | .str z, _, h => by cases h; exact .str z
  | .list ds, _, h => by
    cases h with
    | lst hs a => exact .lst (ex_l e hs) (dpAll_exG e a)
  | .tuple ds, _, h => by
    cases h with
    | tup hs a => exact .tup (ex_t e hs) (dpAll_exG e a)
  | .dict _, _, h => by cases h
theorem dpAll_exG {K : PySem.W.Frag} {H H' : Hp} (e : Ex H H') : ∀ {ds : List PyData} {xs : List V}, DpAll K H xs ds → DpAll K H' xs ds
  | [], _, h => by cases h; exact .nil
  | d :: ds, _, h => by
    cases h with
    | cons a b => exact .cons (dp_exG e a) (dpAll_exG e b)
end
theorem dd_exG {K : PySem.W.Frag} {H H' : Hp} {x : V} {d : PyData} (e : Ex H H') (h : Dd K H x d) : Dd K H' x d := by
  cases h with
  | dp q => exact .dp (dp_exG e q)
  | dk q k => exact .dk (e _ _ q) k
inductive DdAll (K : PySem.W.Frag) (H : Hp) : List V → List PyData → Prop
  | nil : DdAll K H [] []
  | cons {x : V} {d : PyData} {xs : List V} {ds : List PyData} : Dd K H x d → DdAll K H xs ds → DdAll K H (x :: xs) (d :: ds)
theorem DdAll.ex {K : PySem.W.Frag} {H H' : Hp} (e : Ex H H') {xs : List V} {ds : List PyData} (h : DdAll K H xs ds) : DdAll K H' xs ds := by
  induction h with
  | nil => exact .nil
  | cons a _ ih => exact .cons (dd_exG e a) ih
theorem DdAll.len {K : PySem.W.Frag} {H : Hp} {xs : List V} {ds : List PyData} (h : DdAll K H xs ds) : xs.length = ds.length := by
  induction h with
  | nil => rfl
  | cons _ _ ih => simp [ih]
theorem DdAll.append {K : PySem.W.Frag} {H : Hp} {xs ys : List V} {ds es : List PyData} (h : DdAll K H xs ds) (q : DdAll K H ys es) : DdAll K H (xs ++ ys) (ds ++ es) := by
  induction h with
  | nil => exact q
  | cons a _ ih => exact .cons a ih
theorem DdAll.at {K : PySem.W.Frag} {H : Hp} {xs : List V} {ds : List PyData} (h : DdAll K H xs ds) : ∀ {i : Nat} {x : V}, xs[i]? = some x → ∃ d, ds[i]? = some d ∧ Dd K H x d := by
  induction h with
  | nil => intro i x e; simp at e
  | cons a _ ih =>
    intro i x e
    cases i with
    | zero =>
      simp at e
      subst e
      exact ⟨_, rfl, a⟩
    | succ i =>
      obtain ⟨d, e1, e2⟩ := ih (by simpa using e)
      exact ⟨d, by simpa using e1, e2⟩
/-- te gives a new datum -/
def Nd (K : PySem.W.Frag) (te : TE) (d : PyData) : Prop := ∀ σ H (Q : VK), (∀ x H', Ex H H' → Dp K (nw H H') x d → Q x H') → te σ H Q
def Nds (K : PySem.W.Frag) (ta : TA) (ds : List PyData) : Prop := ∀ σ H (Q : List V → Hp → Prop), (∀ xs H', Ex H H' → DpAll K (nw H H') xs ds → Q xs H') → ta σ H Q
def Ndd (K : PySem.W.Frag) (te : TE) (d : PyData) : Prop := ∀ σ H (Q : VK), (∀ x H', Ex H H' → Dd K (nw H H') x d → Q x H') → te σ H Q
def Ndds (K : PySem.W.Frag) (ta : TA) (ds : List PyData) : Prop := ∀ σ H (Q : List V → Hp → Prop), (∀ xs H', Ex H H' → DdAll K (nw H H') xs ds → Q xs H') → ta σ H Q
section
variable {K : PySem.W.Frag} {te : TE} {ta : TA} {d : PyData} {ds : List PyData}
theorem nd_non : Nd K (tC .non) .none := fun _ H _ q => q _ H (Ex.refl H) .non
theorem nd_bl {b : Bool} : Nd K (tC (.bl b)) (.bool b) := fun _ H _ q => q _ H (Ex.refl H) (.bl b)
theorem nd_int {i : Int} : Nd K (tC (.int i)) (.int i) := fun _ H _ q => q _ H (Ex.refl H) (.int i)
theorem nd_str {z : Str} : Nd K (tC (.str z)) (.str z) := fun _ H _ q => q _ H (Ex.refl H) (.str z)
theorem nd_neg {i : Int} : Nd K (tUn (rU fun i => .int (-i)) (tC (.int i))) (.int (-i)) := fun _ H _ q => ⟨i, rfl, q _ H (Ex.refl H) (.int (-i))⟩
theorem nds_nil : Nds K tNil [] := fun _ H _ q => q _ H (Ex.refl H) .nil
theorem nds_cons (a : Nd K te d) (b : Nds K ta ds) : Nds K (tCons te ta) (d :: ds) := fun σ H Q q =>
  a σ H _ fun x H1 e1 h1 => b σ H1 _ fun xs H2 e2 h2 => q _ H2 (e1.trans e2) (.cons (dp_exG (nw_ex e2) h1) (dpAll_exG (nw_back e1) h2))
theorem DpAll.lenG {H : Hp} : ∀ {ds : List PyData} {xs : List V}, DpAll K H xs ds → xs.length = ds.length
  | [], _, h => by cases h; rfl
  | _ :: _, _, h => by
    cases h with
    | cons _ b => simp [DpAll.lenG b]
theorem nd_tup (a : Nds K ta ds) (hl : ds.length ≤ 1000) : Nd K (tTup ta) (.tuple ds) := fun σ H Q q =>
  a σ H _ fun xs H1 e1 h1 => ⟨Nat.le_trans (by rw [DpAll.lenG h1]; exact hl) (show 1000 ≤ sizeLine by decide), fun p hp => by
    have e2 : Ex H1 (upd H1 p (.tup xs)) := Ex.new hp
    refine q _ _ (e1.trans e2) (.tup (xs := xs) (.inl (.inl ?_)) (dpAll_exG (nw_ex e2) h1))
    rw [nw_some]
    exact ⟨fresh_back e1 hp, upd_same⟩⟩
theorem nd_lst (a : Nds K ta ds) (hl : ds.length ≤ 1000) : Nd K (tLst ta) (.list ds) := fun σ H Q q =>
  a σ H _ fun xs H1 e1 h1 => ⟨Nat.le_trans (by rw [DpAll.lenG h1]; exact hl) (show 1000 ≤ sizeLine by decide), fun p hp => by
    have e2 : Ex H1 (upd H1 p (.lst xs)) := Ex.new hp
    refine q _ _ (e1.trans e2) (.lst (xs := xs) (.inl (.inl ?_)) (dpAll_exG (nw_ex e2) h1))
    rw [nw_some]
    exact ⟨fresh_back e1 hp, upd_same⟩⟩
theorem ndd_of (a : Nd K te d) : Ndd K te d := fun σ H Q q => a σ H Q fun x H' e h => q x H' e (.dp h)
theorem ndds_nil : Ndds K tNil [] := fun _ H _ q => q _ H (Ex.refl H) .nil
theorem ndds_cons (a : Ndd K te d) (b : Ndds K ta ds) : Ndds K (tCons te ta) (d :: ds) := fun σ H Q q =>
  a σ H _ fun x H1 e1 h1 => b σ H1 _ fun xs H2 e2 h2 => q _ H2 (e1.trans e2) (.cons (dd_exG (nw_ex e2) h1) (h2.ex (nw_back e1)))
theorem ndd_empty : Ndd K tDNewK (.dict []) := fun σ H Q q p hp => q _ _ (Ex.new hp) (.dk (kvs := []) (nw_some.mpr ⟨hp, upd_same⟩) .nil)
/-- a list of data, written out: l is new -/
theorem rd_data {σ : L2.St} {H : Hp} {Q : VK} (a : Ndds K ta ds) (hl : ds.length ≤ 1000) (q : ∀ l xs H', H l = none → Ex H H' → H' l = some (.lst xs) → DdAll K (nw H H') xs ds → Q (.ref l) H') : tLst ta σ H Q :=
  a σ H _ fun xs H1 e1 h1 => ⟨Nat.le_trans (by rw [h1.len]; exact hl) (show 1000 ≤ sizeLine by decide), fun p hp =>
    q p xs _ (fresh_back e1 hp) (e1.trans (Ex.new hp)) upd_same (h1.ex (nw_ex (Ex.new hp)))⟩
end
end G

set_option Elab.async false
set_option linter.all false
set_option maxRecDepth 100000
set_option maxHeartbeats 4000000
/-! Values without changes: more of what evaluates to what. -/
namespace G
open PySem PySem.Spec PyProof.Rows L2 Evl
/-- a list, new or not -/
def EvLs (te : TE) (σ : L2.St) (H : Hp) (xs : List V) : Prop := ∀ H1, Ex H H1 → ∀ Q : VK, (∀ p H2, Ex H1 H2 → H2 p = some (.lst xs) → Q (.ref p) H2) → te σ H1 Q
section
variable {K : PySem.W.Frag} {σ : L2.St} {H : Hp} {ta tb te : TE} {xs ys : List V} {x y z v : V}
theorem EvLs.of (h : EvL te σ H xs) : EvLs te σ H xs := fun H1 e Q q => h H1 e Q fun p H2 _ e2 h2 => q p H2 e2 h2
theorem evs_var {i : Nat} {a : Addr} (hs : σ[i]? = some (some (.ref a))) (hl : H a = some (.lst xs)) : EvLs (tVar i) σ H xs := fun H1 e Q q => ⟨_, hs, q a H1 (Ex.refl H1) (e _ _ hl)⟩
theorem el_cat (ha : EvLs ta σ H xs) (hb : EvLs tb σ H ys) (hz : xs.length + ys.length ≤ 100000) : EvL (tOp rCat ta tb) σ H (xs ++ ys) := fun H1 e Q q =>
  ha H1 e _ fun p H2 e2 h2 => hb H2 (e.trans e2) _ fun p' H3 e3 h3 => ⟨p, p', xs, ys, rfl, rfl, e3 _ _ h2, h3, sz_of hz, fun c hc => q c _ (fresh_back (e2.trans e3) hc) ((e2.trans e3).trans (Ex.new hc)) upd_same⟩
theorem ev_callK {pro : Sp} {gW : List V → List V → List V} {E : XK} {tk : TA} {vs : List V} (h : EvA tk σ H vs) (hs : SpV pro (gW [] vs) H z) : Ev (tCallK pro gW E tNil tk) σ H z := fun H1 e Q q =>
  h H1 e _ fun H2 e2 => hs H2 (e.trans e2) Q (fun H3 e3 => q H3 (e2.trans e3)) E
theorem ea_2 {t1 t2 : TE} (h1 : Ev t1 σ H x) (h2 : Ev t2 σ H y) : EvA (tCons t1 (tCons t2 tNil)) σ H [x, y] := ea_cons h1 (ea_cons h2 ea_nil)
theorem ea_1 {t1 : TE} (h1 : Ev t1 σ H x) : EvA (tCons t1 tNil) σ H [x] := ea_cons h1 ea_nil
theorem el_rep {n : Nat} (ha : EvLs ta σ H xs) (hz : xs.length * n ≤ 100000) (hn : n ≤ 100000) : EvL (tOp rRep ta (tC (.int (n : Int)))) σ H (List.replicate n xs).flatten := fun H1 e Q q =>
  ha H1 e _ fun p H2 e2 h2 => ⟨p, (n : Int), xs, rfl, rfl, h2, by omega, by omega, by
    have : ((n : Int)).toNat = n := by omega
    rw [this]
    exact sz_of hz, fun c hc => by
    have : ((n : Int)).toNat = n := by omega
    rw [this]
    exact q c _ (fresh_back e2 hc) (e2.trans (Ex.new hc)) upd_same⟩
/-- a new list, then what follows -/
theorem rd_l {Q : VK} (xs : List V) (h : EvL te σ H xs) (q : ∀ p H1, H p = none → Ex H H1 → H1 p = some (.lst xs) → Q (.ref p) H1) : te σ H Q := h H (Ex.refl H) Q q
theorem rd_v {Q : VK} (v : V) (h : Ev te σ H v) (q : ∀ H1, Ex H H1 → Q v H1) : te σ H Q := h H (Ex.refl H) Q q
variable {u : TS} {D : Ends} {i j : Nat}
theorem q_asgL (xs : List V) (h : EvL te σ H xs) (k : ∀ p H1, H p = none → Ex H H1 → H1 p = some (.lst xs) → u D (σ.set i (some (.ref p))) H1) : tSeq (tAsg te (gName i)) u D σ H := h H (Ex.refl H) _ fun p H1 a b c => k p H1 a b c
theorem q_asgV (v : V) (h : Ev te σ H v) (k : ∀ H1, Ex H H1 → u D (σ.set i (some v)) H1) : tSeq (tAsg te (gName i)) u D σ H := h H (Ex.refl H) _ fun H1 a => k H1 a
theorem q_par {ta : TA} (v z : V) (h : EvA ta σ H [v, z]) (k : ∀ H1, Ex H H1 → u D ((σ.set i (some v)).set j (some z)) H1) : tSeq (tPar i j ta) u D σ H := h H (Ex.refl H) _ fun H1 a => ⟨v, z, rfl, k H1 a⟩
/-- for x in range(n), n written -/
theorem q_forR {tb : TS} {n : Nat} (hn : n ≤ 100000) (Pv : Nat → L2.St → Hp → Prop) (h0 : Pv 0 σ H)
    (hs : ∀ (i : Nat) (σ' : L2.St) (H' : Hp), i < n → Pv i σ' H' → tb { D with nx := Pv (i + 1), ct := Pv (i + 1), bk := u D } (σ'.set j (some (.int (i : Int)))) H') (hd : ∀ σ' H', Pv n σ' H' → u D σ' H') :
    tSeq (tFor (iRng1 (tCons (tC (.int (n : Int))) tNil)) (gName j) tb) u D σ H :=
  ⟨(n : Int), rfl, by omega, by omega, for_range (lo := 0) (n := (n : Int).toNat) Pv h0 (fun i σ' H' hi p => by
    have e0 : (0 : Int) + (i : Int) = (i : Int) := Int.zero_add _
    show tb { D with nx := Pv (i + 1), ct := Pv (i + 1), bk := u D } (σ'.set j (some (.int ((0 : Int) + (i : Int))))) H'
    rw [e0]
    exact hs i σ' H' (by omega) p) (fun σ' H' p => hd σ' H' (by simpa using p))⟩
end
end G

set_option Elab.async false
set_option linter.all false
set_option maxRecDepth 100000
set_option maxHeartbeats 4000000
/-! Comprehensions that make data. -/
namespace G
open PySem PySem.Spec PyProof.Rows L2 Evl
/-- H without D -/
def hid (D : Addr) (H : Hp) : Hp := fun b => if b = D then none else H b
theorem hid_some {D b : Addr} {H : Hp} {o : HO} : hid D H b = some o ↔ b ≠ D ∧ H b = some o := by
  unfold hid
  by_cases h : b = D
  · rw [if_pos h]; exact ⟨fun e => (by cases e), fun e => absurd h e.1⟩
  · rw [if_neg h]; exact ⟨fun e => ⟨h, e⟩, fun e => e.2⟩
theorem hid_ex {D : Addr} {H H' : Hp} (e : Ex H H') : Ex (hid D H) (hid D H') := fun b o q => hid_some.mpr ⟨(hid_some.mp q).1, e b o (hid_some.mp q).2⟩
theorem hid_upd {D : Addr} {H : Hp} {o : HO} : Ex (hid D H) (hid D (upd H D o)) := fun b u q => by
  rw [hid_some] at q ⊢
  exact ⟨q.1, by rw [upd_ne q.1]; exact q.2⟩
theorem hid_out {D : Addr} {H : Hp} : Ex (hid D H) H := fun b o q => (hid_some.mp q).2
theorem hid_nw {D : Addr} {Ha H' : Hp} (h : Ha D ≠ none) : Ex (nw Ha H') (hid D H') := fun b o q => by
  rw [nw_some] at q
  exact hid_some.mpr ⟨fun z => h (by rw [← z]; exact q.1), q.2⟩
theorem hid_old {D : Addr} {H Ha : Hp} (h : H D = none) (e : Ex H Ha) : Ex H (hid D Ha) := fun b o q => hid_some.mpr ⟨ne_of_none q h, e b o q⟩
theorem dpAll_appG {K : PySem.W.Frag} {H : Hp} : ∀ {xs ys : List V} {ds es : List PyData}, DpAll K H xs ds → DpAll K H ys es → DpAll K H (xs ++ ys) (ds ++ es)
  | [], _, _, _, h, q => by cases h; exact q
  | _ :: _, _, _, _, h, q => by
    cases h with
    | cons a b => exact .cons a (dpAll_appG b q)
theorem tVar_eq {i : Nat} {v : V} {σ : L2.St} {H : Hp} (h : σ[i]? = some (some v)) : tVar i σ H = fun R => R v H := by
  funext R
  refine propext ⟨fun ⟨v', e, q⟩ => ?_, fun q => ⟨v, h, q⟩⟩
  rw [h] at e
  cases e
  exact q
theorem pi_tupK {Y : Cx} {K : PySem.W.Frag} {tg l : Expr} {tl : TE} (hl : PE Y l tl) (h : Y.K = K := by rfl) : PI Y tg l (iTup K tl) := by
  subst h
  exact pi_tup hl
/-- [e for x in xs for b in (0, 1)]: what it asks, slots j and j2; each e makes a new datum -/
theorem lc2_new {K : PySem.W.Frag} {a : Addr} {xs : List V} {te : TE} {σ : L2.St} {j j2 : Nat} {H : Hp} {Q : VK} (f : Nat → Nat → PyData) (hx : SqL K H a xs) (hz : xs.length ≤ 1000) {tl : TE} (hl : tl σ H = fun R => R (.ref a) H) (hjj : j ≠ j2)
    (he : ∀ (i c : Nat) (x : V), xs[i]? = some x → c < 2 → ∀ Ha, Ex H Ha → ∀ Q1 : VK, (∀ v H', Ex Ha H' → Dp K (nw Ha H') v (f i c) → Q1 v H') → te (((wipe σ [j, j2]).set j (some x)).set j2 (some (.int (c : Int)))) Ha Q1)
    (hd : ∀ D vs H', H D = none → Ex H H' → H' D = some (.lst vs) → DpAll K (hid D H') vs ((List.range xs.length).flatMap fun i => [f i 0, f i 1]) → Q (.ref D) H') :
    tLc2 (iList K tl) (gName j) tYes (iTup K (tTup (tCons (tC (.int 0)) (tCons (tC (.int 1)) tNil)))) (gName j2) tYes te [j, j2] [j2] σ H Q := by
  show iList K tl σ H _
  unfold iList
  rw [hl]
  refine ⟨a, rfl, ⟨xs, hx⟩, fun D new => ?_⟩
  have w0 : ∀ x, wipe ((wipe σ [j, j2]).set j (some x)) [j, j2] = wipe σ [j, j2] := fun x => by
    show ((((σ.set j2 none).set j none).set j (some x)).set j2 none).set j none = (σ.set j2 none).set j none
    rw [List.set_set, List.set_comm _ _ hjj, List.set_set, List.set_set]
  refine ⟨fun i m Hc => m = xs.length - i ∧ i ≤ xs.length ∧ Ex H Hc ∧ ∃ vs, Hc D = some (.lst vs) ∧ DpAll K (hid D Hc) vs ((List.range i).flatMap fun i => [f i 0, f i 1]) ∧ vs.length = 2 * i, ⟨xs.length, by simp, Nat.zero_le _, Ex.new new, [], upd_same, .nil, rfl⟩, ?_⟩
  rintro i m Hc ⟨rfl, hi, e, vs, hD, hv, hvl⟩
  by_cases hlt : i < xs.length
  · refine .inr ⟨⟨xs, xs[i], ex_l e hx, by simp [hlt]⟩, fun H' => Ex H H' ∧ ∃ vs, H' D = some (.lst vs) ∧ DpAll K (hid D H') vs ((List.range (i + 1)).flatMap fun i => [f i 0, f i 1]) ∧ vs.length = 2 * (i + 1), fun H' p => ⟨xs.length - (i + 1), by omega, rfl, hlt, p⟩, fun x H' y => ?_⟩
    have hxi : xs[i]? = some x := y.2 xs (ex_l e hx)
    obtain rfl : H' = Hc := y.1
    refine ⟨w0 x, ?_⟩
    unfold tYes
    dsimp only
    rw [if_pos rfl]
    refine ⟨(by show 2 ≤ sizeLine; decide), fun t ht => ⟨t, rfl, ⟨_, st_of upd_same⟩, ?_⟩⟩
    have e1 : Ex H' (upd H' t (.tup [.int 0, .int 1])) := Ex.new ht
    have hv1 := dpAll_exG (hid_ex (D := D) e1) hv
    refine ⟨fun c k Hc => k = 2 - c ∧ c ≤ 2 ∧ Ex H Hc ∧ Hc t = some (.tup [.int 0, .int 1]) ∧ ∃ vs, Hc D = some (.lst vs) ∧ DpAll K (hid D Hc) vs (((List.range i).flatMap fun i => [f i 0, f i 1]) ++ (List.range c).map (f i)) ∧ vs.length = 2 * i + c,
      ⟨2, rfl, Nat.zero_le _, e.trans e1, upd_same, vs, e1 _ _ hD, by simpa using hv1, hvl⟩, ?_⟩
    rintro c k Hd ⟨rfl, hc, e2, ht2, ws, hD2, hw, hwl⟩
    by_cases hc2 : c < 2
    · refine .inr ⟨⟨[.int 0, .int 1], [V.int 0, V.int 1][c], st_of ht2, by simp [hc2]⟩, fun H' => Ex H H' ∧ H' t = some (.tup [.int 0, .int 1]) ∧ ∃ vs, H' D = some (.lst vs) ∧ DpAll K (hid D H') vs (((List.range i).flatMap fun i => [f i 0, f i 1]) ++ (List.range (c + 1)).map (f i)) ∧ vs.length = 2 * i + (c + 1), fun H' p => ⟨2 - (c + 1), by omega, rfl, hc2, p⟩, fun b Hb yb => ?_⟩
      have hb : [V.int 0, V.int 1][c]? = some b := yb.2 _ (st_of ht2)
      obtain rfl : Hb = Hd := yb.1
      have hb2 : b = .int (c : Int) := by
        match c, hc2, hb with
        | 0, _, hb => simpa using hb.symm
        | 1, _, hb => simpa using hb.symm
      subst hb2
      refine ⟨?_, ?_⟩
      · show ((((wipe σ [j, j2]).set j (some x)).set j2 none).set j2 (some (.int (c : Int)))).set j2 none = ((wipe σ [j, j2]).set j (some x)).set j2 none
        simp
      rw [if_pos rfl]
      have es : (((wipe σ [j, j2]).set j (some x)).set j2 none).set j2 (some (V.int (c : Int))) = ((wipe σ [j, j2]).set j (some x)).set j2 (some (.int (c : Int))) := by simp
      have es2 : (List.set (wipe (List.set (wipe σ [j, j2]) j (some x)) [j2]) j2 (some (V.int (c : Int)))) = ((wipe σ [j, j2]).set j (some x)).set j2 (some (.int (c : Int))) := es
      rw [es2]
      refine he i c x hxi hc2 Hb e2 _ fun v He e3 dv => ⟨ws, e3 _ _ hD2, ?_, ?_, ?_, ws ++ [v], upd_same, ?_, ?_⟩
      · exact Nat.lt_of_lt_of_le (show ws.length < 3000 by omega) (by decide)
      · exact (e2.trans e3).mut new
      · rw [upd_ne (fun z => by rw [z, hD2] at ht2; cases ht2)]
        exact e3 _ _ ht2
      · rw [List.range_succ, List.map_append, ← List.append_assoc]
        refine dpAll_appG (dpAll_exG hid_upd (dpAll_exG (hid_ex e3) hw)) (.cons (dp_exG hid_upd (dp_exG (hid_nw (by rw [hD2]; simp)) dv)) .nil)
      · simp [hwl]
        omega
    · have : c = 2 := by omega
      subst this
      refine .inl ⟨⟨_, st_of ht2, Nat.le_refl _⟩, e2, ws, hD2, ?_, by omega⟩
      rw [List.range_succ, List.flatMap_append]
      have r2 : (List.range 2).map (f i) = [f i 0, f i 1] := rfl
      rw [r2] at hw
      simpa using hw
  · have : i = xs.length := by omega
    subst this
    exact .inl ⟨⟨xs, ex_l e hx, Nat.le_refl _⟩, hd D vs Hc new e hD hv⟩
end G

set_option Elab.async false
set_option linter.all false
set_option maxRecDepth 100000
set_option maxHeartbeats 4000000
/-! try with several clauses, each one with the same name behind «as». -/
namespace G
open PySem PySem.Spec PyProof.Rows L2 Evl
/-- the ends within a suite: its name, slot i, is gone behind it -/
def endsAs (i : Nat) (D : Ends) : Ends := { nx := fun σ' H' => D.nx (σ'.set i none) H', rt := D.rt, bk := fun σ' H' => D.bk (σ'.set i none) H', ct := fun σ' H' => D.ct (σ'.set i none) H' }
/-- what the clauses wish of an exception, one behind the other -/
def wAll (K : PySem.W.Frag) (i : Nat) (Wo : WX) (D : Ends) : List (Value × (Addr → Value → Option Addr → TS)) → WX
  | [] => Wo
  | (c, ts) :: r => fun cls d σ H => ∃ b, PySem.W.exmOne K cls c = some b ∧ (b = true → ∀ a, H a = none → ts a cls d (endsAs i D) (σ.set i (some (.ref a))) H) ∧ (b = false → wAll K i Wo D r cls d σ H)
/-- the clauses of a try, each with its class and its suite's reading -/
inductive Cls' (X : Cx) (n : Str) : List ExceptHandler → List (Value × (Addr → Value → Option Addr → TS)) → Prop
  | nil : Cls' X n [] []
  | cons {x : Str} {c : Value} {ts : Addr → Value → Option Addr → TS} {b0 : Stmt} {su : List Stmt} {q1 q2 : Pos} {hs : List ExceptHandler} {l : List (Value × (Addr → Value → Option Addr → TS))} (hc : Names X x c)
      (hsu : ∀ (a : Addr) (oe : Obj) (cls : Value) (d : Option Addr) (pn : List (Addr × Obj)), Zc cls d oe → (∃ vs, oe.data = .fields vs) → PSs (X.suite a ((a, oe) :: pn)) (b0 :: su) (ts a cls d))
      (r : Cls' X n hs l) : Cls' X n (.ExceptHandler (some (.Name x q1)) (some n) (b0 :: su) q2 :: hs) ((c, ts) :: l)
section
variable {X : Cx} {n : Str} {i : Nat} {body : List Stmt} {h0 : ExceptHandler} {hs : List ExceptHandler} {l : List (Value × (Addr → Value → Option Addr → TS))} {pos : Pos} {tb : WX → TS} {Wo : WX}
theorem ps_tries (hst : X.stack = X.env :: X.outer) (hfr : X.env.frame = some X.env.locals) (hN : X.N.Nodup) (hi : X.N[i]? = some n) (hln : X.env.kindOf n = some .local) (tk : Takes X Wo)
    (hb : ∀ (W : WX) (pn : List (Addr × Obj)) (xe : Value → Shared → Prop), Takes (X.tr pn xe) W → PassesOwn (model X.prog X.w) X.A X.env xe → PSs (X.tr pn xe) body (tb W))
    (hh : Cls' X n (h0 :: hs) l) : PS X (.Try body (h0 :: hs) [] [] pos) (fun D σ H => tb (wAll X.K i Wo D l) D σ H) := by
  refine ⟨fun pins s σ H D I hyp => ?_⟩
  have okX := I.ok
  have hA : X.A.frames = some (X.env :: X.outer) := okX.frames.trans (by rw [hst])
  have hlc : Loc X.env.scope n := .inl hln
  refine wpAny_Try_except ?_
  have run := (hb (wAll X.K i Wo D l) (X.pn ++ pins)
    (fun e s1 => wpAny (model X.prog X.w) X.A (noteFrame e X.env)
      (fun _ s2 => wpAny (model X.prog X.w) X.A (setFlight e none)
        (fun _ s3 => wpAny (model X.prog X.w) X.A (handleBy e X.env (h0 :: hs)) (SP X pins D) X.xe s3) X.xe s2) X.xe s1)
    (fun u s' xx => ?_) PassesOwn.looking).run [] s σ H D (I.toTry _) hyp
  · refine wpAny_mono run (fun fl s1 hsp => ?_) fun _ _ z => z
    match fl, hsp with
    | .next, ⟨σ', H', J, q⟩ => exact wpAny_execs_nil ⟨σ', H', J.ofTry okX, q⟩
    | .brk, ⟨σ', H', J, q⟩ => exact ⟨σ', H', J.ofTry okX, q⟩
    | .cont, ⟨σ', H', J, q⟩ => exact ⟨σ', H', J.ofTry okX, q⟩
    | .ret _, ⟨v, σ', H', J, r, q⟩ => exact ⟨v, σ', H', J.ofTry okX, r, q⟩
  · obtain ⟨a, B, sI, pins', σ', H', cls, d, rfl, J', nb, up, sky0, na, hos, hag, wish⟩ := xx
    have J : Inv X pins σ' H' sI := J'.ofTry okX
    have sky : Sky B (X.env :: X.outer) a (Zc cls d) X.env.locals s'.heap := hst ▸ sky0
    show wpAny (model X.prog X.w) X.A (noteFrame (.ref a) X.env) _ _ _
    refine Sky.land Zc.steady hA hfr sky fun h3 f3 u3 => ?_
    have J3 : Inv X pins σ' H' { s' with heap := h3 } := J.landed nb f3.1 (up.trans u3) hos hag
    obtain ⟨oe3, vs3, he3, hz3, hd3⟩ := f3.there
    have nofr : a ∉ frs (X.env :: X.outer) := fun hm => by
      obtain ⟨_, o1, e1, hno⟩ := f3.2.2.1.mem hm
      rw [he3] at e1
      cases e1
      exact hno _ hd3
    have nL : a ≠ X.env.locals := fun z => nofr (List.mem_filterMap.mpr ⟨X.env, List.mem_cons_self, by rw [hfr, z]⟩)
    have nF : a ∉ X.fs := fun hm => by
      obtain ⟨ev, hev, hq⟩ := List.mem_filterMap.mp hm
      exact nofr (List.mem_filterMap.mpr ⟨ev, List.mem_cons_of_mem _ hev, hq⟩)
    have S3 := J3.suite he3 hd3 na nL nF
    have LT : PySem.W.Looks (model X.prog X.w) h3 (typeOf (.ref a)) cls := fun A Q E s k q => wpAny_typeOf_ref (k _ _ he3) (by rw [hz3.1]; exact q)
    have try1 : ∀ {hds : List ExceptHandler} {ll : List (Value × (Addr → Value → Option Addr → TS))}, Cls' X n hds ll → wAll X.K i Wo D ll cls d σ' H' →
        wpAny (model X.prog X.w) X.A (handleBy (.ref a) X.env hds) (SP X pins D) X.xe { s' with heap := h3 } := by
      intro hds ll hk
      induction hk with
      | nil =>
        intro wi
        refine wpAny_handleBy_nil ?_
        obtain ⟨_, _, _, oe, vs, TT, oT, ts', he, hz, hd, h1, hr⟩ := id f3
        unfold PySem.passOn
        refine wpAny_bind (wpAny_field he hd h1 ?_)
        rw [if_neg (show ¬ ((Value.ref TT == Value.none) = true) from by simp)]
        have out : wpAny (model X.prog X.w) X.A (setFlight (.ref a) X.env.frame) (fun _ s4 => wpAny (model X.prog X.w) X.A (throw (.ref a) : Sem Flow) (SP X pins D) X.xe s4) X.xe { s' with heap := h3 } := by
          rw [hfr]
          refine HandSPX.setFlight_upZ f3 fun h4 g4 u4 => wpAny_throw (tk _ _ ⟨a, B, sI, pins, σ', H', cls, d, rfl, J, nb, (up.trans u3).trans u4, .inr (.inr (by rw [hst]; exact g4)), na, hos, hag, wi⟩)
        first
          | exact wpAny_bind (wpAny_pure (wpAny_bind out))
          | exact wpAny_bind out
      | @cons x c ts b0 su q1 q2 hs2 l2 hc hsu r ih =>
        intro wi
        obtain ⟨b, hb1, yes, no⟩ := wi
        refine wpAny_handleBy_cons (codeAny_handlers_test ?_) (by intro q; cases q)
        have LM := PySem.W.exm_one (M := model X.prog X.w) (J3.kIn) LT hb1
        have test : ∀ {Q : Value → Shared → Prop} {E : Value → Shared → Prop}, Q c { s' with heap := h3 } →
            wpAny (model X.prog X.w) (X.A.mark (some (.ref a))) (eval (.Name x q1) X.env) Q E { s' with heap := h3 } := fun {Q E} q => by
          obtain ⟨hg, hdbg, hm | ⟨hm, hv, hnn⟩⟩ := hc
          · exact ld_glob (X := X.suite a ((a, oe3) :: (X.pn ++ pins))) S3 hg hm q hdbg
          · exact ld_blt (X := X.suite a ((a, oe3) :: (X.pn ++ pins))) S3 hg hm hv q hnn hdbg
        refine test (LM.here ?_)
        cases b with
        | false => exact ih (no rfl)
        | true =>
          refine codeAny_handlers_suite_as (HandSPX.lands_againZ f3 fun h4 f4 u4 => ?_)
          have J4 : Inv X pins σ' H' { s' with heap := h4 } := J.landed nb f4.1 ((up.trans u3).trans u4) hos hag
          obtain ⟨oe4, vs4, he4, hz4, hd4⟩ := f4.there
          have S4 := J4.suite he4 hd4 na nL nF
          refine store_ok (X := X.suite a ((a, oe4) :: (X.pn ++ pins))) (v := .ref a) S4 hN hi hlc rfl (fun s5 S5 => ?_) (.inr hln)
          refine wpAny_mono ((hsu a oe4 cls d (X.pn ++ pins) hz4 ⟨_, hd4⟩).run [] s5 _ H' _ S5 (yes rfl a na)) (fun fl s6 hsp => ?_) (fun _ _ z => z.elim)
          have gone : ∀ {σ6 : L2.St} {H6 : Hp} {Q : Shared → Prop}, Inv (X.suite a ((a, oe4) :: (X.pn ++ pins))) [] σ6 H6 s6 → (∀ s7, Inv X pins (σ6.set i none) H6 s7 → Q s7) →
              wpAny (model X.prog X.w) X.A (do bindName X.env n .none; unbindBehindTheSuite X.env n q2) (fun _ s7 => Q s7) X.xe s6 := fun {σ6 H6 Q} S6 hq => gone_ok (S6.unsuite okX) hN hi hln hq
          match fl, hsp with
          | .next, ⟨_, _, S6, q6⟩ => exact gone S6 fun s7 J7 => ⟨_, _, J7, q6⟩
          | .brk, ⟨_, _, S6, q6⟩ => exact gone S6 fun s7 J7 => ⟨_, _, J7, q6⟩
          | .cont, ⟨_, _, S6, q6⟩ => exact gone S6 fun s7 J7 => ⟨_, _, J7, q6⟩
          | .ret _, ⟨_, _, _, S6, r6, q6⟩ => exact gone S6 fun s7 J7 => ⟨_, _, _, J7, r6, q6⟩
    exact try1 hh wish
end
end G

set_option Elab.async false
set_option linter.all false
set_option maxRecDepth 100000
set_option maxHeartbeats 4000000
/-! sorted(xs), xs a list of alike data: the very order. -/
namespace G
open PySem PySem.Spec PyProof.Rows L2 Evl
/-- the pairs of what stands in the list and its data, sorted by the data -/
def srt (xs : List V) (ds : List PyData) : List (V × PyData) := (xs.zip ds).mergeSort (PySem.W.dataLe false Prod.snd)
def rSrt (K : PySem.W.Frag) : List V → Hp → VK → Prop := fun vs H Q => ∃ (a : Addr) (xs : List V) (ds : List PyData), vs = [.ref a] ∧ SqL K H a xs ∧ DpAll K H xs ds ∧ PySem.W.AllAlike ds ∧ PySem.W.Sortable ds ∧ ds.length ≤ 1000 ∧ (∀ d ∈ ds, d.depth ≤ 50) ∧
  ∀ p, H p = none → Q (.ref p) (upd H p (.lst ((srt xs ds).map Prod.fst)))
theorem dpAll_pair {K : PySem.W.Frag} {H : Hp} : ∀ {xs : List V} {ds : List PyData}, DpAll K H xs ds → ∀ p ∈ xs.zip ds, Dp K H p.1 p.2
  | _, _, .nil, p, h => by cases h
  | _, _, .cons a b, p, h => by
    rcases List.mem_cons.mp h with rfl | h
    · exact a
    · exact dpAll_pair b p h
theorem zip_snd {K : PySem.W.Frag} {H : Hp} : ∀ {xs : List V} {ds : List PyData}, DpAll K H xs ds → (xs.zip ds).map Prod.snd = ds
  | _, _, .nil => rfl
  | _, _, .cons _ b => by simp [zip_snd b]
theorem zip_fst {K : PySem.W.Frag} {H : Hp} : ∀ {xs : List V} {ds : List PyData}, DpAll K H xs ds → (xs.zip ds).map Prod.fst = xs
  | _, _, .nil => rfl
  | _, _, .cons _ b => by simp [zip_fst b]
theorem srt_perm (xs : List V) (ds : List PyData) : (srt xs ds).Perm (xs.zip ds) := List.mergeSort_perm _ _
theorem srt_dp {K : PySem.W.Frag} {H : Hp} {xs : List V} {ds : List PyData} (h : DpAll K H xs ds) : DpAll K H ((srt xs ds).map Prod.fst) ((srt xs ds).map Prod.snd) := by
  have all : ∀ p ∈ srt xs ds, Dp K H p.1 p.2 := fun p hp => dpAll_pair h p ((srt_perm xs ds).mem_iff.mp hp)
  generalize srt xs ds = l at all
  induction l with
  | nil => exact .nil
  | cons p r ih => exact .cons (all p List.mem_cons_self) (ih fun q hq => all q (List.mem_cons_of_mem _ hq))
theorem each_vals : ∀ {out : List Value} {ps : List (V × PyData)}, PySem.W.EachIs (fun v (p : V × PyData) => RelV p.1 v) out ps → Vals (ps.map Prod.fst) out
  | _, _, .nil => .nil
  | _, _, .cons a b => .cons a (each_vals b)
theorem cr_srt {X : Cx} (hu : X.A.units + 64 < cLine) : CallR X (.builtin "sorted") (rSrt X.K) := by
  intro pins s σ H vs us Q I r h
  obtain ⟨a, xs, ds, rfl, hs, hd, hal, hk, hz, hdep, q⟩ := h
  obtain ⟨its, rel, hl, _⟩ := I.list hs
  rw [Vals.ref1 r]
  have hlen := G.DpAll.lenG hd
  have e1 : ∀ {xs : List V} {ds : List PyData} {its : List Value}, DpAll X.K H xs ds → Vals xs its → PySem.W.EachIs (fun v (p : V × PyData) => RelV p.1 v ∧ ∃ as, Reads s.heap v p.2 as) its (xs.zip ds) := by
    intro xs ds its hd rel
    induction rel generalizing ds with
    | nil => cases hd; exact .nil
    | cons a b ih =>
      cases hd with
      | cons c d => exact .cons ⟨a, Dp.reads I _ _ _ c a⟩ (ih d)
  have ee := e1 hd rel
  refine PySem.W.sorted_data (R := fun v (p : V × PyData) => RelV p.1 v) (bs := xs.zip ds) (enc := Prod.snd) hl.isList (ee.mono fun _ _ z => z.1) (ee.mono fun _ _ z => z.2) (by rw [zip_snd hd]; exact hal) (by rw [zip_snd hd]; exact hk)
    (Nat.le_trans (by rw [List.length_zip, hlen]; omega) (show 1000 ≤ sizeLine by decide)) (fun p hp => ?_) fun out hlo ho => ?_
  · have : p.2 ∈ ds := by
      rw [← zip_snd hd]
      exact List.mem_map.mpr ⟨p, hp, rfl⟩
    have := hdep _ this
    omega
  · obtain ⟨ep, he⟩ := PyProof.Rows.sortedAll_at s.heap its out.toArray
    have vo : Vals ((srt xs ds).map Prod.fst) out := each_vals ho
    have z : ((srt xs ds).map Prod.fst).length ≤ sizeLine := Nat.le_trans (by rw [List.length_map, (srt_perm xs ds).length_eq, List.length_zip, hlen]; omega) (show 1000 ≤ sizeLine by decide)
    exact ⟨.ref _, upd H (s.heap.objs.size + 1) (.lst ((srt xs ds).map Prod.fst)), I.laid (t' := s.toks) (fun _ _ => PyProof.Rows.sortedAll_old) (Nat.le_succ _) ⟨z, out, ep, vo, by simpa using he⟩, rfl, q _ (I.hok.fresh (Nat.le_succ _))⟩
end G

set_option Elab.async false
set_option linter.all false
set_option maxRecDepth 100000
set_option maxHeartbeats 4000000
namespace G
open PySem PySem.Spec PyProof.Rows L2 Evl
theorem entry_sift : entryFor table "_heapq.heapify.sift" = some Builtin.«_heapq.heapify.sift» := entryFor_of_tree (by kernel_rfl)
theorem plain_sift : plainId "_heapq.heapify.sift" = true := by decide +kernel
theorem quiet_sift (args : Args) : (Code.builtin "_heapq.heapify.sift" args).quiet = true := Code.quiet_builtin args (by decide +kernel)
theorem rc_lt {prog : Program} {w : World} {A : Around} {E : Value → Shared → Prop} {s : Shared} {x y : Str} {t u : Tok} {Q : Value → Shared → Prop} (h : Q (.bool (x.cps.toList < y.cps.toList)) s) : wpAny (model prog w) A (richCompare .Lt (.str x t) (.str y u)) Q E s := PySem.P.lt_str h
theorem swap_perm {its : Array Value} {i j : Nat} (hi : i < its.size) (hj : j < its.size) : ((its.setIfInBounds i its[j]).setIfInBounds j its[i]).toList.Perm its.toList := by
  rw [Array.toList_setIfInBounds, Array.toList_setIfInBounds]
  have h1 : i < its.toList.length := by simpa using hi
  have h2 : j < its.toList.length := by simpa using hj
  have q := List.set_set_perm h1 h2
  simpa using q
theorem sift_up {prog : Program} {w : World} {A : Around} {a : Addr} {top : Nat} {res : Value} : ∀ (pos : Nat) {R : Result → Shared → Prop} {its : Array Value} {n : Nat} {s : Shared} {t1 t2 t3 : Tok},
    s.heap.get? a = some { cls := .type "list", data := .seq its n } → pos < its.size → (∀ v ∈ its.toList, ∃ z t, v = .str z t) → its.size ≤ 1000 →
    (∀ (its' : Array Value) (n' : Nat) (h' : Heap) (tk : Nat), its'.toList.Perm its.toList → h'.get? a = some { cls := .type "list", data := .seq its' n' } → (∀ b o, b ≠ a → s.heap.get? b = some o → h'.get? b = some o) → R (.ok (.ret res)) { s with heap := h', toks := tk }) →
    codeAny (model prog w) A (.builtin "_heapq.heapify.sift" ⟨[.ref a, .bool false, .bool false, .int (pos : Int) t1, .int (top : Int) t2, res, .int (-1) t3], []⟩) R s := by
  intro pos
  induction pos using Nat.strongRecOn with
  | ind pos ih =>
  intro R its n s t1 t2 t3 ha hp hs hz hR
  refine codeAny_builtin entry_sift ?_
  unfold Builtin.«_heapq.heapify.sift»
  by_cases hsz : pos > top
  · have hq : (pos - 1) / 2 < its.size := by omega
    obtain ⟨zx, tx, hx⟩ := hs its[pos] (by simp)
    obtain ⟨zp, tp, hy⟩ := hs its[(pos - 1) / 2] (by simp)
    have ex : its[pos]? = some (.str zx tx) := by rw [Array.getElem?_eq_getElem hp, hx]
    have ey : its[(pos - 1) / 2]? = some (.str zp tp) := by rw [Array.getElem?_eq_getElem hq, hy]
    obtain ⟨hp', g, d, tk, os⟩ := s
    dsimp only
    wp_walk using wpAny_seqItems ha rfl
    rw [Int.toNat_natCast, ex]
    dsimp only
    wp_walk
    rw [ey]
    dsimp only
    wp_walk using rc_lt
    cases hlt : decide (zx.cps.toList < zp.cps.toList) with
    | false =>
      wp_walk
      exact hR its n _ tk (List.Perm.refl _) ha fun _ _ _ e => e
    | true =>
      wp_walk using wpAny_seqItems ha rfl
      rw [ey]
      dsimp only
      wp_walk
      rw [ex]
      dsimp only
      wp_walk using (wpAny_updateSeq ha rfl)
      have sw : ((its.setIfInBounds ((pos - 1) / 2) (.str zx tx)).setIfInBounds pos (.str zp tp)).toList.Perm its.toList := by
        have q := swap_perm hq hp
        rw [hx, hy] at q
        exact q
      have up := Heap.get?_update_self (h := hp') (Obj.mapSeq fun xs => (xs.setIfInBounds ((pos - 1) / 2) (.str zx tx)).setIfInBounds pos (.str zp tp)) ha rfl
      have sz : ((its.setIfInBounds ((pos - 1) / 2) (.str zx tx)).setIfInBounds pos (.str zp tp)).size = its.size := by simp
      refine ⟨quiet_sift _, ?_⟩
      rw [Int.toNat_natCast]
      refine ih ((pos - 1) / 2) (by omega) up (by rw [sz]; exact hq) (fun v hv => hs v (sw.mem_iff.mp hv)) (by rw [sz]; exact hz) fun its' n' h' tk' pm hg kp => ?_
      exact hR its' n' h' tk' (pm.trans sw) hg fun b o nb e => kp b o nb (by rw [Heap.get?_update_ne _ _ _ _ nb]; exact e)
  · obtain ⟨hp', g, d, tk, os⟩ := s
    dsimp only
    wp_walk using wpAny_seqItems ha rfl
    exact hR its n _ tk (List.Perm.refl _) ha fun _ _ _ e => e
end G

set_option Elab.async false
set_option linter.all false
set_option maxRecDepth 100000
set_option maxHeartbeats 4000000
namespace G
open PySem PySem.Spec PyProof.Rows L2 Evl
theorem sift_down {prog : Program} {w : World} {A : Around} {a : Addr} {top : Nat} {res : Value} : ∀ (k pos : Nat) {R : Result → Shared → Prop} {its : Array Value} {n : Nat} {s : Shared} {t1 t2 t3 : Tok}, its.size - pos = k →
    s.heap.get? a = some { cls := .type "list", data := .seq its n } → pos < its.size → (∀ v ∈ its.toList, ∃ z t, v = .str z t) → its.size ≤ 1000 →
    (∀ (its' : Array Value) (n' : Nat) (h' : Heap) (tk : Nat), its'.toList.Perm its.toList → h'.get? a = some { cls := .type "list", data := .seq its' n' } → (∀ b o, b ≠ a → s.heap.get? b = some o → h'.get? b = some o) → R (.ok (.ret res)) { s with heap := h', toks := tk }) →
    codeAny (model prog w) A (.builtin "_heapq.heapify.sift" ⟨[.ref a, .bool false, .bool true, .int (pos : Int) t1, .int (top : Int) t2, res, .int (-1) t3], []⟩) R s := by
  intro k
  induction k using Nat.strongRecOn with
  | ind k ih =>
  intro pos R its n s t1 t2 t3 hk ha hp hs hz hR
  refine codeAny_builtin entry_sift ?_
  unfold Builtin.«_heapq.heapify.sift»
  by_cases hsz : pos < its.size / 2
  · have hl : 2 * pos + 1 < its.size := by omega
    -- the swap with the child c
    have go : ∀ (c : Nat) (tk : Nat), pos < c → c < its.size → ∀ (x y : Value), its[c]? = some x → its[pos]? = some y → ∀ (g : Array Value → Array Value), (∀ xs, g xs = (xs.setIfInBounds c y).setIfInBounds pos x) → ∀ (t1 t2 t3 : Tok),
        codeAny (model prog w) A (.builtin "_heapq.heapify.sift" ⟨[.ref a, .bool false, .bool true, .int (c : Int) t1, .int (top : Int) t2, res, .int (-1) t3], []⟩) R { s with heap := s.heap.update a (Obj.mapSeq g), toks := tk } := by
      intro c tk hc1 hc2 x y ex ey g hg t1 t2 t3
      have hx : its[c] = x := by rw [Array.getElem?_eq_getElem hc2] at ex; exact Option.some.inj ex
      have hy : its[pos] = y := by rw [Array.getElem?_eq_getElem hp] at ey; exact Option.some.inj ey
      have sw : (g its).toList.Perm its.toList := by
        rw [hg its, ← hx, ← hy]
        exact swap_perm hc2 hp
      have sz : (g its).size = its.size := by rw [hg its]; simp
      have up := Heap.get?_update_self (h := s.heap) (Obj.mapSeq g) ha rfl
      refine ih (its.size - c) (by omega) c (by rw [sz]) up (by rw [sz]; exact hc2) (fun v hv => hs v (sw.mem_iff.mp hv)) (by rw [sz]; exact hz) fun its' n' h' tk' pm hg2 kp => ?_
      exact hR its' n' h' tk' (pm.trans sw) hg2 fun b o nb e => kp b o nb (by rw [Heap.get?_update_ne _ _ _ _ nb]; exact e)
    obtain ⟨zl, tl, hxl⟩ := hs its[2 * pos + 1] (by simp)
    obtain ⟨zy, ty, hy⟩ := hs its[pos] (by simp)
    have el : its[2 * pos + 1]? = some (.str zl tl) := by rw [Array.getElem?_eq_getElem hl, hxl]
    have ey : its[pos]? = some (.str zy ty) := by rw [Array.getElem?_eq_getElem hp, hy]
    by_cases hr : 2 * pos + 1 + 1 < its.size
    · obtain ⟨zr, tr, hxr⟩ := hs its[2 * pos + 1 + 1] (by simp)
      have er : its[2 * pos + 1 + 1]? = some (.str zr tr) := by rw [Array.getElem?_eq_getElem hr, hxr]
      obtain ⟨hp', g, d, tk, os⟩ := s
      dsimp only
      wp_walk using wpAny_seqItems ha rfl
      rw [Int.toNat_natCast, el]
      dsimp only
      wp_walk
      rw [er]
      dsimp only
      wp_walk using rc_lt, wpAny_seqItems ha rfl
      cases hlt : decide (zl.cps.toList < zr.cps.toList) with
      | false =>
        wp_walk using wpAny_seqItems ha rfl
        rw [er]
        dsimp only
        wp_walk
        rw [ey]
        dsimp only
        wp_walk using (wpAny_updateSeq ha rfl)
        refine ⟨quiet_sift _, ?_⟩
        rw [Int.toNat_natCast]
        exact go (2 * pos + 1 + 1) _ (by omega) hr _ _ er ey _ (fun _ => rfl) _ _ _
      | true =>
        wp_walk using wpAny_seqItems ha rfl
        rw [el]
        dsimp only
        wp_walk
        rw [ey]
        dsimp only
        wp_walk using (wpAny_updateSeq ha rfl)
        refine ⟨quiet_sift _, ?_⟩
        rw [Int.toNat_natCast]
        exact go (2 * pos + 1) _ (by omega) hl _ _ el ey _ (fun _ => rfl) _ _ _
    · obtain ⟨hp', g, d, tk, os⟩ := s
      dsimp only
      wp_walk using wpAny_seqItems ha rfl
      rw [Int.toNat_natCast, el]
      dsimp only
      wp_walk
      rw [ey]
      dsimp only
      wp_walk using (wpAny_updateSeq ha rfl)
      refine ⟨quiet_sift _, ?_⟩
      rw [Int.toNat_natCast]
      exact go (2 * pos + 1) _ (by omega) hl _ _ el ey _ (fun _ => rfl) _ _ _
  · obtain ⟨hp', g, d, tk, os⟩ := s
    dsimp only
    wp_walk using wpAny_seqItems ha rfl
    refine ⟨quiet_sift _, ?_⟩
    rw [Int.toNat_natCast, Int.toNat_natCast]
    exact sift_up pos ha hp hs hz hR
end G

set_option Elab.async false
set_option linter.all false
set_option maxRecDepth 100000
set_option maxHeartbeats 4000000
namespace G
open PySem PySem.Spec PyProof.Rows L2 Evl
theorem entry_push : entryFor table "_heapq.heappush" = some Builtin.«_heapq.heappush» := entryFor_of_tree (by kernel_rfl)
theorem plain_push : plainId "_heapq.heappush" = true := by decide +kernel
theorem chk_push (a v : Value) : checkBuiltinCall "_heapq.heappush" ⟨[a, v], []⟩ = pure () := by kernel_rfl
theorem entry_pop : entryFor table "_heapq.heappop" = some Builtin.«_heapq.heappop» := entryFor_of_tree (by kernel_rfl)
theorem plain_pop : plainId "_heapq.heappop" = true := by decide +kernel
theorem chk_pop (a : Value) : checkBuiltinCall "_heapq.heappop" ⟨[a], []⟩ = pure () := by kernel_rfl
theorem list_list : isSubtype (.type "list") (.type "list") = pure true := by rw [isSubtype_type]; kernel_rfl
theorem code_push {prog : Program} {w : World} {A : Around} {R : Result → Shared → Prop} {a : Addr} {its : Array Value} {n : Nat} {s : Shared} {v : Value}
    (ha : s.heap.get? a = some { cls := .type "list", data := .seq its n }) (hs : ∀ v ∈ its.toList, ∃ z t, v = .str z t) (hv : ∃ z t, v = .str z t) (hz : its.size < 1000)
    (hR : ∀ (its' : Array Value) (n' : Nat) (h' : Heap) (tk : Nat), its'.toList.Perm (its.push v).toList → h'.get? a = some { cls := .type "list", data := .seq its' n' } → (∀ b o, b ≠ a → s.heap.get? b = some o → h'.get? b = some o) → R (.ok (.ret .none)) { s with heap := h', toks := tk }) :
    codeAny (model prog w) A (.call (.builtin "_heapq.heappush") ⟨[.ref a, v], []⟩) R s := by
  refine codeAny_call_builtin plain_push entry_push (wpAny_of_eq (chk_push _ _) ?_)
  have hT : s.TypeIs (.ref a) "list" := ⟨_, ha, rfl⟩
  have hL := list_list
  have up := Heap.get?_update_self (h := s.heap) (Obj.mapSeq (·.push v)) ha rfl
  obtain ⟨hp', g, d, tk, os⟩ := s
  unfold Builtin.«_heapq.heappush»
  dsimp only
  wp_walk using wpAny_seqItems ha rfl, (wpAny_updateSeq ha rfl)
  have sz : (its.push v).size = its.size + 1 := by simp
  refine ⟨quiet_sift _, ?_⟩
  refine sift_up ((its.push v).size - 1) up (by show (its.push v).size - 1 < (its.push v).size; omega) (fun x hx => ?_) (by show (its.push v).size ≤ 1000; omega) fun its' n' h' tk' pm hg kp => ?_
  · rw [Array.toList_push] at hx
    rcases List.mem_append.mp hx with m | m
    · exact hs x m
    · rw [List.mem_singleton.mp m]
      exact hv
  · exact hR its' n' h' tk' pm hg fun b o nb e => kp b o nb (by rw [Heap.get?_update_ne _ _ _ _ nb]; exact e)
theorem code_pop {prog : Program} {w : World} {A : Around} {R : Result → Shared → Prop} {a : Addr} {its : Array Value} {n : Nat} {s : Shared}
    (ha : s.heap.get? a = some { cls := .type "list", data := .seq its n }) (hs : ∀ v ∈ its.toList, ∃ z t, v = .str z t) (h0 : 0 < its.size) (hz : its.size ≤ 1000)
    (hR : ∀ (z : Str) (t : Tok) (its' : Array Value) (n' : Nat) (h' : Heap) (tk : Nat), (Value.str z t :: its'.toList).Perm its.toList → h'.get? a = some { cls := .type "list", data := .seq its' n' } → (∀ b o, b ≠ a → s.heap.get? b = some o → h'.get? b = some o) → R (.ok (.ret (.str z t))) { s with heap := h', toks := tk }) :
    codeAny (model prog w) A (.call (.builtin "_heapq.heappop") ⟨[.ref a], []⟩) R s := by
  refine codeAny_call_builtin plain_pop entry_pop (wpAny_of_eq (chk_pop _) ?_)
  have hT : s.TypeIs (.ref a) "list" := ⟨_, ha, rfl⟩
  have hL := list_list
  obtain ⟨last, eb⟩ : ∃ last, its.back? = some last := by
    rw [Array.back?_eq_getElem?]
    exact ⟨_, Array.getElem?_eq_getElem (by omega)⟩
  have el : its.toList.getLast? = some last := by rw [Array.getLast?_toList]; exact eb
  obtain ⟨hp', g, d, tk, os⟩ := s
  unfold Builtin.«_heapq.heappop»
  have pp := Heap.get?_update_self (h := hp') (Obj.mapSeq (·.pop)) ha rfl
  by_cases h1 : its.size = 1
  · wp_walk using wpAny_seqItems ha rfl
    rw [eb]
    dsimp only
    have e1 : (its.size == 1) = true := by rw [h1]; rfl
    wp_walk using (wpAny_updateSeq ha rfl)
    obtain ⟨y, hy⟩ : ∃ y, its.toList = [y] := by
      have hl : its.toList.length = 1 := by simpa using h1
      match hL2 : its.toList, hl with
      | [y], _ => exact ⟨y, rfl⟩
    obtain ⟨z, t, rfl⟩ := hs y (by rw [hy]; simp)
    have e2 : last = .str z t := by
      rw [hy] at el
      exact (Option.some.inj el).symm
    subst e2
    have ep : its.pop.toList = [] := by
      rw [Array.toList_pop, hy]
      rfl
    refine hR z t its.pop _ _ _ ?_ pp fun b o nb e => by rw [Heap.get?_update_ne _ _ _ _ nb]; exact e
    rw [ep, hy]
  · have e1 : (its.size == 1) = false := by simpa using h1
    obtain ⟨x, y, r, hxy⟩ : ∃ x y r, its.toList = x :: (r ++ [y]) := by
      have hl : 2 ≤ its.toList.length := by
        have : its.toList.length = its.size := by simp
        omega
      match hL2 : its.toList, hl with
      | x :: b :: t, _ => exact ⟨x, (b :: t).getLast (by simp), (b :: t).dropLast, by rw [List.dropLast_concat_getLast]⟩
    have e2 : last = y := by
      rw [hxy] at el
      have q : (x :: (r ++ [y])).getLast? = some y := by simp [List.getLast?_cons, List.getLast?_append]
      rw [q] at el
      exact (Option.some.inj el).symm
    subst e2
    have efirst : its[0]? = some x := by
      have q : its.toList[0]? = its[0]? := Array.getElem?_toList
      rw [hxy] at q
      exact q.symm
    have sz : its.pop.size = its.size - 1 := by simp
    have ep : its.pop.toList = x :: r := by
      rw [Array.toList_pop, hxy]
      simp [List.dropLast_cons_of_ne_nil]
    have es : (its.pop.setIfInBounds 0 last).toList = last :: r := by
      rw [Array.toList_setIfInBounds, ep]
      rfl
    have sz2 : (its.pop.setIfInBounds 0 last).size = its.size - 1 := by simp
    have up2 := Heap.get?_update_self (h := hp'.update a (Obj.mapSeq (·.pop))) (Obj.mapSeq (·.setIfInBounds 0 last)) pp rfl
    obtain ⟨z, t, rfl⟩ := hs x (by rw [hxy]; simp)
    wp_walk using wpAny_seqItems ha rfl
    rw [eb]
    dsimp only
    wp_walk using (wpAny_updateSeq ha rfl)
    rw [efirst]
    dsimp only
    have f1 : its.pop.size ≤ sizeLine := by rw [sz]; exact Nat.le_trans (show its.size - 1 ≤ 1000 by omega) (by decide)
    have f2 : (its.pop.setIfInBounds 0 last).size ≤ sizeLine + 1 := by rw [sz2]; exact Nat.le_trans (show its.size - 1 ≤ 1000 by omega) (by decide)
    refine wpAny_pure (wpAny_bind ?_)
    refine wpAny_updateSeq pp rfl (hz := f1) (_hz' := f2) ?_
    wp_walk
    refine ⟨quiet_sift _, ?_⟩
    refine sift_down ((its.pop.setIfInBounds 0 last).size - 0) 0 rfl up2 (by show 0 < (its.pop.setIfInBounds 0 last).size; omega) (fun v hv => ?_) (by show (its.pop.setIfInBounds 0 last).size ≤ 1000; omega) fun its' n' h' tk' pm hg kp => ?_
    · have hv : v ∈ (its.pop.setIfInBounds 0 last).toList := hv
      rw [es] at hv
      refine hs v ?_
      rw [hxy]
      rcases List.mem_cons.mp hv with rfl | m
      · simp
      · simp [m]
    · have pm : its'.toList.Perm (its.pop.setIfInBounds 0 last).toList := pm
      rw [es] at pm
      refine hR z t its' n' h' tk' ?_ hg fun b o nb e => kp b o nb (by rw [Heap.get?_update_ne _ _ _ _ nb, Heap.get?_update_ne _ _ _ _ nb]; exact e)
      rw [hxy]
      exact .cons _ (pm.trans (List.perm_append_singleton last r).symm)
end G

set_option Elab.async false
set_option linter.all false
set_option maxRecDepth 100000
set_option maxHeartbeats 4000000
/-! heappush, heappop of a list of texts: what comes in goes out, in some sequence. -/
namespace G
open PySem PySem.Spec PyProof.Rows L2 Evl
def strOf : Value → Str
  | .str z _ => z
  | _ => Str.empty
theorem vals_strOf : ∀ {us : List Value}, (∀ v ∈ us, ∃ z t, v = .str z t) → Vals ((us.map strOf).map V.str) us
  | [], _ => .nil
  | u :: us, h => by
    obtain ⟨z, t, rfl⟩ := h u List.mem_cons_self
    exact .cons ⟨t, rfl⟩ (vals_strOf fun v hv => h v (List.mem_cons_of_mem _ hv))
theorem strOf_vals : ∀ {zs : List Str} {us : List Value}, Vals (zs.map V.str) us → us.map strOf = zs ∧ ∀ v ∈ us, ∃ z t, v = .str z t
  | [], _, h => by
    cases h
    exact ⟨rfl, fun v hv => by cases hv⟩
  | z :: zs, _, h => by
    cases h with
    | cons a b =>
      obtain ⟨t, rfl⟩ := a
      obtain ⟨h1, h2⟩ := strOf_vals b
      refine ⟨by simp [strOf, h1], fun v hv => ?_⟩
      rcases List.mem_cons.mp hv with rfl | hv
      · exact ⟨z, t, rfl⟩
      · exact h2 v hv
def rPush : List V → Hp → VK → Prop := fun vs H Q => ∃ (l : Addr) (z : Str) (zs : List Str), vs = [.ref l, .str z] ∧ H l = some (.lst (zs.map V.str)) ∧ zs.length < 900 ∧ ∀ zs' : List Str, zs'.Perm (z :: zs) → Q .non (upd H l (.lst (zs'.map V.str)))
def rPopH : List V → Hp → VK → Prop := fun vs H Q => ∃ (l : Addr) (zs : List Str), vs = [.ref l] ∧ H l = some (.lst (zs.map V.str)) ∧ zs ≠ [] ∧ zs.length < 900 ∧ ∀ (z : Str) (zs' : List Str), (z :: zs').Perm zs → Q (.str z) (upd H l (.lst (zs'.map V.str)))
theorem cr_push {X : Cx} : CallR X (.builtin "_heapq.heappush") rPush := by
  intro pins s σ H vs us Q I r h
  obtain ⟨l, z, zs, rfl, hl, hz, q⟩ := h
  obtain ⟨u1, u2, rfl, r1, r2⟩ := vals2 r
  cases r1
  obtain ⟨t, rfl⟩ := r2
  obtain ⟨_, its, n, rel, ho⟩ := I.hok l _ hl
  obtain ⟨e1, e2⟩ := strOf_vals rel
  have len := rel.length
  rw [List.length_map] at len
  refine wpAny_call (code_push (its := its.toArray) ho (by simpa using e2) ⟨z, t, rfl⟩ (by rw [List.size_toArray, ← len]; omega) fun its' n' h' tk pm hg kp => ?_)
  have pm : its'.toList.Perm (its ++ [.str z t]) := by simpa using pm
  have st : ∀ v ∈ its'.toList, ∃ z t, v = .str z t := fun v hv => by
    rcases List.mem_append.mp (pm.mem_iff.mp hv) with m | m
    · exact e2 v m
    · exact ⟨z, t, by simpa using m⟩
  have pz : (its'.toList.map strOf).Perm (z :: zs) := by
    have p1 := pm.map strOf
    rw [List.map_append, e1] at p1
    exact p1.trans (List.perm_append_singleton _ _)
  have lz : (its'.toList.map strOf).length = zs.length + 1 := by rw [pz.length_eq]; rfl
  have new : ObjOk X.prog X.w (upd H l (.lst ((its'.toList.map strOf).map V.str))) h' l (.lst ((its'.toList.map strOf).map V.str)) := ⟨Nat.le_trans (by rw [List.length_map, lz]; omega) (show 1000 ≤ sizeLine by decide), its'.toList, n', vals_strOf st, hg⟩
  exact ⟨.non, _, I.write (e := l) (t' := tk) (by rw [hl]; trivial) (.inl rfl) (fun b o nb e => kp b o nb e) ⟨_, hg⟩ new, rfl, q _ pz⟩
theorem cr_popH {X : Cx} : CallR X (.builtin "_heapq.heappop") rPopH := by
  intro pins s σ H vs us Q I r h
  obtain ⟨l, zs, rfl, hl, hne, hz, q⟩ := h
  rw [Vals.ref1 r]
  obtain ⟨_, its, n, rel, ho⟩ := I.hok l _ hl
  obtain ⟨e1, e2⟩ := strOf_vals rel
  have len := rel.length
  rw [List.length_map] at len
  have pos : 0 < zs.length := List.length_pos_iff.mpr hne
  refine wpAny_call (code_pop (its := its.toArray) ho (by simpa using e2) (by rw [List.size_toArray, ← len]; exact pos) (by rw [List.size_toArray, ← len]; omega) fun z t its' n' h' tk pm hg kp => ?_)
  have pm : (Value.str z t :: its'.toList).Perm its := by simpa using pm
  have st : ∀ v ∈ its'.toList, ∃ z t, v = .str z t := fun v hv => e2 v (pm.mem_iff.mp (List.mem_cons_of_mem _ hv))
  have pz : (z :: its'.toList.map strOf).Perm zs := by
    have p1 := pm.map strOf
    rw [e1] at p1
    exact p1
  have lz : (its'.toList.map strOf).length + 1 = zs.length := pz.length_eq
  have new : ObjOk X.prog X.w (upd H l (.lst ((its'.toList.map strOf).map V.str))) h' l (.lst ((its'.toList.map strOf).map V.str)) := ⟨Nat.le_trans (by rw [List.length_map]; omega) (show 1000 ≤ sizeLine by decide), its'.toList, n', vals_strOf st, hg⟩
  exact ⟨.str z, _, I.write (e := l) (t' := tk) (by rw [hl]; trivial) (.inl rfl) (fun b o nb e => kp b o nb e) ⟨_, hg⟩ new, ⟨t, rfl⟩, q _ _ pz⟩
end G

set_option Elab.async false
set_option linter.all false
set_option maxRecDepth 100000
set_option maxHeartbeats 4000000
/-! A set of texts: one more, and sorted. -/
namespace G
open PySem PySem.Spec PyProof.Rows L2 Evl
def zOf (e : Int × Value) : Str := strOf e.2
def Ent (w : World) (e : Int × Value) : Prop := ∃ z u, e.2 = Value.str z u ∧ e.1 = hashStr w z
/-- at a stands the set of the texts zs -/
def SetX (w : World) (h : Heap) (a : Addr) (zs : List Str) : Prop :=
  ∃ (o : Obj) (es : Array (Int × Value)) (n : Nat) (T : SetTable), (h.get? a = some o ∧ o.ExactSet ∧ o.data = .set es n T) ∧ ((∀ e ∈ es.toList, Ent w e) ∧ (es.toList.map zOf).Perm zs ∧ zs.Nodup) ∧
    es.size < scanBound ∧ T.fits es.size = true ∧ Ris T.place.toList ∧ (w.params.followText "set-order" = true ∨ T.led = true)
section
variable {P : Program} {w : World} {h h' : Heap} {a : Addr} {zs : List Str}
theorem SetX.kept (R : SetX w h a zs) (k : ∀ o, h.get? a = some o → h'.get? a = some o) : SetX w h' a zs := by
  obtain ⟨o, es, n, T, ⟨q, r⟩, t⟩ := R
  exact ⟨o, es, n, T, ⟨k o q, r⟩, t⟩
theorem ent_elems {l : List (Int × Value)} (g : ∀ e ∈ l, Ent w e) : ElemsOf (strKind P w) l := by
  intro e m
  obtain ⟨z, u, e1, e2⟩ := g e m
  refine ⟨⟨z, ?_, e2⟩, ?_⟩
  · rw [e1]
    exact strKind_is P w z u
  · rw [e1]
    rfl
theorem ent_is {e : Int × Value} (g : Ent w e) (z : Str) : (strKind P w).is z e.2 = true ↔ zOf e = z := by
  obtain ⟨y, u, e1, _⟩ := g
  have q : zOf e = y := by unfold zOf; rw [e1]; rfl
  rw [q, e1]
  constructor
  · intro i
    exact (strKind P w).inj _ y z (strKind_is P w y u) i
  · rintro rfl
    exact strKind_is P w y u
theorem ent_mem {l : List (Int × Value)} (g : ∀ e ∈ l, Ent w e) (z : Str) : z ∈ l.map zOf ↔ ∃ e ∈ l, (strKind P w).is z e.2 = true := by
  rw [List.mem_map]
  exact ⟨fun ⟨e, m, q⟩ => ⟨e, m, (ent_is (g e m) z).mpr q⟩, fun ⟨e, m, q⟩ => ⟨e, m, (ent_is (g e m) z).mp q⟩⟩
theorem SetX.of (R : SetX w h a zs) : h.SetOf (strKind P w) a (fun z => decide (z ∈ zs)) zs.length := by
  obtain ⟨o, es, n, T, ⟨q1, q2, q3⟩, ⟨g, pm, _⟩, b, f, _⟩ := R
  refine ⟨o, es, n, T, q1, q2, q3, ent_elems g, fun z => ?_, b, f, ?_⟩
  · rw [decide_eq_true_iff, ← pm.mem_iff]
    exact ent_mem g z
  · rw [← pm.length_eq, List.length_map, Array.length_toList]
theorem SetX.nil (w : World) (h : Heap) : SetX w (h.push { cls := .type "set", dict := none, data := .set #[] 0 (.fresh 0 0 (!w.params.followText "set-order")) }) h.objs.size [] := by
  refine ⟨_, #[], 0, _, ⟨Heap.get?_push_size _ rfl, ⟨rfl, rfl, rfl⟩, rfl⟩, ⟨fun e m => by simp at m, List.Perm.refl _, List.nodup_nil⟩, by decide, rfl, List.Pairwise.nil, ?_⟩
  cases z : w.params.followText "set-order" with
  | true => exact .inl rfl
  | false => exact .inr rfl
end
def ins (z : Str) (zs : List Str) : List Str := if z ∈ zs then zs else z :: zs
section
variable {P : Program} {w : World} {A : Around} {E : Value → Shared → Prop} {s : Shared} {a : Addr} {zs : List Str}
theorem put_at {h : Heap} {o : Obj} {es fs : Array (Int × Value)} {n : Nat} {T U : SetTable} (q : h.get? a = some o) (d : o.data = .set es n T) :
    (h.update a (Obj.putSet fs U)).get? a = some { o with data := .set fs (n + 1) U } := by
  have r := Heap.get?_update_self (Obj.putSet fs U) q (by rw [putSet_of fs U d]; rfl)
  rw [r, putSet_of fs U d]
/-- what stands behind the laying of a new one -/
theorem laid_more {gv : Bool → Sem Unit} (hgv : ∀ (b : Bool) (s1 : Shared) (R1 : Unit → Shared → Prop), R1 () s1 → wpAny (model P w) A (gv b) R1 E s1)
    {o : Obj} {es fs : Array (Int × Value)} {n : Nat} {T U : SetTable} (q : s.heap.get? a = some o) (ex : o.ExactSet) (d : o.data = .set es n T) (g : ∀ e ∈ fs.toList, Ent w e) (pm : (fs.toList.map zOf).Perm zs) (nd : zs.Nodup)
    (b : fs.size < scanBound) (f : U.fits fs.size = true) (rs : Ris U.place.toList) (ld : w.params.followText "set-order" = true ∨ U.led = true) {wd : Bool} {R : Option Bool → Shared → Prop}
    (k : ∀ h', Heap.SameBut a s.heap h' → SetX w h' a zs → R (some true) { s with heap := h' }) :
    wpAny (model P w) A (do
        storeSet a fs U
        if (!wd && U.tooFull) = true then do
          gv (relayAll U fs (SetTable.grown fs.size)).2.2
          storeSet a (relayAll U fs (SetTable.grown fs.size)).1 (relayAll U fs (SetTable.grown fs.size)).2.1
          pure (some true)
        else pure (some true)) R E s := by
  refine wpAny_bind (wpAny_storeSet_of q d ?_ (fits_of_scanBound b))
  have q1 := put_at (fs := fs) (U := U) q d
  have c1 := Heap.SameBut.update s.heap a (Obj.putSet fs U)
  by_cases full : (!wd && U.tooFull) = true
  · rw [if_pos full]
    have pm2 := relayAll_perm U fs (SetTable.grown fs.size)
    have f2 := relayAll_fits U fs (SetTable.grown fs.size)
    have r2 := relayAll_ris U fs (SetTable.grown fs.size)
    have l2 := relayAll_led U fs (SetTable.grown fs.size)
    revert pm2 f2 r2 l2
    generalize relayAll U fs (SetTable.grown fs.size) = Z
    obtain ⟨gs, W, gave⟩ := Z
    intro pm2 f2 r2 l2
    dsimp only at pm2 f2 r2 l2 ⊢
    have sz : gs.size = fs.size := by
      have := pm2.length_eq
      simpa using this
    have b2 : gs.size < scanBound := sz ▸ b
    refine wpAny_bind (hgv _ _ _ ?_)
    refine wpAny_bind (wpAny_storeSet_of q1 rfl ?_ (fits_of_scanBound b2))
    have q2 := put_at (fs := gs) (U := W) q1 rfl
    refine wpAny_pure (k _ (c1.trans (Heap.SameBut.update _ a _)) ?_)
    refine ⟨_, gs, _, W, ⟨q2, ex, rfl⟩, ⟨fun e m => g e (pm2.mem_iff.mp m), (pm2.map zOf).trans pm, nd⟩, b2, f2, r2, ?_⟩
    rcases ld with ld | ld
    · exact .inl ld
    · exact .inr (l2.trans ld)
  · rw [if_neg full]
    exact wpAny_pure (k _ c1 ⟨_, fs, _, U, ⟨q1, ex, rfl⟩, ⟨g, pm, nd⟩, b, f, rs, ld⟩)
theorem add_hashed {z : Str} {u : Tok} {Q : Bool → Shared → Prop} (R : SetX w s.heap a zs) (room : zs.length + 1 < scanBound)
    (k : ∀ b h', Heap.SameBut a s.heap h' → SetX w h' a (ins z zs) → Q b { s with heap := h' }) :
    wpAny (model P w) A (setAddHashed a (.str z u) (hashStr w z)) Q E s := by
  obtain ⟨o, es, n, T, ⟨q, ex, d⟩, ⟨g, pm, nd⟩, b, f, rs, ld⟩ := id R
  have el : ElemsOf (strKind P w) es.toList := ent_elems g
  have key : (strKind P w).is z (.str z u) = true := strKind_is P w z u
  have sc : (Value.str z u).scannable = true := rfl
  unfold setAddHashed setAddHashedIn
  refine wpAny_holding (wpAny_bind (wpAny_setState_of q d f ?_))
  dsimp only
  rw [byScan_of sc b el]
  simp only [↓reduceIte]
  unfold setAddByScan
  refine wpAny_bind (wpAny_bind (wpAny_rule (wpAny_bind (wpAny_setScan_of key q d f el ?_))))
  cases fi : List.findIdx? (fun e => (strKind P w).is z e.2) es.toList with
  | some j =>
    obtain ⟨jl, jp, _⟩ := List.findIdx?_eq_some_iff_getElem.mp fi
    have zin : z ∈ zs := pm.mem_iff.mp ((ent_mem (P := P) g z).mpr ⟨_, List.getElem_mem jl, jp⟩)
    have r := k false s.heap (Heap.SameBut.refl a s.heap) (by unfold ins; rw [if_pos zin]; exact R)
    exact wpAny_pure (wpAny_pure r)
  | none =>
    have nin : z ∉ es.toList.map zOf := fun m => by
      obtain ⟨e, me, y⟩ := (ent_mem (P := P) g z).mp m
      exact absurd y (by rw [List.findIdx?_eq_none_iff.mp fi e me]; exact Bool.false_ne_true)
    have nz : z ∉ zs := fun m => nin (pm.mem_iff.mpr m)
    have more : ins z zs = z :: zs := by unfold ins; rw [if_neg nz]
    rw [more] at k
    dsimp only
    have gave : ∀ (c : Bool) {s1 : Shared} {R1 : Unit → Shared → Prop}, R1 () s1 → wpAny (model P w) A (match c with | true => rule "set.scan.the-table-gave-way" | false => pure ()) R1 E s1 := by
      intro c s1 R1 y
      cases c
      · exact wpAny_pure y
      · exact wpAny_rule y
    have pm1 := layNew_perm T es ((strKind P w).hash z) (.str z u)
    have f1 := layNew_fits T es ((strKind P w).hash z) (.str z u)
    have r1 := layNew_ris T es ((strKind P w).hash z) (.str z u) rs
    have l1 := layNew_led T es ((strKind P w).hash z) (.str z u)
    revert pm1 f1 r1 l1
    show _ → _ → _ → _ → wpAny _ _ _ _ _ _
    have eh : (strKind P w).hash z = hashStr w z := rfl
    rw [eh]
    generalize layNew T es (hashStr w z) (.str z u) = Z
    obtain ⟨fs, U, wd, gv⟩ := Z
    intro pm1 f1 r1 l1
    dsimp only at pm1 f1 r1 l1 ⊢
    rw [Array.toList_push] at pm1
    have pmc := pm1.trans (List.perm_append_singleton (hashStr w z, Value.str z u) es.toList)
    have pmz : (fs.toList.map zOf).Perm (z :: zs) := (pmc.map zOf).trans (List.Perm.cons z pm)
    have g1 : ∀ e ∈ fs.toList, Ent w e := by
      intro e m
      rcases List.mem_cons.mp (pmc.mem_iff.mp m) with y | y
      · exact ⟨z, u, by rw [y], by rw [y]⟩
      · exact g e y
    have sz : fs.size = zs.length + 1 := by
      have := pmz.length_eq
      simpa using this
    have b1 : fs.size < scanBound := by rw [sz]; exact room
    have nd1 : (z :: zs).Nodup := List.nodup_cons.mpr ⟨nz, nd⟩
    have ld1 : w.params.followText "set-order" = true ∨ U.led = true := ld.imp id fun y => l1.trans y
    refine wpAny_bind (gave _ ?_)
    split
    · refine wpAny_bind ?_
      rw [hashByValue_scannable 8 sc]
      refine wpAny_pure (laid_more ?_ q ex d g1 pmz nd1 b1 ?_ ?_ ?_ ?_)
      · intro c s1 R1 y
        cases c
        · exact wpAny_pure y
        · exact wpAny_rule y
      · first | (split <;> first | exact f1 | exact SetTable.fits_plain_off f1) | exact f1
      · first | (split <;> exact r1) | exact r1
      · first | (split <;> exact ld1) | exact ld1
      · intro h' sb R1
        dsimp only
        exact wpAny_pure (k true h' sb R1)
    · refine wpAny_bind (wpAny_pure ?_)
      simp only [↓reduceIte]
      refine laid_more ?_ q ex d g1 pmz nd1 b1 f1 r1 ld1 ?_
      · intro c s1 R1 y
        cases c
        · exact wpAny_pure y
        · exact wpAny_rule y
      · intro h' sb R1
        dsimp only
        exact wpAny_pure (k true h' sb R1)
theorem add_text {z : Str} {u : Tok} {Q : Value → Shared → Prop} (R : SetX w s.heap a zs) (room : zs.length + 1 < scanBound)
    (k : ∀ h', Heap.SameBut a s.heap h' → SetX w h' a (ins z zs) → Q .none { s with heap := h', toks := s.toks + 1 }) :
    wpAny (model P w) A (call (.builtin "set.add") [.ref a, .str z u]) Q E s := by
  have T0 : s.heap.SetOf (strKind P w) a (fun z => decide (z ∈ zs)) zs.length := R.of
  refine wpAny_call_entry F.slot_set_add T0.typeIs F.entry_set_add ?_ (F.args_set_add_2 _ _)
  unfold Builtin.«set.add» Builtin.Frozenset.oneOther
  simp only [List.isEmpty_nil, bind_assoc]
  unfold Builtin.Frozenset.addrOf setAdd
  refine wpAny_bind (wpAny_pure ?_)
  try dsimp only
  refine wpAny_bind (wpAny_pure ?_)
  try dsimp only
  refine wpAny_bind (wpAny_holding (wpAny_bind ((strKind P w).pyHash (strKind_is P w z u) ?_)))
  refine add_hashed (s := { s with toks := s.toks + 1 }) R room fun b h' sb R1 => ?_
  exact wpAny_pure ⟨_, rfl, k h' sb R1⟩
end
/-- the set of the texts zs at a, as a tracked thing -/
def setO (w : World) (a : Addr) (zs : List Str) : HO := .ext fun h => SetX w h a zs
theorem setO_ok {P : Program} {w : World} {H : Hp} {h : Heap} {a : Addr} {zs : List Str} (R : SetX w h a zs) : ObjOk P w H h a (setO w a zs) := by
  obtain ⟨o, _, _, _, ⟨q, _⟩, _⟩ := id R
  exact ⟨R, ⟨o, q⟩, fun _ _ p k => SetX.kept p k⟩
section
variable {X : Cx} {pins : List (Addr × Obj)} {σ : L2.St} {H : Hp} {s : Shared}
theorem setO_at {a : Addr} {zs : List Str} (I : Inv X pins σ H s) (q : H a = some (setO X.w a zs)) : SetX X.w s.heap a zs := (I.hok a _ q).1
theorem addX_ok {E : Value → Shared → Prop} {D : Addr} {zs : List Str} {z : Str} {u : Tok} {Q : Value → Shared → Prop} (I : Inv X pins σ H s) (q : H D = some (setO X.w D zs)) (room : zs.length + 1 < scanBound)
    (k : ∀ s', Inv X pins σ (upd H D (setO X.w D (ins z zs))) s' → Q .none s') : wpAny (model X.prog X.w) X.A (call (.builtin "set.add") [.ref D, .str z u]) Q E s := by
  refine add_text (setO_at I q) room fun h' sb R1 => k _ ?_
  obtain ⟨o, _, _, _, ⟨q1, _⟩, _⟩ := id R1
  exact I.write (e := D) (t' := s.toks + 1) (by rw [q]; trivial) (.inl rfl) (fun b y nb hy => (sb.2 b nb).trans hy) ⟨o, q1⟩ (setO_ok R1)
end
end G

set_option Elab.async false
set_option linter.all false
set_option maxRecDepth 100000
set_option maxHeartbeats 4000000
/-! {elt for target in iter if ..}, elt a text; sorted of a set of texts. -/
namespace G
open PySem PySem.Spec PyProof.Rows L2 Evl
section
variable {X : Cx}
/-- how one turn goes on -/
def TurnX (w : World) (D : Addr) (g : TG) (tt : TT) (te : TE) (vs : List Nat) (σ : L2.St) (Nx : Hp → Prop) (x : V) (H : Hp) : Prop :=
  g x (wipe σ vs) H fun σ2 H2 => wipe σ2 vs = wipe σ vs ∧ tt σ2 H2 fun b H3 =>
    if b = true then te σ2 H3 fun y H4 => ∃ (z : Str) (zs : List Str), y = .str z ∧ H4 D = some (setO w D zs) ∧ zs.length + 1 < scanBound ∧ Nx (upd H4 D (setO w D (ins z zs))) else Nx H3
/-- how the turns go, J what is walked -/
def WalkX (w : World) (J : It) (D : Addr) (g : TG) (tt : TT) (te : TE) (vs : List Nat) (σ : L2.St) (H0 : Hp) (Qd : Hp → Prop) : Prop :=
  ∃ W : Nat → Nat → Hp → Prop, (∃ m, W 0 m H0) ∧ ∀ i m H, W i m H → (J.stop i H ∧ Qd H) ∨
    (J.go i H ∧ ∃ Nx : Hp → Prop, (∀ H', Nx H' → ∃ m', m' < m ∧ W (i + 1) m' H') ∧ ∀ x H', J.yld i H x H' → TurnX w D g tt te vs σ Nx x H')
def tSx (w : World) (wi : TI) (g : TG) (tt : TT) (te : TE) (vs : List Nat) : TE := fun σ H Q => wi σ H fun J H1 => ∀ D, H1 D = none → WalkX w J D g tt te vs σ (upd H1 D (setO w D [])) fun H' => Q (.ref D) H'
theorem pe_sx {elt tg iter : Expr} {ifs : List Expr} {scope : Scope} {own : List (PySem.Str × Nat)} {pos : Pos} {wi : TI} {g : TG} {tt : TT} {te : TE} (hc : X.calm = true) (nd : X.N.Nodup) (hi : PI X tg iter wi) (ok : BlkOk X.N X.env.scope scope own)
    (hg : ∀ (s : Shared) (H : Hp) (C : Addr) (cl : List (PySem.Str × Addr)) (fp : List Addr), PG (X.blk s H scope (compEnvC scope cl C X.env) fp) tg g)
    (ht : ∀ (s : Shared) (H : Hp) (C : Addr) (cl : List (PySem.Str × Addr)) (fp : List Addr), PTs (X.blk s H scope (compEnvC scope cl C X.env) fp) ifs tt)
    (he : ∀ (s : Shared) (H : Hp) (C : Addr) (cl : List (PySem.Str × Addr)) (fp : List Addr), PE (X.blk s H scope (compEnvC scope cl C X.env) fp) elt te)
    (hf : ∀ x, foldedSetIterable iter X.env x = pure x := by intro _; rfl) : PE X (.SetComp elt [⟨tg, iter, ifs, 0⟩] scope pos) (tSx X.w wi g tt te (own.map (·.2))) := by
  refine ⟨fun pins s σ H Q I h => ?_⟩
  rw [PpSet.eval_SetComp]
  have clo : ∀ y ∈ scope.names, y.2 = .free → ∃ c, X.env.cells.lookup y.1 = some c := by
    intro y m e
    exact (ok.free y m e).elim (fun k => I.ok.has _ (.inl k)) (fun k => I.ok.has _ (.inr k))
  refine wpAny_comprehension_free rfl hf (closure_ok clo) ok.kind (fun y m e => by rw [ok.uniq y m, e]) (thn (hi.run pins s σ H _ I h) fun xv sa ha => thn ha fun iv sb hb => ?_)
  obtain ⟨it, fp, tn, J, HA, rfl, IA, T, stA, fA, turns⟩ := hb
  refine PpSet.newSet_ok (newEnv_comp ?_)
  obtain ⟨W, ⟨m0, w0⟩, turn⟩ := turns sb.heap.objs.size (IA.hok.fresh (Nat.le_refl _))
  have keepA : ∀ (b : Addr) (o : Obj), sb.heap.get? b = some o → (sb.heap.push { cls := .type "set", dict := none, data := .set #[] 0 (.fresh 0 0 (!X.w.params.followText "set-order")) }).get? b = some o := fun b o e => Heap.get?_push_of_some _ e
  have IB : Inv X pins σ (upd HA sb.heap.objs.size (setO X.w sb.heap.objs.size [])) { sb with heap := sb.heap.push { cls := .type "set", dict := none, data := .set #[] 0 (.fresh 0 0 (!X.w.params.followText "set-order")) } } :=
    IA.laid (t' := sb.toks) keepA (Nat.le_refl _) (setO_ok (SetX.nil X.w sb.heap))
  have stB := T.keep _ _ _ stA fun b _ o e => keepA b o e
  generalize eD : sb.heap.objs.size = D at IB w0 turn ⊢
  generalize eB : ({ sb with heap := sb.heap.push { cls := .type "set", dict := none, data := .set #[] 0 (.fresh 0 0 (!X.w.params.followText "set-order")) } } : Shared) = sB at IB
  have eBh : sb.heap.push { cls := .type "set", dict := none, data := .set #[] 0 (.fresh 0 0 (!X.w.params.followText "set-order")) } = sB.heap := by rw [← eB]
  rw [eBh] at stB
  have fpB : ∀ b ∈ fp, FpOk X pins (upd HA D (setO X.w D [])) b ∧ b < sB.heap.objs.size := by
    intro b m
    obtain ⟨o, e, _⟩ := T.obj _ _ stA b m
    have lt := Heap.lt_size e
    refine ⟨⟨?_, (fA b m).2⟩, ?_⟩
    · rw [upd_ne (by rw [← eD]; exact Nat.ne_of_lt lt)]
      exact (fA b m).1
    · rw [← eBh, Heap.size_push]
      exact Nat.lt_succ_of_lt lt
  have IC := block_start IB ok nd fpB
  have pg := hg sB (upd HA D (setO X.w D [])) sB.heap.objs.size (cellsFrom (sB.heap.objs.size + 1) scope.names (cloFrom X.env.cells scope.names [])) fp
  have pt := ht sB (upd HA D (setO X.w D [])) sB.heap.objs.size (cellsFrom (sB.heap.objs.size + 1) scope.names (cloFrom X.env.cells scope.names [])) fp
  have pe := he sB (upd HA D (setO X.w D [])) sB.heap.objs.size (cellsFrom (sB.heap.objs.size + 1) scope.names (cloFrom X.env.cells scope.names [])) fp
  have noB : ∀ b ∈ fp, (upd HA D (setO X.w D [])) b = none := fun b m => (fpB b m).1.1
  show codeAny _ _ (.compStart (.SetComp elt [⟨tg, iter, ifs, 0⟩] scope pos) 0 (.ref it) (.ref D) (compEnvC scope (cellsFrom (sB.heap.objs.size + 1) scope.names (cloFrom X.env.cells scope.names [])) sB.heap.objs.size X.env)) (compPost (model X.prog X.w) X.A X.xe none (EP X pins σ Q) (.ref D) sB.heap.objs.size) { sB with heap := pushCells (sB.heap.push { cls := .type "dict", data := .dict #[] }) scope.names }
  generalize ece : compEnvC scope (cellsFrom (sB.heap.objs.size + 1) scope.names (cloFrom X.env.cells scope.names [])) sB.heap.objs.size X.env = ce at IC pg pt pe ⊢
  have loc : ce.locals = sB.heap.objs.size := by rw [← ece]; rfl
  generalize eH : upd HA D (setO X.w D []) = HB at IB IC pg pt pe w0 noB fpB
  generalize esC : ({ sB with heap := pushCells (sB.heap.push { cls := .type "dict", data := .dict #[] }) scope.names } : Shared) = sC at IC ⊢
  have stC : tn 0 sC.heap := T.keep _ _ _ stB fun b _ o e => by
    rw [← esC]
    exact pushCells_keeps _ _ _ _ (Heap.get?_push_of_some _ e)
  have still : ∀ {σ1 : L2.St} {H1 : Hp} {s1 : Shared}, Inv (X.blk sB HB scope ce fp) [] σ1 H1 s1 → (∀ b ∈ fp, H1 b = none) → ∀ b ∈ fp, FpOk (X.blk sB HB scope ce fp) [] H1 b := by
    intro σ1 H1 s1 I1 no b m
    exact ⟨no b m, (I1.ok.exf b m).1, I1.ok.exfs b m, .inl m, fun x c e => (I1.ok.exf b m).2 x c e, fun p hp => by cases hp⟩
  have main : codeAny (model X.prog X.w) X.A (.compLoop (.SetComp elt [⟨tg, iter, ifs, 0⟩] scope pos) 0 (.ref it) (.ref D) ce) (compPost (model X.prog X.w) X.A X.xe none (EP X pins σ Q) (.ref D) sB.heap.objs.size) sC := by
    refine PpSet.compLoopS_any (fun n s1 => ∃ i H1, Inv (X.blk sB HB scope ce fp) [] (wipe σ (own.map (·.2))) H1 s1 ∧ tn i s1.heap ∧ (∀ b ∈ fp, H1 b = none) ∧ W i n H1) ?_ m0 ⟨0, HB, IC, stC, noB, w0⟩
    rintro n s1 ⟨i, H1, I1, st1, no1, w1⟩
    rcases turn i n H1 w1 with ⟨halt, fin⟩ | ⟨go, Nx, less, step⟩
    · refine thnF (T.done (X.blk sB HB scope ce fp) rfl rfl rfl hc i [] s1 _ H1 (fun _ _ => False) I1 (still I1 no1) st1 halt) fun r s2 ⟨er, I2⟩ => ?_
      subst er
      have I3 : Inv X pins σ H1 s2 := IB.call' (ch := fp) I2.os I2.base I2.hok I2.bare fun b m => ⟨(fpB b m).1.2.2.2.1, (fpB b m).1.2.1, (fpB b m).1.2.2.2.2.1, (fpB b m).1.2.2.2.2.2⟩
      have nC : H1 sB.heap.objs.size = none := by
        have := I2.free
        rw [show (X.blk sB HB scope ce fp).env.locals = ce.locals from rfl, loc] at this
        exact this
      obtain ⟨m, hn, _⟩ := I2.loc
      have hn : s2.heap.Ns ce.locals m := hn
      rw [loc] at hn
      obtain ⟨f0, f1, f2, f3, f4, f5⟩ := IB.fpOk (Nat.le_refl _) nC
      exact ⟨m, hn, fun h2 sm => ⟨.ref D, H1, I3.turned (t' := s2.toks) (fun b o nb e => (sm.2 b nb).trans e) f0 f1 f3 f4 f5, rfl, fin⟩⟩
    · refine thnF (T.item (X.blk sB HB scope ce fp) rfl rfl rfl hc i [] s1 _ H1 (fun _ _ => False) I1 (still I1 no1) st1 go) fun r s2 ⟨u, er, next⟩ => ?_
      subst er
      refine thnF next fun _ s3 ⟨x, H3, I3, r3, y3, st3, no3⟩ => ?_
      have I3p := I3.pinned (still I3 no3) (T.obj _ _ st3)
      refine thnF (pg.run _ s3 _ H3 x u _ I3p r3 (step x H3 y3)) fun _ s4 ⟨σ4, H4, I4, wp4, q4⟩ => ?_
      refine thnF (pt.run _ s4 σ4 H4 _ I4 q4) fun b s5 ⟨H5, I5, q5⟩ => ?_
      have turned : ∀ {s9 : Shared} {H9 : Hp}, Inv (X.blk sB HB scope ce fp) ([] ++ pinsAt fp s3.heap) σ4 H9 s9 → Nx H9 → ∃ m, m < n ∧ ∃ i H1, Inv (X.blk sB HB scope ce fp) [] (wipe σ (own.map (·.2))) H1 s9 ∧ tn i s9.heap ∧ (∀ b ∈ fp, H1 b = none) ∧ W i m H1 := by
        intro s9 H9 I9 nx
        obtain ⟨m, lt, w9⟩ := less H9 nx
        have pin : ∀ b ∈ fp, ∀ o, s3.heap.get? b = some o → s9.heap.get? b = some o ∧ H9 b = none := fun b mb o e =>
          have z := I9.pin (b, o) (List.mem_append_right _ (List.mem_append_right _ (mem_pinsAt mb e)))
          ⟨z.1, z.2.1⟩
        refine ⟨m, lt, i + 1, H9, (I9.unpinned (pins := [])).weak (by rw [← wp4, wipe_length]) (fun j v e => ?_), T.keep _ _ _ st3 fun b mb o e => (pin b mb o e).1, fun b mb => ?_, w9⟩
        · rw [← wp4] at e
          exact (wipe_some e).1
        · obtain ⟨o, e, _⟩ := T.obj _ _ st3 b mb
          exact (pin b mb o e).2
      cases b with
      | false =>
        rw [if_neg (by decide)] at q5
        rw [if_neg (by decide)]
        exact turned I5 q5
      | true =>
        rw [if_pos rfl] at q5
        rw [if_pos rfl]
        refine thnF (pe.run _ s5 σ4 H5 _ I5 q5) fun v s6 ⟨yv, H6, I6, r6, z, zs, ey, hD, room, nx⟩ => ?_
        subst ey
        obtain ⟨u2, rfl⟩ := r6
        exact addX_ok (X := X.blk sB HB scope ce fp) I6 hD room fun s7 I7 => turned I7 nx
  exact PpSet.codeAny_compStart_set main (T.self X.A 0 _ _ _ stC main)
end
/-! ### sorted of a set of texts -/
def rSortX (w : World) : List V → Hp → VK → Prop := fun vs H Q => ∃ (a : Addr) (zs : List Str), vs = [.ref a] ∧ H a = some (setO w a zs) ∧ zs.length < 64 ∧ ∀ (ys : List Str) (p : Addr), ys.Perm zs → H p = none → Q (.ref p) (upd H p (.lst (ys.map V.str)))
end G

set_option Elab.async false
set_option linter.all false
set_option maxRecDepth 100000
set_option maxHeartbeats 4000000
namespace G
open PySem PySem.Spec PyProof.Rows L2 Evl
theorem texts_of {w : World} {es : List (Int × Value)} : ∀ {vs : List Value}, (∀ v ∈ vs, ∃ z u, v = Value.str z u) → StrsAre vs (vs.map strOf)
  | [], _ => .nil
  | v :: vs, h => by
    obtain ⟨z, u, rfl⟩ := h v List.mem_cons_self
    exact .cons z u (texts_of (w := w) (es := es) fun x m => h x (List.mem_cons_of_mem _ m))
/-- sorted(a set of texts) -/
theorem cr_sortX {X : Cx} (hc : X.calm = true) : CallR X (.builtin "sorted") (rSortX X.w) := by
  intro pins s σ H vs us Q I r h
  obtain ⟨a, zs, rfl, ha, few, q⟩ := h
  obtain ⟨o, es, n, T, ⟨q1, q2, q3⟩, ⟨g, pm, _⟩, b, f, rs, ld⟩ := setO_at I ha
  rw [Vals.ref1 r]
  refine Calls.call_function_entry PyProof.Rows.kind_sorted PyProof.Rows.plain_sorted PyProof.Rows.entry_sorted (PyProof.Rows.args_sorted1 _) ?_
  unfold Builtin.«sorted»
  refine wpAny_bind (m := checkCount "sorted" 1 1 _) (wpAny_pure ?_)
  refine wpAny_bind (collect_set (A := X.A.in1) (I.ok.hd hc) ⟨o, q1, q2.1, q3⟩ f b rs ld fun s1 ws k1 z1 g1 o1 pw => ?_)
  have tx : ∀ v ∈ ws, ∃ z u, v = Value.str z u := by
    intro v m
    obtain ⟨e, me, ee⟩ := List.mem_map.mp (pw.mem_iff.mp m)
    obtain ⟨z, u, e1, _⟩ := g e me
    exact ⟨z, u, by rw [← ee, e1]⟩
  have SA : StrsAre ws (ws.map strOf) := texts_of (w := X.w) (es := []) tx
  have pz : (ws.map strOf).Perm zs := by
    have p1 := pw.map strOf
    rw [List.map_map] at p1
    exact p1.trans pm
  have len : ws.length = zs.length := by
    have := pz.length_eq
    simpa using this
  refine wpAny_bind (wpAny_newList ?_ (by rw [len, sizeLine_eq]; omega))
  have hL : (s1.heap.push (seqObj "list" ws.toArray 0)).get? s1.heap.objs.size = some (seqObj "list" ws.toArray 0) := Heap.get?_push_size _ rfl
  refine wpAny_bind (wpAny_holding (wpAny_call_entry PyProof.Rows.slot_list_sort ⟨_, hL, rfl⟩ PyProof.Rows.entry_list_sort
    (list_sort_treeK strKind_oneLt (s := { s1 with heap := s1.heap.push (seqObj "list" ws.toArray 0) }) hL SA.keysOf (fun x y rest e => keyKind_strs (by rw [← e]; exact SA)) (by rw [len]; exact few) fun st hp hs => ⟨_, rfl, ?_⟩) (PyProof.Rows.args_list_sort _)))
  obtain ⟨ys, y1, y2, y3⟩ := sorted_out_str SA hp hs
  obtain ⟨c, hcat⟩ := PyProof.Rows.sortedHeap_at (vs := ws) (out := (arrOf st).map (·.2)) hL
  have yl : (ys.map V.str).length ≤ sizeLine := by
    rw [List.length_map, y2.length_eq, List.length_map, len]
    exact Nat.le_trans (Nat.le_of_lt few) (by decide)
  have I1 : Inv X pins σ H s1 := I.call' (ch := []) o1 (Un.kept k1) (I.hok.kept k1) (by rw [g1]; exact I.bare) (fun _ z => nomatch z)
  have I2 : Inv X pins σ (upd H s1.heap.objs.size (.lst (ys.map V.str))) { s1 with heap := sortedHeap (s1.heap.push (seqObj "list" ws.toArray 0)) s1.heap.objs.size ws ((arrOf st).map (·.2)) } := by
    refine I1.laid (t' := s1.toks) (fun x u e => ?_) (Nat.le_refl _) (show ObjOk X.prog X.w _ _ _ (.lst (ys.map V.str)) from ⟨yl, ((arrOf st).map (·.2)).toList, c, vals_of_strs y1, by rw [Array.toArray_toList]; exact hcat⟩)
    have lt := Heap.lt_size e
    rw [PyProof.Rows.sortedHeap_old (Nat.ne_of_lt lt) (by rw [size_push']; exact Nat.lt_succ_of_lt lt)]
    exact Heap.get?_push_of_some _ e
  exact wpAny_pure ⟨_, rfl, .ref s1.heap.objs.size, _, I2, rfl, q ys _ (y2.trans pz) (I1.hok.fresh (Nat.le_refl _))⟩
/-! ### how the turns of a set's comprehension go over a list -/
section
variable {K : PySem.W.Frag} {w : World}
/-- {z for z in a list of texts if it is kept}: what is kept, once each -/
theorem walks_tup {a D : Addr} {xs : List V} {g : TG} {tt : TT} {te : TE} {vs : List Nat} {σ : L2.St} {H0 : Hp} {Qd : Hp → Prop} (Pv : Nat → Hp → Prop) (h0 : Pv 0 H0) (hl : ∀ i H, i ≤ xs.length → Pv i H → SqT K H a xs)
    (hs : ∀ i x H, xs[i]? = some x → Pv i H → TurnX w D g tt te vs σ (Pv (i + 1)) x H) (hd : ∀ H, Pv xs.length H → Qd H) : WalkX w (Itt K a) D g tt te vs σ H0 Qd := by
  refine ⟨fun i m H => m + i = xs.length ∧ Pv i H, ⟨xs.length, rfl, h0⟩, ?_⟩
  rintro i m H ⟨e, p⟩
  have st := hl i H (by omega) p
  rcases Nat.lt_or_ge i xs.length with lt | ge
  · refine .inr ⟨⟨xs, xs[i], st, by simp [lt]⟩, Pv (i + 1), fun H' p' => ⟨m - 1, by omega, by omega, p'⟩, fun x H' y => ?_⟩
    obtain ⟨rfl, y⟩ := y
    exact hs i x _ (y xs st) p
  · have ei : i = xs.length := by omega
    subst ei
    exact .inl ⟨⟨xs, st, Nat.le_refl _⟩, hd H p⟩
end
end G

set_option Elab.async false
set_option linter.all false
set_option maxRecDepth 100000
set_option maxHeartbeats 4000000
/-! x in o, x not in o by the class's own __contains__. -/
namespace G
open PySem PySem.Spec PyProof.Rows L2 Evl
/-- the def promises a truth value -/
def rInOwn (C : Addr) (sp : Sp) (E : XK) (neg : Bool) : R2 := fun x y H Q => ∃ a dx fs, y = .ref a ∧ H a = some (.ins C dx fs) ∧ sp [.ref a, x] H (fun v H' => ∃ b, v = .bl b ∧ Q (.bl (if neg = true then !b else b)) H') E
section
variable {X : Cx} {CC : CXT} {n : Nat} {C f : Addr} {fd : FuncData} {ps : List Str} {sp : Sp} {E : XK}
theorem op_inOwn (F : FnOk X.prog X.w X.K X.mg X.base CC n f fd ps sp) (hr : Room n X.A) (hs : PySem.W.findIn X.K (.ref C) "__contains__" = some (some (.ref f))) (hf : PySem.W.isFn X.K (.ref f) = true) (hb : Binds X.K fd ps []) (hx : Passes CC X E) :
    OpR X (compareOp .In) (rInOwn C sp E false) := by
  intro pins s σ H x y v u Q I rx ry h
  obtain ⟨a, dx, fs, rfl, ha, h⟩ := h
  cases ry
  obtain ⟨mA, J, _⟩ := ins_get I.hok ha
  obtain ⟨od, J, _⟩ := J.look
  obtain ⟨m, hF⟩ := I.fr
  refine PySem.W.in_K hF I.ok.mod.kin J hs hf (wpAny_mono (run_fn (vs := [.ref a, x]) (us := [.ref a, v]) F hr hb .nil hx I (.cons rfl (.cons rx .nil)) h) (fun r s1 q => ?_) fun _ _ z => z)
  obtain ⟨z, H1, I1, rz, b, rfl, q⟩ := q
  cases rz
  exact wpAny_truthy_bool ⟨.bl b, H1, I1, rfl, q⟩
theorem op_ninOwn (F : FnOk X.prog X.w X.K X.mg X.base CC n f fd ps sp) (hr : Room n X.A) (hs : PySem.W.findIn X.K (.ref C) "__contains__" = some (some (.ref f))) (hf : PySem.W.isFn X.K (.ref f) = true) (hb : Binds X.K fd ps []) (hx : Passes CC X E) :
    OpR X (compareOp .NotIn) (rInOwn C sp E true) := by
  intro pins s σ H x y v u Q I rx ry h
  obtain ⟨a, dx, fs, rfl, ha, h⟩ := h
  cases ry
  obtain ⟨mA, J, _⟩ := ins_get I.hok ha
  obtain ⟨od, J, _⟩ := J.look
  obtain ⟨m, hF⟩ := I.fr
  refine PySem.W.notIn_K hF I.ok.mod.kin J hs hf (wpAny_mono (run_fn (vs := [.ref a, x]) (us := [.ref a, v]) F hr hb .nil hx I (.cons rfl (.cons rx .nil)) h) (fun r s1 q => ?_) fun _ _ z => z)
  obtain ⟨z, H1, I1, rz, b, rfl, q⟩ := q
  cases rz
  exact wpAny_truthy_bool ⟨.bl (!b), H1, I1, rfl, q⟩
end
/-! ### dict comprehensions that only make things -/
/-- what a dict's comprehension over J asks -/
def DcG (J : It) (g : TG) (tt : TT) (tk tv : TE) (vs : List Nat) (σ : L2.St) (H : Hp) (D : Addr) (Qd : Hp → Prop) : Prop :=
  ∃ W : Nat → Nat → Hp → Prop, (∃ m, W 0 m (upd H D (.dK []))) ∧ ∀ i m Hx, W i m Hx →
    (J.stop i Hx ∧ Qd Hx) ∨ (J.go i Hx ∧ ∃ Nx : Hp → Prop, (∀ H', Nx H' → ∃ m', m' < m ∧ W (i + 1) m' H') ∧ ∀ x H', J.yld i Hx x H' → g x (wipe σ vs) H' fun σ2 H2 => wipe σ2 vs = wipe σ vs ∧ tt σ2 H2 fun b H3 =>
      if b = true then tk σ2 H3 fun y H4 => tv σ2 H4 fun z H5 => ∃ kvs k, y = kV k ∧ H5 D = some (.dK kvs) ∧ kvs.length < sizeLine ∧ Nx (upd H5 D (.dK (putK kvs k z))) else Nx H3)
theorem dc_it {J : It} {n : Nat} {Gd : Hp → Prop} {Y : Nat → Hp → V → Hp → Prop} (w : Walk J n Gd Y) {g : TG} {tt : TT} {tk tv : TE} {vs : List Nat} {σ : L2.St} {H : Hp} {D : Addr} {Qd : Hp → Prop} (Pv : Nat → Hp → Prop) (h0 : Pv 0 (upd H D (.dK [])))
    (hG : ∀ i Hx, i ≤ n → Pv i Hx → Gd Hx)
    (hs : ∀ i x Ha Hb, i < n → Pv i Ha → Y i Ha x Hb → g x (wipe σ vs) Hb fun σ2 H2 => wipe σ2 vs = wipe σ vs ∧ tt σ2 H2 fun b H3 =>
      if b = true then tk σ2 H3 fun y H4 => tv σ2 H4 fun z H5 => ∃ kvs k, y = kV k ∧ H5 D = some (.dK kvs) ∧ kvs.length < sizeLine ∧ Pv (i + 1) (upd H5 D (.dK (putK kvs k z))) else Pv (i + 1) H3)
    (hd : ∀ Hx, Pv n Hx → Qd Hx) : DcG J g tt tk tv vs σ H D Qd := by
  refine ⟨fun i m Hx => m + i = n ∧ Pv i Hx, ⟨n, rfl, h0⟩, ?_⟩
  rintro i m Hx ⟨e, p⟩
  have q := hG i Hx (by omega) p
  rcases Nat.lt_or_ge i n with lt | ge
  · exact .inr ⟨w.goes i Hx lt q, Pv (i + 1), fun H' p' => ⟨m - 1, by omega, by omega, p'⟩, fun x H' y => hs i x Hx H' lt p (w.yields i Hx x H' lt q y)⟩
  · have ei : i = n := by omega
    subst ei
    exact .inl ⟨w.stops Hx q, hd Hx p⟩
/-- keys and values are told of each turn's item; nothing that was known changes -/
theorem dc_pure {J : It} {n : Nat} {Gd : Hp → Prop} {Y : Nat → Hp → V → Hp → Prop} (w : Walk J n Gd Y) {tk tv : TE} {σ : L2.St} {j : Nat} {H : Hp} {D : Addr} {Qd : Hp → Prop} (fk : Nat → Key) (fv : Nat → V) (hn : n ≤ 100000)
    (hG : ∀ H', Ex H H' → Gd H') (It : Nat → V → Prop) (hY : ∀ i Ha x Hb, i < n → Ex H Ha → Y i Ha x Hb → Hb = Ha ∧ It i x)
    (hk : ∀ i x, i < n → It i x → Ev tk ((wipe σ [j]).set j (some x)) H (kV (fk i))) (hv : ∀ i x, i < n → It i x → Ev tv ((wipe σ [j]).set j (some x)) H (fv i))
    (nd : ∀ i k, i < n → k < n → fk i = fk k → i = k)
    (new : H D = none) (hd : ∀ H', Ex H H' → H' D = some (.dK ((List.range n).map fun i => (fk i, fv i))) → Qd H') : DcG J (gName j) tYes tk tv [j] σ H D Qd := by
  refine dc_it w (fun i Hc => Ex H Hc ∧ Hc D = some (.dK ((List.range i).map fun i => (fk i, fv i)))) ⟨Ex.new new, upd_same⟩ (fun i Hc _ p => hG Hc p.1) (fun i x Ha Hb hi p y => ?_) (fun Hc p => hd Hc p.1 p.2)
  obtain ⟨e, ix⟩ := hY i Ha x Hb hi p.1 y
  rw [e]
  refine ⟨wipe_set σ j x, ?_⟩
  show tk ((wipe σ [j]).set j (some x)) Ha _
  refine hk i x hi ix Ha p.1 _ fun H2 e2 => hv i x hi ix H2 (p.1.trans e2) _ fun H3 e3 => ?_
  have at3 := e3 _ _ (e2 _ _ p.2)
  refine ⟨_, fk i, rfl, at3, ?_, (p.1.trans (e2.trans e3)).mut new, ?_⟩
  · simp only [List.length_map, List.length_range]
    exact Nat.lt_of_lt_of_le (Nat.lt_of_lt_of_le hi hn) (by decide)
  · rw [upd_same, List.range_succ, List.map_append]
    unfold putK
    rw [if_neg]
    · rfl
    · intro c
      obtain ⟨q, hq, eq⟩ := List.any_eq_true.mp c
      obtain ⟨k, hk', rfl⟩ := List.mem_map.mp hq
      have lt := List.mem_range.mp hk'
      have := nd k i (by omega) hi (of_decide_eq_true eq)
      omega
end G

set_option Elab.async false
set_option linter.all false
set_option maxRecDepth 100000
set_option maxHeartbeats 4000000
/-! name = {k: v for ..} on one line, the name a local. -/
namespace G
open PySem PySem.Spec PyProof.Rows L2 Evl
section
variable {X : Cx}
theorem ps_setDc {i : Nat} {y : Str} {py pos spos : Pos} {kx vx tg iter : Expr} {ifs : List Expr} {scope : Scope} {own : List (Str × Nat)} {wi : TI} {g : TG} {tt : TT} {tk tv : TE} (hc : X.calm = true) (nd : X.N.Nodup) (hy : X.N[i]? = some y) (hl : X.env.scope.names.lookup y = some .local)
    (sw : swapsWith (.DictComp kx vx [⟨tg, iter, ifs, 0⟩] scope pos) (some (.Name y py)) spos.line X.env = pure true) (hi : PI X tg iter wi) (ok : BlkOk X.N X.env.scope scope own)
    (hg : ∀ (s : Shared) (H : Hp) (C : Addr) (cl : List (Str × Addr)) (fp : List Addr), PG (X.blk s H scope (compEnvC scope cl C X.env) fp) tg g)
    (ht : ∀ (s : Shared) (H : Hp) (C : Addr) (cl : List (Str × Addr)) (fp : List Addr), PTs (X.blk s H scope (compEnvC scope cl C X.env) fp) ifs tt)
    (hk : ∀ (s : Shared) (H : Hp) (C : Addr) (cl : List (Str × Addr)) (fp : List Addr), PE (X.blk s H scope (compEnvC scope cl C X.env) fp) kx tk)
    (hv : ∀ (s : Shared) (H : Hp) (C : Addr) (cl : List (Str × Addr)) (fp : List Addr), PE (X.blk s H scope (compEnvC scope cl C X.env) fp) vx tv) (hf : ∀ x, foldedSetIterable iter X.env x = pure x := by intro _; rfl) :
    PS X (.Assign [.Name y py] (.DictComp kx vx [⟨tg, iter, ifs, 0⟩] scope pos) spos) (tAsg (tDc wi g tt tk tv (own.map (·.2))) (gName i)) := by
  refine ⟨fun pins s σ H D I h => ?_⟩
  rw [exec_Assign_Name_used _ _ _ _ sw]
  refine wpAny_bind (wpAny_standAt (wpAny_bind ?_))
  show wpAny _ X.A (do let _ ← comprehension (.DictComp kx vx [⟨tg, iter, ifs, 0⟩] scope pos) scope X.env (firstIterPos [⟨tg, iter, ifs, 0⟩] pos) newDict false (eval iter X.env) (some (assign (.Name y py) X.env))) _ _ s
  have h1 : tDc wi g tt tk tv (own.map (·.2)) σ H (fun x H1 => gName i x σ H1 D.nx) := h
  refine wpAny_bind (thn (dc_core (Qf := fun _ s1 => SP X pins D .next s1) hc nd I hi ok hg ht hk hv hf h1 fun L C s1 m H1 I1 q ns fp => ?_) fun _ s1 q => wpAny_pure (wpAny_pure q))
  show wpAny _ _ (assign (.Name y py) X.env (.ref L)) _ _ _
  refine wpAny_assign_Name (store_ok2 (v := V.ref L) I1 nd hy (.inl hl) rfl (fun s2 I2 ⟨a, same, ha⟩ => ?_) (.inr hl))
  obtain ⟨p0, p1, p2, p3, p4, p5⟩ := fp
  have ne : C ≠ a := fun e => ha.elim (fun z => p1 (e.trans z)) fun z => p4 y a z e.symm
  exact ⟨m, ns.sameBut same ne, fun h3 same3 => ⟨_, H1, I2.turned (t' := s2.toks) (fun b o hb e => (same3.2 b hb).trans e) p0 p1 p3 p4 p5, q⟩⟩
theorem sw_dict {kx vx : Expr} {gs : List Comprehension} {scope : Scope} {pos py : Pos} {y : Str} {l : Nat} {env : Env} (hk : env.scope.kind = .function) (hy : env.scope.names.lookup y = some .local) (hl : (py.line == pos.line) = true)
    (ha : (scope.names.any fun (n, k) => n == y && (k == .local || k == .cell)) = false) : swapsWith (.DictComp kx vx gs scope pos) (some (.Name y py)) l env = pure true := by
  have e1 : env.kindOf y = some .local := hy
  have e2 : env.blockKind = .function := by
    unfold Env.blockKind
    rw [hk]
    rfl
  unfold swapsWith
  simp only [e1, e2, ha, Expr.pos, hl]
  rfl
end
end G

set_option Elab.async false
set_option linter.all false
set_option maxRecDepth 100000
set_option maxHeartbeats 4000000
/-! Comprehensions over a list whose items are told by as and em. -/
namespace G
open PySem PySem.Spec PyProof.Rows L2 Evl
section
variable {α : Type} {J : It} {as : List α} {em : α → V} {Gd : Hp → Prop} {te tk tv : TE} {σ : L2.St} {j : Nat} {H : Hp} {D : Addr} {Qd : Hp → Prop}
theorem nth_map {i : Nat} {x : V} (e : (as.map em)[i]? = some x) : ∃ a, as[i]? = some a ∧ x = em a := by
  rw [List.getElem?_map] at e
  cases q : as[i]? with
  | none => rw [q] at e; cases e
  | some a =>
    rw [q] at e
    exact ⟨a, rfl, (Option.some.inj e).symm⟩
theorem lc_each (W : Walk J (as.map em).length Gd (YAt (as.map em))) (f : α → V) (hn : as.length ≤ 100000) (hG : ∀ H', Ex H H' → Gd H') (he : ∀ a ∈ as, Ev te ((wipe σ [j]).set j (some (em a))) H (f a))
    (new : H D = none) (hd : ∀ H', Ex H H' → H' D = some (.lst (as.map f)) → Qd H') : LcG J j te σ H D Qd := by
  refine lc_pure W (fun i => (as[i]?.map f).getD .non) (by rw [List.length_map]; exact hn) hG (fun i x => (as.map em)[i]? = some x) (fun i Ha x Hb _ _ y => ⟨y.1, y.2⟩) (fun i x hi e => ?_) new (fun H' e q => hd H' e ?_)
  · obtain ⟨a, ha, rfl⟩ := nth_map e
    rw [ha]
    exact he a (List.mem_of_getElem? ha)
  · rw [q, List.length_map]
    congr 2
    exact range_map as _ f fun i x e => by rw [e]; rfl
/-- a dict of it -/
theorem dc_each (W : Walk J (as.map em).length Gd (YAt (as.map em))) (fk : α → Key) (fv : α → V) (hn : as.length ≤ 100000) (hG : ∀ H', Ex H H' → Gd H') (hk : ∀ a ∈ as, Ev tk ((wipe σ [j]).set j (some (em a))) H (kV (fk a)))
    (hv : ∀ a ∈ as, Ev tv ((wipe σ [j]).set j (some (em a))) H (fv a)) (nd : (as.map fk).Nodup) (new : H D = none) (hd : ∀ H', Ex H H' → H' D = some (.dK (as.map fun a => (fk a, fv a))) → Qd H') : DcG J (gName j) tYes tk tv [j] σ H D Qd := by
  have at_ : ∀ (i : Nat) (a : α), as[i]? = some a → (as[i]?.map fk).getD (Sum.inl 0) = fk a := fun i a e => by rw [e]; rfl
  refine dc_pure W (fun i => (as[i]?.map fk).getD (Sum.inl 0)) (fun i => (as[i]?.map fv).getD .non) (by rw [List.length_map]; exact hn) hG (fun i x => (as.map em)[i]? = some x) (fun i Ha x Hb _ _ y => ⟨y.1, y.2⟩) (fun i x hi e => ?_) (fun i x hi e => ?_)
    (fun i k hi hk' e => ?_) new (fun H' e q => hd H' e ?_)
  · obtain ⟨a, ha, rfl⟩ := nth_map e
    rw [ha]
    exact hk a (List.mem_of_getElem? ha)
  · obtain ⟨a, ha, rfl⟩ := nth_map e
    rw [ha]
    exact hv a (List.mem_of_getElem? ha)
  · rw [List.length_map] at hi hk'
    rw [at_ i as[i] (by simp [hi]), at_ k as[k] (by simp [hk'])] at e
    have h1 : (as.map fk)[i]? = (as.map fk)[k]? := by
      rw [List.getElem?_map, List.getElem?_map, List.getElem?_eq_getElem hi, List.getElem?_eq_getElem hk']
      show some (fk as[i]) = some (fk as[k])
      rw [e]
    exact (List.getElem?_inj (by rw [List.length_map]; exact hi) nd).mp h1
  · rw [q, List.length_map]
    congr 2
    exact range_map as _ (fun a => (fk a, fv a)) fun i x e => by rw [e]; rfl
end
/-- under a dict's lock nothing else changes -/
theorem ex_unlock {H H' : Hp} {d : Addr} {u : HO} {o : Obj} (h : H d = some u) (e : Ex (upd H d (.frz o u)) H') : Ex H (upd H' d u) := fun b q hb => by
  by_cases z : b = d
  · subst z
    rw [h] at hb
    rw [upd_same, ← hb]
  · rw [upd_ne z]
    exact e b q (by rw [upd_ne z]; exact hb)
end G

set_option Elab.async false
set_option linter.all false
set_option maxRecDepth 100000
set_option maxHeartbeats 4000000
/-! sorted of tuples that begin with unlike names: the names rise; two such lists of the same are one. -/
namespace G
open PySem PySem.Spec PyProof.Rows L2 Evl
/-- in the sequence of the names -/
def NameLt (x y : Str) : Prop := x.cps.toList < y.cps.toList
def Rising {α : Type} (nm : α → Str) (l : List α) : Prop := l.Pairwise fun a b => NameLt (nm a) (nm b)
theorem NameLt.asymm {x y : Str} (h : NameLt x y) (g : NameLt y x) : False := List.lt_asymm h g
theorem NameLt.irrefl {x : Str} (h : NameLt x x) : False := h.asymm h
theorem NameLt.of_ne {x y : Str} (h : ¬ NameLt y x) (ne : x ≠ y) : NameLt x y := by
  unfold NameLt at *
  refine Decidable.byContradiction fun q => ne (PySem.W.str_of_cps ?_)
  exact List.le_antisymm (List.not_lt.mp h) (List.not_lt.mp q)
theorem rising_eq {α : Type} {nm : α → Str} : ∀ {l m : List α}, Rising nm l → Rising nm m → l.Perm m → l = m
  | [], m, _, _, p => (List.nil_perm.mp p).symm
  | a :: l, [], _, _, p => absurd (List.perm_nil.mp p) (by simp)
  | a :: l, b :: m, hl, hm, p => by
    obtain ⟨a1, a2⟩ := List.pairwise_cons.mp hl
    obtain ⟨b1, b2⟩ := List.pairwise_cons.mp hm
    have e : a = b := by
      rcases List.mem_cons.mp (p.mem_iff.mp List.mem_cons_self) with z | z
      · exact z
      · rcases List.mem_cons.mp (p.mem_iff.mpr (List.mem_cons_self (a := b) (l := m))) with y | y
        · exact y.symm
        · exact ((b1 a z).asymm (a1 b y)).elim
    subst e
    rw [rising_eq a2 b2 (List.Perm.cons_inv p)]
theorem rising_nodup {α : Type} {nm : α → Str} {l : List α} (h : Rising nm l) : (l.map nm).Nodup := by
  unfold List.Nodup
  rw [List.pairwise_map]
  exact h.imp fun q e => by rw [e] at q; exact q.irrefl
section
variable {α : Type} {nm : α → Str} {f : α → PyData} {rest : α → List PyData}
theorem less_name (hf : ∀ a, f a = .tuple (.str (nm a) :: rest a)) {a b : α} (ne : nm a ≠ nm b) (h : (!PySem.W.dataLt (f b) (f a)) = true) : NameLt (nm a) (nm b) := by
  rw [hf, hf, PySem.W.dataLt_tuple, PySem.W.dataLt_cons (by rfl)] at h
  have e : PyData.eqv (.str (nm b)) (.str (nm a)) = false := by
    show decide (nm b = nm a) = false
    exact decide_eq_false (Ne.symm ne)
  rw [e, if_neg (by decide), PySem.W.dataLt_str] at h
  refine NameLt.of_ne (fun q => ?_) ne
  have q : (nm b).cps.toList < (nm a).cps.toList := q
  rw [decide_eq_true q] at h
  cases h
/-- the items and what they tell, in the sequence of the names -/
theorem srt_names (hf : ∀ a, f a = .tuple (.str (nm a) :: rest a)) {xs : List V} {as : List α} (len : xs.length = as.length) (nd : (as.map nm).Nodup) :
    ∃ sn : List α, sn.Perm as ∧ Rising nm sn ∧ (srt xs (as.map f)).map Prod.snd = sn.map f := by
  have tl := PySem.W.sortLe_total (α := V × α) (PyProof.Rows.listOrd PyProof.Rows.itemOrd) false fun p => PySem.W.keyToks (f p.2)
  have ez : xs.zip (as.map f) = (xs.zip as).map fun p => (p.1, f p.2) := by
    rw [List.zip_map_right]
    rfl
  have em : srt xs (as.map f) = ((xs.zip as).mergeSort (PySem.W.dataLe false fun p => f p.2)).map fun p => (p.1, f p.2) := by
    unfold srt
    rw [ez]
    exact (List.map_mergeSort (r := PySem.W.dataLe false fun p : V × α => f p.2) (s := PySem.W.dataLe false Prod.snd) (f := fun p : V × α => (p.1, f p.2)) (fun a _ b _ => rfl)).symm
  have pm : ((xs.zip as).mergeSort (PySem.W.dataLe false fun p => f p.2)).Perm (xs.zip as) := List.mergeSort_perm _ _
  have pw : ((xs.zip as).mergeSort (PySem.W.dataLe false fun p => f p.2)).Pairwise fun p q => PySem.W.dataLe false (fun p : V × α => f p.2) p q = true :=
    List.pairwise_mergeSort (fun a b c => tl.trans a b c) (fun a b => by rcases tl.total a b with z | z <;> simp [PySem.W.dataLe, z]) _
  have snd : (xs.zip as).map Prod.snd = as := List.map_snd_zip (Nat.le_of_eq len.symm)
  have pa : (((xs.zip as).mergeSort (PySem.W.dataLe false fun p => f p.2)).map Prod.snd).Perm as := by
    have q := pm.map Prod.snd
    rwa [snd] at q
  refine ⟨((xs.zip as).mergeSort (PySem.W.dataLe false fun p => f p.2)).map Prod.snd, pa, ?_, ?_⟩
  · have nd2 : ((((xs.zip as).mergeSort (PySem.W.dataLe false fun p => f p.2)).map Prod.snd).map nm).Nodup := (pa.map nm).nodup_iff.mpr nd
    unfold Rising
    rw [List.pairwise_map]
    unfold List.Nodup at nd2
    rw [List.pairwise_map, List.pairwise_map] at nd2
    exact pw.imp₂ (fun p q h ne => less_name hf ne h) nd2
  · rw [em, List.map_map, List.map_map]
    rfl
end
end G

set_option Elab.async false
set_option linter.all false
set_option maxRecDepth 100000
set_option maxHeartbeats 4000000
/-! zip of two walked things of unlike sorts (a list and a tuple): what its next does. -/
namespace G
open PySem PySem.Spec PyProof.Rows L2 Evl
/-- one side of a zip: the iterator at i over what stands at l -/
structure Side (prog : Program) (w : World) (i l : Addr) (xs : Array Value) where
  St : Nat → Heap → Prop
  near : ∀ {k : Nat} {h h' : Heap}, St k h → (∀ o, h.get? i = some o → h'.get? i = some o) → (∀ o, h.get? l = some o → h'.get? l = some o) → St k h'
  here : ∀ {k : Nat} {h : Heap}, St k h → ∃ o, h.get? i = some o ∧ ∀ v, o.data ≠ .cell v
  item : ∀ {A : Around} {E : Value → Shared → Prop} {s : Shared} {k : Nat} {x : Value} {Q : Value → Shared → Prop}, St k s.heap → xs[k]? = some x → (∀ h', St (k + 1) h' → Heap.SameBut i s.heap h' → Q x { s with heap := h' }) →
    wpAny (model prog w) A (Builtin.SmallTypes.nextOf (.ref i)) Q E s
  done : ∀ {A : Around} {E : Value → Shared → Prop} {s : Shared} {k : Nat} {Q : Value → Shared → Prop}, A.handled = none → St k s.heap → xs[k]? = none →
    (∀ h' e, Heap.ExtBut i s.heap h' → (∃ o, h'.get? e = some o ∧ o.cls = .type "StopIteration") → E (.ref e) { s with heap := h' }) → wpAny (model prog w) A (Builtin.SmallTypes.nextOf (.ref i)) Q E s
section
variable {prog : Program} {w : World} {i l : Addr} {xs : Array Value}
theorem list_near {h h' : Heap} (q : h.IsList l xs) (k : ∀ o, h.get? l = some o → h'.get? l = some o) : h'.IsList l xs := by
  obtain ⟨o, e, r⟩ := q
  exact ⟨o, k o e, r⟩
theorem tuple_near {h h' : Heap} (q : h.IsTuple l xs) (k : ∀ o, h.get? l = some o → h'.get? l = some o) : h'.IsTuple l xs := by
  obtain ⟨o, e, r⟩ := q
  exact ⟨o, k o e, r⟩
def sideL (ne : l ≠ i) : Side prog w i l xs where
  St k h := h.IsListIter i l k ∧ h.IsList l xs
  near q a b := ⟨q.1.at fun o e => a o e, list_near q.2 b⟩
  here q := by
    obtain ⟨⟨o, e, _, d⟩, _⟩ := q
    exact ⟨o, e, fun v z => by rw [d] at z; cases z⟩
  item q hx k := wpAny_nextOf_list_item q.1 q.2 hx fun h' a b => k h' ⟨a, list_near q.2 fun o e => b.extBut _ _ ne e⟩ b
  done hh q hx k := wpAny_nextOf_list_end hh q.1 q.2 hx k
def sideT (ne : l ≠ i) : Side prog w i l xs where
  St k h := h.IsTupleIter i l k ∧ h.IsTuple l xs
  near q a b := ⟨q.1.at fun o e => a o e, tuple_near q.2 b⟩
  here q := by
    obtain ⟨⟨o, e, _, d⟩, _⟩ := q
    exact ⟨o, e, fun v z => by rw [d] at z; cases z⟩
  item q hx k := RZ.nextOf_tuple_item q.1 q.2 hx fun h' a b => k h' ⟨a, tuple_near q.2 fun o e => b.extBut _ _ ne e⟩ b
  done hh q hx k := RZ.nextOf_tuple_end hh q.1 q.2 hx k
end
section
variable {prog : Program} {w : World} {A : Around} {E : Value → Shared → Prop} {s : Shared} {z TI TO i1 i2 l1 l2 : Addr} {k1 k2 : Nat} {xs ys : Array Value} {x y a b : Value}
/-- the pair is free: it is given out anew -/
theorem zip_item (D : ZipApart z TI TO i1 i2 l1 l2) (S1 : Side prog w i1 l1 xs) (S2 : Side prog w i2 l2 ys) {Q : Value → Shared → Prop} (hz : IsZip s.heap z TI TO .none) (hI : IsPair s.heap TI (.ref i1) (.ref i2)) (hO : IsPair s.heap TO a b)
    (q1 : S1.St k1 s.heap) (q2 : S2.St k2 s.heap) (hx : xs[k1]? = some x) (hy : ys[k2]? = some y)
    (k : ∀ h', IsZip h' z TI TO (rawInt s.heap.objs.size) → IsPair h' TO x y → S1.St (k1 + 1) h' → S2.St (k2 + 1) h' → IsPair h' s.heap.objs.size x y → h'.objs.size = s.heap.objs.size + 1 →
      (∀ c o, c ≠ z → c ≠ TO → c ≠ i1 → c ≠ i2 → s.heap.get? c = some o → h'.get? c = some o) → Q (.ref s.heap.objs.size) { s with heap := h' }) :
    wpAny (model prog w) A (Builtin.«zip.__next__» ⟨[.ref z], []⟩) (fun fin s1 => ∃ v, fin = .done (.ret v) ∧ Q v s1) E s := by
  show wpAny _ _ (field (.ref z) 2 >>= _) _ _ _
  refine wpAny_bind (wpAny_field hz rfl (x := .bool false) rfl ?_)
  show wpAny _ _ (field (.ref z) 3 >>= _) _ _ _
  refine wpAny_bind (wpAny_field hz rfl (x := .ref TI) rfl (wpAny_bind (wpAny_seqItems hI rfl ?_)))
  show wpAny _ _ (Builtin.SmallTypes.ownedTupleIsFree (.ref z) >>= _) _ _ _
  refine wpAny_bind ?_
  unfold Builtin.SmallTypes.ownedTupleIsFree
  refine wpAny_bind (wpAny_field hz rfl (x := .none) rfl (wpAny_pure ?_))
  simp only [if_true]
  refine wpAny_bind (wpAny_rule (wpAny_bind (wpAny_field hz rfl (x := .ref TO) rfl (wpAny_bind (wpAny_setField_rec hz (by simp) fun ha za ca => ?_)))))
  have za : IsZip ha z TI TO .ellipsis := za
  have p1 := S1.near q1 (fun o e => ca.extBut _ o D.i1z e) (fun o e => ca.extBut _ o D.l1z e)
  have p2 := S2.near q2 (fun o e => ca.extBut _ o D.i2z e) (fun o e => ca.extBut _ o D.l2z e)
  refine wpAny_bind ?_
  simp only [List.zipIdx_cons, List.zipIdx_nil, List.forIn_cons, List.forIn_nil]
  refine wpAny_bind (wpAny_bind (wpAny_onRaise ?_))
  show wpAny _ _ (Builtin.SmallTypes.nextOf (.ref i1) >>= _) _ _ _
  refine wpAny_bind (S1.item (s := { s with heap := ha }) p1 hx fun hb r1 cb => wpAny_pure ?_)
  have p2 := S2.near p2 (fun o e => cb.extBut _ o D.i12.symm e) (fun o e => cb.extBut _ o D.l2i1 e)
  have oB : IsPair hb TO a b := cb.extBut _ _ D.TOi1 (ca.extBut _ _ D.TOz hO)
  refine wpAny_bind (wpAny_seqItems oB rfl (wpAny_bind (wpAny_updateSeq_pair oB fun hc oC cc => ?_)))
  have oC : IsPair hc TO x b := oC
  have r1 := S1.near r1 (fun o e => cc.extBut _ o D.TOi1.symm e) (fun o e => cc.extBut _ o D.l1TO e)
  have p2 := S2.near p2 (fun o e => cc.extBut _ o D.TOi2.symm e) (fun o e => cc.extBut _ o D.l2TO e)
  refine wpAny_bind (wpAny_letGo (wpAny_pure ?_))
  refine wpAny_bind (wpAny_bind (wpAny_onRaise ?_))
  show wpAny _ _ (Builtin.SmallTypes.nextOf (.ref i2) >>= _) _ _ _
  refine wpAny_bind (S2.item (s := { s with heap := hc }) p2 hy fun hd r2 cd => wpAny_pure ?_)
  have r1 := S1.near r1 (fun o e => cd.extBut _ o D.i12 e) (fun o e => cd.extBut _ o D.l1i2 e)
  have oD : IsPair hd TO x b := cd.extBut _ _ D.TOi2 oC
  refine wpAny_bind (wpAny_seqItems oD rfl (wpAny_bind (wpAny_updateSeq_pair oD fun he oE ce => ?_)))
  have oE : IsPair he TO x y := oE
  have r1 := S1.near r1 (fun o e => ce.extBut _ o D.TOi1.symm e) (fun o e => ce.extBut _ o D.l1TO e)
  have r2 := S2.near r2 (fun o e => ce.extBut _ o D.TOi2.symm e) (fun o e => ce.extBut _ o D.l2TO e)
  refine wpAny_bind (wpAny_letGo (wpAny_pure (wpAny_pure (wpAny_bind (wpAny_seqItems oE rfl (wpAny_bind (wpAny_newTuple ?_)))))))
  have size : he.objs.size = s.heap.objs.size := by rw [ce.1, cd.1, cc.1, cb.1, ca.1]
  have zE : IsZip he z TI TO .ellipsis := ce.extBut _ _ D.TOz.symm (cd.extBut _ _ D.i2z.symm (cc.extBut _ _ D.TOz.symm (cb.extBut _ _ D.i1z.symm za)))
  have oth : ∀ c o, c ≠ z → c ≠ TO → c ≠ i1 → c ≠ i2 → s.heap.get? c = some o → he.get? c = some o := fun c o n1 n2 n3 n4 e =>
    ce.extBut _ _ n2 (cd.extBut _ _ n4 (cc.extBut _ _ n2 (cb.extBut _ _ n3 (ca.extBut _ _ n1 e))))
  have zlt : z < he.objs.size := Heap.lt_size zE
  show wpAny _ _ (Builtin.SmallTypes.ownedTupleHandOut (.ref z) (.ref he.objs.size) >>= _) _ _ _
  refine wpAny_bind ?_
  unfold Builtin.SmallTypes.ownedTupleHandOut
  have zF : IsZip (he.push { cls := .type "tuple", data := .seq #[x, y] }) z TI TO .ellipsis := Heap.get?_push_of_some _ zE
  refine wpAny_bind (wpAny_setField_rec zF (by simp) fun hf zf cf => ?_)
  have zf : IsZip hf z TI TO (rawInt he.objs.size) := zf
  refine wpAny_setField_rec zf (by simp) fun hg zg cg => ?_
  have zg : IsZip hg z TI TO (rawInt he.objs.size) := zg
  have up : ∀ c o, c ≠ z → he.get? c = some o → hg.get? c = some o := fun c o n e => cg.extBut _ _ n (cf.extBut _ _ n (Heap.get?_push_of_some _ e))
  have new : IsPair hg he.objs.size x y := cg.extBut _ _ (Nat.ne_of_gt zlt) (cf.extBut _ _ (Nat.ne_of_gt zlt) (Heap.get?_push_size _ rfl))
  have size2 : hg.objs.size = he.objs.size + 1 := by rw [cg.1, cf.1, Heap.size_push]
  rw [size] at zg new size2
  refine wpAny_pure ⟨_, rfl, ?_⟩
  show Q (.ref he.objs.size) _
  rw [size]
  exact k hg zg (up _ _ D.TOz oE) (S1.near r1 (fun o e => up _ o D.i1z e) (fun o e => up _ o D.l1z e)) (S2.near r2 (fun o e => up _ o D.i2z e) (fun o e => up _ o D.l2z e)) new size2 fun c o n1 n2 n3 n4 e => up c o n1 (oth c o n1 n2 n3 n4 e)
/-- its end -/
theorem zip_end (hh : A.handled = none) (D : ZipApart z TI TO i1 i2 l1 l2) (S1 : Side prog w i1 l1 xs) (S2 : Side prog w i2 l2 ys) {Q : Fin → Shared → Prop} (hz : IsZip s.heap z TI TO .none) (hI : IsPair s.heap TI (.ref i1) (.ref i2)) (hO : IsPair s.heap TO a b)
    (q1 : S1.St k1 s.heap) (q2 : S2.St k2 s.heap) (hend : xs[k1]? = none ∨ ys[k2]? = none)
    (k : ∀ h' e, (∀ c o, c ≠ z → c ≠ TO → c ≠ i1 → c ≠ i2 → s.heap.get? c = some o → h'.get? c = some o) → (∃ o, h'.get? e = some o ∧ o.cls = .type "StopIteration") → E (.ref e) { s with heap := h' }) :
    wpAny (model prog w) A (Builtin.«zip.__next__» ⟨[.ref z], []⟩) Q E s := by
  show wpAny _ _ (field (.ref z) 2 >>= _) _ _ _
  refine wpAny_bind (wpAny_field hz rfl (x := .bool false) rfl ?_)
  show wpAny _ _ (field (.ref z) 3 >>= _) _ _ _
  refine wpAny_bind (wpAny_field hz rfl (x := .ref TI) rfl (wpAny_bind (wpAny_seqItems hI rfl ?_)))
  show wpAny _ _ (Builtin.SmallTypes.ownedTupleIsFree (.ref z) >>= _) _ _ _
  refine wpAny_bind ?_
  unfold Builtin.SmallTypes.ownedTupleIsFree
  refine wpAny_bind (wpAny_field hz rfl (x := .none) rfl (wpAny_pure ?_))
  simp only [if_true]
  refine wpAny_bind (wpAny_rule (wpAny_bind (wpAny_field hz rfl (x := .ref TO) rfl (wpAny_bind (wpAny_setField_rec hz (by simp) fun ha za ca => ?_)))))
  have za : IsZip ha z TI TO .ellipsis := za
  have p1 := S1.near q1 (fun o e => ca.extBut _ o D.i1z e) (fun o e => ca.extBut _ o D.l1z e)
  have p2 := S2.near q2 (fun o e => ca.extBut _ o D.i2z e) (fun o e => ca.extBut _ o D.l2z e)
  refine wpAny_bind ?_
  simp only [List.zipIdx_cons, List.zipIdx_nil, List.forIn_cons, List.forIn_nil]
  refine wpAny_bind (wpAny_bind (wpAny_onRaise ?_))
  show wpAny _ _ (Builtin.SmallTypes.nextOf (.ref i1) >>= _) _ _ _
  cases hx : xs[k1]? with
  | none =>
    refine wpAny_bind (S1.done (s := { s with heap := ha }) hh p1 hx fun hb e cb st => ?_)
    obtain ⟨oe, he, hc⟩ := st
    have zb : IsZip hb z TI TO .ellipsis := cb _ _ D.i1z.symm za
    have ez : e ≠ z := fun q => by
      rw [q, zb] at he
      cases he
      simp at hc
    exact wpAny_setField_rec zb (by simp) fun hd _ cd => k hd e (fun c o n1 _ n3 _ q => cd.extBut _ _ n1 (cb _ _ n3 (ca.extBut _ _ n1 q))) ⟨oe, cd.extBut _ _ ez he, hc⟩
  | some x =>
    have hy : ys[k2]? = none := hend.resolve_left (by rw [hx]; exact fun q => by cases q)
    refine wpAny_bind (S1.item (s := { s with heap := ha }) p1 hx fun hb r1 cb => wpAny_pure ?_)
    have p2 := S2.near p2 (fun o e => cb.extBut _ o D.i12.symm e) (fun o e => cb.extBut _ o D.l2i1 e)
    have oB : IsPair hb TO a b := cb.extBut _ _ D.TOi1 (ca.extBut _ _ D.TOz hO)
    refine wpAny_bind (wpAny_seqItems oB rfl (wpAny_bind (wpAny_updateSeq_pair oB fun hc oC cc => ?_)))
    have p2 := S2.near p2 (fun o e => cc.extBut _ o D.TOi2.symm e) (fun o e => cc.extBut _ o D.l2TO e)
    refine wpAny_bind (wpAny_letGo (wpAny_pure ?_))
    refine wpAny_bind (wpAny_bind (wpAny_onRaise ?_))
    show wpAny _ _ (Builtin.SmallTypes.nextOf (.ref i2) >>= _) _ _ _
    refine wpAny_bind (S2.done (s := { s with heap := hc }) hh p2 hy fun hd e cd st => ?_)
    obtain ⟨oe, he, hcl⟩ := st
    have zd : IsZip hd z TI TO .ellipsis := cd _ _ D.i2z.symm (cc.extBut _ _ D.TOz.symm (cb.extBut _ _ D.i1z.symm za))
    have ez : e ≠ z := fun q => by
      rw [q, zd] at he
      cases he
      simp at hcl
    exact wpAny_setField_rec zd (by simp) fun hf _ cf => k hf e (fun c o n1 n2 n3 n4 q => cf.extBut _ _ n1 (cd _ _ n4 (cc.extBut _ _ n2 (cb.extBut _ _ n3 (ca.extBut _ _ n1 q))))) ⟨oe, cf.extBut _ _ ez he, hcl⟩
/-- the pair last given out is held still: a new one -/
theorem zip_itemH (D : ZipApart z TI TO i1 i2 l1 l2) (S1 : Side prog w i1 l1 xs) (S2 : Side prog w i2 l2 ys) {T : Addr} {f : Bool} {oT : Obj} {Q : Value → Shared → Prop} (hz : IsZipHeld s.heap z TI TO T f) (hT : s.heap.get? T = some oT) (hI : IsPair s.heap TI (.ref i1) (.ref i2))
    (q1 : S1.St k1 s.heap) (q2 : S2.St k2 s.heap) (hx : xs[k1]? = some x) (hy : ys[k2]? = some y)
    (k : ∀ h', IsZipHeld h' z TI TO T true → S1.St (k1 + 1) h' → S2.St (k2 + 1) h' → IsPair h' s.heap.objs.size x y → h'.objs.size = s.heap.objs.size + 1 →
      (∀ c o, c ≠ z → c ≠ i1 → c ≠ i2 → s.heap.get? c = some o → h'.get? c = some o) → Q (.ref s.heap.objs.size) { s with heap := h' }) :
    wpAny (model prog w) A (Builtin.«zip.__next__» ⟨[.ref z], []⟩) (fun fin s1 => ∃ v, fin = .done (.ret v) ∧ Q v s1) E s := by
  show wpAny _ _ (field (.ref z) 2 >>= _) _ _ _
  refine wpAny_bind (wpAny_field hz rfl (x := .bool false) rfl ?_)
  show wpAny _ _ (field (.ref z) 3 >>= _) _ _ _
  refine wpAny_bind (wpAny_field hz rfl (x := .ref TI) rfl (wpAny_bind (wpAny_seqItems hI rfl ?_)))
  show wpAny _ _ (Builtin.SmallTypes.ownedTupleIsFree (.ref z) >>= _) _ _ _
  refine wpAny_bind (wpAny_tupleHeld_zip hz hT fun ha za ca => ?_)
  have p1 := S1.near q1 (fun o e => ca.extBut _ o D.i1z e) (fun o e => ca.extBut _ o D.l1z e)
  have p2 := S2.near q2 (fun o e => ca.extBut _ o D.i2z e) (fun o e => ca.extBut _ o D.l2z e)
  simp only [Bool.false_eq_true, if_false]
  refine wpAny_bind ?_
  rw [← Array.forIn_toList]
  simp only [List.forIn_cons, List.forIn_nil]
  refine wpAny_bind (wpAny_bind (wpAny_holding ?_))
  show wpAny _ _ (Builtin.SmallTypes.nextOf (.ref i1) >>= _) _ _ _
  refine wpAny_bind (S1.item (s := { s with heap := ha }) p1 hx fun hb r1 cb => wpAny_pure (wpAny_pure ?_))
  have p2 := S2.near p2 (fun o e => cb.extBut _ o D.i12.symm e) (fun o e => cb.extBut _ o D.l2i1 e)
  refine wpAny_bind (wpAny_bind (wpAny_holding ?_))
  show wpAny _ _ (Builtin.SmallTypes.nextOf (.ref i2) >>= _) _ _ _
  refine wpAny_bind (S2.item (s := { s with heap := hb }) p2 hy fun hc r2 cc => wpAny_pure (wpAny_pure (wpAny_pure ?_)))
  have r1 := S1.near r1 (fun o e => cc.extBut _ o D.i12 e) (fun o e => cc.extBut _ o D.l1i2 e)
  show wpAny _ _ (newTuple [x, y] >>= _) _ _ _
  refine wpAny_bind (wpAny_newTuple ?_)
  have size : hc.objs.size = s.heap.objs.size := by rw [cc.1, cb.1, ca.1]
  have zc : IsZipHeld hc z TI TO T true := cc.extBut _ _ D.i2z.symm (cb.extBut _ _ D.i1z.symm za)
  have oth : ∀ c o, c ≠ z → c ≠ i1 → c ≠ i2 → s.heap.get? c = some o → hc.get? c = some o := fun c o n1 n2 n3 e => cc.extBut _ _ n3 (cb.extBut _ _ n2 (ca.extBut _ _ n1 e))
  refine wpAny_pure ⟨_, rfl, ?_⟩
  show Q (.ref hc.objs.size) _
  have new : IsPair (hc.push { cls := .type "tuple", data := .seq #[x, y] }) hc.objs.size x y := Heap.get?_push_size _ rfl
  have size2 : (hc.push { cls := .type "tuple", data := .seq #[x, y] }).objs.size = hc.objs.size + 1 := Heap.size_push ..
  rw [size] at new size2 ⊢
  exact k _ (Heap.get?_push_of_some _ zc) (S1.near r1 (fun o e => Heap.get?_push_of_some _ e) (fun o e => Heap.get?_push_of_some _ e)) (S2.near r2 (fun o e => Heap.get?_push_of_some _ e) (fun o e => Heap.get?_push_of_some _ e)) new size2 fun c o n1 n2 n3 e => Heap.get?_push_of_some _ (oth c o n1 n2 n3 e)
theorem zip_endH (hh : A.handled = none) (D : ZipApart z TI TO i1 i2 l1 l2) (S1 : Side prog w i1 l1 xs) (S2 : Side prog w i2 l2 ys) {T : Addr} {f : Bool} {oT : Obj} {Q : Fin → Shared → Prop} (hz : IsZipHeld s.heap z TI TO T f) (hT : s.heap.get? T = some oT) (hI : IsPair s.heap TI (.ref i1) (.ref i2))
    (q1 : S1.St k1 s.heap) (q2 : S2.St k2 s.heap) (hend : xs[k1]? = none ∨ ys[k2]? = none)
    (k : ∀ h' e, (∀ c o, c ≠ z → c ≠ i1 → c ≠ i2 → s.heap.get? c = some o → h'.get? c = some o) → (∃ o, h'.get? e = some o ∧ o.cls = .type "StopIteration") → E (.ref e) { s with heap := h' }) :
    wpAny (model prog w) A (Builtin.«zip.__next__» ⟨[.ref z], []⟩) Q E s := by
  show wpAny _ _ (field (.ref z) 2 >>= _) _ _ _
  refine wpAny_bind (wpAny_field hz rfl (x := .bool false) rfl ?_)
  show wpAny _ _ (field (.ref z) 3 >>= _) _ _ _
  refine wpAny_bind (wpAny_field hz rfl (x := .ref TI) rfl (wpAny_bind (wpAny_seqItems hI rfl ?_)))
  show wpAny _ _ (Builtin.SmallTypes.ownedTupleIsFree (.ref z) >>= _) _ _ _
  refine wpAny_bind (wpAny_tupleHeld_zip hz hT fun ha za ca => ?_)
  have p1 := S1.near q1 (fun o e => ca.extBut _ o D.i1z e) (fun o e => ca.extBut _ o D.l1z e)
  have p2 := S2.near q2 (fun o e => ca.extBut _ o D.i2z e) (fun o e => ca.extBut _ o D.l2z e)
  simp only [Bool.false_eq_true, if_false]
  refine wpAny_bind ?_
  rw [← Array.forIn_toList]
  simp only [List.forIn_cons, List.forIn_nil]
  refine wpAny_bind (wpAny_bind (wpAny_holding ?_))
  show wpAny _ _ (Builtin.SmallTypes.nextOf (.ref i1) >>= _) _ _ _
  cases hx : xs[k1]? with
  | none => exact wpAny_bind (S1.done (s := { s with heap := ha }) hh p1 hx fun hb e cb st => k hb e (fun c o n1 n2 _ q => cb _ _ n2 (ca.extBut _ _ n1 q)) st)
  | some x =>
    have hy : ys[k2]? = none := hend.resolve_left (by rw [hx]; exact fun q => by cases q)
    refine wpAny_bind (S1.item (s := { s with heap := ha }) p1 hx fun hb r1 cb => wpAny_pure (wpAny_pure ?_))
    have p2 := S2.near p2 (fun o e => cb.extBut _ o D.i12.symm e) (fun o e => cb.extBut _ o D.l2i1 e)
    refine wpAny_bind (wpAny_bind (wpAny_holding ?_))
    show wpAny _ _ (Builtin.SmallTypes.nextOf (.ref i2) >>= _) _ _ _
    exact wpAny_bind (S2.done (s := { s with heap := hb }) hh p2 hy fun hc e cc st => k hc e (fun c o n1 n2 n3 q => cc _ _ n3 (cb.extBut _ _ n2 (ca.extBut _ _ n1 q))) st)
end
end G

set_option Elab.async false
set_option linter.all false
set_option maxRecDepth 100000
set_option maxHeartbeats 4000000
/-! list(zip(a list, a tuple)). -/
namespace G
open PySem PySem.Spec PyProof.Rows L2 Evl
theorem zip_len0 : typeLookup (.type "zip") "__len__" = pure none := am_miss_of_fast (by decide +kernel)
theorem zip_hint0 : typeLookup (.type "zip") "__length_hint__" = pure none := am_miss_of_fast (by decide +kernel)
theorem hint_zip {prog : Program} {w : World} {A : Around} {E : Value → Shared → Prop} {s : Shared} {z : Addr} {Q : Bool → Shared → Prop} (hT : s.TypeIs (.ref z) "zip") (q : Q true s) : wpAny (model prog w) A (Builtin.List.listLengthHint (.ref z)) Q E s := by
  unfold Builtin.List.listLengthHint
  refine wpAny_bind (wpAny_specialOf hT zip_len0 ?_)
  show wpAny _ A (specialOf (Value.ref z) (Str.ofString "__length_hint__") >>= _) _ _ _
  exact wpAny_bind (wpAny_specialOf hT zip_hint0 (wpAny_pure q))
/-- where a zip stands that is drawn empty into the list at S -/
def ZS {prog : Program} {w : World} {i1 i2 l1 l2 : Addr} {xs ys : Array Value} (z TI TO S : Addr) (S1 : Side prog w i1 l1 xs) (S2 : Side prog w i2 l2 ys) (h : Heap) (i : Nat) : Prop :=
  IsPair h TI (.ref i1) (.ref i2) ∧ S1.St i h ∧ S2.St i h ∧ ((IsZip h z TI TO .none ∧ ∃ a b, IsPair h TO a b) ∨ ∃ (T : Addr) (f : Bool) (oT : Obj), IsZipHeld h z TI TO T f ∧ h.get? T = some oT ∧ T ≠ z ∧ T ≠ i1 ∧ T ≠ i2 ∧ T ≠ S)
/-- what has been drawn: new pairs -/
structure PsG (ps : List (Value × Value)) (lo : Addr) (h : Heap) (as : List Addr) : Prop where
  rise : as.Pairwise (· < ·)
  above : ∀ a ∈ as, lo < a
  pairs : ∀ (j : Nat) (a : Addr), as[j]? = some a → ∃ p, ps[j]? = some p ∧ IsPair h a p.1 p.2
section
variable {prog : Program} {w : World} {A : Around} {E : Value → Shared → Prop} {s : Shared} {z TI TO S i1 i2 l1 l2 : Addr} {xs ys : Array Value} {i : Nat}
theorem ZS.type {S1 : Side prog w i1 l1 xs} {S2 : Side prog w i2 l2 ys} {h : Heap} (q : ZS z TI TO S S1 S2 h i) : ∃ o, h.get? z = some o ∧ o.cls = .type "zip" := by
  obtain ⟨_, _, _, ⟨hz, _⟩ | ⟨T, f, oT, hz, _⟩⟩ := q
  · exact ⟨_, hz, rfl⟩
  · exact ⟨_, hz, rfl⟩
theorem ZS.near {S1 : Side prog w i1 l1 xs} {S2 : Side prog w i2 l2 ys} {h h' : Heap} (q : ZS z TI TO S S1 S2 h i) (ns : z ≠ S ∧ TI ≠ S ∧ TO ≠ S ∧ i1 ≠ S ∧ i2 ≠ S ∧ l1 ≠ S ∧ l2 ≠ S) (k : ∀ b o, b ≠ S → h.get? b = some o → h'.get? b = some o) : ZS z TI TO S S1 S2 h' i := by
  obtain ⟨n1, n2, n3, n4, n5, n6, n7⟩ := ns
  obtain ⟨hI, q1, q2, r⟩ := q
  refine ⟨k _ _ n2 hI, S1.near q1 (fun o e => k _ o n4 e) (fun o e => k _ o n6 e), S2.near q2 (fun o e => k _ o n5 e) (fun o e => k _ o n7 e), ?_⟩
  rcases r with ⟨hz, a, b, hO⟩ | ⟨T, f, oT, hz, hT, t1, t2, t3, t4⟩
  · exact .inl ⟨k _ _ n1 hz, a, b, k _ _ n3 hO⟩
  · exact .inr ⟨T, f, oT, k _ _ n1 hz, k _ _ t4 hT, t1, t2, t3, t4⟩
theorem zs_item (D : ZipApart z TI TO i1 i2 l1 l2) {S1 : Side prog w i1 l1 xs} {S2 : Side prog w i2 l2 ys} (q : ZS z TI TO S S1 S2 s.heap i) (hS : S < s.heap.objs.size) {x y : Value} (hx : xs[i]? = some x) (hy : ys[i]? = some y) {Q : Option Value → Shared → Prop}
    (k : ∀ h', ZS z TI TO S S1 S2 h' (i + 1) → IsPair h' s.heap.objs.size x y → h'.objs.size = s.heap.objs.size + 1 → (∀ c o, c ≠ z → c ≠ TO → c ≠ i1 → c ≠ i2 → s.heap.get? c = some o → h'.get? c = some o) → Q (some (.ref s.heap.objs.size)) { s with heap := h' }) :
    wpAny (model prog w) A (pyNext (.ref z)) Q E s := by
  have hT : s.TypeIs (.ref z) "zip" := q.type
  obtain ⟨oz, ez, _⟩ := q.type
  have lz : z < s.heap.objs.size := Heap.lt_size ez
  obtain ⟨hI, q1, q2, r⟩ := q
  obtain ⟨o1, e1, _⟩ := S1.here q1
  obtain ⟨o2, e2, _⟩ := S2.here q2
  have li1 := Heap.lt_size e1
  have li2 := Heap.lt_size e2
  unfold pyNext
  refine wpAny_bind (wpAny_attempt (wpAny_callSpecial?_slot (name := Str.ofString "__next__") hT F.slot_zip_next (wpAny_call_entry F.slot_zip_next hT F.entry_zip_next ?_ (F.args_zip_next_1 _))))
  rcases r with ⟨hz, a, b, hO⟩ | ⟨T, f, oT, hz, hTT, t1, t2, t3, t4⟩
  · refine zip_item D S1 S2 hz hI hO q1 q2 hx hy fun h' a1 a2 a3 a4 a5 a6 a7 => wpAny_pure (k h' ⟨a7 _ _ D.TIz D.TITO D.TIi1 D.TIi2 hI, a3, a4, .inr ⟨s.heap.objs.size, false, _, a1, a5, Nat.ne_of_gt lz, Nat.ne_of_gt li1, Nat.ne_of_gt li2, Nat.ne_of_gt hS⟩⟩ a5 a6 a7)
  · refine zip_itemH D S1 S2 hz hTT hI q1 q2 hx hy fun h' a1 a3 a4 a5 a6 a7 => wpAny_pure (k h' ⟨a7 _ _ D.TIz D.TIi1 D.TIi2 hI, a3, a4, .inr ⟨T, true, _, a1, a7 _ _ t1 t2 t3 hTT, t1, t2, t3, t4⟩⟩ a5 a6 fun c o n1 _ n3 n4 e => a7 c o n1 n3 n4 e)
theorem zs_end (hh : A.handled = none) (D : ZipApart z TI TO i1 i2 l1 l2) {S1 : Side prog w i1 l1 xs} {S2 : Side prog w i2 l2 ys} (q : ZS z TI TO S S1 S2 s.heap i) (hend : xs[i]? = none ∨ ys[i]? = none) {Q : Option Value → Shared → Prop}
    (k : ∀ h', (∀ c o, c ≠ z → c ≠ TO → c ≠ i1 → c ≠ i2 → s.heap.get? c = some o → h'.get? c = some o) → Q none { s with heap := h' }) : wpAny (model prog w) A (pyNext (.ref z)) Q E s := by
  have hT : s.TypeIs (.ref z) "zip" := q.type
  obtain ⟨hI, q1, q2, r⟩ := q
  unfold pyNext
  rcases r with ⟨hz, a, b, hO⟩ | ⟨T, f, oT, hz, hTT, t1, t2, t3, t4⟩
  · refine wpAny_bind (wpAny_attempt (wpAny_callSpecial?_slot (name := Str.ofString "__next__") hT F.slot_zip_next
      (wpAny_call_entry F.slot_zip_next hT F.entry_zip_next (zip_end (A := A.in1) hh D S1 S2 hz hI hO q1 q2 hend fun h' e ke he => ?_) (F.args_zip_next_1 _))))
    obtain ⟨o, e1, e2⟩ := he
    refine wpAny_bind (wpAny_isInstance (T := "StopIteration") (b := true) ⟨o, e1, e2⟩ isSubtype_stop ?_)
    exact wpAny_pure (k _ ke)
  · refine wpAny_bind (wpAny_attempt (wpAny_callSpecial?_slot (name := Str.ofString "__next__") hT F.slot_zip_next
      (wpAny_call_entry F.slot_zip_next hT F.entry_zip_next (zip_endH (A := A.in1) hh D S1 S2 hz hTT hI q1 q2 hend fun h' e ke he => ?_) (F.args_zip_next_1 _))))
    obtain ⟨o, e1, e2⟩ := he
    refine wpAny_bind (wpAny_isInstance (T := "StopIteration") (b := true) ⟨o, e1, e2⟩ isSubtype_stop ?_)
    exact wpAny_pure (k _ fun c o n1 _ n3 n4 w => ke c o n1 n3 n4 w)
/-- drawn into the list at S -/
theorem zs_loop (hh : A.handled = none) (D : ZipApart z TI TO i1 i2 l1 l2) {S1 : Side prog w i1 l1 xs} {S2 : Side prog w i2 l2 ys} (ns : z ≠ S ∧ TI ≠ S ∧ TO ≠ S ∧ i1 ≠ S ∧ i2 ≠ S ∧ l1 ≠ S ∧ l2 ≠ S) (res : Value) {lo : Addr} {ho : Heap} {R : Result → Shared → Prop}
    (room : (xs.toList.zip ys.toList).length ≤ sizeLine) (below : ∀ b o, ho.get? b = some o → b ≠ z ∧ b ≠ TO ∧ b ≠ i1 ∧ b ≠ i2) (lz : z ≤ lo ∧ TO ≤ lo ∧ i1 ≤ lo ∧ i2 ≤ lo ∧ S ≤ lo)
    (hR : ∀ h' acc c as, (∀ b o, b ≠ S → ho.get? b = some o → h'.get? b = some o) → h'.get? S = some { cls := .type "list", dict := none, data := .seq acc c, slots := #[] } → as.length = (xs.toList.zip ys.toList).length → PsG (xs.toList.zip ys.toList) lo h' as →
      acc.toList = as.map Value.ref → R (.ok (.ret res)) { s with heap := h' }) :
    ∀ (k i : Nat) (h : Heap) (c : Nat) (acc : Array Value) (as : List Addr), (xs.toList.zip ys.toList).length = k + i → ZS z TI TO S S1 S2 h i → (∀ b o, b ≠ S → ho.get? b = some o → h.get? b = some o) →
      h.get? S = some { cls := .type "list", dict := none, data := .seq acc c, slots := #[] } → acc.toList = as.map Value.ref → as.length = i → PsG (xs.toList.zip ys.toList) lo h as → lo < h.objs.size →
      codeAny (model prog w) A (.builtin "list.extend.loop" ⟨[.ref S, .ref z, res], []⟩) R { s with heap := h } := by
  obtain ⟨n1, n2, n3, n4, n5, n6, n7⟩ := id ns
  obtain ⟨z1, z2, z3, z4, z5⟩ := lz
  intro k
  induction k with
  | zero =>
    intro i h c acc as hk q kp hS ha hl g hs
    refine codeAny_builtin F.entry_extend_loop ?_
    rw [Around.under_plainId F.plain_extend_loop _]
    show wpAny _ A.in1 (pyNext (.ref z) >>= _) _ _ _
    have hend : xs[i]? = none ∨ ys[i]? = none := by
      rw [List.length_zip, Array.length_toList, Array.length_toList] at hk
      rcases Nat.lt_or_ge i xs.size with c1 | c1
      · exact .inr (by simp; omega)
      · exact .inl (by simp; omega)
    refine wpAny_bind (zs_end (A := A.in1) (s := { s with heap := h }) hh D q hend fun h' ke => ?_)
    refine wpAny_pure (hR h' acc c as (fun b o nb e => ?_) (ke _ _ (Ne.symm n1) (Ne.symm n3) (Ne.symm n4) (Ne.symm n5) hS) (by omega) ⟨g.rise, g.above, fun j a hj => ?_⟩ ha)
    · obtain ⟨b1, b2, b3, b4⟩ := below b o e
      exact ke b o b1 b2 b3 b4 (kp b o nb e)
    · obtain ⟨p, e1, e2⟩ := g.pairs j a hj
      have ab := g.above a (List.mem_of_getElem? hj)
      exact ⟨p, e1, ke _ _ (Nat.ne_of_gt (Nat.lt_of_le_of_lt z1 ab)) (Nat.ne_of_gt (Nat.lt_of_le_of_lt z2 ab)) (Nat.ne_of_gt (Nat.lt_of_le_of_lt z3 ab)) (Nat.ne_of_gt (Nat.lt_of_le_of_lt z4 ab)) e2⟩
  | succ k ih =>
    intro i h c acc as hk q kp hS ha hl g hs
    have lt : i < (xs.toList.zip ys.toList).length := by omega
    have lt2 := lt
    rw [List.length_zip, Array.length_toList, Array.length_toList] at lt2
    have hx : xs[i]? = some xs[i] := by simp
    have hy : ys[i]? = some ys[i] := by simp
    have hp : (xs.toList.zip ys.toList)[i]? = some (xs[i], ys[i]) := by
      rw [List.getElem?_zip_eq_some]
      exact ⟨by simpa using hx, by simpa using hy⟩
    have sz : acc.size = i := by rw [← Array.length_toList, ha, List.length_map, hl]
    have lS : S < h.objs.size := Heap.lt_size hS
    refine codeAny_builtin F.entry_extend_loop ?_
    rw [Around.under_plainId F.plain_extend_loop _]
    show wpAny _ A.in1 (pyNext (.ref z) >>= _) _ _ _
    refine wpAny_bind (zs_item (A := A.in1) (s := { s with heap := h }) D q lS hx hy fun h' q' new size2 ke => ?_)
    dsimp only at new size2 ke ⊢
    have hS' := ke S _ (Ne.symm n1) (Ne.symm n3) (Ne.symm n4) (Ne.symm n5) hS
    have up : ∀ b o, b ≠ S → h'.get? b = some o → (h'.update S (Obj.mapSeq (·.push (Value.ref h.objs.size)))).get? b = some o := fun b o nb e => (Heap.get?_update_other _ _ (Ne.symm nb)).trans e
    have mineOf : ∀ b o, lo < b → h.get? b = some o → h'.get? b = some o := fun b o ab e => ke _ _ (Nat.ne_of_gt (Nat.lt_of_le_of_lt z1 ab)) (Nat.ne_of_gt (Nat.lt_of_le_of_lt z2 ab)) (Nat.ne_of_gt (Nat.lt_of_le_of_lt z3 ab)) (Nat.ne_of_gt (Nat.lt_of_le_of_lt z4 ab)) e
    show wpAny _ A.in1 (updateSeq S (·.push (Value.ref h.objs.size)) >>= _) _ _ _
    refine wpAny_bind ?_
    refine wpAny_updateSeq hS' rfl (wpAny_pure ⟨plainId_quiet F.plain_extend_loop _, ih (i + 1) _ _ (acc.push (Value.ref h.objs.size)) (as ++ [h.objs.size]) (by omega) (q'.near ns up) (fun b o nb e => ?_) (Heap.get?_update_self _ hS' rfl) (by rw [Array.toList_push, ha, List.map_append]; rfl) (by rw [List.length_append, hl]; rfl) ⟨?_, ?_, ?_⟩ ?_⟩) (by rw [sz]; omega) (by show (acc.push (Value.ref h.objs.size)).size ≤ sizeLine + 1; rw [Array.size_push, sz]; omega)
    · obtain ⟨b1, b2, b3, b4⟩ := below b o e
      exact up b o nb (ke b o b1 b2 b3 b4 (kp b o nb e))
    · refine List.pairwise_append.mpr ⟨g.rise, List.pairwise_singleton _ _, fun a ia b ib => ?_⟩
      rw [List.mem_singleton.mp ib]
      obtain ⟨j, hj⟩ := List.mem_iff_getElem?.mp ia
      obtain ⟨p, _, e2⟩ := g.pairs j a hj
      exact Heap.lt_size e2
    · intro a ia
      rcases List.mem_append.mp ia with ia | ia
      · exact g.above a ia
      · rw [List.mem_singleton.mp ia]
        exact hs
    · intro j a hj
      rcases Nat.lt_or_ge j as.length with c1 | c1
      · rw [List.getElem?_append_left c1] at hj
        obtain ⟨p, e1, e2⟩ := g.pairs j a hj
        have ab := g.above a (List.mem_of_getElem? hj)
        exact ⟨p, e1, up _ _ (Nat.ne_of_gt (Nat.lt_of_le_of_lt z5 ab)) (mineOf _ _ ab e2)⟩
      · rw [List.getElem?_append_right c1] at hj
        have j0 : j - as.length = 0 := by
          rcases Nat.eq_zero_or_pos (j - as.length) with e | e
          · exact e
          · rw [List.getElem?_eq_none (by rw [List.length_singleton]; omega)] at hj
            cases hj
        rw [j0] at hj
        have ea : h.objs.size = a := Option.some.inj hj
        have ej : j = i := by omega
        rw [← ea, ej]
        exact ⟨_, hp, up _ _ (Nat.ne_of_gt lS) new⟩
    · have e : (h'.update S (Obj.mapSeq (·.push (Value.ref h.objs.size)))).get? h.objs.size = _ := up _ _ (Nat.ne_of_gt lS) new
      exact Nat.lt_trans hs (Heap.lt_size e)
end
end G

set_option Elab.async false
set_option linter.all false
set_option maxRecDepth 100000
set_option maxHeartbeats 4000000
/-! zip(a list, a tuple): made, walked, drawn into a list. -/
namespace G
open PySem PySem.Spec PyProof.Rows L2 Evl
abbrev zM1 (h : Heap) (l1 : Addr) : Heap := h.push { cls := .type "list_iterator", data := .fields #[.ref l1, .int 0 0] }
abbrev zM2 (h : Heap) (l1 l2 : Addr) : Heap := (zM1 h l1).push { cls := .type "tuple_iterator", data := .fields #[.ref l2, .int 0 0] }
abbrev zM3 (h : Heap) (l1 l2 : Addr) : Heap := (zM2 h l1 l2).push { cls := .type "tuple", data := .seq #[.ref h.objs.size, .ref (zM1 h l1).objs.size] }
abbrev zM4 (h : Heap) (l1 l2 : Addr) : Heap := (zM3 h l1 l2).push { cls := .type "tuple", data := .seq #[.none, .none] }
abbrev zM5 (h : Heap) (l1 l2 : Addr) : Heap := (zM4 h l1 l2).push { cls := .type "zip", data := .fields #[.none, .bool false, .bool false, .ref (zM2 h l1 l2).objs.size, .ref (zM3 h l1 l2).objs.size] }
theorem meets_zipM (l1 l2 : Addr) (xs ys : Array Value) :
    Meets (Builtin.«zip.__new__» ⟨[.type "zip", .ref l1, .ref l2], []⟩) (fun _ R s => s.heap.IsList l1 xs ∧ s.heap.IsTuple l2 ys ∧
      R (.ok (.ret (.ref (zM4 s.heap l1 l2).objs.size))) { s with heap := zM5 s.heap l1 l2 }) :=
  .of_wp fun prog w A R s h => by
    obtain ⟨hp, g, d, tk, os⟩ := s
    obtain ⟨q1, q2, h⟩ := h
    have hsub := sub_zip
    have r1 : Heap.IsList (Shared.heap ⟨hp, g, d, tk, os⟩) l1 xs := q1
    have r2 : Heap.IsTuple (Shared.heap ⟨hp.push { cls := .type "list_iterator", data := .fields #[.ref l1, .int 0 0] }, g, d, tk, os⟩) l2 ys := Heap.IsTuple.push q2 _
    wp_walk using wpAny_pyIter_list r1, wpAny_pyIter_tuple r2
    exact ⟨_, rfl, h⟩
section
variable {prog : Program} {w : World} {A : Around} {E : Value → Shared → Prop} {s : Shared}
theorem call_zipM {l1 l2 : Addr} {xs ys : Array Value} {Q : Value → Shared → Prop} (q1 : s.heap.IsList l1 xs) (q2 : s.heap.IsTuple l2 ys)
    (h : ∀ h', IsZip h' (s.heap.objs.size + 4) (s.heap.objs.size + 2) (s.heap.objs.size + 3) .none → IsPair h' (s.heap.objs.size + 2) (.ref s.heap.objs.size) (.ref (s.heap.objs.size + 1)) →
      IsPair h' (s.heap.objs.size + 3) .none .none → h'.IsListIter s.heap.objs.size l1 0 → h'.IsTupleIter (s.heap.objs.size + 1) l2 0 → h'.objs.size = s.heap.objs.size + 5 →
      (∀ c o, s.heap.get? c = some o → h'.get? c = some o) → Q (.ref (s.heap.objs.size + 4)) { s with heap := h' }) :
    wpAny (model prog w) A (call (.type "zip") [.ref l1, .ref l2]) Q E s := by
  refine callType_new F.called_zip (by decide) (F.typeCall_zip_2 _ _) (F.newCall_zip_2 _ _) (fun obj => F.args_object_init_3 obj _ _) F.entry_zip_new
    (meets_zipM l1 l2 xs ys) ⟨q1, q2, ?_⟩
  have z1 : (zM1 s.heap l1).objs.size = s.heap.objs.size + 1 := Heap.size_push ..
  have z2 : (zM2 s.heap l1 l2).objs.size = s.heap.objs.size + 2 := by rw [Heap.size_push, z1]
  have z3 : (zM3 s.heap l1 l2).objs.size = s.heap.objs.size + 3 := by rw [Heap.size_push, z2]
  have z4 : (zM4 s.heap l1 l2).objs.size = s.heap.objs.size + 4 := by rw [Heap.size_push, z3]
  have z5 : (zM5 s.heap l1 l2).objs.size = s.heap.objs.size + 5 := by rw [Heap.size_push, z4]
  have g5 : (zM5 s.heap l1 l2).get? (zM4 s.heap l1 l2).objs.size = some _ := Heap.get?_push_size _ rfl
  have g4 : (zM5 s.heap l1 l2).get? (zM3 s.heap l1 l2).objs.size = some _ := Heap.get?_push_of_some _ (Heap.get?_push_size _ rfl)
  have g3 : (zM5 s.heap l1 l2).get? (zM2 s.heap l1 l2).objs.size = some _ := Heap.get?_push_of_some _ (Heap.get?_push_of_some _ (Heap.get?_push_size _ rfl))
  have g2 : (zM5 s.heap l1 l2).get? (zM1 s.heap l1).objs.size = some _ := Heap.get?_push_of_some _ (Heap.get?_push_of_some _ (Heap.get?_push_of_some _ (Heap.get?_push_size _ rfl)))
  have g1 : (zM5 s.heap l1 l2).get? s.heap.objs.size = some _ := Heap.get?_push_of_some _ (Heap.get?_push_of_some _ (Heap.get?_push_of_some _ (Heap.get?_push_of_some _ (Heap.get?_push_size _ rfl))))
  show _ ∧ _
  rw [z2, z3, z4] at g5
  rw [z1, z2] at g3
  rw [z3] at g4
  rw [z1] at g2
  rw [z4]
  exact ⟨⟨_, g5, rfl⟩, h _ g5 g3 g4 ⟨_, g1, rfl, rfl⟩ ⟨_, g2, rfl, rfl⟩ z5 fun c o x =>
    Heap.get?_push_of_some _ (Heap.get?_push_of_some _ (Heap.get?_push_of_some _ (Heap.get?_push_of_some _ (Heap.get?_push_of_some _ x))))⟩
section
variable {z TI TO i1 i2 l1 l2 : Addr} {k1 k2 : Nat} {xs ys : Array Value} {x y a b : Value}
theorem next_item (D : ZipApart z TI TO i1 i2 l1 l2) (S1 : Side prog w i1 l1 xs) (S2 : Side prog w i2 l2 ys) {Q : Option Value → Shared → Prop} (hz : IsZip s.heap z TI TO .none) (hI : IsPair s.heap TI (.ref i1) (.ref i2)) (hO : IsPair s.heap TO a b)
    (q1 : S1.St k1 s.heap) (q2 : S2.St k2 s.heap) (hx : xs[k1]? = some x) (hy : ys[k2]? = some y)
    (k : ∀ h', IsZip h' z TI TO (rawInt s.heap.objs.size) → IsPair h' TO x y → S1.St (k1 + 1) h' → S2.St (k2 + 1) h' → IsPair h' s.heap.objs.size x y → h'.objs.size = s.heap.objs.size + 1 →
      (∀ c o, c ≠ z → c ≠ TO → c ≠ i1 → c ≠ i2 → s.heap.get? c = some o → h'.get? c = some o) → Q (some (.ref s.heap.objs.size)) { s with heap := h' }) :
    wpAny (model prog w) A (pyNext (.ref z)) Q E s := by
  have hT : s.TypeIs (.ref z) "zip" := ⟨_, hz, rfl⟩
  unfold pyNext
  exact wpAny_bind (wpAny_attempt (wpAny_callSpecial?_slot (name := Str.ofString "__next__") hT F.slot_zip_next
    (wpAny_call_entry F.slot_zip_next hT F.entry_zip_next
      (zip_item D S1 S2 hz hI hO q1 q2 hx hy fun h' a1 a2 a3 a4 a5 a6 a7 => wpAny_pure (k h' a1 a2 a3 a4 a5 a6 a7)) (F.args_zip_next_1 _))))
theorem next_end (hh : A.handled = none) (D : ZipApart z TI TO i1 i2 l1 l2) (S1 : Side prog w i1 l1 xs) (S2 : Side prog w i2 l2 ys) {Q : Option Value → Shared → Prop} (hz : IsZip s.heap z TI TO .none) (hI : IsPair s.heap TI (.ref i1) (.ref i2)) (hO : IsPair s.heap TO a b)
    (q1 : S1.St k1 s.heap) (q2 : S2.St k2 s.heap) (hend : xs[k1]? = none ∨ ys[k2]? = none)
    (k : ∀ h', (∀ c o, c ≠ z → c ≠ TO → c ≠ i1 → c ≠ i2 → s.heap.get? c = some o → h'.get? c = some o) → Q none { s with heap := h' }) :
    wpAny (model prog w) A (pyNext (.ref z)) Q E s := by
  have hT : s.TypeIs (.ref z) "zip" := ⟨_, hz, rfl⟩
  unfold pyNext
  refine wpAny_bind (wpAny_attempt (wpAny_callSpecial?_slot (name := Str.ofString "__next__") hT F.slot_zip_next
    (wpAny_call_entry F.slot_zip_next hT F.entry_zip_next (zip_end (A := A.in1) hh D S1 S2 hz hI hO q1 q2 hend fun h' e ke he => ?_) (F.args_zip_next_1 _))))
  obtain ⟨o, e1, e2⟩ := he
  refine wpAny_bind (wpAny_isInstance (T := "StopIteration") (b := true) ⟨o, e1, e2⟩ isSubtype_stop ?_)
  exact wpAny_pure (k _ ke)
end
end
/-- the list at a and the tuple at b as they stand at each turn, the items in new pairs -/
def Itm (K : PySem.W.Frag) (a b : Addr) : It :=
  ⟨fun i H => ∃ (xs ys : List V) (x y : V), SqL K H a xs ∧ SqT K H b ys ∧ xs[i]? = some x ∧ ys[i]? = some y,
    fun i H v H' => ∃ T x y, v = .ref T ∧ H T = none ∧ H' = upd H T (.tup [x, y]) ∧ (∀ xs, SqL K H a xs → xs[i]? = some x) ∧ ∀ ys, SqT K H b ys → ys[i]? = some y,
    fun i H => ∃ xs ys : List V, SqL K H a xs ∧ SqT K H b ys ∧ (xs.length ≤ i ∨ ys.length ≤ i)⟩
theorem turn_zipM {P : Program} {w : World} {K : PySem.W.Frag} {elts : List Expr} {kk : Nat} {tpos : Pos} {a b z TI TO i1 i2 : Addr} (D : ZipApart z TI TO i1 i2 a b) :
    Turn P w K (.Tuple elts kk tpos) (Itm K a b) [z, TI, TO, i1, i2] z (fun i h => IsZip h z TI TO .none ∧ IsPair h TI (.ref i1) (.ref i2) ∧ (∃ x y, IsPair h TO x y) ∧ h.IsListIter i1 a i ∧ h.IsTupleIter i2 b i) where
  mem := by simp
  obj := fun i h st c hc => by
    obtain ⟨hz, hTI, ⟨x, y, hTO⟩, ⟨o1, e1, _, d1⟩, ⟨o2, e2, _, d2⟩⟩ := st
    have e' : c = z ∨ c = TI ∨ c = TO ∨ c = i1 ∨ c = i2 := by simpa using hc
    rcases e' with q | q | q | q | q
    · rw [q]; exact ⟨_, hz, fun v q => nomatch q⟩
    · rw [q]; exact ⟨_, hTI, fun v q => nomatch q⟩
    · rw [q]; exact ⟨_, hTO, fun v q => nomatch q⟩
    · rw [q]; exact ⟨o1, e1, fun v q => by rw [d1] at q; cases q⟩
    · rw [q]; exact ⟨o2, e2, fun v q => by rw [d2] at q; cases q⟩
  keep := fun i h h' st k => by
    obtain ⟨hz, hTI, ⟨x, y, hTO⟩, h1, h2⟩ := st
    exact ⟨k z (by simp) _ hz, k TI (by simp) _ hTI, ⟨x, y, k TO (by simp) _ hTO⟩, h1.at fun o q => k i1 (by simp) o q, h2.at fun o q => k i2 (by simp) o q⟩
  item := by
    intro X hP hw hK hc i pins s σ H E I hf st hg
    subst hP hw hK
    obtain ⟨hz, hTI, ⟨x0, y0, hTO⟩, h1, h2⟩ := st
    obtain ⟨xs, ys, x, y, hqx, hqy, hx, hy⟩ := hg
    obtain ⟨its, rv, p, _⟩ := I.list hqx
    obtain ⟨its2, rv2, p2, _⟩ := I.tuple hqy
    obtain ⟨u, hu, ru⟩ := rv.get hx
    obtain ⟨u2, hu2, ru2⟩ := rv2.get hy
    have hzl : z < s.heap.objs.size := Heap.lt_size hz
    refine next_item D (sideL (xs := its.toArray) D.l1i1) (sideT (xs := its2.toArray) D.l2i2) hz hTI hTO ⟨h1, p.isList⟩ ⟨h2, p2⟩ (x := u) (y := u2) (by simpa using hu) (by simpa using hu2) fun h' z' TO' h1' h2' hT hsz hk => ?_
    refine ⟨_, rfl, wpAny_letOwnedTupleGo_zip (s := { s with heap := h' }) z' fun h'' z'' sb => ?_⟩
    have hT2 : h''.get? s.heap.objs.size = some { cls := .type "tuple", data := .seq #[u, u2] } := (sb.2 _ (Nat.ne_of_gt hzl)).trans hT
    have new : ObjOk X.prog X.w (upd H s.heap.objs.size (.tup [x, y])) h'' s.heap.objs.size (.tup [x, y]) :=
      ⟨by show 2 ≤ sizeLine; decide, [u, u2], .cons ru (.cons ru2 .nil), ⟨_, hT2, rfl, _, rfl⟩⟩
    have I1 : Inv X pins σ (upd H s.heap.objs.size (.tup [x, y])) { s with heap := h'' } :=
      I.turnedNew (t' := s.toks) (ch := [z, TI, TO, i1, i2]) (fun c o hb q => (sb.2 c (fun q' => hb (by simp [q']))).trans (hk c o (fun q' => hb (by simp [q'])) (fun q' => hb (by simp [q'])) (fun q' => hb (by simp [q'])) (fun q' => hb (by simp [q'])) q)) hf (Nat.le_refl _) new
    refine ⟨.ref s.heap.objs.size, _, I1, rfl, ⟨_, x, y, rfl, I.hok.fresh (Nat.le_refl _), rfl, fun l hl => by rw [I.list_inj hl hqx]; exact hx, fun l hl => by rw [I.tuple_inj hl hqy]; exact hy⟩, ⟨z'', ?_, ⟨u, u2, ?_⟩, ?_, ?_⟩, fun c hcm => ?_⟩
    · exact (sb.2 _ D.TIz).trans (hk _ _ D.TIz D.TITO D.TIi1 D.TIi2 hTI)
    · exact (sb.2 _ D.TOz).trans TO'
    · exact h1'.1.at fun o q => (sb.2 _ D.i1z).trans q
    · exact h2'.1.at fun o q => (sb.2 _ D.i2z).trans q
    · have hlt : c < s.heap.objs.size := by
        have e' : c = z ∨ c = TI ∨ c = TO ∨ c = i1 ∨ c = i2 := by simpa using hcm
        rcases e' with q | q | q | q | q
        · rw [q]; exact hzl
        · rw [q]; exact Heap.lt_size hTI
        · rw [q]; exact Heap.lt_size hTO
        · rw [q]; obtain ⟨_, e1, _⟩ := h1; exact Heap.lt_size e1
        · rw [q]; obtain ⟨_, e2, _⟩ := h2; exact Heap.lt_size e2
      rw [upd_ne (Nat.ne_of_lt hlt)]
      exact (hf c hcm).1
  done := by
    intro X hP hw hK hc i pins s σ H E I hf st hg
    subst hP hw hK
    obtain ⟨hz, hTI, ⟨x0, y0, hTO⟩, h1, h2⟩ := st
    obtain ⟨xs, ys, hqx, hqy, hend⟩ := hg
    obtain ⟨its, rv, p, _⟩ := I.list hqx
    obtain ⟨its2, rv2, p2, _⟩ := I.tuple hqy
    have l1 := rv.length
    have l2 := rv2.length
    have he : its.toArray[i]? = none ∨ its2.toArray[i]? = none := by
      rcases hend with q | q
      · exact .inl (by simp; omega)
      · exact .inr (by simp; omega)
    exact next_end (I.ok.hd hc) D (sideL (xs := its.toArray) D.l1i1) (sideT (xs := its2.toArray) D.l2i2) hz hTI hTO ⟨h1, p.isList⟩ ⟨h2, p2⟩ he fun h' hk => ⟨rfl, I.turnedL (t' := s.toks) (ch := [z, TI, TO, i1, i2]) (fun c o hb q =>
      hk c o (fun q' => hb (by simp [q'])) (fun q' => hb (by simp [q'])) (fun q' => hb (by simp [q'])) (fun q' => hb (by simp [q'])) q) hf⟩
  self := fun A i s Q E st h => wpAny_pyIter_zip st.1 h
def iZipM (K : PySem.W.Frag) (ta : TA) : TI := fun σ H R => ta σ H fun vs H1 => ∃ a b xs ys, vs = [.ref a, .ref b] ∧ SqL K H1 a xs ∧ SqT K H1 b ys ∧ R (Itm K a b) H1
theorem pi_zipM {X : Cx} {e e2 : Expr} {ta : TA} {p pos tpos : Pos} {elts : List Expr} {kk : Nat} {K : PySem.W.Frag} (hK : X.K = K) (hg : Gl X "zip") (hm : X.mg "zip" = none) (ha : PA X [e, e2] ta)
    (hs : starEach [e, e2] X.env = (false, eval e X.env) :: starEach [e2] X.env := by rfl) (hpl : (backTo pos (starEach [e2] X.env)).any (·.1) = false := by rfl) :
    PI X (.Tuple elts kk tpos) (.Call (.Name "zip" p) [e, e2] [] pos) (iZipM K ta) := by
  subst hK
  refine ⟨fun pins s σ H R I h => ?_⟩
  refine Call_ (ld_blt I hg hm PyProof.Rows.boot_zip (PyProof.Rows.callWith_type1 (thn (ha.run pos pins s σ H _ I h) fun us s1 ⟨vs, H1, I1, r1, q1⟩ => ?_) hs hpl))
  obtain ⟨a, b, xs, ys, ex, hqx, hqy, q⟩ := q1
  subst ex
  cases r1 with
  | cons r rr =>
    cases rr with
    | cons r' rr =>
      cases rr
      cases r
      cases r'
      obtain ⟨its, rv, p1, _⟩ := I1.list hqx
      obtain ⟨its2, rv2, p2, _⟩ := I1.tuple hqy
      obtain ⟨o2, ho2, _⟩ := id p2
      have la : a < s1.heap.objs.size := p1.lt
      have lb : b < s1.heap.objs.size := Heap.lt_size ho2
      refine call_zipM p1.isList (show s1.heap.IsTuple b its2.toArray from p2) fun h' hz hTI hTO h1 h2 hsz hk => wpAny_pyIter_zip hz ?_
      have I2 : Inv X pins σ H1 { s1 with heap := h' } := I1.kept (t' := s1.toks) hk
      refine ⟨s1.heap.objs.size + 4, [s1.heap.objs.size + 4, s1.heap.objs.size + 2, s1.heap.objs.size + 3, s1.heap.objs.size, s1.heap.objs.size + 1], _, _, H1, rfl, I2, turn_zipM (PySem.W.ktu_apart s1.heap.objs.size a b la lb), ⟨hz, hTI, ⟨_, _, hTO⟩, h1, h2⟩, fun c hcm => ?_, q⟩
      have e' : c = s1.heap.objs.size + 4 ∨ c = s1.heap.objs.size + 2 ∨ c = s1.heap.objs.size + 3 ∨ c = s1.heap.objs.size ∨ c = s1.heap.objs.size + 1 := by simpa using hcm
      have hle : s1.heap.objs.size ≤ c := by
        rcases e' with z | z | z | z | z
        · rw [z]; exact Nat.le_add_right _ _
        · rw [z]; exact Nat.le_add_right _ _
        · rw [z]; exact Nat.le_add_right _ _
        · rw [z]; exact Nat.le_refl _
        · rw [z]; exact Nat.le_add_right _ _
      exact I1.fpOk hle (I1.hok.fresh hle)
end G

set_option Elab.async false
set_option linter.all false
set_option maxRecDepth 100000
set_option maxHeartbeats 4000000
/-! list(zip(a list, a tuple)). -/
namespace G
open PySem PySem.Spec PyProof.Rows L2 Evl
section
variable {prog : Program} {w : World} {A : Around} {E : Value → Shared → Prop} {s : Shared} {z TI TO S i1 i2 l1 l2 : Addr} {xs ys : Array Value}
theorem zx_extend (hh : A.handled = none) (D : ZipApart z TI TO i1 i2 l1 l2) {S1 : Side prog w i1 l1 xs} {S2 : Side prog w i2 l2 ys} (ns : z ≠ S ∧ TI ≠ S ∧ TO ≠ S ∧ i1 ≠ S ∧ i2 ≠ S ∧ l1 ≠ S ∧ l2 ≠ S) (res : Value) (c₀ : Nat) {ho : Heap} {R : Result → Shared → Prop}
    (hz : IsZip s.heap z TI TO .none) (q : ZS z TI TO S S1 S2 s.heap 0) (hS : s.heap.get? S = some { cls := .type "list", data := .seq #[] c₀ })
    (room : (xs.toList.zip ys.toList).length ≤ sizeLine) (below : ∀ b o, ho.get? b = some o → b ≠ z ∧ b ≠ TO ∧ b ≠ i1 ∧ b ≠ i2) (lz : z ≤ S ∧ TO ≤ S ∧ i1 ≤ S ∧ i2 ≤ S ∧ S ≤ S) (up : ∀ b o, b ≠ S → ho.get? b = some o → s.heap.get? b = some o)
    (hR : ∀ h' acc c as, (∀ b o, b ≠ S → ho.get? b = some o → h'.get? b = some o) → h'.get? S = some { cls := .type "list", dict := none, data := .seq acc c, slots := #[] } → as.length = (xs.toList.zip ys.toList).length → PsG (xs.toList.zip ys.toList) S h' as →
      acc.toList = as.map Value.ref → R (.ok (.ret res)) { s with heap := h' }) :
    wpAny (model prog w) A.in1 (Builtin.List.listExtendWith (.ref S) (.ref z) res)
      (fun fin s' => match fin with | .done f => R (.ok f) s' | .again c' => c'.quiet = true ∧ codeAny (model prog w) A c' R s') (fun e s' => R (.error e) s') s := by
  have lS : S < s.heap.objs.size := Heap.lt_size hS
  have hT : s.TypeIs (.ref z) "zip" := ⟨_, hz, rfl⟩
  have key : ∀ (h : Heap) (c₁ : Nat), (∀ b o, b ≠ S → s.heap.get? b = some o → h.get? b = some o) → h.get? S = some { cls := .type "list", data := .seq #[] c₁ } → codeAny (model prog w) A (.builtin "list.extend.loop" ⟨[.ref S, .ref z, res], []⟩) R { s with heap := h } := by
    intro h c₁ hk hS₁
    refine zs_loop (ho := ho) hh D ns res room below lz hR (xs.toList.zip ys.toList).length 0 h c₁ #[] [] (Nat.add_zero _).symm (q.near ns hk) (fun b o nb e => hk b o nb (up b o nb e)) hS₁ rfl rfl ⟨List.Pairwise.nil, (fun _ ha => nomatch ha), (fun j a hj => by simp at hj)⟩ (Heap.lt_size hS₁)
  unfold Builtin.List.listExtendWith
  refine wpAny_bind (wpAny_typeOf (T := "zip") hT ?_)
  have h1 : Builtin.List.listSameRef (.ref S) (.ref z) = false := by simp [Builtin.List.listSameRef, ns.1.symm]
  have h2 : (Value.type "zip" == Value.type "list") = false := by decide
  have h3 : (Value.type "zip" == Value.type "tuple") = false := by decide
  simp only [h1, h2, h3, Bool.or_false, Bool.false_eq_true, if_false]
  refine wpAny_bind (wpAny_pyIter_zip hz ?_)
  refine wpAny_bind (wpAny_holding (hint_zip hT ?_))
  refine wpAny_ite_split (fun _ => ?_) (fun _ => wpAny_pure ⟨plainId_quiet PySem.F.plain_extend_loop _, key _ c₀ (fun b o _ e => e) hS⟩)
  refine wpAny_bind (wpAny_rule ?_)
  refine wpAny_bind ?_
  show wpAny _ _ (updateSeq S (·.push .none) >>= fun _ => updateSeq S (·.pop)) _ _ _
  refine wpAny_bind (wpAny_updateSeq hS rfl ?_)
  have hS₂ := Heap.get?_update_self (Obj.mapSeq (·.push Value.none)) hS rfl
  refine wpAny_updateSeq (hz := by seq_fits) hS₂ rfl ?_
  have hS₃ := Heap.get?_update_self (Obj.mapSeq (·.pop)) hS₂ rfl
  refine wpAny_pure ⟨plainId_quiet PySem.F.plain_extend_loop _, key _ _ (fun b o hb e => ?_) hS₃⟩
  exact (Heap.get?_update_other _ _ (Ne.symm hb)).trans ((Heap.get?_update_other _ _ (Ne.symm hb)).trans e)
theorem zx_init (hh : A.handled = none) (D : ZipApart z TI TO i1 i2 l1 l2) {S1 : Side prog w i1 l1 xs} {S2 : Side prog w i2 l2 ys} (ns : z ≠ S ∧ TI ≠ S ∧ TO ≠ S ∧ i1 ≠ S ∧ i2 ≠ S ∧ l1 ≠ S ∧ l2 ≠ S) {ho : Heap} {R : Result → Shared → Prop}
    (hz : IsZip s.heap z TI TO .none) (q : ZS z TI TO S S1 S2 s.heap 0) (hS : s.heap.get? S = some { cls := .type "list", data := .seq #[] })
    (room : (xs.toList.zip ys.toList).length ≤ sizeLine) (below : ∀ b o, ho.get? b = some o → b ≠ z ∧ b ≠ TO ∧ b ≠ i1 ∧ b ≠ i2) (lz : z ≤ S ∧ TO ≤ S ∧ i1 ≤ S ∧ i2 ≤ S ∧ S ≤ S) (up : ∀ b o, b ≠ S → ho.get? b = some o → s.heap.get? b = some o)
    (hR : ∀ h' acc c as, (∀ b o, b ≠ S → ho.get? b = some o → h'.get? b = some o) → h'.get? S = some { cls := .type "list", dict := none, data := .seq acc c, slots := #[] } → as.length = (xs.toList.zip ys.toList).length → PsG (xs.toList.zip ys.toList) S h' as →
      acc.toList = as.map Value.ref → R (.ok (.ret .none)) { s with heap := h' }) :
    wpAny (model prog w) A.in1 (Builtin.«list.__init__» ⟨[.ref S, .ref z], []⟩)
      (fun fin s' => match fin with | .done f => R (.ok f) s' | .again c' => c'.quiet = true ∧ codeAny (model prog w) A c' R s') (fun e s' => R (.error e) s') s := by
  show wpAny _ _ (do let old ← Builtin.List.listItems (.ref S); Builtin.List.listUpdate (.ref S) (fun _ => #[]); letGo old.toList.reverse; Builtin.List.listExtendWith (.ref S) (.ref z) .none) _ _ s
  refine wpAny_bind ?_
  unfold Builtin.List.listItems
  refine wpAny_bind (wpAny_seqItems hS rfl (wpAny_pure ?_))
  show wpAny _ _ (updateSeq S (fun _ => #[]) >>= fun _ => letGo (#[] : Array Value).toList.reverse >>= fun _ => Builtin.List.listExtendWith (.ref S) (.ref z) .none) _ _ s
  refine wpAny_bind (wpAny_updateSeq hS rfl ?_)
  have hS₂ := Heap.get?_update_self (Obj.mapSeq (fun _ => (#[] : Array Value))) hS rfl
  have oth : ∀ b o, b ≠ S → s.heap.get? b = some o → (s.heap.update S (Obj.mapSeq (fun _ => (#[] : Array Value)))).get? b = some o :=
    fun b o hb e => (Heap.get?_update_other _ _ (Ne.symm hb)).trans e
  refine wpAny_bind (wpAny_letGo ?_)
  exact zx_extend hh D ns .none _ (ho := ho) (oth _ _ ns.1 hz) (q.near ns oth) hS₂ room below lz (fun b o nb e => oth b o nb (up b o nb e)) hR
theorem zx_call {a b : Value} (hh : A.handled = none) (D : ZipApart z TI TO i1 i2 l1 l2) (S1 : Side prog w i1 l1 xs) (S2 : Side prog w i2 l2 ys) {ho : Heap} {Q : Value → Shared → Prop}
    (hz : IsZip s.heap z TI TO .none) (hI : IsPair s.heap TI (.ref i1) (.ref i2)) (hO : IsPair s.heap TO a b) (q1 : S1.St 0 s.heap) (q2 : S2.St 0 s.heap) (here : l1 < s.heap.objs.size ∧ l2 < s.heap.objs.size)
    (room : (xs.toList.zip ys.toList).length ≤ sizeLine) (below : ∀ b o, ho.get? b = some o → b ≠ z ∧ b ≠ TO ∧ b ≠ i1 ∧ b ≠ i2) (up : ∀ b o, ho.get? b = some o → s.heap.get? b = some o)
    (hQ : ∀ h' acc c as, (∀ b o, ho.get? b = some o → h'.get? b = some o) → h'.get? s.heap.objs.size = some { cls := .type "list", dict := none, data := .seq acc c, slots := #[] } → as.length = (xs.toList.zip ys.toList).length → PsG (xs.toList.zip ys.toList) s.heap.objs.size h' as →
      acc.toList = as.map Value.ref → Q (.ref s.heap.objs.size) { s with heap := h' }) :
    wpAny (model prog w) A (call (.type "list") [.ref z]) Q E s := by
  refine callType_codes (Q₁ := fun obj s₁ => obj = .ref s.heap.objs.size ∧ s₁ = { s with heap := s.heap.push { cls := .type "list", data := .seq #[] } }) PySem.F.called_list (PySem.F.typeCall_list_1 _) PySem.F.entry_list_init
    (code_list_new _ ⟨rfl, rfl⟩) fun obj s₁ h₁ => ?_
  obtain ⟨rfl, rfl⟩ := h₁
  have hS : (s.heap.push { cls := .type "list", data := .seq #[] }).get? s.heap.objs.size = some { cls := .type "list", data := .seq #[] } := Heap.get?_push_size _ rfl
  obtain ⟨o1, e1, _⟩ := S1.here q1
  obtain ⟨o2, e2, _⟩ := S2.here q2
  have nz := Heap.lt_size hz
  have nI := Heap.lt_size hI
  have nO := Heap.lt_size hO
  have n1 := Heap.lt_size e1
  have n2 := Heap.lt_size e2
  have pu : ∀ b o, s.heap.get? b = some o → (s.heap.push { cls := .type "list", data := .seq #[] }).get? b = some o := fun b o e => Heap.get?_push_of_some _ e
  refine ⟨⟨_, hS, rfl⟩, PySem.F.args_list_init_2 _ _, zx_init (A := A.in1) (S1 := S1) (S2 := S2) (ho := ho) hh D ⟨Nat.ne_of_lt nz, Nat.ne_of_lt nI, Nat.ne_of_lt nO, Nat.ne_of_lt n1, Nat.ne_of_lt n2, Nat.ne_of_lt here.1, Nat.ne_of_lt here.2⟩
    (pu _ _ hz) ⟨pu _ _ hI, S1.near q1 (fun o e => pu _ o e) (fun o e => pu _ o e), S2.near q2 (fun o e => pu _ o e) (fun o e => pu _ o e), .inl ⟨pu _ _ hz, a, b, pu _ _ hO⟩⟩ hS room below
    ⟨Nat.le_of_lt nz, Nat.le_of_lt nO, Nat.le_of_lt n1, Nat.le_of_lt n2, Nat.le_refl _⟩ (fun b o _ e => pu b o (up b o e)) (fun h' acc c as hk hS' hl hG hacc => ?_)⟩
  exact ⟨rfl, hQ h' acc c as (fun b o e => hk b o (Nat.ne_of_lt (Heap.lt_size (up b o e))) e) hS' hl hG hacc⟩
end
/-! the tuples tracked at their addresses -/
def putP : Hp → List Addr → List (V × V) → Hp
  | H, a :: as, p :: ps => putP (upd H a (.tup [p.1, p.2])) as ps
  | H, _, _ => H
theorem putP_off {b : Addr} : ∀ (as : List Addr) (ps : List (V × V)) (H : Hp), b ∉ as → putP H as ps b = H b
  | [], _, _, _ => rfl
  | _ :: _, [], _, _ => rfl
  | a :: as, p :: ps, H, h => by
    show putP (upd H a (.tup [p.1, p.2])) as ps b = H b
    rw [putP_off as ps _ (fun z => h (List.mem_cons_of_mem _ z)), upd_ne (fun z => h (by rw [z]; exact List.mem_cons_self))]
theorem putP_at : ∀ (as : List Addr) (ps : List (V × V)) (H : Hp), as.length = ps.length → as.Nodup → Paired (fun (t : Addr) (p : V × V) => putP H as ps t = some (.tup [p.1, p.2])) as ps
  | [], [], _, _, _ => .nil
  | [], _ :: _, _, h, _ => by cases h
  | _ :: _, [], _, h, _ => by cases h
  | a :: as, p :: ps, H, h, hn => by
    have hn' := List.nodup_cons.mp hn
    have ih := putP_at as ps (upd H a (.tup [p.1, p.2])) (Nat.succ.inj h) hn'.2
    refine .cons ?_ ih
    show putP (upd H a (.tup [p.1, p.2])) as ps a = some (.tup [p.1, p.2])
    rw [putP_off as ps _ hn'.1, upd_same]
/-- as list(zip(..)) lays them -/
structure ZipLaid (H H' : Hp) (p : Addr) (ts : List Addr) (ps : List (V × V)) : Prop where
  ex : ∀ b o, H b = some o → H' b = some o
  np : H p = none
  nt : ∀ t ∈ ts, H t = none
  pt : p ∉ ts
  at_ : H' p = some (.lst (ts.map V.ref))
  each : Paired (fun (t : Addr) (q : V × V) => H' t = some (.tup [q.1, q.2])) ts ps
  nd : ts.Nodup
theorem pairs_laid {X : Cx} {pins : List (Addr × Obj)} {σ : L2.St} {H : Hp} {s : Shared} {h' : Heap} {S : Addr} {xs ys : List V} {vs us : List Value} {acc : Array Value} {c : Nat} {as : List Addr} (I : Inv X pins σ H s) (hz : xs.length ≤ sizeLine) (kx : Vals xs vs) (ky : Vals ys us) (lS : s.heap.objs.size ≤ S)
    (hk : ∀ b o, s.heap.get? b = some o → h'.get? b = some o) (hS : h'.get? S = some { cls := .type "list", dict := none, data := .seq acc c, slots := #[] }) (hl : as.length = (vs.zip us).length) (hG : PsG (vs.zip us) S h' as) (hacc : acc.toList = as.map Value.ref) :
    ∃ H' : Hp, ZipLaid H H' S as (xs.zip ys) ∧ Inv X pins σ H' { s with heap := h' } := by
  have lx : xs.length = vs.length := Paired.length kx
  have ly : ys.length = us.length := Paired.length ky
  have lz : (xs.zip ys).length = (vs.zip us).length := by rw [List.length_zip, List.length_zip, lx, ly]
  have le : as.length ≤ xs.length := by rw [hl, List.length_zip, ← lx]; exact Nat.min_le_left _ _
  have hSn : S ∉ as := fun z => Nat.lt_irrefl _ (hG.above _ z)
  have nd : as.Nodup := List.Pairwise.imp (fun {a b} (h : a < b) => Nat.ne_of_lt h) hG.rise
  have new : ∀ t ∈ as, H t = none := fun t ht => I.hok.fresh (Nat.le_trans lS (Nat.le_of_lt (hG.above t ht)))
  have newS : H S = none := I.hok.fresh lS
  have atP := putP_at as (xs.zip ys) (upd H S (.lst (as.map V.ref))) (by omega) nd
  have off : ∀ b, b ∉ as → b ≠ S → putP (upd H S (.lst (as.map V.ref))) as (xs.zip ys) b = H b := fun b h1 h2 => by rw [putP_off as _ _ h1, upd_ne h2]
  have low : ∀ b o, s.heap.get? b = some o → b ∉ as ∧ b ≠ S := fun b o e => ⟨fun z => absurd (Heap.lt_size e) (Nat.not_lt.mpr (Nat.le_trans lS (Nat.le_of_lt (hG.above b z)))), Nat.ne_of_lt (Nat.lt_of_lt_of_le (Heap.lt_size e) lS)⟩
  have kp : ∀ b u, H b = some u → (putP (upd H S (.lst (as.map V.ref))) as (xs.zip ys)) b = some u := fun b u e => by
    rw [off b (fun z => by rw [new b z] at e; cases e) (fun z => by rw [z, newS] at e; cases e)]
    exact e
  have eS : putP (upd H S (.lst (as.map V.ref))) as (xs.zip ys) S = some (.lst (as.map V.ref)) := by rw [putP_off as _ _ hSn, upd_same]
  refine ⟨putP (upd H S (.lst (as.map V.ref))) as (xs.zip ys), ⟨kp, newS, new, hSn, eS, atP, nd⟩, ?_⟩
  refine I.call' (s' := { s with heap := h' }) (ch := []) rfl ⟨fun b o q _ _ _ => hk b o q, fun b o q _ _ _ => ⟨o.slots, hk b o q⟩, fun b o q n _ => ?_, fun b o q _ => ⟨o, hk b o q⟩, fun b xs q => kp b _ q, fun b o u q => kp b _ q, fun b ps q => ⟨#[], by rw [kp b _ q]; simp⟩⟩ (fun b u q => ?_) I.bare fun b z => by simp at z
  · obtain ⟨z1, z2⟩ := low b o q
    rw [off b z1 z2]
    exact n
  · by_cases hb : b ∈ as
    · obtain ⟨j, pk, e1, e2, e3⟩ := LiI.paired_ix atP hb
      rw [e3] at q
      cases q
      obtain ⟨pv, f1, f3⟩ := hG.pairs j b e1
      rw [List.getElem?_zip_eq_some] at e2 f1
      obtain ⟨g1, g2⟩ := e2
      obtain ⟨k1, k2⟩ := f1
      obtain ⟨x1, m1, r1⟩ := LiI.paired_get kx g1
      obtain ⟨x2, m2, r2⟩ := LiI.paired_get ky g2
      rw [k1] at m1
      rw [k2] at m2
      cases m1
      cases m2
      exact ⟨by show 2 ≤ sizeLine; decide, [pv.1, pv.2], .cons r1 (.cons r2 .nil), ⟨_, f3, rfl, _, rfl⟩⟩
    · by_cases hb2 : b = S
      · rw [hb2] at q ⊢
        rw [eS] at q
        cases q
        refine ⟨by rw [List.length_map]; omega, acc.toList, c, by rw [hacc]; exact LiI.vals_refs as, ?_⟩
        rw [Array.toArray_toList]
        exact hS
      · rw [off b hb hb2] at q
        exact (I.hok b u q).stay (fun d v _ y => hk d v y) (fun d y => kp d _ y) fun d xs y => kp d _ y
def tListZip (K : PySem.W.Frag) (ta : TA) : TE := fun σ H Q => ta σ H fun vs H1 => ∃ (a b : Addr) (xs ys : List V), vs = [.ref a, .ref b] ∧ SqL K H1 a xs ∧ SqT K H1 b ys ∧
  ∀ (H' : Hp) (p : Addr) (ts : List Addr), ZipLaid H1 H' p ts (xs.zip ys) → Q (.ref p) H'
theorem pe_listZip {X : Cx} {e e2 : Expr} {ta : TA} {p p2 q pos : Pos} (hc : X.calm = true) (hgl : Gl X "list") (hml : X.mg "list" = none) (hg : Gl X "zip") (hm : X.mg "zip" = none) (ha : PA X [e, e2] ta)
    (na : starEach [.Call (.Name "zip" p2) [e, e2] [] q] X.env = (false, eval (.Call (.Name "zip" p2) [e, e2] [] q) X.env) :: starEach [] X.env := by rfl)
    (hs : starEach [e, e2] X.env = (false, eval e X.env) :: starEach [e2] X.env := by rfl) (hpl : (backTo q (starEach [e2] X.env)).any (·.1) = false := by rfl) :
    PE X (.Call (.Name "list" p) [.Call (.Name "zip" p2) [e, e2] [] q] [] pos) (tListZip X.K ta) := by
  refine ⟨fun pins s σ H Q I h => ?_⟩
  refine Call_ (ld_blt I hgl hml (show bootBuiltins "list" = some (.type "list") by decide +kernel) ?_)
  refine PyProof.Rows.callWith_type1 (PyProof.Rows.args_cons ?_ na) na rfl
  refine Call_ (ld_blt I hg hm PyProof.Rows.boot_zip (PyProof.Rows.callWith_type1 (thn (ha.run q pins s σ H _ I h) fun us s1 ⟨vs, H1, I1, r1, q1⟩ => ?_) hs hpl))
  obtain ⟨a, b, xs, ys, ex, hqx, hqy, k⟩ := q1
  subst ex
  cases r1 with
  | cons r rr =>
    cases rr with
    | cons r' rr =>
      cases rr
      cases r
      cases r'
      obtain ⟨its, rv, p1, zb⟩ := I1.list hqx
      obtain ⟨its2, rv2, pt, zb2⟩ := I1.tuple hqy
      obtain ⟨o2, ho2, _⟩ := id pt
      have la : a < s1.heap.objs.size := p1.lt
      have lb : b < s1.heap.objs.size := Heap.lt_size ho2
      refine call_zipM p1.isList (show s1.heap.IsTuple b its2.toArray from pt) fun h' hz hTI hTO h1 h2 hsz hk => PyProof.Rows.args_nil ?_
      have D := PySem.W.ktu_apart s1.heap.objs.size a b la lb
      have bel : ∀ c o, s1.heap.get? c = some o → c ≠ s1.heap.objs.size + 4 ∧ c ≠ s1.heap.objs.size + 3 ∧ c ≠ s1.heap.objs.size ∧ c ≠ s1.heap.objs.size + 1 := fun c o e => by
        have w : c < s1.heap.objs.size := Heap.lt_size e
        exact ⟨Nat.ne_of_lt (Nat.lt_add_right 4 w), Nat.ne_of_lt (Nat.lt_add_right 3 w), Nat.ne_of_lt w, Nat.ne_of_lt (Nat.lt_add_right 1 w)⟩
      refine zx_call (s := { s1 with heap := h' }) (ho := s1.heap) (I1.ok.hd hc) D (sideL (xs := its.toArray) D.l1i1) (sideT (xs := its2.toArray) D.l2i2) hz hTI hTO ⟨h1, list_near p1.isList fun o e => hk _ o e⟩ ⟨h2, tuple_near pt fun o e => hk _ o e⟩ ⟨by rw [hsz]; exact Nat.lt_add_right 5 la, by rw [hsz]; exact Nat.lt_add_right 5 lb⟩
        ?_ bel hk fun h'' acc c as kk hS hl hG hacc => ?_
      · show (its.toArray.toList.zip its2.toArray.toList).length ≤ sizeLine
        rw [List.length_zip]
        have := rv.length
        simp
        omega
      · have q5 : s1.heap.objs.size ≤ h'.objs.size := by rw [hsz]; omega
        obtain ⟨H', zl, J⟩ := pairs_laid I1 (by have := rv.length; omega) rv rv2 q5 kk hS hl hG hacc
        exact ⟨.ref h'.objs.size, H', J, rfl, k H' _ as zl⟩
end G

set_option Elab.async false
set_option linter.all false
set_option maxRecDepth 100000
set_option maxHeartbeats 4000000
namespace G
open PySem PySem.Spec PyProof.Rows L2 Evl
/-- a loop over zip of a list and a tuple of one length -/
theorem for_zipM {K : PySem.W.Frag} {a b : Addr} {xs ys : List V} {g : TG} {tb : TS} {D : Ends} {σ : L2.St} {H : Hp} (hl : xs.length = ys.length) (Pv : Nat → L2.St → Hp → Prop) (h0 : Pv 0 σ H) (hq : ∀ i σ H, Pv i σ H → SqL K H a xs ∧ SqT K H b ys)
    (hs : ∀ (i : Nat) (x y : V) (T : Addr) (σ : L2.St) (H : Hp), xs[i]? = some x → ys[i]? = some y → Pv i σ H → H T = none → g (.ref T) σ (upd H T (.tup [x, y])) fun σ2 H2 => tb { D with nx := Pv (i + 1), ct := Pv (i + 1), bk := D.nx } σ2 H2) (hd : ∀ σ H, Pv xs.length σ H → D.nx σ H) :
    ∃ W : Nat → Nat → L2.St → Hp → Prop, (∃ m, W 0 m σ H) ∧ ∀ i m σ H, W i m σ H →
      ((Itm K a b).stop i H ∧ D.nx σ H) ∨ ((Itm K a b).go i H ∧ ∃ N : L2.St → Hp → Prop, (∀ σ' H', N σ' H' → ∃ m', m' < m ∧ W (i + 1) m' σ' H') ∧ ∀ v H', (Itm K a b).yld i H v H' → g v σ H' fun σ2 H2 => tb { D with nx := N, ct := N, bk := D.nx } σ2 H2) := by
  refine ⟨fun i m σ H => m = xs.length - i ∧ i ≤ xs.length ∧ Pv i σ H, ⟨xs.length, rfl, Nat.zero_le _, h0⟩, ?_⟩
  rintro i m σ H ⟨rfl, hi, p⟩
  obtain ⟨qx, qy⟩ := hq i σ H p
  by_cases hlt : i < xs.length
  · have hx : xs[i]? = some xs[i] := List.getElem?_eq_getElem hlt
    have hlt2 : i < ys.length := by omega
    have hy : ys[i]? = some ys[i] := List.getElem?_eq_getElem hlt2
    refine .inr ⟨⟨xs, ys, _, _, qx, qy, hx, hy⟩, Pv (i + 1), fun σ' H' p' => ⟨xs.length - (i + 1), by omega, rfl, hlt, p'⟩, fun v H' y => ?_⟩
    obtain ⟨T, x', y', rfl, hT, rfl, f1, f2⟩ := y
    exact hs i x' y' T σ H (f1 xs qx) (f2 ys qy) p hT
  · have e : i = xs.length := by omega
    subst e
    exact .inl ⟨⟨xs, ys, qx, qy, Or.inl (Nat.le_refl _)⟩, hd σ H p⟩
theorem ev_dget {i j : Nat} {σ : L2.St} {H : Hp} {D : Addr} {k : Key} {v : V} {kvs : List (Key × V)} (hi : σ[i]? = some (some (.ref D))) (hj : σ[j]? = some (some (kV k))) (hD : H D = some (.dK kvs)) (hv : valV kvs k = some v) : Ev (tDGet (tVar i) (tVar j)) σ H v := fun H1 e Q q => by
  have g := DGet.k (k := k) (e _ _ hD)
  rw [hv] at g
  exact ⟨_, hi, _, hj, D, v, rfl, g, q H1 (Ex.refl H1)⟩
def iSq (K : PySem.W.Frag) (tl : TE) : TI := fun σ H R => tl σ H fun x H1 => ∃ a, x = .ref a ∧ (((∃ xs, SqL K H1 a xs) ∧ R (Itl K a) H1) ∨ ((∃ xs, SqT K H1 a xs) ∧ R (Itt K a) H1))
/-- a list or a tuple, walked -/
theorem pi_sq {X : Cx} {K : PySem.W.Frag} {tg l : Expr} {tl : TE} (hK : X.K = K) (hl : PE X l tl) : PI X tg l (iSq K tl) := by
  subst hK
  refine ⟨fun pins s σ H R I h => ?_⟩
  refine thn (hl.run pins s σ H _ I h) fun v s1 ⟨x, H1, I1, r1, q1⟩ => ?_
  obtain ⟨a, e, q1⟩ := q1
  subst e
  cases r1
  rcases q1 with ⟨⟨xs, hq⟩, q⟩ | ⟨⟨xs, hq⟩, q⟩
  · obtain ⟨its, rv, p, hz⟩ := I1.list hq
    refine wpAny_pyIter_list p.isList ?_
    refine ⟨s1.heap.objs.size, [s1.heap.objs.size], _, _, H1, rfl, I1.kept (t' := s1.toks) fun b o e => Heap.get?_push_of_some _ e, turn_list a _, ⟨_, Heap.get?_push_size _ rfl, rfl, rfl⟩, fun b hb => ?_, q⟩
    have e : b = s1.heap.objs.size := by simpa using hb
    subst e
    exact I1.fpOk (Nat.le_refl _) (I1.hok.fresh (Nat.le_refl _))
  · obtain ⟨its, rv, p, hz⟩ := I1.tuple hq
    refine wpAny_pyIter_tuple (show s1.heap.IsTuple a its.toArray from p) ?_
    refine ⟨s1.heap.objs.size, [s1.heap.objs.size], _, _, H1, rfl, I1.kept (t' := s1.toks) fun b o e => Heap.get?_push_of_some _ e, turn_tuple a _, ⟨_, Heap.get?_push_size _ rfl, rfl, rfl⟩, fun b hb => ?_, q⟩
    have e : b = s1.heap.objs.size := by simpa using hb
    subst e
    exact I1.fpOk (Nat.le_refl _) (I1.hok.fresh (Nat.le_refl _))
/-- a loop over a list or a tuple that stays -/
theorem for_sq {K : PySem.W.Frag} {j : Nat} {a : Addr} {xs : List V} {g : TG} {tb : TS} {D : Ends} {σ : L2.St} {H H0 : Hp} (hj : σ[j]? = some (some (.ref a))) (h : SqL K H0 a xs ∨ SqT K H0 a xs) (e : Ex H0 H) (Pv : Nat → L2.St → Hp → Prop) (h0 : Pv 0 σ H) (hG : ∀ i σ H, Pv i σ H → Ex H0 H)
    (hs : ∀ i x σ H, xs[i]? = some x → Pv i σ H → g x σ H fun σ2 H2 => tb { D with nx := Pv (i + 1), ct := Pv (i + 1), bk := D.nx } σ2 H2) (hd : ∀ σ H, Pv xs.length σ H → D.nx σ H) : tFor (iSq K (tVar j)) g tb D σ H := by
  rcases h with h | h
  · exact ⟨_, hj, a, rfl, .inl ⟨⟨_, ex_l e h⟩, for_it walk_list Pv h0 (fun i σ H _ p => ex_l (hG i σ H p) h) (fun i x σ H H' _ p y => by obtain ⟨rfl, y⟩ := y; exact hs i x σ _ y p) hd⟩⟩
  · exact ⟨_, hj, a, rfl, .inr ⟨⟨_, ex_t e h⟩, for_it walk_tup Pv h0 (fun i σ H _ p => ex_t (hG i σ H p) h) (fun i x σ H H' _ p y => by obtain ⟨rfl, y⟩ := y; exact hs i x σ _ y p) hd⟩⟩
end G

set_option Elab.async false
set_option linter.all false
set_option maxRecDepth 100000
set_option maxHeartbeats 4000000
/-! Circuits by themselves: names, what is asked of one, sequences of gates. -/
namespace C
open PySem
structure Cir where
  ins : List Str
  gates : List (Str × Str × List Str)
  regs : List (Str × Int × Str)
  outs : List Str
def gn (c : Cir) : List Str := c.gates.map fun g => g.1
def rn (c : Cir) : List Str := c.regs.map fun r => r.1
def names (c : Cir) : List Str := c.ins ++ (gn c ++ rn c)
/-- a sequence of gates, each behind those among its sources -/
def Topo (gs : List (Str × List Str)) (seq : List Str) : Prop :=
  seq.Perm (gs.map Prod.fst) ∧ ∀ pre z post, seq = pre ++ z :: post → ∀ zs, (z, zs) ∈ gs → ∀ y ∈ zs, y ∈ gs.map Prod.fst → y ∈ pre
/-- no gate hangs on itself -/
def Ranked (gs : List (Str × List Str)) : Prop := ∃ f : Str → Nat, ∀ g ∈ gs, ∀ y ∈ g.2, y ∈ gs.map Prod.fst → f y < f g.1
def bet (c : Cir) : List (Str × List Str) := c.gates.map fun g => (g.1, g.2.2)
end C

set_option Elab.async false
set_option linter.all false
set_option maxRecDepth 100000
set_option maxHeartbeats 4000000
namespace W
open PySem PySem.Spec PyProof.Rows L2 Evl G
/-- the text by places -/
def top (i : Nat) : Stmt := PySem.Challenge.pw_wirewords_k14_runs_refused.main.body.getD i (.Pass ⟨0, 0, 0, 0⟩)
abbrev dInteger : Stmt := top 23
abbrev dBit : Stmt := top 24
abbrev dName : Stmt := top 25
abbrev dList : Stmt := top 26
abbrev dLetter : Stmt := top 27
abbrev dWord : Stmt := top 28
abbrev dKind : Stmt := top 29
abbrev dNumberOf : Stmt := top 30
abbrev dBitOf : Stmt := top 31
abbrev dCInputs : Stmt := top 33
abbrev dIsGate : Stmt := top 34
abbrev dCGates : Stmt := top 35
abbrev dIsReg : Stmt := top 36
abbrev dCRegs : Stmt := top 37
abbrev dCSources : Stmt := top 38
abbrev dCOutputs : Stmt := top 39
abbrev dCNumber : Stmt := top 40
abbrev dSeqOf : Stmt := top 41
abbrev dGateOnRing : Stmt := top 43
abbrev dCNoRing : Stmt := top 44
abbrev dCWire : Stmt := top 45
abbrev dCState : Stmt := top 46
abbrev dCLetter : Stmt := top 47
abbrev dCWord : Stmt := top 48
abbrev dIsFault : Stmt := top 49
abbrev dCStuck : Stmt := top 50
abbrev dPlanOf : Stmt := top 52
abbrev dSaidBy : Stmt := top 53
abbrev dNextState : Stmt := top 54
abbrev dCourse : Stmt := top 55
abbrev dCCourse : Stmt := top 56
abbrev dCStep : Stmt := top 57
abbrev dSize : Stmt := top 70
abbrev dPot : Stmt := top 71
abbrev dDraw : Stmt := top 72
abbrev dPick : Stmt := top 73
abbrev dMixed : Stmt := top 74
abbrev dPlan : Stmt := top 75
abbrev dCircuit : Stmt := top 76
abbrev dTags : Stmt := top 77
abbrev dHeard : Stmt := top 78
abbrev dNoBits : Stmt := top 79
abbrev dNoWords : Stmt := top 80
abbrev dNoFaults : Stmt := top 81
abbrev dStepsR : Stmt := top 82
abbrev dWordsR : Stmt := top 83
abbrev dRight : Stmt := top 84
abbrev dValues : Stmt := top 58
abbrev dStep : Stmt := top 59
abbrev dAnswer : Stmt := top 60
abbrev dStatesA : Stmt := top 61
abbrev dTold : Stmt := top 62
abbrev dLaw : Stmt := top 85
abbrev dM (i : Nat) : Stmt := inClass (top 68) i
/-- what the top has left of names -/
structure Names (mg : Str → Option Value) : Prop where
  isinstance : mg "isinstance" = none
  int : mg "int" = none
  bool : mg "bool" = none
  str : mg "str" = none
  list : mg "list" = none
  tuple : mg "tuple" = none
  len : mg "len" = none
  all : mg "all" = none
  abs : mg "abs" = none
  max : mg "max" = none
  min : mg "min" = none
  divmod : mg "divmod" = none
  range : mg "range" = none
  repr : mg "repr" = none
  dict : mg "dict" = none
  sorted : mg "sorted" = none
  zip : mg "zip" = none
  enumerate : mg "enumerate" = none
  ValueError : mg "ValueError" = none
  LookupError : mg "LookupError" = none
  push : mg "heappush" = some (.builtin "_heapq.heappush")
  popH : mg "heappop" = some (.builtin "_heapq.heappop")
  small : ∃ t, mg "SMALL" = some (.str "abcdefghijklmnopqrstuvwxyz" t)
  digits : ∃ t, mg "DIGITS" = some (.str "0123456789" t)
  longest : ∃ t, mg "LONGEST_NAME" = some (.int 12 t)
  mInputs : ∃ t, mg "MOST_INPUTS" = some (.int 8 t)
  mGates : ∃ t, mg "MOST_GATES" = some (.int 200 t)
  mRegisters : ∃ t, mg "MOST_REGISTERS" = some (.int 8 t)
  mOutputs : ∃ t, mg "MOST_OUTPUTS" = some (.int 8 t)
/-- a def of the module's top, where it stands -/
structure At (K : PySem.W.Frag) (mg : Str → Option Value) (x : Str) (de : Stmt) (ps : List Str) (f : Addr) (fd : FuncData) : Prop where
  fn : Fun K x x de f fd
  gl : mg x = some (.ref f)
  bi : Binds K fd ps []
/-- a def with defaults -/
structure AtD (K : PySem.W.Frag) (mg : Str → Option Value) (x : Str) (de : Stmt) (dvs : List V) (ps : List Str) (f : Addr) (fd : FuncData) : Prop where
  fn : FunD K x x (defArgs de) (defBody de) (defScope de) dvs [] f fd
  gl : mg x = some (.ref f)
  bi : Binds K fd ps []
/-- a method of the class at C -/
structure MthT (K : PySem.W.Frag) (C : Addr) (x qual : Str) (de : Stmt) (ps : List Str) (f : Addr) (fd : FuncData) : Prop where
  fn : Fun K x qual de f fd
  me : Meth K C x f
  bi : Binds K fd ps []
/-- a test of a datum -/
def spT (K : PySem.W.Frag) (g : PyData → Bool) : Sp := fun vs H Q _ => ∃ x d, vs = [x] ∧ Dd K H x d ∧ ∀ H', Ex H H' → Q (.bl (g d)) H'
/-- a test of a datum, and a width -/
def spW (K : PySem.W.Frag) (g : PyData → Nat → Bool) : Sp := fun vs H Q _ => ∃ (x : V) (d : PyData) (n : Nat), vs = [x, .int (n : Int)] ∧ Dd K H x d ∧ n ≤ 100 ∧ ∀ H', Ex H H' → Q (.bl (g d n)) H'
def isInteger (d : PyData) : Bool := isI d && !isB d
def isBit : PyData → Bool | .int i => decide (0 ≤ i) && decide (i ≤ 1) | _ => false
/-- a built-in type as a value -/
theorem pTy {X : Cx} {x : Str} (T : String) {pos : Pos} (hg : Gl X x) (hm : X.mg x = none) (hv : bootBuiltins x = some (.type T)) (hn : x ≠ "__name__" := by decide) (hd : (x == ("__debug__" : Str)) = false := by decide) : PE X (.Name x pos) (tC (.ty T)) :=
  pe_bltn hg hm hv rfl hn hd
theorem pGs {X : Cx} {x z : Str} {t : Tok} {pos : Pos} (hg : Gl X x) (hm : X.mg x = some (.str z t)) (hd : (x == ("__debug__" : Str)) = false := by decide) : PE X (.Name x pos) (tC (.str z)) := pe_glob hg hm ⟨t, rfl⟩ hd
theorem pGi {X : Cx} {x : Str} {i : Int} {t : Tok} {pos : Pos} (hg : Gl X x) (hm : X.mg x = some (.int i t)) (hd : (x == ("__debug__" : Str)) = false := by decide) : PE X (.Name x pos) (tC (.int i)) := pe_glob hg hm ⟨t, rfl⟩ hd
/-- isinstance(x, T) of two arguments -/
abbrev tIsi (K : PySem.W.Frag) (i : Nat) (T : String) : TE := tCB (rIsi K) (tCons (tVar i) (tCons (tC (.ty T)) tNil))
theorem rd_isi {K : PySem.W.Frag} {i : Nat} {T : String} {σ : L2.St} {H : Hp} {Q : VK} {x : V} {d : PyData} {b : Bool} (hs : σ[i]? = some (some x)) (hd : Dd K H x d) (hk : kitB (tyD d) T = some b) (h : Q (.bl b) H) : tIsi K i T σ H Q :=
  ⟨x, hs, x, _, _, _, b, rfl, .ty _, hd.ty, kit_ty hk, h⟩
/-- what the top has left: the names, the defs -/
structure Txt (K : PySem.W.Frag) (mg : Str → Option Value) : Prop extends Names mg where
  integer : ∃ f fd, At K mg "is_integer" dInteger ["value"] f fd
  bit : ∃ f fd, At K mg "is_bit" dBit ["value"] f fd
  name : ∃ f fd, At K mg "is_name" dName ["value"] f fd
  lst : ∃ f fd, At K mg "is_list" dList ["value"] f fd
  letter : ∃ f fd, At K mg "is_letter" dLetter ["value", "width"] f fd
  word : ∃ f fd, At K mg "is_word" dWord ["value", "width"] f fd
  kind : ∃ f fd, At K mg "is_kind" dKind ["value"] f fd
  numberOf : ∃ f fd, At K mg "number_of" dNumberOf ["bits"] f fd
  bitOf : ∃ f fd, At K mg "bit_of" dBitOf ["kind", "bits"] f fd
  cInputs : ∃ f fd, At K mg "check_inputs" dCInputs ["inputs"] f fd
  isGate : ∃ f fd, At K mg "is_gate" dIsGate ["value"] f fd
  cGates : ∃ f fd, At K mg "check_gates" dCGates ["gates", "inputs"] f fd
  isReg : ∃ f fd, At K mg "is_register" dIsReg ["value"] f fd
  cRegs : ∃ f fd, At K mg "check_registers" dCRegs ["registers", "taken"] f fd
  cSources : ∃ f fd, At K mg "check_sources" dCSources ["sources", "wires"] f fd
  cOutputs : ∃ f fd, At K mg "check_outputs" dCOutputs ["outputs", "wires"] f fd
  cNumber : ∃ f fd, At K mg "check_number" dCNumber ["what", "rows", "limit"] f fd
  seqOf : ∃ f fd, At K mg "sequence_of" dSeqOf ["sources"] f fd
  gateOnRing : ∃ f fd, At K mg "gate_on_ring" dGateOnRing ["sources"] f fd
  cNoRing : ∃ f fd, At K mg "check_no_ring" dCNoRing ["sources"] f fd
  cWire : ∃ f fd, At K mg "check_wire" dCWire ["circuit", "wire"] f fd
  cState : ∃ f fd, At K mg "check_state" dCState ["circuit", "state"] f fd
  cLetter : ∃ f fd, At K mg "check_letter" dCLetter ["circuit", "letter"] f fd
  cWord : ∃ f fd, At K mg "check_word" dCWord ["circuit", "word"] f fd
  isFault : ∃ f fd, At K mg "is_fault" dIsFault ["circuit", "value"] f fd
  cStuck : ∃ f fd, At K mg "check_stuck" dCStuck ["circuit", "stuck"] f fd
  planOf : ∃ f fd, At K mg "plan_of" dPlanOf ["circuit"] f fd
  saidBy : ∃ f fd, At K mg "said_by" dSaidBy ["circuit", "plan", "state", "letter", "stuck"] f fd
  nextState : ∃ f fd, At K mg "next_state" dNextState ["circuit", "said"] f fd
  course : ∃ f fd, At K mg "course" dCourse ["circuit", "wires", "word", "state", "stuck"] f fd
  cCourse : ∃ f fd, At K mg "check_course" dCCourse ["circuit", "word", "state", "stuck"] f fd
  cStep : ∃ f fd, At K mg "check_step" dCStep ["circuit", "state", "letter", "stuck"] f fd
  size : ∃ f fd, At K mg "_law_size" dSize ["_law_sort"] f fd
  pot : ∃ f fd, At K mg "_law_pot" dPot ["_law_script", "_law_k"] f fd
  draw : ∃ f fd, At K mg "_law_draw" dDraw ["_law_pot_here", "_law_many"] f fd
  pick : ∃ f fd, At K mg "_law_pick" dPick ["_law_pot_here", "_law_some"] f fd
  mixed : ∃ f fd, At K mg "_law_mixed" dMixed ["_law_pot_here", "_law_some"] f fd
  plan : ∃ f fd, At K mg "_law_plan" dPlan ["_law_pot_here", "_law_most"] f fd
  circuit : ∃ f fd, At K mg "_law_circuit" dCircuit ["_law_pot_here", "_law_plan_here"] f fd
  tags : ∃ f fd, At K mg "_law_tags" dTags ["_law_plan_here"] f fd
  heard : ∃ f fd, At K mg "_law_heard" dHeard ["_law_call"] f fd
  noBits : ∃ f fd, At K mg "_law_no_bits" dNoBits ["_law_pot_here", "_law_many"] f fd
  noWords : ∃ f fd, At K mg "_law_no_words" dNoWords ["_law_pot_here", "_law_many"] f fd
  noFaults : ∃ f fd, At K mg "_law_no_faults" dNoFaults ["_law_tags_here"] f fd
  stepsR : ∃ f fd, At K mg "_law_steps_right" dStepsR ["_law_pot_here", "_law_made", "_law_plan_here", "_law_good"] f fd
  wordsR : ∃ f fd, At K mg "_law_words_right" dWordsR ["_law_pot_here", "_law_made", "_law_plan_here", "_law_good"] f fd
  right : ∃ f fd, At K mg "_law_right" dRight ["_law_pot_here"] f fd
  values : ∃ f fd, AtD K mg "values" dValues [.non] ["circuit", "state", "letter", "stuck"] f fd
  step : ∃ f fd, AtD K mg "step" dStep [.non] ["circuit", "state", "letter", "stuck"] f fd
  answer : ∃ f fd, AtD K mg "answer" dAnswer [.non, .non] ["circuit", "word", "state", "stuck"] f fd
  statesA : ∃ f fd, AtD K mg "states_along" dStatesA [.non, .non] ["circuit", "word", "state", "stuck"] f fd
  told : ∃ f fd, AtD K mg "told" dTold [.non, .non] ["circuit", "wire", "word", "state", "stuck"] f fd
/-- the class -/
structure CirT (K : PySem.W.Frag) (mg : Str → Option Value) (C : Addr) : Prop where
  gl : mg "Circuit" = some (.ref C)
  cl : Cls K C
  kp : PySem.W.keepIn K (.ref C) = true
  makes : PySem.W.makesIn K C = true
  isC : PySem.W.kitOne K (.ref C) (.ref C) = some true
  ty : ∀ (H : Hp) (a dx : Addr) (fs : List (Str × V)), H a = some (.ins C dx fs) → TyOf K H (.ref a) (.ref C)
  eqIn : ∃ f, PySem.W.findIn K (.ref C) "__eq__" = some (some (.ref f))
  n_inputs : NoAttr K C "_inputs"
  n_gates : NoAttr K C "_gates"
  n_registers : NoAttr K C "_registers"
  n_outputs : NoAttr K C "_outputs"
  n_sources : NoAttr K C "_sources"
  n_kinds : NoAttr K C "_kinds"
  n_sequence : NoAttr K C "_sequence"
  init : ∃ f fd dvs, FunD K "__init__" "Circuit.__init__" (defArgs (dM 0)) (defBody (dM 0)) (defScope (dM 0)) dvs [] f fd ∧ PySem.W.findIn K (.ref C) "__init__" = some (some (.ref f)) ∧ PySem.W.isFn K (.ref f) = true ∧ Binds K fd ["self", "inputs", "gates", "registers", "outputs"] []
  inputs : ∃ f fd, MthT K C "inputs" "Circuit.inputs" (dM 1) ["self"] f fd
  gates : ∃ f fd, MthT K C "gates" "Circuit.gates" (dM 2) ["self"] f fd
  registers : ∃ f fd, MthT K C "registers" "Circuit.registers" (dM 3) ["self"] f fd
  outputs : ∃ f fd, MthT K C "outputs" "Circuit.outputs" (dM 4) ["self"] f fd
  wires : ∃ f fd, MthT K C "wires" "Circuit.wires" (dM 5) ["self"] f fd
  first : ∃ f fd, MthT K C "first" "Circuit.first" (dM 6) ["self"] f fd
  kind : ∃ f fd, MthT K C "kind" "Circuit.kind" (dM 7) ["self", "wire"] f fd
  sources : ∃ f fd, MthT K C "sources" "Circuit.sources" (dM 8) ["self", "wire"] f fd
  sequence : ∃ f fd, MthT K C "sequence" "Circuit.sequence" (dM 11) ["self"] f fd
  cont : ∃ f fd, MthT K C "__contains__" "Circuit.__contains__" (dM 13) ["self", "value"] f fd
  eq : ∃ f fd, MthT K C "__eq__" "Circuit.__eq__" (dM 14) ["self", "other"] f fd
section
variable {K : PySem.W.Frag} {H H' : Hp} {x : V} {d : PyData} {σ : L2.St} {Q : VK} {g : PyData → Bool}
mutual
theorem dp_ex (e : Ex H H') : ∀ {d : PyData} {x : V}, Dp K H x d → Dp K H' x d
  | .none, _, h => by cases h; exact .non
  | .bool b, _, h => by cases h; exact .bl b
  | .int i, _, h => by cases h; exact .int i
  | .str z, _, h => by cases h; exact .str z
  | .list ds, _, h => by
    cases h with
    | lst hs a => exact .lst (ex_l e hs) (dpAll_ex e a)
  | .tuple ds, _, h => by
    cases h with
    | tup hs a => exact .tup (ex_t e hs) (dpAll_ex e a)
  | .dict _, _, h => by cases h
theorem dpAll_ex (e : Ex H H') : ∀ {ds : List PyData} {xs : List V}, DpAll K H xs ds → DpAll K H' xs ds
  | [], _, h => by cases h; exact .nil
  | d :: ds, _, h => by
    cases h with
    | cons a b => exact .cons (dp_ex e a) (dpAll_ex e b)
end
theorem dd_ex (e : Ex H H') (h : Dd K H x d) : Dd K H' x d := by
  cases h with
  | dp q => exact .dp (dp_ex e q)
  | dk q k => exact .dk (e _ _ q) k
theorem dpAll_at : ∀ {xs : List V} {ds : List PyData} {i : Nat} {x : V}, DpAll K H xs ds → xs[i]? = some x → ∃ d, ds[i]? = some d ∧ Dp K H x d
  | _, _, _, _, .nil, e => by simp at e
  | _, _, 0, _, .cons a b, e => by
    simp at e
    subst e
    exact ⟨_, rfl, a⟩
  | _, _, i + 1, x, .cons a b, e => by
    obtain ⟨d, e1, e2⟩ := dpAll_at (i := i) (x := x) b (by simpa using e)
    exact ⟨d, by simpa using e1, e2⟩
theorem dpAll_len : ∀ {xs : List V} {ds : List PyData}, DpAll K H xs ds → xs.length = ds.length
  | _, _, .nil => rfl
  | _, _, .cons _ b => by simp [dpAll_len b]
/-- f(x), f a test -/
theorem rd_t {i : Nat} {E : XK} (hs : σ[i]? = some (some x)) (hd : Dd K H x d) (h : ∀ H', Ex H H' → Q (.bl (g d)) H') : tCall (spT K g) [] E (tCons (tVar i) tNil) σ H Q := ⟨x, hs, x, d, rfl, hd, h⟩
end
end W

set_option Elab.async false
set_option linter.all false
set_option maxRecDepth 100000
set_option maxHeartbeats 4000000
namespace W
open PySem PySem.Spec PyProof.Rows L2 Evl G
section
variable {P : Program} {w : World} {K : PySem.W.Frag} {mg : Str → Option Value} {base : Heap}
theorem scInteger : FnScope ["value"] ["value"] (defScope dInteger) := ⟨rfl, rfl, rfl, by decide +kernel, rfl, by decide +kernel, by decide +kernel⟩
theorem okInteger {f : Addr} {fd : FuncData} (F : At K mg "is_integer" dInteger ["value"] f fd) (T : Txt K mg) : FnOk P w K mg base CX0 1 f fd ["value"] (spT K isInteger) := by
  refine F.fn.ok scInteger (fun vs H Q E h => ?_) (fun cdv A outer s H vs Q E hr h => ?_)
  · obtain ⟨x, d, rfl, _⟩ := h
    rfl
  · obtain ⟨x, d, rfl, hd, k⟩ := h
    refine ⟨_, pss_one (ps_ret (pe_and (pe_callB call_isi (by rfl) T.isinstance (by decide +kernel) (pa_cons (pv 0) (pa_cons (pTy "int" (by rfl) T.int (by decide +kernel)) pa_nil)))
      (pe_one (pe_not (pe_callB call_isi (by rfl) T.isinstance (by decide +kernel) (pa_cons (pv 0) (pa_cons (pTy "bool" (by rfl) T.bool (by decide +kernel)) pa_nil))))))), ?_⟩
    refine ⟨_, rfl, x, _, _, _, _, rfl, .ty _, hd.ty, kit_ty (kit_I d), _, rfl, ?_⟩
    cases e : isI d with
    | false =>
      refine iteF ?_
      have e2 : isInteger d = false := by unfold isInteger; rw [e]; rfl
      have q := k H (Ex.refl H)
      rw [e2] at q
      exact q
    | true =>
      refine iteT ?_
      refine ⟨_, rfl, x, _, _, _, _, rfl, .ty _, hd.ty, kit_ty (kit_B d), _, rfl, ?_⟩
      have e2 : isInteger d = !isB d := by unfold isInteger; rw [e]; rfl
      have q := k H (Ex.refl H)
      rw [e2] at q
      exact q
theorem scBit : FnScope ["value"] ["value"] (defScope dBit) := ⟨rfl, rfl, rfl, by decide +kernel, rfl, by decide +kernel, by decide +kernel⟩
theorem okBit {f : Addr} {fd : FuncData} (F : At K mg "is_bit" dBit ["value"] f fd) (T : Txt K mg) : FnOk P w K mg base CX0 2 f fd ["value"] (spT K isBit) := by
  obtain ⟨fI, fdI, FI⟩ := T.integer
  have GI : FnOk P w K mg base CX0 1 fI fdI ["value"] (spT K isInteger) := okInteger FI T
  refine F.fn.ok scBit (fun vs H Q E h => ?_) (fun cdv A outer s H vs Q E hr h => ?_)
  · obtain ⟨x, d, rfl, _⟩ := h
    rfl
  · obtain ⟨x, d, rfl, hd, k⟩ := h
    refine ⟨_, pss_one (ps_ret (pe_and (pe_call GI hr (by rfl) FI.gl FI.fn.kp FI.bi .nil pass0 (pa_cons (pv 0) pa_nil)) (pe_one (pe_chain op_le op_le pe_int (pv 0) pe_int)))), ?_⟩
    refine rd_t rfl hd fun H1 e1 => ⟨_, rfl, ?_⟩
    have kk := k H1 e1
    cases e : isInteger d with
    | false =>
      have e2 : isBit d = false := by cases d <;> first | rfl | (simp [isInteger, isI, isB] at e)
      rw [e2] at kk
      exact iteF kk
    | true =>
      refine iteT ?_
      obtain ⟨i, rfl⟩ : ∃ i, d = .int i := by cases d <;> first | exact ⟨_, rfl⟩ | (simp [isInteger, isI, isB] at e)
      cases hd with
      | dp z =>
        cases z
        have e3 : isBit (.int i) = (decide (0 ≤ i) && decide (i ≤ 1)) := rfl
        rw [e3] at kk
        refine ⟨_, rfl, _, _, rfl, rfl, _, rfl, ?_⟩
        cases e4 : decide ((0 : Int) ≤ i) with
        | false =>
          rw [e4] at kk
          exact iteF kk
        | true =>
          rw [e4] at kk
          exact iteT ⟨_, _, rfl, rfl, kk⟩
end
end W

set_option Elab.async false
set_option linter.all false
set_option maxRecDepth 100000
set_option maxHeartbeats 4000000
namespace W
open PySem PySem.Spec PyProof.Rows L2 Evl G
def isList (d : PyData) : Bool := isL d || isT d
def isLetter (d : PyData) (n : Nat) : Bool := match d with
  | .tuple ds => decide (ds.length = n) && ds.all isBit
  | _ => false
def isWord (d : PyData) (n : Nat) : Bool := match d with
  | .tuple ds => ds.all fun d => isLetter d n
  | .list ds => ds.all fun d => isLetter d n
  | _ => false
section
variable {P : Program} {w : World} {K : PySem.W.Frag} {mg : Str → Option Value} {base : Heap}
theorem scList : FnScope ["value"] ["value"] (defScope dList) := ⟨rfl, rfl, rfl, by decide +kernel, rfl, by decide +kernel, by decide +kernel⟩
theorem okList {f : Addr} {fd : FuncData} (F : At K mg "is_list" dList ["value"] f fd) (T : Txt K mg) : FnOk P w K mg base CX0 1 f fd ["value"] (spT K isList) := by
  refine F.fn.ok scList (fun vs H Q E h => ?_) (fun cdv A outer s H vs Q E hr h => ?_)
  · obtain ⟨x, d, rfl, _⟩ := h
    rfl
  · obtain ⟨x, d, rfl, hd, k⟩ := h
    refine ⟨_, pss_one (ps_ret (pe_callB call_isiT (by rfl) T.isinstance (by decide +kernel) (pa_cons (pv 0) (pa_cons (pe_tup (pa_cons (pTy "list" (by rfl) T.list (by decide +kernel)) (pa_cons (pTy "tuple" (by rfl) T.tuple (by decide +kernel)) pa_nil))) pa_nil)))), ?_⟩
    refine ⟨_, rfl, (by show 2 ≤ sizeLine; decide), fun p hp => ?_⟩
    have e1 : Ex H (upd H p (.tup [.ty "list", .ty "tuple"])) := Ex.new hp
    refine ⟨x, p, _, _, [.type "list", .type "tuple"], isList d, rfl, upd_same, .cons (.ty _) (.cons (.ty _) .nil), (dd_ex e1 hd).ty, ?_, k _ e1⟩
    refine kitAny_cons (kit_ty (kit_L d)) (fun e => kitAny_cons (kit_ty (kit_T d)) (fun e2 => ?_) (fun e2 => ?_)) (fun e => ?_)
    · have z : isList d = false := by unfold isList; rw [e, e2]; rfl
      rw [z]
      exact kitAny_nil
    · unfold isList
      rw [e2]
      simp
    · unfold isList
      rw [e]
      rfl
theorem scLetter : FnScope ["value", "width", "bit"] ["value", "width"] (defScope dLetter) := ⟨rfl, rfl, rfl, by decide +kernel, rfl, by decide +kernel, by decide +kernel⟩
theorem okLetter {f : Addr} {fd : FuncData} (F : At K mg "is_letter" dLetter ["value", "width"] f fd) (T : Txt K mg) : FnOk P w K mg base CX0 3 f fd ["value", "width"] (spW K isLetter) := by
  obtain ⟨fB, fdB, FB⟩ := T.bit
  have GB : FnOk P w K mg base CX0 2 fB fdB ["value"] (spT K isBit) := okBit FB T
  refine F.fn.ok scLetter (fun vs H Q E h => ?_) (fun cdv A outer s H vs Q E hr h => ?_)
  · obtain ⟨x, d, n, rfl, _⟩ := h
    rfl
  · obtain ⟨x, d, n, rfl, hd, hn, k⟩ := h
    refine ⟨_, pss_one (ps_ret (pe_and (pe_callB call_isi (by rfl) T.isinstance (by decide +kernel) (pa_cons (pv 0) (pa_cons (pTy "tuple" (by rfl) T.tuple (by decide +kernel)) pa_nil)))
      (pe_and (pe_cmpR op_eq (pe_callB call_len_seq (by rfl) T.len PySem.boot_len (pa_cons (pv 0) pa_nil)) (pv 1) (nomark _))
      (pe_one (pe_callB (cr_all rfl) (by rfl) T.all (by decide +kernel) (pa_cons (pe_lc (own := [("bit", 2)]) (g := gName 2) (by rfl) scLetter.nd (pi_tup (pv 0)) (blkOk_by (own := [("bit", 2)]) (N := ["value", "width", "bit"]) (sc := defScope dLetter) (by decide +kernel))
        (fun _ _ _ _ _ => pg_name (i := 2) scLetter.nd rfl (Or.inl rfl)) (fun _ _ _ _ _ => pts_nil) (fun _ _ _ _ _ => pe_call GB hr (by rfl) FB.gl FB.fn.kp FB.bi .nil pass0 (pa_cons (pv 2) pa_nil))) pa_nil)))))), ?_⟩
    refine rd_isi (K := K) (i := 0) (T := "tuple") rfl hd (kit_T d) ⟨_, rfl, ?_⟩
    cases e : isT d with
    | false =>
      have kk := k H (Ex.refl H)
      have e2 : isLetter d n = false := by cases d <;> first | rfl | (simp [isT] at e)
      rw [e2] at kk
      exact iteF kk
    | true =>
      obtain ⟨ds, rfl⟩ : ∃ ds, d = .tuple ds := by cases d <;> first | exact ⟨_, rfl⟩ | (simp [isT] at e)
      refine iteT ?_
      cases hd with
      | dp z =>
        cases z with
        | @tup a xs _ hs ha =>
          have hl := dpAll_len ha
          refine ⟨_, rfl, a, xs, rfl, .inr hs, _, rfl, rfl, _, rfl, ?_⟩
          have e3 : isLetter (.tuple ds) n = (decide (ds.length = n) && ds.all isBit) := rfl
          rw [e3] at k
          by_cases c : ds.length = n
          · have c' : decide ((V.int (xs.length : Int)) = V.int (n : Int)) = true := by
              rw [hl, c]
              exact decide_eq_true rfl
            rw [c']
            refine iteT ?_
            rw [decide_eq_true c] at k
            refine ⟨_, rfl, a, rfl, ⟨_, hs⟩, fun D new => ?_⟩
            refine lc_data (K := K) (ds := ds) walk_tup isBit (by omega) (fun H' e => ex_t e hs) ha (fun x d hx => ?_) (fun i x e => dpAll_at ha e) new (fun H' e q => ?_)
            · intro H1 e1 Q1 q1
              exact rd_t (i := 2) rfl (.dp (dp_ex e1 hx)) q1
            · refine ⟨D, ds.map isBit, rfl, .inl (.inl q), ?_⟩
              have kk := k H' e
              have e5 : (ds.map isBit).all id = ds.all isBit := by rw [List.all_map]; rfl
              rw [e5]
              simpa using kk
          · have c' : decide ((V.int (xs.length : Int)) = V.int (n : Int)) = false := by
              rw [hl]
              refine decide_eq_false fun z => c ?_
              have := V.int.inj z
              omega
            rw [c']
            have kk := k H (Ex.refl H)
            rw [decide_eq_false c] at kk
            exact iteF kk
end
end W

set_option Elab.async false
set_option linter.all false
set_option maxRecDepth 100000
set_option maxHeartbeats 4000000
namespace W
open PySem PySem.Spec PyProof.Rows L2 Evl G
def szD : PyData → Nat
  | .list ds => ds.length
  | .tuple ds => ds.length
  | _ => 0
theorem isWord_no {d : PyData} {n : Nat} (e : isL d = false) (e0 : isT d = false) : isWord d n = false := by
  cases d with
  | list ds => cases e
  | tuple ds => cases e0
  | _ => rfl
def spWs (K : PySem.W.Frag) (g : PyData → Nat → Bool) : Sp := fun vs H Q _ => ∃ (x : V) (d : PyData) (n : Nat), vs = [x, .int (n : Int)] ∧ Dd K H x d ∧ n ≤ 100 ∧ szD d ≤ 1000 ∧ ∀ H', Ex H H' → Q (.bl (g d n)) H'
section
variable {P : Program} {w : World} {K : PySem.W.Frag} {mg : Str → Option Value} {base : Heap}
theorem rd_w {H : Hp} {σ : L2.St} {Q : VK} {g : PyData → Nat → Bool} {x : V} {d : PyData} {n : Nat} {i j : Nat} {E : XK} (hs : σ[i]? = some (some x)) (hj : σ[j]? = some (some (.int (n : Int)))) (hd : Dd K H x d) (hn : n ≤ 100) (h : ∀ H', Ex H H' → Q (.bl (g d n)) H') :
    tCall (spW K g) [] E (tCons (tVar i) (tCons (tVar j) tNil)) σ H Q := ⟨x, hs, .int (n : Int), hj, x, d, n, rfl, hd, hn, h⟩
theorem scWord : FnScope ["value", "width", "letter"] ["value", "width"] (defScope dWord) := ⟨rfl, rfl, rfl, by decide +kernel, rfl, by decide +kernel, by decide +kernel⟩
theorem okWord {f : Addr} {fd : FuncData} (F : At K mg "is_word" dWord ["value", "width"] f fd) (T : Txt K mg) : FnOk P w K mg base CX0 4 f fd ["value", "width"] (spWs K isWord) := by
  obtain ⟨fL, fdL, FL⟩ := T.lst
  obtain ⟨fB, fdB, FB⟩ := T.letter
  have GL : FnOk P w K mg base CX0 1 fL fdL ["value"] (spT K isList) := okList FL T
  have GB : FnOk P w K mg base CX0 3 fB fdB ["value", "width"] (spW K isLetter) := okLetter FB T
  refine F.fn.ok scWord (fun vs H Q E h => ?_) (fun cdv A outer s H vs Q E hr h => ?_)
  · obtain ⟨x, d, n, rfl, _⟩ := h
    rfl
  · obtain ⟨x, d, n, rfl, hd, hn, hz, k⟩ := h
    have hr1 : Room 1 _ := hr.mono (by decide)
    cases e : isL d with
    | true =>
      obtain ⟨ds, rfl⟩ : ∃ ds, d = .list ds := by cases d <;> first | exact ⟨_, rfl⟩ | (simp [isL] at e)
      refine ⟨_, pss_one (ps_ret (pe_and (pe_call GL hr1 (by rfl) FL.gl FL.fn.kp FL.bi .nil pass0 (pa_cons (pv 0) pa_nil))
        (pe_one (pe_callB (cr_all rfl) (by rfl) T.all (by decide +kernel) (pa_cons (pe_lc (own := [("letter", 2)]) (g := gName 2) (by rfl) scWord.nd (pi_list (pv 0)) (blkOk_by (own := [("letter", 2)]) (N := ["value", "width", "letter"]) (sc := defScope dWord) (by decide +kernel))
          (fun _ _ _ _ _ => pg_name (i := 2) scWord.nd rfl (Or.inl rfl)) (fun _ _ _ _ _ => pts_nil) (fun _ _ _ _ _ => pe_call GB hr (by rfl) FB.gl FB.fn.kp FB.bi .nil pass0 (pa_cons (pv 2) (pa_cons (pv 1) pa_nil)))) pa_nil))))), ?_⟩
      refine rd_t rfl hd fun H1 e1 => ⟨true, rfl, iteT ?_⟩
      have hd1 := dd_ex e1 hd
      cases hd1 with
      | dp z =>
        cases z with
        | @lst a xs _ hs ha =>
          have hl := dpAll_len ha
          refine ⟨_, rfl, a, rfl, ⟨_, hs⟩, fun D new => ?_⟩
          refine lc_data (K := K) (ds := ds) walk_list (fun d => isLetter d n) (by have : ds.length ≤ 1000 := hz; omega) (fun H' e => ex_l e hs) ha (fun x d hx => ?_) (fun i x e => dpAll_at ha e) new (fun H' e q => ?_)
          · intro H2 e2 Q1 q1
            exact rd_w (i := 2) (j := 1) rfl rfl (.dp (dp_ex e2 hx)) hn q1
          · refine ⟨D, ds.map (fun d => isLetter d n), rfl, .inl (.inl q), ?_⟩
            have kk := k H' (e1.trans e)
            have e5 : (ds.map (fun d => isLetter d n)).all id = ds.all (fun d => isLetter d n) := by rw [List.all_map]; rfl
            rw [e5]
            exact kk
    | false =>
      refine ⟨_, pss_one (ps_ret (pe_and (pe_call GL hr1 (by rfl) FL.gl FL.fn.kp FL.bi .nil pass0 (pa_cons (pv 0) pa_nil))
        (pe_one (pe_callB (cr_all rfl) (by rfl) T.all (by decide +kernel) (pa_cons (pe_lc (own := [("letter", 2)]) (g := gName 2) (by rfl) scWord.nd (pi_tup (pv 0)) (blkOk_by (own := [("letter", 2)]) (N := ["value", "width", "letter"]) (sc := defScope dWord) (by decide +kernel))
          (fun _ _ _ _ _ => pg_name (i := 2) scWord.nd rfl (Or.inl rfl)) (fun _ _ _ _ _ => pts_nil) (fun _ _ _ _ _ => pe_call GB hr (by rfl) FB.gl FB.fn.kp FB.bi .nil pass0 (pa_cons (pv 2) (pa_cons (pv 1) pa_nil)))) pa_nil))))), ?_⟩
      refine rd_t rfl hd fun H1 e1 => ⟨_, rfl, ?_⟩
      cases e0 : isT d with
      | false =>
        have kk := k H1 e1
        have e2 : isWord d n = false := isWord_no e e0
        have e3 : isList d = false := by unfold isList; rw [e, e0]; rfl
        rw [e2] at kk
        rw [e3]
        exact iteF kk
      | true =>
        obtain ⟨ds, rfl⟩ : ∃ ds, d = .tuple ds := by cases d <;> first | exact ⟨_, rfl⟩ | (simp [isT] at e0)
        refine iteT ?_
        have hd1 := dd_ex e1 hd
        cases hd1 with
        | dp z =>
          cases z with
          | @tup a xs _ hs ha =>
            have hl := dpAll_len ha
            refine ⟨_, rfl, a, rfl, ⟨_, hs⟩, fun D new => ?_⟩
            refine lc_data (K := K) (ds := ds) walk_tup (fun d => isLetter d n) (by have : ds.length ≤ 1000 := hz; omega) (fun H' e => ex_t e hs) ha (fun x d hx => ?_) (fun i x e => dpAll_at ha e) new (fun H' e q => ?_)
            · intro H2 e2 Q1 q1
              exact rd_w (i := 2) (j := 1) rfl rfl (.dp (dp_ex e2 hx)) hn q1
            · refine ⟨D, ds.map (fun d => isLetter d n), rfl, .inl (.inl q), ?_⟩
              have kk := k H' (e1.trans e)
              have e5 : (ds.map (fun d => isLetter d n)).all id = ds.all (fun d => isLetter d n) := by rw [List.all_map]; rfl
              rw [e5]
              exact kk
end
end W

set_option Elab.async false
set_option linter.all false
set_option maxRecDepth 100000
set_option maxHeartbeats 4000000
namespace W
open PySem PySem.Spec PyProof.Rows L2 Evl G
def smalls : List Nat := [97, 98, 99, 100, 101, 102, 103, 104, 105, 106, 107, 108, 109, 110, 111, 112, 113, 114, 115, 116, 117, 118, 119, 120, 121, 122]
def digs : List Nat := [48, 49, 50, 51, 52, 53, 54, 55, 56, 57]
/-- a name, by its signs -/
def nameL (l : List Nat) : Bool := match l with
  | [] => false
  | c :: r => decide (r.length < 12) && smalls.contains c && (c :: r).all fun c => smalls.contains c || digs.contains c
def isName : PyData → Bool
  | .str z => nameL z.cps.toList
  | _ => false
theorem small_in (c : Nat) : decide (c ∈ (("abcdefghijklmnopqrstuvwxyz" : Str)).cps.toList) = smalls.contains c := by
  have e : (("abcdefghijklmnopqrstuvwxyz" : Str)).cps.toList = smalls := by decide +kernel
  rw [e, List.contains_eq_mem]
theorem dig_in (c : Nat) : decide (c ∈ (("0123456789" : Str)).cps.toList) = digs.contains c := by
  have e : (("0123456789" : Str)).cps.toList = digs := by decide +kernel
  rw [e, List.contains_eq_mem]
theorem isName_no {d : PyData} (e : isS d = false) : isName d = false := by
  cases d with
  | str z => cases e
  | _ => rfl
def szS : PyData → Nat
  | .str z => z.length
  | _ => 0
def spTs (K : PySem.W.Frag) (g : PyData → Bool) : Sp := fun vs H Q _ => ∃ x d, vs = [x] ∧ Dd K H x d ∧ szS d ≤ 1000 ∧ ∀ H', Ex H H' → Q (.bl (g d)) H'
section
variable {P : Program} {w : World} {K : PySem.W.Frag} {mg : Str → Option Value} {base : Heap}
theorem scName : FnScope ["value", "sign"] ["value"] (defScope dName) := ⟨rfl, rfl, rfl, by decide +kernel, rfl, by decide +kernel, by decide +kernel⟩
theorem okName {f : Addr} {fd : FuncData} (F : At K mg "is_name" dName ["value"] f fd) (T : Txt K mg) : FnOk P w K mg base CX0 1 f fd ["value"] (spTs K isName) := by
  obtain ⟨t1, m1⟩ := T.small
  obtain ⟨t2, m2⟩ := T.digits
  obtain ⟨t3, m3⟩ := T.longest
  refine F.fn.ok scName (fun vs H Q E h => ?_) (fun cdv A outer s H vs Q E hr h => ?_)
  · obtain ⟨x, d, rfl, _⟩ := h
    rfl
  · obtain ⟨x, d, rfl, hd, hz, k⟩ := h
    refine ⟨_, pss_cons (ps_if (PW.pt (pw_or (pt_not (pt_val (pe_callB call_isi (by rfl) T.isinstance (by decide +kernel) (pa_cons (pv 0) (pa_cons (pTy "str" (by rfl) T.str (by decide +kernel)) pa_nil)))))
        (pw_or1 (pt_not (pt_chain op_le op_le pe_int (pe_callB call_len_str (by rfl) T.len PySem.boot_len (pa_cons (pv 0) pa_nil)) (pGi rfl m3)))))) (pss_one (ps_ret pe_bl)) pss_nil)
      (pss_one (ps_ret (pe_and (pe_cmpR op_in_sign (pe_item_str (pv 0) pe_int (fun _ _ => rfl)) (pGs rfl m1) (by rfl))
        (pe_one (pe_callB (cr_all rfl) (by rfl) T.all (by decide +kernel) (pa_cons (pe_lc (own := [("sign", 1)]) (g := gName 1) (by rfl) scName.nd (pi_str (pv 0)) (blkOk_by (own := [("sign", 1)]) (N := ["value", "sign"]) (sc := defScope dName) (by decide +kernel))
          (fun _ _ _ _ _ => pg_name (i := 1) scName.nd rfl (Or.inl rfl)) (fun _ _ _ _ _ => pts_nil) (fun _ _ _ _ _ => pe_or (pe_cmpR op_in_sign (pv 1) (pGs rfl m1) (by rfl)) (pe_one (pe_cmpR op_in_sign (pv 1) (pGs rfl m2) (by rfl))))) pa_nil)))))), ?_⟩
    refine rd_isi (K := K) (i := 0) (T := "str") rfl hd (kit_S d) ⟨_, rfl, ?_⟩
    cases e : isS d with
    | false =>
      have kk := k H (Ex.refl H)
      have e2 : isName d = false := isName_no e
      rw [e2] at kk
      exact iteT (iteT kk)
    | true =>
      obtain ⟨z, rfl⟩ : ∃ z, d = .str z := by cases d <;> first | exact ⟨_, rfl⟩ | (simp [isS] at e)
      cases hd with
      | dp hp =>
        cases hp
        have hz1 : z.length ≤ 1000 := hz
        have hl : z.length = z.cps.toList.length := by rw [Array.length_toList]; rfl
        refine iteF ⟨_, rfl, z, rfl, Nat.le_trans hz1 (by decide), _, _, rfl, rfl, _, rfl, ?_⟩
        have kn : isName (.str z) = nameL z.cps.toList := rfl
        rw [kn] at k
        cases el : z.cps.toList with
        | nil =>
          rw [el] at k hl
          have c : decide ((1 : Int) ≤ (z.length : Int)) = false := by
            rw [hl]
            rfl
          rw [c]
          exact iteF ⟨_, rfl, iteT (k H (Ex.refl H))⟩
        | cons c r =>
          rw [el] at k hl
          have hl2 : z.length = r.length + 1 := hl
          have c1 : decide ((1 : Int) ≤ (z.length : Int)) = true := decide_eq_true (by omega)
          rw [c1]
          refine iteT ⟨_, _, rfl, rfl, _, rfl, ?_⟩
          have kb : nameL (c :: r) = (decide (r.length < 12) && smalls.contains c && (c :: r).all fun c => smalls.contains c || digs.contains c) := rfl
          rw [kb] at k
          by_cases hlen : r.length < 12
          · have c2 : decide ((z.length : Int) ≤ 12) = true := decide_eq_true (by omega)
            rw [c2]
            refine iteF ?_
            have hc0 : z.cps[0]? = some c := by
              have : z.cps.toList[0]? = some c := by rw [el]; rfl
              simpa using this
            refine ⟨_, rfl, z, 0, c, rfl, rfl, by decide, by decide, by omega, hc0, c, _, rfl, rfl, _, rfl, ?_⟩
            rw [small_in]
            rw [decide_eq_true hlen] at k
            cases es : smalls.contains c with
            | false =>
              rw [es] at k
              exact iteF (k H (Ex.refl H))
            | true =>
              rw [es] at k
              refine iteT ⟨_, rfl, z, rfl, fun D new => ?_⟩
              refine lc_pure (walk_str (z := z)) (fun i => .bl ((fun c => smalls.contains c || digs.contains c) (z.cps.toList.getD i 0))) (by have : z.cps.size = z.length := rfl; omega) (fun _ _ => trivial) (fun i v => ∃ c, z.cps[i]? = some c ∧ v = .str ⟨#[c]⟩) (fun i Ha x Hb _ _ y => ⟨y.1, y.2⟩) (fun i v hi hv => ?_) new (fun H' e q => ?_)
              · obtain ⟨c', e1, rfl⟩ := hv
                have e2 : z.cps.toList.getD i 0 = c' := by
                  rw [List.getD_eq_getElem?_getD]
                  have : z.cps.toList[i]? = some c' := by simpa using e1
                  rw [this]
                  rfl
                rw [e2]
                intro H1 _ Q1 q1
                refine ⟨_, rfl, c', _, rfl, rfl, _, rfl, ?_⟩
                rw [small_in]
                show if (smalls.contains c') = true then _ else _
                have qq := q1 H1 (Ex.refl H1)
                cases e3 : smalls.contains c' with
                | true =>
                  simp only [e3, Bool.true_or] at qq
                  exact iteT qq
                | false =>
                  simp only [e3, Bool.false_or] at qq
                  refine iteF ⟨_, rfl, c', _, rfl, rfl, ?_⟩
                  rw [dig_in]
                  exact qq
              · refine ⟨D, (z.cps.toList.map fun c => smalls.contains c || digs.contains c), rfl, .inl (.inl ?_), ?_⟩
                · rw [q, List.map_map]
                  congr 2
                  have hs : z.cps.size = z.cps.toList.length := by simp
                  rw [hs]
                  exact range_map z.cps.toList _ _ fun i c e => by
                    show V.bl _ = V.bl _
                    rw [List.getD_eq_getElem?_getD, e]
                    rfl
                · have kk := k H' e
                  rw [el, List.all_map]
                  simpa using kk
          · have c2 : decide ((z.length : Int) ≤ 12) = false := decide_eq_false (by omega)
            rw [c2]
            rw [decide_eq_false hlen] at k
            exact iteT (k H (Ex.refl H))
end
end W

set_option Elab.async false
set_option linter.all false
set_option maxRecDepth 100000
set_option maxHeartbeats 4000000
namespace W
open PySem PySem.Spec PyProof.Rows L2 Evl G
/-- what KINDS holds, what MADE holds -/
def kindsL : List (Str × Nat) := [("and", 2), ("high", 0), ("low", 0), ("not", 1), ("or", 2), ("pick", 3), ("xor", 2)]
def madeL : List (Str × List Int) := [("and", [0, 0, 0, 1]), ("high", [1]), ("low", [0]), ("not", [1, 0]), ("or", [0, 1, 1, 1]), ("pick", [0, 1, 0, 1, 0, 0, 1, 1]), ("xor", [0, 1, 1, 0])]
/-- the rows of a written dict with text keys, by what V tells of each value -/
inductive KEs {α : Type} (R : α → Value → Prop) : List DictEntry → List (Str × α) → Prop
  | nil : KEs R [] []
  | cons {e : DictEntry} {x : Str} {a : α} {r : List DictEntry} {l : List (Str × α)} (k : ∃ t, e.key = .str x t) (h : R a e.val) (q : KEs R r l) : KEs R (e :: r) ((x, a) :: l)
theorem KEs.some {α : Type} {R : α → Value → Prop} {es : List DictEntry} {l : List (Str × α)} (h : KEs R es l) : ∀ {z : Str} {a : α}, l.lookup z = some a → ∃ e, es.find? (·.key.isStr z) = some e ∧ R a e.val := by
  induction h with
  | nil => intro z a e; cases e
  | @cons e x b r l k h q ih =>
    intro z a f
    obtain ⟨t, hk⟩ := k
    by_cases hz : z = x
    · subst hz
      rw [List.lookup_cons_self] at f
      cases f
      refine ⟨e, ?_, h⟩
      rw [List.find?_cons_of_pos]
      rw [hk]
      simp [Value.isStr]
    · have hb : (z == x) = false := by simpa using hz
      simp only [List.lookup_cons, hb] at f
      obtain ⟨e', h1, h2⟩ := ih f
      refine ⟨e', ?_, h2⟩
      rw [List.find?_cons_of_neg]
      · exact h1
      · rw [hk]
        simpa [Value.isStr] using fun q => hz q.symm
theorem KEs.none {α : Type} {R : α → Value → Prop} {es : List DictEntry} {l : List (Str × α)} (h : KEs R es l) : ∀ {z : Str}, l.lookup z = none → es.find? (·.key.isStr z) = none ∧ es.any (·.refKey) = false := by
  induction h with
  | nil => intro z _; exact ⟨rfl, rfl⟩
  | @cons e x b r l k h q ih =>
    intro z f
    obtain ⟨t, hk⟩ := k
    by_cases hz : z = x
    · subst hz
      rw [List.lookup_cons_self] at f
      cases f
    · have hb : (z == x) = false := by simpa using hz
      simp only [List.lookup_cons, hb] at f
      obtain ⟨h1, h2⟩ := ih f
      constructor
      · rw [List.find?_cons_of_neg]
        · exact h1
        · rw [hk]
          simpa [Value.isStr] using fun q => hz q.symm
      · rw [List.any_cons, h2]
        unfold DictEntry.refKey
        rw [hk]
        rfl
/-- a written dict of the top with text keys -/
structure KD {α : Type} (K : PySem.W.Frag) (w : World) (mg : Str → Option Value) (R : α → Value → Prop) (x : Str) (l : List (Str × α)) (d : Addr) (es : Array DictEntry) (n : Nat) : Prop where
  gl : mg x = some (.ref d)
  dict : KDict K w d es n
  rows : KEs R es.toList l
def isInt (i : Nat) (u : Value) : Prop := ∃ t, u = .int (i : Int) t
def isBits (K : PySem.W.Frag) (bs : List Int) (u : Value) : Prop := ∃ a, u = .ref a ∧ ∀ H, SqT K H a (bs.map V.int)
structure DicT (K : PySem.W.Frag) (w : World) (mg : Str → Option Value) : Prop where
  kinds : ∃ d es n, KD K w mg isInt "KINDS" kindsL d es n
  made : ∃ d es n, KD K w mg (isBits K) "MADE" madeL d es n
section
variable {P : Program} {w : World} {K : PySem.W.Frag} {mg : Str → Option Value} {base : Heap}
theorem KD.hit {α : Type} {R : α → Value → Prop} {x : Str} {l : List (Str × α)} {d : Addr} {es : Array DictEntry} {n : Nat} (D : KD K w mg R x l d es n) {z : Str} {a : α} (h : l.lookup z = some a) : ∃ u, PySem.W.nsIn K d z = some (some u) ∧ R a u := by
  obtain ⟨e, h1, h2⟩ := D.rows.some h
  refine ⟨e.val, ?_, h2⟩
  unfold PySem.W.nsIn
  rw [D.dict.at_]
  dsimp only
  rw [h1]
theorem KD.miss {α : Type} {R : α → Value → Prop} {x : Str} {l : List (Str × α)} {d : Addr} {es : Array DictEntry} {n : Nat} (D : KD K w mg R x l d es n) {z : Str} (h : l.lookup z = none) : PySem.W.nsIn K d z = some none := by
  obtain ⟨h1, h2⟩ := D.rows.none h
  unfold PySem.W.nsIn
  rw [D.dict.at_]
  dsimp only
  rw [h1]
  dsimp only
  rw [h2]
  rfl
def isKind : PyData → Bool | .str z => (kindsL.lookup z).isSome | _ => false
theorem scKind : FnScope ["value"] ["value"] (defScope dKind) := ⟨rfl, rfl, rfl, by decide +kernel, rfl, by decide +kernel, by decide +kernel⟩
theorem okKind {f : Addr} {fd : FuncData} (F : At K mg "is_kind" dKind ["value"] f fd) (T : Txt K mg) (DT : DicT K w mg) : FnOk P w K mg base CX0 1 f fd ["value"] (spT K isKind) := by
  obtain ⟨dk, es, n, D⟩ := DT.kinds
  refine F.fn.ok scKind (fun vs H Q E h => ?_) (fun cdv A outer s H vs Q E hr h => ?_)
  · obtain ⟨x, d, rfl, _⟩ := h
    rfl
  · obtain ⟨x, d, rfl, hd, k⟩ := h
    refine ⟨_, pss_one (ps_ret (pe_and (pe_callB call_isi (by rfl) T.isinstance (by decide +kernel) (pa_cons (pv 0) (pa_cons (pTy "str" (by rfl) T.str (by decide +kernel)) pa_nil)))
      (pe_one (pe_cmpR (op_in_kd D.dict) (pv 0) (pe_glob (v := .ref dk) (by rfl) D.gl rfl) (by rfl))))), ?_⟩
    refine rd_isi rfl hd (kit_S d) ⟨_, rfl, ?_⟩
    have kk := k H (Ex.refl H)
    cases e : isS d with
    | false =>
      have e2 : isKind d = false := by cases d <;> first | rfl | (simp [isS] at e)
      rw [e2] at kk
      exact iteF kk
    | true =>
      obtain ⟨z, rfl⟩ : ∃ z, d = .str z := by cases d <;> first | exact ⟨_, rfl⟩ | (simp [isS] at e)
      have hx : x = .str z := by
        cases hd with
        | dp q => cases q; rfl
      subst hx
      refine iteT ⟨_, rfl, ?_⟩
      cases q : kindsL.lookup z with
      | none =>
        have e2 : isKind (.str z) = false := by show (kindsL.lookup z).isSome = false; rw [q]; rfl
        rw [e2] at kk
        exact ⟨z, none, rfl, rfl, D.miss q, kk⟩
      | some i =>
        have e2 : isKind (.str z) = true := by show (kindsL.lookup z).isSome = true; rw [q]; rfl
        rw [e2] at kk
        obtain ⟨u, h1, _⟩ := D.hit q
        exact ⟨z, some u, rfl, rfl, h1, kk⟩
end
end W

set_option Elab.async false
set_option linter.all false
set_option maxRecDepth 100000
set_option maxHeartbeats 4000000
namespace W
open PySem PySem.Spec PyProof.Rows L2 Evl G
theorem take_more {α : Type} {l : List α} {i : Nat} {x : α} (h : l[i]? = some x) : l.take (i + 1) = l.take i ++ [x] := by
  rw [List.take_succ, h]
  rfl
def num : List Int → Int := List.foldl (fun a b => 2 * a + b) 0
theorem num_snoc (r : List Int) (b : Int) : num (r ++ [b]) = 2 * num r + b := by
  unfold num
  rw [List.foldl_append]
  rfl
theorem ints_back {K : PySem.W.Frag} {H : Hp} : ∀ {ys : List Int} {xs : List V}, DpAll K H xs (ys.map .int) → xs = ys.map V.int
  | [], _, h => by cases h; rfl
  | _ :: _, _, h => by
    cases h with
    | cons a b =>
      cases a
      rw [ints_back b]
      rfl
def spNumberOf (K : PySem.W.Frag) : Sp := fun vs H Q _ => ∃ (y : V) (ys : List Int), vs = [y] ∧ (Dp K H y (.list (ys.map .int)) ∨ Dp K H y (.tuple (ys.map .int))) ∧ Q (.int (num ys)) H
def spBitOf (K : PySem.W.Frag) : Sp := fun vs H Q _ => ∃ (z : Str) (y : V) (ys bs : List Int) (v : V), vs = [.str z, y] ∧ madeL.lookup z = some bs ∧ (Dp K H y (.list (ys.map .int)) ∨ Dp K H y (.tuple (ys.map .int))) ∧ atI (bs.map V.int) (num ys) = some v ∧ Q v H
section
variable {P : Program} {w : World} {K : PySem.W.Frag} {mg : Str → Option Value} {base : Heap}
theorem scNumberOf : FnScope ["bits", "at", "bit"] ["bits"] (defScope dNumberOf) := ⟨rfl, rfl, rfl, by decide +kernel, rfl, by decide +kernel, by decide +kernel⟩
theorem okNumberOf {f : Addr} {fd : FuncData} (F : At K mg "number_of" dNumberOf ["bits"] f fd) : FnOk P w K mg base CX0 1 f fd ["bits"] (spNumberOf K) := by
  refine F.fn.ok scNumberOf (fun vs H Q E h => ?_) (fun cdv A outer s H vs Q E hr h => ?_)
  · obtain ⟨y, ys, rfl, _⟩ := h
    rfl
  · obtain ⟨y, ys, rfl, hy, k⟩ := h
    have turn : ∀ (i : Nat) (x : V), (ys.map V.int)[i]? = some x → ∃ c, x = .int c ∧ ys.take (i + 1) = ys.take i ++ [c] ∧ (ys.take (i + 1)).getLast? = some c := fun i x e => by
      rw [List.getElem?_map] at e
      cases q : ys[i]? with
      | none => rw [q] at e; cases e
      | some c =>
        rw [q] at e
        exact ⟨c, (Option.some.inj e).symm, take_more q, by rw [take_more q]; simp⟩
    rcases hy with hy | hy
    · cases hy with
      | @lst a xs _ hs ha =>
        have e := ints_back ha
        subst e
        refine ⟨_, pss_cons (ps_set (i := 1) scNumberOf.nd rfl (Or.inl rfl) pe_int)
          (pss_cons (ps_for PassesOwn.never rfl (pi_list (pv 0)) (pg_name (i := 2) scNumberOf.nd rfl (Or.inl rfl))
            (pss_one (ps_set (i := 1) scNumberOf.nd rfl (Or.inl rfl) (pe_op op_add (pe_op op_mul pe_int (pv 1)) (pv 2)))))
          (pss_one (ps_ret (pv 1)))), ?_⟩
        refine ⟨_, rfl, a, rfl, ⟨_, hs⟩, for_list (K := K) (a := a) (xs := ys.map V.int) (fun i σ Hc => Hc = H ∧ σ = [some (.ref a), some (.int (num (ys.take i))), (ys.take i).getLast?.map V.int])
          ⟨rfl, rfl⟩ (fun i σ Hc _ inv => by rw [inv.1]; exact hs) (fun i x σ Hc hi inv => ?_) (fun σ Hc inv => ?_)⟩
        · obtain ⟨rfl, rfl⟩ := inv
          obtain ⟨c, rfl, h1, h2⟩ := turn i x hi
          refine ⟨_, rfl, 2, num (ys.take i), rfl, rfl, .inl ⟨by decide, by decide⟩, _, rfl, _, c, rfl, rfl, rfl, ?_⟩
          rw [h2, h1, num_snoc]
          rfl
        · obtain ⟨rfl, rfl⟩ := inv
          rw [List.length_map, List.take_length]
          exact ⟨_, rfl, k⟩
    · cases hy with
      | @tup a xs _ hs ha =>
        have e := ints_back ha
        subst e
        refine ⟨_, pss_cons (ps_set (i := 1) scNumberOf.nd rfl (Or.inl rfl) pe_int)
          (pss_cons (ps_for PassesOwn.never rfl (pi_tup (pv 0)) (pg_name (i := 2) scNumberOf.nd rfl (Or.inl rfl))
            (pss_one (ps_set (i := 1) scNumberOf.nd rfl (Or.inl rfl) (pe_op op_add (pe_op op_mul pe_int (pv 1)) (pv 2)))))
          (pss_one (ps_ret (pv 1)))), ?_⟩
        refine ⟨_, rfl, a, rfl, ⟨_, hs⟩, for_tup (K := K) (a := a) (xs := ys.map V.int) (fun i σ Hc => Hc = H ∧ σ = [some (.ref a), some (.int (num (ys.take i))), (ys.take i).getLast?.map V.int])
          ⟨rfl, rfl⟩ (fun i σ Hc _ inv => by rw [inv.1]; exact hs) (fun i x σ Hc hi inv => ?_) (fun σ Hc inv => ?_)⟩
        · obtain ⟨rfl, rfl⟩ := inv
          obtain ⟨c, rfl, h1, h2⟩ := turn i x hi
          refine ⟨_, rfl, 2, num (ys.take i), rfl, rfl, .inl ⟨by decide, by decide⟩, _, rfl, _, c, rfl, rfl, rfl, ?_⟩
          rw [h2, h1, num_snoc]
          rfl
        · obtain ⟨rfl, rfl⟩ := inv
          rw [List.length_map, List.take_length]
          exact ⟨_, rfl, k⟩
theorem scBitOf : FnScope ["kind", "bits"] ["kind", "bits"] (defScope dBitOf) := ⟨rfl, rfl, rfl, by decide +kernel, rfl, by decide +kernel, by decide +kernel⟩
theorem okBitOf {f : Addr} {fd : FuncData} (F : At K mg "bit_of" dBitOf ["kind", "bits"] f fd) (T : Txt K mg) (DT : DicT K w mg) : FnOk P w K mg base CX0 2 f fd ["kind", "bits"] (spBitOf K) := by
  obtain ⟨dm, es, n, D⟩ := DT.made
  obtain ⟨fN, gN, FN⟩ := T.numberOf
  have GN : FnOk P w K mg base CX0 1 fN gN ["bits"] (spNumberOf K) := okNumberOf FN
  refine F.fn.ok scBitOf (fun vs H Q E h => ?_) (fun cdv A outer s H vs Q E hr h => ?_)
  · obtain ⟨z, y, ys, bs, v, rfl, _⟩ := h
    rfl
  · obtain ⟨z, y, ys, bs, v, rfl, hz, hy, hv, k⟩ := h
    obtain ⟨u, hu, b, rfl, hb⟩ := D.hit hz
    refine ⟨_, pss_one (ps_ret (pe_ix ix_tup (pe_ix ix_kdict (pe_glob (v := .ref dm) (by rfl) D.gl rfl) (pv 0) (fun _ _ => rfl)) (pe_call GN hr (by rfl) FN.gl FN.fn.kp FN.bi .nil pass0 (pa_cons (pv 1) pa_nil)) (fun _ _ => rfl))), ?_⟩
    exact ⟨_, rfl, dm, z, .ref b, rfl, rfl, ⟨es, n, .ref b, D.dict.at_, D.dict.lit, hu, rfl⟩, y, rfl, y, ys, rfl, hy, b, _, num ys, v, rfl, rfl, hb H, hv, k⟩
end
end W

set_option Elab.async false
set_option linter.all false
set_option maxRecDepth 100000
set_option maxHeartbeats 4000000
namespace W
open PySem PySem.Spec PyProof.Rows L2 Evl G C
/-! ### parts of circuits as data -/
abbrev Gt := Str × Str × List Str
abbrev Rg := Str × Int × Str
def txtD (zs : List Str) : List PyData := zs.map .str
def gateD (g : Gt) : PyData := .tuple [.str g.1, .str g.2.1, .list (txtD g.2.2)]
def gateU (g : Gt) : PyData := .tuple [.str g.1, .str g.2.1, .tuple (txtD g.2.2)]
def regD (r : Rg) : PyData := .tuple [.str r.1, .int r.2.1, .str r.2.2]
def nameOk (z : Str) : Prop := nameL z.cps.toList = true
theorem nameOk.short {z : Str} (h : nameOk z) : z.length ≤ 12 := by
  have e : z.length = z.cps.toList.length := by rw [Array.length_toList]; rfl
  unfold nameOk nameL at h
  rw [e]
  cases q : z.cps.toList with
  | nil => simp
  | cons c r =>
    rw [q] at h
    simp only [Bool.and_eq_true, decide_eq_true_eq] at h
    simp only [List.length_cons]
    omega
theorem nameOk.isN {z : Str} (h : nameOk z) : isName (.str z) = true := h
theorem nameOk.szS {z : Str} (h : nameOk z) : szS (.str z) ≤ 1000 := Nat.le_trans h.short (by decide)
section
variable {K : PySem.W.Frag} {H : Hp}
theorem dp_txts : ∀ {zs : List Str}, DpAll K H (zs.map V.str) (txtD zs)
  | [] => .nil
  | _ :: _ => .cons (.str _) dp_txts
theorem txts_dp : ∀ {zs : List Str} {xs : List V}, DpAll K H xs (txtD zs) → xs = zs.map V.str
  | [], _, h => by cases h; rfl
  | _ :: _, _, h => by
    cases h with
    | cons a b =>
      cases a
      rw [txts_dp b]
      rfl
theorem txl_of {v : V} {zs : List Str} (h : Dp K H v (.list (txtD zs))) : ∃ l, v = .ref l ∧ SqL K H l (zs.map V.str) := by
  cases h with
  | @lst a xs _ hs ha =>
    rw [txts_dp ha] at hs
    exact ⟨a, rfl, hs⟩
theorem txt_of {v : V} {zs : List Str} (h : Dp K H v (.tuple (txtD zs))) : ∃ l, v = .ref l ∧ SqT K H l (zs.map V.str) := by
  cases h with
  | @tup a xs _ hs ha =>
    rw [txts_dp ha] at hs
    exact ⟨a, rfl, hs⟩
theorem dp_txl {l : Addr} {zs : List Str} (h : SqL K H l (zs.map V.str)) : Dp K H (.ref l) (.list (txtD zs)) := .lst h dp_txts
theorem dp_txt {l : Addr} {zs : List Str} (h : SqT K H l (zs.map V.str)) : Dp K H (.ref l) (.tuple (txtD zs)) := .tup h dp_txts
theorem gate_of {v : V} {g : Gt} (h : Dp K H v (gateD g)) : ∃ t l, v = .ref t ∧ SqT K H t [.str g.1, .str g.2.1, .ref l] ∧ SqL K H l (g.2.2.map V.str) := by
  cases h with
  | @tup a xs _ hs ha =>
    cases ha with
    | cons a1 r1 =>
      cases r1 with
      | cons a2 r2 =>
        cases r2 with
        | cons a3 r3 =>
          cases r3
          cases a1
          cases a2
          obtain ⟨l, rfl, hl⟩ := txl_of a3
          exact ⟨a, l, rfl, hs, hl⟩
theorem reg_of {v : V} {r : Rg} (h : Dp K H v (regD r)) : ∃ t, v = .ref t ∧ SqT K H t [.str r.1, .int r.2.1, .str r.2.2] := by
  cases h with
  | @tup a xs _ hs ha =>
    cases ha with
    | cons a1 r1 =>
      cases r1 with
      | cons a2 r2 =>
        cases r2 with
        | cons a3 r3 =>
          cases r3
          cases a1
          cases a2
          cases a3
          exact ⟨a, rfl, hs⟩
/-- the i-th of a list of data -/
theorem dp_nth {α : Type} {f : α → PyData} : ∀ {gs : List α} {xs : List V} {i : Nat} {x : V}, DpAll K H xs (gs.map f) → xs[i]? = some x → ∃ g, gs[i]? = some g ∧ Dp K H x (f g)
  | [], _, i, x, h, e => by cases h; simp at e
  | g :: gs, _, 0, x, h, e => by
    cases h with
    | cons a b =>
      simp at e
      subst e
      exact ⟨g, rfl, a⟩
  | g :: gs, _, i + 1, x, h, e => by
    cases h with
    | cons a b =>
      obtain ⟨g', e1, e2⟩ := dp_nth (i := i) (x := x) b (by simpa using e)
      exact ⟨g', by simpa using e1, e2⟩
theorem dp_len {α : Type} {f : α → PyData} {gs : List α} {xs : List V} (h : DpAll K H xs (gs.map f)) : xs.length = gs.length := by
  rw [dpAll_len h, List.length_map]
end
/-! ### dicts from names -/
def kTrue (zs : List Str) : List (Key × V) := zs.map fun z => (Sum.inr z, .bl true)
theorem valV_map {α : Type} (f : α → Key) (g : α → V) : ∀ (l : List α) (k : Key), valV (l.map fun a => (f a, g a)) k = none ↔ ∀ a ∈ l, f a ≠ k
  | [], k => by simp [valV_nil]
  | a :: l, k => by
    have ih := valV_map f g l k
    by_cases e : f a = k
    · rw [List.map_cons, valV_pos e]
      simp [e]
    · have h1 : valV ((a :: l).map fun a => (f a, g a)) k = valV (l.map fun a => (f a, g a)) k := by
        unfold valV
        rw [List.map_cons, List.find?_cons_of_neg]
        simpa using e
      rw [h1, ih]
      simp [e]
theorem valV_hit {α : Type} (f : α → Key) (g : α → V) : ∀ (l : List α) (a : α), a ∈ l → (∀ b ∈ l, f b = f a → b = a) → valV (l.map fun a => (f a, g a)) (f a) = some (g a)
  | [], a, h, _ => by cases h
  | b :: l, a, h, u => by
    by_cases e : f b = f a
    · have := u b List.mem_cons_self e
      subst this
      rw [List.map_cons, valV_pos rfl]
    · have h1 : valV ((b :: l).map fun a => (f a, g a)) (f a) = valV (l.map fun a => (f a, g a)) (f a) := by
        unfold valV
        rw [List.map_cons, List.find?_cons_of_neg]
        simpa using e
      rw [h1]
      rcases List.mem_cons.mp h with h | h
      · subst h
        exact absurd rfl e
      · exact valV_hit f g l a h fun c hc => u c (List.mem_cons_of_mem _ hc)
theorem putK_new {kvs : List (Key × V)} {k : Key} {v : V} (h : valV kvs k = none) : putK kvs k v = kvs ++ [(k, v)] := by
  unfold putK
  rw [if_neg]
  intro c
  obtain ⟨q, hq, e⟩ := List.any_eq_true.mp c
  unfold valV at h
  rw [Option.map_eq_none_iff, List.find?_eq_none] at h
  exact h q hq e
theorem kTrue_none {zs : List Str} {z : Str} (h : z ∉ zs) : valV (kTrue zs) (Sum.inr z) = none := (valV_map _ _ _ _).mpr fun a ha e => h (by cases e; exact ha)
theorem kTrue_put {zs : List Str} {z : Str} (h : z ∉ zs) : putK (kTrue zs) (Sum.inr z) (.bl true) = kTrue (zs ++ [z]) := by
  rw [putK_new (kTrue_none h)]
  simp [kTrue]
theorem not_in_take {α : Type} {l : List α} {i : Nat} {x : α} (nd : l.Nodup) (h : l[i]? = some x) : x ∉ l.take i := by
  intro m
  obtain ⟨j, hj⟩ := List.mem_iff_getElem?.mp m
  rw [List.getElem?_take] at hj
  split at hj
  · next lt =>
    have h1 : i < l.length := (List.getElem?_eq_some_iff.mp h).1
    have := (List.getElem?_inj (by omega) nd).mp (hj.trans h.symm)
    omega
  · cases hj
section
variable {P : Program} {w : World} {K : PySem.W.Frag} {mg : Str → Option Value} {base : Heap}
theorem rd_ts {σ : L2.St} {H : Hp} {Q : VK} {g : PyData → Bool} {x : V} {d : PyData} {i : Nat} {E : XK} (hs : σ[i]? = some (some x)) (hd : Dd K H x d) (hz : szS d ≤ 1000) (h : ∀ H', Ex H H' → Q (.bl (g d)) H') : tCall (spTs K g) [] E (tCons (tVar i) tNil) σ H Q := ⟨x, hs, x, d, rfl, hd, hz, h⟩
/-! ### check_inputs -/
def spCInputs (K : PySem.W.Frag) : Sp := fun vs H Q _ => ∃ (x : V) (zs : List Str), vs = [x] ∧ Dp K H x (.list (txtD zs)) ∧ zs.Nodup ∧ (∀ z ∈ zs, nameOk z) ∧ zs.length ≤ 1000 ∧ ∀ H', Ex H H' → Q .non H'
theorem scCInputs : FnScope ["inputs", "met", "at", "name"] ["inputs"] (defScope dCInputs) := ⟨rfl, rfl, rfl, by decide +kernel, rfl, by decide +kernel, by decide +kernel⟩
theorem okCInputs {f : Addr} {fd : FuncData} (F : At K mg "check_inputs" dCInputs ["inputs"] f fd) (T : Txt K mg) : FnOk P w K mg base CX0 2 f fd ["inputs"] (spCInputs K) := by
  obtain ⟨fL, fdL, FL⟩ := T.lst
  obtain ⟨fN, fdN, FN⟩ := T.name
  have GL : FnOk P w K mg base CX0 1 fL fdL ["value"] (spT K isList) := okList FL T
  have GN : FnOk P w K mg base CX0 1 fN fdN ["value"] (spTs K isName) := okName FN T
  refine F.fn.ok scCInputs (fun vs H Q E h => ?_) (fun cdv A outer s H vs Q E hr h => ?_)
  · obtain ⟨x, zs, rfl, _⟩ := h
    rfl
  · obtain ⟨x, zs, rfl, hd, nd, ok, hz, k⟩ := h
    have hu := hu_of hr
    refine ⟨_, pss_cons (ps_if (pt_not (pt_val (pe_call GL hr (by rfl) FL.gl FL.fn.kp FL.bi .nil pass0 (pa_cons (pv 0) pa_nil)))) (pss_one ps_never) pss_nil)
      (pss_cons (ps_set (i := 1) scCInputs.nd rfl (Or.inl rfl) pe_dnewK)
      (pss_one (ps_for PassesOwn.never rfl (pi_enum (by rfl) T.enumerate (pa_cons (pv 0) pa_nil)) (pg_tup rfl (pgs_cons (pg_name (i := 2) scCInputs.nd rfl (Or.inl rfl)) (pgs_cons (pg_name (i := 3) scCInputs.nd rfl (Or.inl rfl)) pgs_nil)))
        (pss_cons (ps_if (PW.pt (pw_or (pt_not (pt_val (pe_call GN hr (by rfl) FN.gl FN.fn.kp FN.bi .nil pass0 (pa_cons (pv 3) pa_nil)))) (pw_or1 (pt_cmp (pc_din hu (pv 3) (pv 1)))))) (pss_one ps_never) pss_nil)
          (pss_one (ps_dput hu (pv 1) (pv 3) pe_bl rfl)))))), ?_⟩
    refine rd_t (i := 0) rfl (.dp hd) fun H1 e1 => ⟨_, rfl, iteF ?_⟩
    intro D nD
    obtain ⟨a, rfl, hs⟩ := txl_of hd
    have x0 : Ex H (upd H1 D (.dK [])) := e1.trans (Ex.new nD)
    have hD0 : H D = none := by
      cases q : H D with
      | none => rfl
      | some o => rw [e1 _ _ q] at nD; cases nD
    refine ⟨_, rfl, a, zs.map V.str, rfl, ex_l x0 hs, for_it walk_enum (fun i σ Hc => (∃ u v, σ = [some (.ref a), some (.ref D), u, v]) ∧ Ex H Hc ∧ Hc D = some (.dK (kTrue (zs.take i))))
      ⟨⟨_, _, rfl⟩, x0, upd_same⟩ (fun i σ Hc _ p => ex_l p.2.1 hs) (fun i x σ Ha Hb hi p y => ?_) (fun σ Hc p => k Hc p.2.1)⟩
    obtain ⟨⟨u, v, rfl⟩, eA, hD⟩ := p
    obtain ⟨t, y1, y2, rfl, nt, rfl, z1, z2⟩ := y
    cases z1
    have z2 : (zs.map V.str)[i]? = some _ := z2
    rw [List.getElem?_map] at z2
    cases ez : zs[i]? with
    | none => rw [ez] at z2; cases z2
    | some z =>
      rw [ez] at z2
      cases z2
      have zin : z ∈ zs := List.mem_of_getElem? ez
      have znot := not_in_take nd ez
      have eB : Ex Ha (upd Ha t (.tup [.int (i : Nat), .str z])) := Ex.new nt
      refine ⟨t, _, rfl, st_of upd_same, rfl, _, _, rfl, _, _, rfl, rfl, ?_⟩
      have hDb : (upd Ha t (.tup [.int (i : Nat), .str z])) D = some (.dK (kTrue (zs.take i))) := eB _ _ hD
      show tSeq _ _ _ [some (.ref a), some (.ref D), some (.int (i : Nat)), some (.str z)] _
      refine rd_ts (i := 3) rfl (.dp (.str z)) (ok z zin).szS fun H2 e2 => ⟨_, rfl, ?_⟩
      rw [show isName (.str z) = true from ok z zin]
      refine iteF ?_
      refine ⟨_, rfl, _, rfl, D, none, rfl, ?_, _, rfl, iteF ?_⟩
      · have g := DGet.k (k := Sum.inr z) (e2 _ _ hDb)
        rw [kTrue_none znot] at g
        exact g
      · refine ⟨_, rfl, _, rfl, D, _, rfl, DPut.k (k := Sum.inr z) (e2 _ _ hDb) ?_, ⟨_, _, rfl⟩, ?_, ?_⟩
        · simp only [kTrue, List.length_map, List.length_take]
          exact Nat.lt_of_le_of_lt (Nat.le_trans (Nat.min_le_right _ _) hz) (by decide)
        · exact (eA.trans (eB.trans e2)).mut hD0
        · rw [upd_same, kTrue_put znot, ← take_more ez]
end
end W

set_option Elab.async false
set_option linter.all false
set_option maxRecDepth 100000
set_option maxHeartbeats 4000000
namespace W
open PySem PySem.Spec PyProof.Rows L2 Evl G C
def gateOk (g : Gt) : Prop := nameOk g.1 ∧ kindsL.lookup g.2.1 = some g.2.2.length ∧ ∀ z ∈ g.2.2, nameOk z
def regOk (r : Rg) : Prop := nameOk r.1 ∧ (r.2.1 = 0 ∨ r.2.1 = 1) ∧ nameOk r.2.2
theorem kinds_few {k : Str} {n : Nat} (h : kindsL.lookup k = some n) : n ≤ 3 := by
  unfold kindsL at h
  simp only [List.lookup] at h
  repeat' split at h
  all_goals first | (cases h; decide) | cases h
theorem keys_nodup {α : Type} {f : α → Str} {l : List α} (h : (l.map f).Nodup) : (l.map fun a => (Sum.inr (f a) : Key)).Nodup := by
  unfold List.Nodup at h ⊢
  rw [List.pairwise_map] at h ⊢
  exact h.imp fun ne e => ne (Sum.inr.inj e)
theorem ex_none {H H' : Hp} {D : Addr} (e : Ex H H') (h : H' D = none) : H D = none := by
  cases q : H D with
  | none => rfl
  | some o =>
    rw [e _ _ q] at h
    cases h
section
variable {P : Program} {w : World} {K : PySem.W.Frag} {mg : Str → Option Value} {base : Heap}
/-! ### is_gate, is_register -/
def spIsGate (K : PySem.W.Frag) : Sp := fun vs H Q _ => ∃ (x : V) (g : Gt), vs = [x] ∧ Dp K H x (gateD g) ∧ gateOk g ∧ ∀ H', Ex H H' → Q (.bl true) H'
abbrev nIsGate : List Str := ["value", "name", "kind", "sources", "source"]
theorem scIsGate : FnScope nIsGate ["value"] (defScope dIsGate) := ⟨rfl, rfl, rfl, by decide +kernel, rfl, by decide +kernel, by decide +kernel⟩
theorem okIsGate {f : Addr} {fd : FuncData} (F : At K mg "is_gate" dIsGate ["value"] f fd) (T : Txt K mg) (DT : DicT K w mg) : FnOk P w K mg base CX0 2 f fd ["value"] (spIsGate K) := by
  obtain ⟨fL, fdL, FL⟩ := T.lst
  obtain ⟨fN, fdN, FN⟩ := T.name
  obtain ⟨fK, fdK, FK⟩ := T.kind
  obtain ⟨dk, es, n, D⟩ := DT.kinds
  have GL : FnOk P w K mg base CX0 1 fL fdL ["value"] (spT K isList) := okList FL T
  have GN : FnOk P w K mg base CX0 1 fN fdN ["value"] (spTs K isName) := okName FN T
  have GK : FnOk P w K mg base CX0 1 fK fdK ["value"] (spT K isKind) := okKind FK T DT
  refine F.fn.ok scIsGate (fun vs H Q E h => ?_) (fun cdv A outer s H vs Q E hr h => ?_)
  · obtain ⟨x, g, rfl, _⟩ := h
    rfl
  · obtain ⟨x, g, rfl, hd, ⟨o1, o2, o3⟩, k⟩ := h
    refine ⟨_, pss_cons (ps_if (PW.pt (pw_or (pt_not (pt_val (pe_callB call_isi (by rfl) T.isinstance (by decide +kernel) (pa_cons (pv 0) (pa_cons (pTy "tuple" (by rfl) T.tuple (by decide +kernel)) pa_nil)))))
        (pw_or1 (pt_cmpR op_ne (pe_callB call_len_seq (by rfl) T.len PySem.boot_len (pa_cons (pv 0) pa_nil)) pe_int (nomark _))))) (pss_one (ps_ret pe_bl)) pss_nil)
      (pss_cons (ps_asg (pv 0) (pg_tup rfl (pgs_cons (pg_name (i := 1) scIsGate.nd rfl (Or.inl rfl)) (pgs_cons (pg_name (i := 2) scIsGate.nd rfl (Or.inl rfl)) (pgs_cons (pg_name (i := 3) scIsGate.nd rfl (Or.inl rfl)) pgs_nil)))))
      (pss_cons (ps_if (PW.pt (pw_or (pt_not (pt_val (pe_call GN hr (by rfl) FN.gl FN.fn.kp FN.bi .nil pass0 (pa_cons (pv 1) pa_nil)))) (pw_or (pt_not (pt_val (pe_call GK hr (by rfl) FK.gl FK.fn.kp FK.bi .nil pass0 (pa_cons (pv 2) pa_nil))))
          (pw_or1 (pt_not (pt_val (pe_call GL hr (by rfl) FL.gl FL.fn.kp FL.bi .nil pass0 (pa_cons (pv 3) pa_nil)))))))) (pss_one (ps_ret pe_bl)) pss_nil)
      (pss_one (ps_ret (pe_and (pe_cmpR op_eq (pe_callB call_len_seq (by rfl) T.len PySem.boot_len (pa_cons (pv 3) pa_nil)) (pe_ix ix_kdict (pe_glob (v := .ref dk) (by rfl) D.gl rfl) (pv 2) (fun _ _ => rfl)) (nomark _))
        (pe_one (pe_callB (cr_all rfl) (by rfl) T.all (by decide +kernel) (pa_cons (pe_lc (own := [("source", 4)]) (g := gName 4) (by rfl) scIsGate.nd (pi_list (pv 3)) (blkOk_by (own := [("source", 4)]) (N := nIsGate) (sc := defScope dIsGate) (by decide +kernel))
          (fun _ _ _ _ _ => pg_name (i := 4) scIsGate.nd rfl (Or.inl rfl)) (fun _ _ _ _ _ => pts_nil) (fun _ _ _ _ _ => pe_call GN hr (by rfl) FN.gl FN.fn.kp FN.bi .nil pass0 (pa_cons (pv 4) pa_nil))) pa_nil)))))))), ?_⟩
    obtain ⟨t, l, rfl, ht, hl⟩ := gate_of hd
    refine rd_isi (K := K) (i := 0) (T := "tuple") rfl (.dp hd) (kit_T (gateD g)) ⟨_, rfl, ?_⟩
    refine iteF ?_
    refine ⟨_, rfl, t, _, rfl, .inr ht, rfl, _, rfl, ?_⟩
    refine iteF ?_
    refine ⟨_, rfl, t, _, rfl, ht, rfl, _, _, rfl, _, _, rfl, _, _, rfl, rfl, ?_⟩
    show tSeq _ _ _ [some (.ref t), some (.str g.1), some (.str g.2.1), some (.ref l), none] _
    refine rd_ts (i := 1) rfl (.dp (.str g.1)) o1.szS fun H1 e1 => ⟨_, rfl, ?_⟩
    rw [o1.isN]
    refine iteF ?_
    refine rd_t (i := 2) rfl (.dp (.str g.2.1)) fun H2 e2 => ⟨_, rfl, ?_⟩
    rw [show isKind (.str g.2.1) = true by show (kindsL.lookup g.2.1).isSome = true; rw [o2]; rfl]
    refine iteF ?_
    refine rd_t (i := 3) rfl (.dp (dp_txl (ex_l (e1.trans e2) hl))) fun H3 e3 => ⟨_, rfl, ?_⟩
    refine iteF ?_
    have hl3 := ex_l (e1.trans (e2.trans e3)) hl
    obtain ⟨u, hu, tk, rfl⟩ := D.hit o2
    refine ⟨_, rfl, l, _, rfl, .inl hl3, _, rfl, dk, g.2.1, .int _, rfl, rfl, ⟨es, n, _, D.dict.at_, D.dict.lit, hu, ⟨tk, rfl⟩⟩, rfl, _, rfl, ?_⟩
    rw [show decide (V.int ((g.2.2.map V.str).length : Int) = V.int (g.2.2.length : Int)) = true from decide_eq_true (by rw [List.length_map])]
    refine iteT ?_
    refine ⟨_, rfl, l, rfl, ⟨_, hl3⟩, fun N nN => ?_⟩
    refine lc_each (as := g.2.2) (em := V.str) (walk_list (K := K) (a := l)) (fun z => .bl true) (by have := kinds_few o2; omega) (fun H' e => ex_l e hl3) (fun z hz Ha ea Q1 q1 => ?_) nN (fun H' e q => ?_)
    · refine rd_ts (i := 4) rfl (.dp (.str z)) (o3 z hz).szS fun H' e' => ?_
      rw [(o3 z hz).isN]
      exact q1 H' e'
    · refine ⟨N, g.2.2.map (fun _ => true), rfl, .inl (.inl (by rw [q, List.map_map]; rfl)), ?_⟩
      rw [show (g.2.2.map (fun _ => true)).all id = true by rw [List.all_eq_true]; intro b hb; obtain ⟨z, _, rfl⟩ := List.mem_map.mp hb; rfl]
      exact k H' (e1.trans (e2.trans (e3.trans e)))
theorem rd_isGate {σ : L2.St} {H : Hp} {Q : VK} {x : V} {g : Gt} {i : Nat} {E : XK} (hs : σ[i]? = some (some x)) (hd : Dp K H x (gateD g)) (ok : gateOk g) (h : ∀ H', Ex H H' → Q (.bl true) H') : tCall (spIsGate K) [] E (tCons (tVar i) tNil) σ H Q := ⟨x, hs, x, g, rfl, hd, ok, h⟩
/-! ### check_gates -/
def gnm (gs : List Gt) : List Str := gs.map fun g => g.1
def spCGates (K : PySem.W.Frag) : Sp := fun vs H Q _ => ∃ (x y : V) (gs : List Gt) (zs : List Str), vs = [x, y] ∧ Dp K H x (.list (gs.map gateD)) ∧ Dp K H y (.list (txtD zs)) ∧ (zs ++ gnm gs).Nodup ∧ (∀ g ∈ gs, gateOk g) ∧ gs.length ≤ 1000 ∧ zs.length ≤ 1000 ∧ ∀ H', Ex H H' → Q .non H'
abbrev nCGates : List Str := ["gates", "inputs", "met", "at", "gate", "name"]
theorem scCGates : FnScope nCGates ["gates", "inputs"] (defScope dCGates) := ⟨rfl, rfl, rfl, by decide +kernel, rfl, by decide +kernel, by decide +kernel⟩
theorem okCGates {f : Addr} {fd : FuncData} (F : At K mg "check_gates" dCGates ["gates", "inputs"] f fd) (T : Txt K mg) (DT : DicT K w mg) : FnOk P w K mg base CX0 3 f fd ["gates", "inputs"] (spCGates K) := by
  obtain ⟨fL, fdL, FL⟩ := T.lst
  obtain ⟨fG, fdG, FG⟩ := T.isGate
  have GL : FnOk P w K mg base CX0 1 fL fdL ["value"] (spT K isList) := okList FL T
  have GG : FnOk P w K mg base CX0 2 fG fdG ["value"] (spIsGate K) := okIsGate FG T DT
  refine F.fn.ok scCGates (fun vs H Q E h => ?_) (fun cdv A outer s H vs Q E hr h => ?_)
  · obtain ⟨x, y, gs, zs, rfl, _⟩ := h
    rfl
  · obtain ⟨x, y, gs, zs, rfl, hd, hz, nd, ok, lg, lz, k⟩ := h
    have hu := hu_of hr
    have hr1 : Room 1 _ := hr.mono (by decide)
    refine ⟨_, pss_cons (ps_if (pt_not (pt_val (pe_call GL hr1 (by rfl) FL.gl FL.fn.kp FL.bi .nil pass0 (pa_cons (pv 0) pa_nil)))) (pss_one ps_never) pss_nil)
      (pss_cons (ps_setDc (i := 2) (own := [("name", 5)]) (g := gName 5) rfl scCGates.nd rfl rfl (sw_dict rfl rfl rfl (by decide +kernel)) (pi_list (pv 1)) (blkOk_by (own := [("name", 5)]) (N := nCGates) (sc := defScope dCGates) (by decide +kernel))
          (fun _ _ _ _ _ => pg_name (i := 5) scCGates.nd rfl (Or.inl rfl)) (fun _ _ _ _ _ => pts_nil) (fun _ _ _ _ _ => pv 5) (fun _ _ _ _ _ => pe_bl))
      (pss_one (ps_for PassesOwn.never rfl (pi_enum (by rfl) T.enumerate (pa_cons (pv 0) pa_nil)) (pg_tup rfl (pgs_cons (pg_name (i := 3) scCGates.nd rfl (Or.inl rfl)) (pgs_cons (pg_name (i := 4) scCGates.nd rfl (Or.inl rfl)) pgs_nil)))
        (pss_cons (ps_if (PW.pt (pw_or (pt_not (pt_val (pe_call GG hr (by rfl) FG.gl FG.fn.kp FG.bi .nil pass0 (pa_cons (pv 4) pa_nil)))) (pw_or1 (pt_cmp (pc_din hu (pe_ix ix_tup (pv 4) pe_int (fun _ _ => rfl)) (pv 2)))))) (pss_one ps_never) pss_nil)
          (pss_one (ps_dput hu (pv 2) (pe_ix ix_tup (pv 4) pe_int (fun _ _ => rfl)) pe_bl rfl)))))), ?_⟩
    refine rd_t (i := 0) rfl (.dp hd) fun H1 e1 => ⟨_, rfl, iteF ?_⟩
    obtain ⟨b, rfl, hb⟩ := txl_of hz
    refine ⟨_, rfl, b, rfl, ⟨_, ex_l e1 hb⟩, fun D nD => ?_⟩
    refine dc_each (as := zs) (em := V.str) (walk_list (K := K) (a := b)) (fun z => Sum.inr z) (fun _ => .bl true) (by omega) (fun H' e => ex_l (e1.trans e) hb) (fun z hz' => ev_var (i := 5) rfl) (fun z hz' => ev_c) ?_ nD (fun H2 e2 hD => ?_)
    · exact keys_nodup (f := fun z => z) (by rw [List.map_id']; exact (List.nodup_append.mp nd).1)
    cases hd with
    | @lst a xs _ ha da =>
      have len := dp_len da
      have x0 : Ex H H2 := e1.trans e2
      have hD0 : H D = none := ex_none e1 nD
      have grow : ∀ i, (zs ++ gnm (gs.take i)).length ≤ 2000 := fun i => by
        simp only [List.length_append, gnm, List.length_map, List.length_take]
        omega
      refine ⟨_, rfl, a, xs, rfl, ex_l x0 ha, for_it walk_enum (fun i σ Hc => (∃ u v, σ = [some (.ref a), some (.ref b), some (.ref D), u, v, none]) ∧ Ex H Hc ∧ Hc D = some (.dK (kTrue (zs ++ gnm (gs.take i)))))
        ⟨⟨_, _, rfl⟩, x0, ?_⟩ (fun i σ Hc _ p => ex_l p.2.1 ha) (fun i x σ Ha Hb hi p y => ?_) (fun σ Hc p => k Hc p.2.1)⟩
      · rw [hD]
        simp [kTrue, gnm]
      · obtain ⟨⟨u, v, rfl⟩, eA, hDa⟩ := p
        obtain ⟨t, y1, y2, rfl, nt, rfl, z1, z2⟩ := y
        cases z1
        have z2 : xs[i]? = some _ := z2
        obtain ⟨g, eg, dg⟩ := dp_nth da z2
        have gin : g ∈ gs := List.mem_of_getElem? eg
        have gnot : g.1 ∉ zs ++ gnm (gs.take i) := by
          have a1 : (zs ++ gnm gs)[zs.length + i]? = some g.1 := by
            rw [List.getElem?_append_right (by omega)]
            simp [gnm, eg]
          have a2 := not_in_take nd a1
          rwa [List.take_append, List.take_of_length_le (by omega), show zs.length + i - zs.length = i by omega, show (gnm gs).take i = gnm (gs.take i) by simp [gnm, List.map_take]] at a2
        have more : kTrue (zs ++ gnm (gs.take (i + 1))) = kTrue ((zs ++ gnm (gs.take i)) ++ [g.1]) := by
          rw [take_more eg]
          simp [gnm]
        have eB : Ex Ha (upd Ha t (.tup [.int (i : Nat), y2])) := Ex.new nt
        obtain ⟨tg, lg', rfl, htg, _⟩ := gate_of (dp_ex eA dg)
        refine ⟨t, _, rfl, st_of upd_same, rfl, _, _, rfl, _, _, rfl, rfl, ?_⟩
        show tSeq _ _ _ [some (.ref a), some (.ref b), some (.ref D), some (.int (i : Nat)), some (.ref tg), none] _
        refine rd_isGate (i := 4) rfl (dp_ex (eA.trans eB) dg) (ok g gin) fun H3 e3 => ⟨_, rfl, iteF ?_⟩
        have ht3 := ex_t (eB.trans e3) htg
        refine ⟨_, rfl, tg, _, 0, .str g.1, rfl, rfl, ht3, rfl, _, rfl, D, none, rfl, ?_, _, rfl, iteF ?_⟩
        · have q := DGet.k (k := Sum.inr g.1) (e3 _ _ (eB _ _ hDa))
          rw [kTrue_none gnot] at q
          exact q
        · refine ⟨_, rfl, _, rfl, tg, _, 0, .str g.1, rfl, rfl, ht3, rfl, D, _, rfl, DPut.k (k := Sum.inr g.1) (e3 _ _ (eB _ _ hDa)) ?_, ⟨_, _, rfl⟩, ?_, ?_⟩
          · have := grow i
            simp only [kTrue, List.length_map]
            exact Nat.lt_of_le_of_lt this (by decide)
          · exact (eA.trans (eB.trans e3)).mut hD0
          · rw [upd_same, kTrue_put gnot, more]
end
end W

set_option Elab.async false
set_option linter.all false
set_option maxRecDepth 100000
set_option maxHeartbeats 4000000
namespace W
open PySem PySem.Spec PyProof.Rows L2 Evl G C
section
variable {P : Program} {w : World} {K : PySem.W.Frag} {mg : Str → Option Value} {base : Heap}
/-! ### is_register -/
def spIsReg (K : PySem.W.Frag) : Sp := fun vs H Q _ => ∃ (x : V) (r : Rg), vs = [x] ∧ Dp K H x (regD r) ∧ regOk r ∧ ∀ H', Ex H H' → Q (.bl true) H'
abbrev nIsReg : List Str := ["value", "name", "first", "source"]
theorem scIsReg : FnScope nIsReg ["value"] (defScope dIsReg) := ⟨rfl, rfl, rfl, by decide +kernel, rfl, by decide +kernel, by decide +kernel⟩
theorem isBit_of {i : Int} (h : i = 0 ∨ i = 1) : isBit (.int i) = true := by rcases h with rfl | rfl <;> rfl
theorem okIsReg {f : Addr} {fd : FuncData} (F : At K mg "is_register" dIsReg ["value"] f fd) (T : Txt K mg) : FnOk P w K mg base CX0 3 f fd ["value"] (spIsReg K) := by
  obtain ⟨fB, fdB, FB⟩ := T.bit
  obtain ⟨fN, fdN, FN⟩ := T.name
  have GB : FnOk P w K mg base CX0 2 fB fdB ["value"] (spT K isBit) := okBit FB T
  have GN : FnOk P w K mg base CX0 1 fN fdN ["value"] (spTs K isName) := okName FN T
  refine F.fn.ok scIsReg (fun vs H Q E h => ?_) (fun cdv A outer s H vs Q E hr h => ?_)
  · obtain ⟨x, g, rfl, _⟩ := h
    rfl
  · obtain ⟨x, g, rfl, hd, ⟨o1, o2, o3⟩, k⟩ := h
    have hr1 : Room 1 _ := hr.mono (by decide)
    refine ⟨_, pss_cons (ps_if (PW.pt (pw_or (pt_not (pt_val (pe_callB call_isi (by rfl) T.isinstance (by decide +kernel) (pa_cons (pv 0) (pa_cons (pTy "tuple" (by rfl) T.tuple (by decide +kernel)) pa_nil)))))
        (pw_or1 (pt_cmpR op_ne (pe_callB call_len_seq (by rfl) T.len PySem.boot_len (pa_cons (pv 0) pa_nil)) pe_int (nomark _))))) (pss_one (ps_ret pe_bl)) pss_nil)
      (pss_cons (ps_asg (pv 0) (pg_tup rfl (pgs_cons (pg_name (i := 1) scIsReg.nd rfl (Or.inl rfl)) (pgs_cons (pg_name (i := 2) scIsReg.nd rfl (Or.inl rfl)) (pgs_cons (pg_name (i := 3) scIsReg.nd rfl (Or.inl rfl)) pgs_nil)))))
      (pss_one (ps_ret (pe_and (pe_call GN hr1 (by rfl) FN.gl FN.fn.kp FN.bi .nil pass0 (pa_cons (pv 1) pa_nil)) (pe_and (pe_call GB hr (by rfl) FB.gl FB.fn.kp FB.bi .nil pass0 (pa_cons (pv 2) pa_nil))
        (pe_one (pe_call GN hr1 (by rfl) FN.gl FN.fn.kp FN.bi .nil pass0 (pa_cons (pv 3) pa_nil)))))))), ?_⟩
    obtain ⟨t, rfl, ht⟩ := reg_of hd
    refine rd_isi (K := K) (i := 0) (T := "tuple") rfl (.dp hd) (kit_T (regD g)) ⟨_, rfl, ?_⟩
    refine iteF ?_
    refine ⟨_, rfl, t, _, rfl, .inr ht, rfl, _, rfl, ?_⟩
    refine iteF ?_
    refine ⟨_, rfl, t, _, rfl, ht, rfl, _, _, rfl, _, _, rfl, _, _, rfl, rfl, ?_⟩
    refine rd_ts (σ := [some (.ref t), some (.str g.1), some (.int g.2.1), some (.str g.2.2)]) (i := 1) rfl (.dp (.str g.1)) o1.szS fun H1 e1 => ⟨_, rfl, ?_⟩
    rw [o1.isN]
    refine iteT ?_
    refine rd_t (i := 2) rfl (.dp (.int g.2.1)) fun H2 e2 => ⟨_, rfl, ?_⟩
    rw [isBit_of o2]
    refine iteT ?_
    refine rd_ts (i := 3) rfl (.dp (.str g.2.2)) o3.szS fun H3 e3 => ?_
    rw [o3.isN]
    exact k H3 (e1.trans (e2.trans e3))
theorem rd_isReg {σ : L2.St} {H : Hp} {Q : VK} {x : V} {r : Rg} {i : Nat} {E : XK} (hs : σ[i]? = some (some x)) (hd : Dp K H x (regD r)) (ok : regOk r) (h : ∀ H', Ex H H' → Q (.bl true) H') : tCall (spIsReg K) [] E (tCons (tVar i) tNil) σ H Q := ⟨x, hs, x, r, rfl, hd, ok, h⟩
/-! ### check_registers -/
def rnm (rs : List Rg) : List Str := rs.map fun r => r.1
def spCRegs (K : PySem.W.Frag) : Sp := fun vs H Q _ => ∃ (x y : V) (gs : List Rg) (zs : List Str), vs = [x, y] ∧ Dp K H x (.list (gs.map regD)) ∧ Dp K H y (.list (txtD zs)) ∧ (zs ++ rnm gs).Nodup ∧ (∀ g ∈ gs, regOk g) ∧ gs.length ≤ 1000 ∧ zs.length ≤ 1000 ∧ ∀ H', Ex H H' → Q .non H'
abbrev nCRegs : List Str := ["registers", "taken", "met", "at", "row", "name"]
theorem scCRegs : FnScope nCRegs ["registers", "taken"] (defScope dCRegs) := ⟨rfl, rfl, rfl, by decide +kernel, rfl, by decide +kernel, by decide +kernel⟩
theorem okCRegs {f : Addr} {fd : FuncData} (F : At K mg "check_registers" dCRegs ["registers", "taken"] f fd) (T : Txt K mg) : FnOk P w K mg base CX0 4 f fd ["registers", "taken"] (spCRegs K) := by
  obtain ⟨fL, fdL, FL⟩ := T.lst
  obtain ⟨fG, fdG, FG⟩ := T.isReg
  have GL : FnOk P w K mg base CX0 1 fL fdL ["value"] (spT K isList) := okList FL T
  have GG : FnOk P w K mg base CX0 3 fG fdG ["value"] (spIsReg K) := okIsReg FG T
  refine F.fn.ok scCRegs (fun vs H Q E h => ?_) (fun cdv A outer s H vs Q E hr h => ?_)
  · obtain ⟨x, y, gs, zs, rfl, _⟩ := h
    rfl
  · obtain ⟨x, y, gs, zs, rfl, hd, hz, nd, ok, lg, lz, k⟩ := h
    have hu := hu_of hr
    have hr1 : Room 1 _ := hr.mono (by decide)
    refine ⟨_, pss_cons (ps_if (pt_not (pt_val (pe_call GL hr1 (by rfl) FL.gl FL.fn.kp FL.bi .nil pass0 (pa_cons (pv 0) pa_nil)))) (pss_one ps_never) pss_nil)
      (pss_cons (ps_setDc (i := 2) (own := [("name", 5)]) (g := gName 5) rfl scCRegs.nd rfl rfl (sw_dict rfl rfl rfl (by decide +kernel)) (pi_list (pv 1)) (blkOk_by (own := [("name", 5)]) (N := nCRegs) (sc := defScope dCRegs) (by decide +kernel))
          (fun _ _ _ _ _ => pg_name (i := 5) scCRegs.nd rfl (Or.inl rfl)) (fun _ _ _ _ _ => pts_nil) (fun _ _ _ _ _ => pv 5) (fun _ _ _ _ _ => pe_bl))
      (pss_one (ps_for PassesOwn.never rfl (pi_enum (by rfl) T.enumerate (pa_cons (pv 0) pa_nil)) (pg_tup rfl (pgs_cons (pg_name (i := 3) scCRegs.nd rfl (Or.inl rfl)) (pgs_cons (pg_name (i := 4) scCRegs.nd rfl (Or.inl rfl)) pgs_nil)))
        (pss_cons (ps_if (PW.pt (pw_or (pt_not (pt_val (pe_call GG hr (by rfl) FG.gl FG.fn.kp FG.bi .nil pass0 (pa_cons (pv 4) pa_nil)))) (pw_or1 (pt_cmp (pc_din hu (pe_ix ix_tup (pv 4) pe_int (fun _ _ => rfl)) (pv 2)))))) (pss_one ps_never) pss_nil)
          (pss_one (ps_dput hu (pv 2) (pe_ix ix_tup (pv 4) pe_int (fun _ _ => rfl)) pe_bl rfl)))))), ?_⟩
    refine rd_t (i := 0) rfl (.dp hd) fun H1 e1 => ⟨_, rfl, iteF ?_⟩
    obtain ⟨b, rfl, hb⟩ := txl_of hz
    refine ⟨_, rfl, b, rfl, ⟨_, ex_l e1 hb⟩, fun D nD => ?_⟩
    refine dc_each (as := zs) (em := V.str) (walk_list (K := K) (a := b)) (fun z => Sum.inr z) (fun _ => .bl true) (by omega) (fun H' e => ex_l (e1.trans e) hb) (fun z hz' => ev_var (i := 5) rfl) (fun z hz' => ev_c) ?_ nD (fun H2 e2 hD => ?_)
    · exact keys_nodup (f := fun z => z) (by rw [List.map_id']; exact (List.nodup_append.mp nd).1)
    cases hd with
    | @lst a xs _ ha da =>
      have len := dp_len da
      have x0 : Ex H H2 := e1.trans e2
      have hD0 : H D = none := ex_none e1 nD
      have grow : ∀ i, (zs ++ rnm (gs.take i)).length ≤ 2000 := fun i => by
        simp only [List.length_append, rnm, List.length_map, List.length_take]
        omega
      refine ⟨_, rfl, a, xs, rfl, ex_l x0 ha, for_it walk_enum (fun i σ Hc => (∃ u v, σ = [some (.ref a), some (.ref b), some (.ref D), u, v, none]) ∧ Ex H Hc ∧ Hc D = some (.dK (kTrue (zs ++ rnm (gs.take i)))))
        ⟨⟨_, _, rfl⟩, x0, ?_⟩ (fun i σ Hc _ p => ex_l p.2.1 ha) (fun i x σ Ha Hb hi p y => ?_) (fun σ Hc p => k Hc p.2.1)⟩
      · rw [hD]
        simp [kTrue, rnm]
      · obtain ⟨⟨u, v, rfl⟩, eA, hDa⟩ := p
        obtain ⟨t, y1, y2, rfl, nt, rfl, z1, z2⟩ := y
        cases z1
        have z2 : xs[i]? = some _ := z2
        obtain ⟨g, eg, dg⟩ := dp_nth da z2
        have gin : g ∈ gs := List.mem_of_getElem? eg
        have gnot : g.1 ∉ zs ++ rnm (gs.take i) := by
          have a1 : (zs ++ rnm gs)[zs.length + i]? = some g.1 := by
            rw [List.getElem?_append_right (by omega)]
            simp [rnm, eg]
          have a2 := not_in_take nd a1
          rwa [List.take_append, List.take_of_length_le (by omega), show zs.length + i - zs.length = i by omega, show (rnm gs).take i = rnm (gs.take i) by simp [rnm, List.map_take]] at a2
        have more : kTrue (zs ++ rnm (gs.take (i + 1))) = kTrue ((zs ++ rnm (gs.take i)) ++ [g.1]) := by
          rw [take_more eg]
          simp [rnm]
        have eB : Ex Ha (upd Ha t (.tup [.int (i : Nat), y2])) := Ex.new nt
        obtain ⟨tg, rfl, htg⟩ := reg_of (dp_ex eA dg)
        refine ⟨t, _, rfl, st_of upd_same, rfl, _, _, rfl, _, _, rfl, rfl, ?_⟩
        show tSeq _ _ _ [some (.ref a), some (.ref b), some (.ref D), some (.int (i : Nat)), some (.ref tg), none] _
        refine rd_isReg (i := 4) rfl (dp_ex (eA.trans eB) dg) (ok g gin) fun H3 e3 => ⟨_, rfl, iteF ?_⟩
        have ht3 := ex_t (eB.trans e3) htg
        refine ⟨_, rfl, tg, _, 0, .str g.1, rfl, rfl, ht3, rfl, _, rfl, D, none, rfl, ?_, _, rfl, iteF ?_⟩
        · have q := DGet.k (k := Sum.inr g.1) (e3 _ _ (eB _ _ hDa))
          rw [kTrue_none gnot] at q
          exact q
        · refine ⟨_, rfl, _, rfl, tg, _, 0, .str g.1, rfl, rfl, ht3, rfl, D, _, rfl, DPut.k (k := Sum.inr g.1) (e3 _ _ (eB _ _ hDa)) ?_, ⟨_, _, rfl⟩, ?_, ?_⟩
          · have := grow i
            simp only [kTrue, List.length_map]
            exact Nat.lt_of_le_of_lt this (by decide)
          · exact (eA.trans (eB.trans e3)).mut hD0
          · rw [upd_same, kTrue_put gnot, more]
/-! ### check_sources, check_outputs, check_number -/
def has (kvs : List (Key × V)) (z : Str) : Prop := ∃ v, valV kvs (Sum.inr z) = some v
def spCSources (K : PySem.W.Frag) : Sp := fun vs H Q _ => ∃ (l d : Addr) (ys : List Str) (kvs : List (Key × V)), vs = [.ref l, .ref d] ∧ SqL K H l (ys.map V.str) ∧ H d = some (.dK kvs) ∧ (∀ y ∈ ys, has kvs y) ∧ ∀ H', Ex H H' → Q .non H'
theorem scCSources : FnScope ["sources", "wires", "source"] ["sources", "wires"] (defScope dCSources) := ⟨rfl, rfl, rfl, by decide +kernel, rfl, by decide +kernel, by decide +kernel⟩
theorem okCSources {f : Addr} {fd : FuncData} (F : At K mg "check_sources" dCSources ["sources", "wires"] f fd) (T : Txt K mg) : FnOk P w K mg base CX0 1 f fd ["sources", "wires"] (spCSources K) := by
  refine F.fn.ok scCSources (fun vs H Q E h => ?_) (fun cdv A outer s H vs Q E hr h => ?_)
  · obtain ⟨l, d, ys, kvs, rfl, _⟩ := h
    rfl
  · obtain ⟨l, d, ys, kvs, rfl, hl, hd, hy, k⟩ := h
    have hu := hu_of hr
    refine ⟨_, pss_one (ps_for PassesOwn.never rfl (pi_list (pv 0)) (pg_name (i := 2) scCSources.nd rfl (Or.inl rfl))
        (pss_one (ps_if (pt_cmp (pc_dnotin hu (pv 2) (pv 1))) (pss_one ps_never) pss_nil))), ?_⟩
    refine ⟨_, rfl, l, rfl, ⟨_, hl⟩, for_list (K := K) (a := l) (xs := ys.map V.str) (fun i σ Hc => (∃ u, σ = [some (.ref l), some (.ref d), u]) ∧ Hc = H) ⟨⟨_, rfl⟩, rfl⟩ (fun i σ Hc _ p => by rw [p.2]; exact hl) (fun i x σ Hc hi p => ?_) (fun σ Hc p => by rw [p.2]; exact k H (Ex.refl H))⟩
    obtain ⟨⟨u, rfl⟩, rfl⟩ := p
    obtain ⟨y, ey, rfl⟩ := nth_map hi
    obtain ⟨v, hv⟩ := hy y (List.mem_of_getElem? ey)
    refine ⟨_, rfl, _, rfl, d, some v, rfl, ?_, _, rfl, iteF ⟨⟨_, rfl⟩, rfl⟩⟩
    have q := DGet.k (k := Sum.inr y) hd
    rw [hv] at q
    exact q
def spCOutputs (K : PySem.W.Frag) : Sp := fun vs H Q _ => ∃ (x : V) (d : Addr) (ys : List Str) (kvs : List (Key × V)), vs = [x, .ref d] ∧ Dp K H x (.list (txtD ys)) ∧ H d = some (.dK kvs) ∧ (∀ y ∈ ys, has kvs y) ∧ ∀ H', Ex H H' → Q .non H'
theorem scCOutputs : FnScope ["outputs", "wires", "at", "wire"] ["outputs", "wires"] (defScope dCOutputs) := ⟨rfl, rfl, rfl, by decide +kernel, rfl, by decide +kernel, by decide +kernel⟩
theorem okCOutputs {f : Addr} {fd : FuncData} (F : At K mg "check_outputs" dCOutputs ["outputs", "wires"] f fd) (T : Txt K mg) : FnOk P w K mg base CX0 2 f fd ["outputs", "wires"] (spCOutputs K) := by
  obtain ⟨fL, fdL, FL⟩ := T.lst
  have GL : FnOk P w K mg base CX0 1 fL fdL ["value"] (spT K isList) := okList FL T
  refine F.fn.ok scCOutputs (fun vs H Q E h => ?_) (fun cdv A outer s H vs Q E hr h => ?_)
  · obtain ⟨l, d, ys, kvs, rfl, _⟩ := h
    rfl
  · obtain ⟨x, d, ys, kvs, rfl, hx, hd, hy, k⟩ := h
    have hu := hu_of hr
    refine ⟨_, pss_cons (ps_if (pt_not (pt_val (pe_call GL hr (by rfl) FL.gl FL.fn.kp FL.bi .nil pass0 (pa_cons (pv 0) pa_nil)))) (pss_one ps_never) pss_nil)
      (pss_one (ps_for PassesOwn.never rfl (pi_enum (by rfl) T.enumerate (pa_cons (pv 0) pa_nil)) (pg_tup rfl (pgs_cons (pg_name (i := 2) scCOutputs.nd rfl (Or.inl rfl)) (pgs_cons (pg_name (i := 3) scCOutputs.nd rfl (Or.inl rfl)) pgs_nil)))
        (pss_one (ps_if (PW.pt (pw_or (pt_not (pt_val (pe_callB call_isi (by rfl) T.isinstance (by decide +kernel) (pa_cons (pv 3) (pa_cons (pTy "str" (by rfl) T.str (by decide +kernel)) pa_nil)))))
          (pw_or1 (pt_cmp (pc_dnotin hu (pv 3) (pv 1)))))) (pss_one ps_never) pss_nil)))), ?_⟩
    refine rd_t (i := 0) rfl (.dp hx) fun H1 e1 => ⟨_, rfl, iteF ?_⟩
    obtain ⟨l, rfl, hl⟩ := txl_of hx
    refine ⟨_, rfl, l, ys.map V.str, rfl, ex_l e1 hl, for_it walk_enum (fun i σ Hc => (∃ u v, σ = [some (.ref l), some (.ref d), u, v]) ∧ Ex H Hc) ⟨⟨_, _, rfl⟩, e1⟩ (fun i σ Hc _ p => ex_l p.2 hl) (fun i x σ Ha Hb hi p y => ?_) (fun σ Hc p => k Hc p.2)⟩
    obtain ⟨⟨u, v, rfl⟩, eA⟩ := p
    obtain ⟨t, y1, y2, rfl, nt, rfl, z1, z2⟩ := y
    cases z1
    obtain ⟨y, ey, rfl⟩ := nth_map (show (ys.map V.str)[i]? = some _ from z2)
    obtain ⟨v', hv⟩ := hy y (List.mem_of_getElem? ey)
    have eB := eA.trans (Ex.new (o := .tup [.int (i : Nat), .str y]) nt)
    refine ⟨t, _, rfl, st_of upd_same, rfl, _, _, rfl, _, _, rfl, rfl, ?_⟩
    refine rd_isi (K := K) (σ := [some (.ref l), some (.ref d), some (.int (i : Nat)), some (.str y)]) (i := 3) (T := "str") rfl (.dp (.str y)) (kit_S (.str y)) ⟨_, rfl, ?_⟩
    refine iteF ?_
    refine ⟨_, rfl, _, rfl, d, some v', rfl, ?_, _, rfl, iteF ⟨⟨_, _, rfl⟩, eB⟩⟩
    have q := DGet.k (k := Sum.inr y) (eB _ _ hd)
    rw [hv] at q
    exact q
def spCNumber (K : PySem.W.Frag) : Sp := fun vs H Q _ => ∃ (z : Str) (l : Addr) (xs : List V) (n : Nat), vs = [.str z, .ref l, .int (n : Int)] ∧ SqL K H l xs ∧ xs.length ≤ n ∧ Q .non H
theorem scCNumber : FnScope ["what", "rows", "limit"] ["what", "rows", "limit"] (defScope dCNumber) := ⟨rfl, rfl, rfl, by decide +kernel, rfl, by decide +kernel, by decide +kernel⟩
theorem okCNumber {f : Addr} {fd : FuncData} (F : At K mg "check_number" dCNumber ["what", "rows", "limit"] f fd) (T : Txt K mg) : FnOk P w K mg base CX0 1 f fd ["what", "rows", "limit"] (spCNumber K) := by
  refine F.fn.ok scCNumber (fun vs H Q E h => ?_) (fun cdv A outer s H vs Q E hr h => ?_)
  · obtain ⟨z, l, xs, n, rfl, _⟩ := h
    rfl
  · obtain ⟨z, l, xs, n, rfl, hl, le, k⟩ := h
    refine ⟨_, pss_one (ps_if (pt_cmpR op_gt (pe_callB call_len_seq (by rfl) T.len PySem.boot_len (pa_cons (pv 1) pa_nil)) (pv 2) (nomark _)) (pss_one ps_never) pss_nil), ?_⟩
    refine ⟨_, rfl, l, xs, rfl, .inl hl, _, rfl, _, _, rfl, rfl, _, rfl, ?_⟩
    rw [show decide ((n : Int) < (xs.length : Int)) = false from decide_eq_false (by omega)]
    exact iteF k
end
end W

set_option Elab.async false
set_option linter.all false
set_option maxRecDepth 100000
set_option maxHeartbeats 4000000
/-! Gates one behind another, by counting what each still waits for. -/
namespace C
open PySem G
/-- the sources among ks, once each -/
def fz (ks zs : List Str) : List Str := zs.foldl (fun acc z => if z ∈ ks then ins z acc else acc) []
theorem fz_snoc (ks zs : List Str) (z : Str) : fz ks (zs ++ [z]) = if z ∈ ks then ins z (fz ks zs) else fz ks zs := by
  unfold fz
  rw [List.foldl_append]
  rfl
theorem mem_ins {z y : Str} {l : List Str} : y ∈ ins z l ↔ y = z ∨ y ∈ l := by
  unfold ins
  split
  · next h => exact ⟨.inr, fun q => q.elim (fun e => e ▸ h) id⟩
  · exact List.mem_cons
theorem nd_ins {z : Str} {l : List Str} (h : l.Nodup) : (ins z l).Nodup := by
  unfold ins
  split
  · exact h
  · next q => exact List.nodup_cons.mpr ⟨q, h⟩
theorem rev_ind {α : Type} {p : List α → Prop} (h0 : p []) (hs : ∀ l a, p l → p (l ++ [a])) (l : List α) : p l := by
  have q : ∀ r : List α, p r.reverse := by
    intro r
    induction r with
    | nil => exact h0
    | cons a r ih =>
      rw [List.reverse_cons]
      exact hs _ _ ih
  have := q l.reverse
  rwa [List.reverse_reverse] at this
theorem mem_fz {ks zs : List Str} {y : Str} : y ∈ fz ks zs ↔ y ∈ zs ∧ y ∈ ks := by
  induction zs using rev_ind with
  | h0 => simp [fz]
  | hs l a ih =>
    rw [fz_snoc]
    split
    · next h =>
      rw [mem_ins, ih]
      constructor
      · rintro (rfl | ⟨q, r⟩)
        · exact ⟨by simp, h⟩
        · exact ⟨by simp [q], r⟩
      · rintro ⟨q, r⟩
        rcases List.mem_append.mp q with q | q
        · exact .inr ⟨q, r⟩
        · exact .inl (List.mem_singleton.mp q)
    · next h =>
      rw [ih]
      constructor
      · rintro ⟨q, r⟩
        exact ⟨by simp [q], r⟩
      · rintro ⟨q, r⟩
        rcases List.mem_append.mp q with q | q
        · exact ⟨q, r⟩
        · exact absurd (List.mem_singleton.mp q ▸ r) h
theorem nd_fz {ks zs : List Str} : (fz ks zs).Nodup := by
  induction zs using rev_ind with
  | h0 => exact List.nodup_nil
  | hs l a ih =>
    rw [fz_snoc]
    split
    · exact nd_ins ih
    · exact ih
theorem len_fz {ks zs : List Str} : (fz ks zs).length ≤ zs.length := by
  induction zs using rev_ind with
  | h0 => exact Nat.le_refl _
  | hs l a ih =>
    rw [fz_snoc, List.length_append]
    split
    · unfold ins
      split
      · exact Nat.le_trans ih (Nat.le_add_right _ _)
      · exact Nat.succ_le_succ ih
    · exact Nat.le_trans ih (Nat.le_add_right _ _)
section
variable (gs : List (Str × List Str))
def ks : List Str := gs.map Prod.fst
/-- the gates that read z -/
def rdr (z : Str) : List Str := (gs.filter fun g => decide (z ∈ fz (ks gs) g.2)).map Prod.fst
/-- t is told, what stands in y is ready, wf tells for how many each waits -/
structure Half (t y : List Str) (wf : Str → Int) : Prop where
  nd : (t ++ y).Nodup
  sub : ∀ z ∈ t ++ y, z ∈ ks gs
  cnt : ∀ g ∈ gs, wf g.1 = (((fz (ks gs) g.2).filter fun z => decide (z ∉ t)).length : Nat)
  rdy : ∀ g ∈ gs, g.1 ∈ t ++ y ↔ wf g.1 = 0
  tp : ∀ pre z post, t = pre ++ z :: post → ∀ g ∈ gs, g.1 = z → ∀ x ∈ fz (ks gs) g.2, x ∈ pre
variable {gs}
theorem Half.start {y : List Str} {wf : Str → Int} (nd : (ks gs).Nodup) (hw : ∀ g ∈ gs, wf g.1 = ((fz (ks gs) g.2).length : Nat)) (hy : y.Perm ((gs.filter fun g => decide (fz (ks gs) g.2 = [])).map Prod.fst)) : Half gs [] y wf := by
  refine ⟨?_, ?_, ?_, ?_, ?_⟩
  · rw [List.nil_append]
    exact hy.nodup_iff.mpr (nd.sublist (List.filter_sublist.map Prod.fst))
  · intro z hz
    obtain ⟨g, hg, rfl⟩ := List.mem_map.mp (hy.mem_iff.mp hz)
    exact List.mem_map.mpr ⟨g, (List.mem_filter.mp hg).1, rfl⟩
  · intro g hg
    rw [hw g hg, List.filter_eq_self.mpr (fun z hz => by simp)]
  · intro g hg
    rw [List.nil_append, hy.mem_iff, hw g hg]
    constructor
    · intro m
      obtain ⟨g', hg', e⟩ := List.mem_map.mp m
      obtain ⟨h1, h2⟩ := List.mem_filter.mp hg'
      have := eq_of_nd nd h1 hg e
      subst this
      rw [of_decide_eq_true h2]
      rfl
    · intro z
      have : (fz (ks gs) g.2).length = 0 := by omega
      exact List.mem_map.mpr ⟨g, List.mem_filter.mpr ⟨hg, decide_eq_true (List.length_eq_zero_iff.mp this)⟩, rfl⟩
  · intro pre z post e
    simp at e
where
  eq_of_nd {gs : List (Str × List Str)} (nd : (ks gs).Nodup) {a b : Str × List Str} (ha : a ∈ gs) (hb : b ∈ gs) (e : a.1 = b.1) : a = b := by
    induction gs with
    | nil => cases ha
    | cons g r ih =>
      unfold ks at nd
      rw [List.map_cons, List.nodup_cons] at nd
      rcases List.mem_cons.mp ha with ha | ha <;> rcases List.mem_cons.mp hb with hb | hb
      · rw [ha, hb]
      · exact absurd (List.mem_map.mpr ⟨b, hb, by rw [← e, ha]⟩) nd.1
      · exact absurd (List.mem_map.mpr ⟨a, ha, by rw [e, hb]⟩) nd.1
      · exact ih nd.2 ha hb
theorem eq_of_nd (nd : (ks gs).Nodup) {a b : Str × List Str} (ha : a ∈ gs) (hb : b ∈ gs) (e : a.1 = b.1) : a = b := Half.start.eq_of_nd nd ha hb e
theorem mem_rdr (nd : (ks gs).Nodup) {z : Str} {g : Str × List Str} (hg : g ∈ gs) : g.1 ∈ rdr gs z ↔ z ∈ fz (ks gs) g.2 := by
  unfold rdr
  constructor
  · intro m
    obtain ⟨g', hg', e⟩ := List.mem_map.mp m
    obtain ⟨h1, h2⟩ := List.mem_filter.mp hg'
    rw [← eq_of_nd nd h1 hg e]
    exact of_decide_eq_true h2
  · intro m
    exact List.mem_map.mpr ⟨g, List.mem_filter.mpr ⟨hg, decide_eq_true m⟩, rfl⟩
theorem rdr_sub {z x : Str} (h : x ∈ rdr gs z) : ∃ g ∈ gs, g.1 = x ∧ z ∈ fz (ks gs) g.2 := by
  obtain ⟨g, hg, rfl⟩ := List.mem_map.mp h
  obtain ⟨h1, h2⟩ := List.mem_filter.mp hg
  exact ⟨g, h1, rfl, of_decide_eq_true h2⟩
theorem rdr_nd (nd : (ks gs).Nodup) {z : Str} : (rdr gs z).Nodup := nd.sublist (List.filter_sublist.map Prod.fst)
/-- one out less -/
theorem filter_less {l t : List Str} {z : Str} (nd : l.Nodup) (hz : z ∉ t) : (l.filter fun x => decide (x ∉ t ++ [z])).length + (if z ∈ l then 1 else 0) = (l.filter fun x => decide (x ∉ t)).length := by
  induction l with
  | nil => rfl
  | cons a r ih =>
    obtain ⟨n1, n2⟩ := List.nodup_cons.mp nd
    have ih := ih n2
    by_cases e : a = z
    · subst e
      have h1 : decide (a ∉ t ++ [a]) = false := by simp
      have h2 : decide (a ∉ t) = true := by simp [hz]
      rw [List.filter_cons, List.filter_cons, h1, h2, if_neg (by decide), if_pos rfl, if_pos List.mem_cons_self, List.length_cons]
      rw [if_neg n1] at ih
      omega
    · have h1 : decide (a ∉ t ++ [z]) = decide (a ∉ t) := by simp [e]
      have h2 : (z ∈ a :: r) = (z ∈ r) := by
        rw [List.mem_cons]
        exact propext ⟨fun q => q.elim (fun x => absurd x.symm e) id, .inr⟩
      rw [List.filter_cons, List.filter_cons, h1]
      simp only [h2]
      split
      · rw [List.length_cons, List.length_cons]
        omega
      · exact ih
theorem Half.step {t y y1 y2 : List Str} {wf : Str → Int} {z : Str} (h : Half gs t y wf) (nd : (ks gs).Nodup) (hz : (z :: y1).Perm y) (h2 : y2.Perm (y1 ++ (rdr gs z).filter fun g => decide (wf g = 1))) :
    Half gs (t ++ [z]) y2 (fun g => if g ∈ rdr gs z then wf g - 1 else wf g) := by
  have zy : z ∈ y := hz.mem_iff.mp List.mem_cons_self
  have zt : z ∉ t := fun m => (List.nodup_append.mp h.nd).2.2 z m z zy rfl
  have pm : ((t ++ [z]) ++ y1).Perm (t ++ y) := by
    rw [List.append_assoc]
    exact List.Perm.append_left t hz
  have nd1 : ((t ++ [z]) ++ y1).Nodup := pm.nodup_iff.mpr h.nd
  -- a reader of z waits still
  have wait : ∀ g ∈ gs, z ∈ fz (ks gs) g.2 → 1 ≤ wf g.1 := by
    intro g hg m
    have := filter_less (nd_fz (ks := ks gs) (zs := g.2)) zt
    rw [if_pos m] at this
    rw [h.cnt g hg]
    omega
  have new : ∀ x ∈ (rdr gs z).filter (fun g => decide (wf g = 1)), x ∉ t ++ y := by
    intro x hx m
    obtain ⟨h1, _⟩ := List.mem_filter.mp hx
    obtain ⟨g, hg, rfl, hm⟩ := rdr_sub h1
    have := (h.rdy g hg).mp m
    have := wait g hg hm
    omega
  refine ⟨?_, ?_, ?_, ?_, ?_⟩
  · have p2 : ((t ++ [z]) ++ y2).Perm (((t ++ [z]) ++ y1) ++ (rdr gs z).filter fun g => decide (wf g = 1)) := by
      rw [List.append_assoc (t ++ [z]) y1]
      exact List.Perm.append_left _ h2
    rw [p2.nodup_iff]
    refine List.nodup_append.mpr ⟨nd1, (rdr_nd nd).sublist List.filter_sublist, fun a ha b hb e => ?_⟩
    subst e
    exact new a hb (pm.mem_iff.mp ha)
  · intro x hx
    rcases List.mem_append.mp hx with hx | hx
    · rcases List.mem_append.mp hx with hx | hx
      · exact h.sub x (List.mem_append_left _ hx)
      · rw [List.mem_singleton.mp hx]
        exact h.sub z (List.mem_append_right _ zy)
    · rcases List.mem_append.mp (h2.mem_iff.mp hx) with hx | hx
      · exact h.sub x (List.mem_append_right _ (hz.mem_iff.mp (List.mem_cons_of_mem _ hx)))
      · obtain ⟨g, hg, rfl, _⟩ := rdr_sub (List.mem_filter.mp hx).1
        exact List.mem_map.mpr ⟨g, hg, rfl⟩
  · intro g hg
    have q := filter_less (nd_fz (ks := ks gs) (zs := g.2)) zt
    have c := h.cnt g hg
    show (if g.1 ∈ rdr gs z then wf g.1 - 1 else wf g.1) = _
    by_cases m : z ∈ fz (ks gs) g.2
    · rw [if_pos ((mem_rdr nd hg).mpr m)]
      rw [if_pos m] at q
      omega
    · rw [if_neg fun r => m ((mem_rdr nd hg).mp r)]
      rw [if_neg m] at q
      omega
  · intro g hg
    have old := h.rdy g hg
    rw [← pm.mem_iff] at old
    show _ ↔ (if g.1 ∈ rdr gs z then wf g.1 - 1 else wf g.1) = 0
    have split2 : g.1 ∈ (t ++ [z]) ++ y2 ↔ g.1 ∈ (t ++ [z]) ++ y1 ∨ g.1 ∈ (rdr gs z).filter fun g => decide (wf g = 1) := by
      rw [List.mem_append, h2.mem_iff, List.mem_append (s := y1), List.mem_append (t := y1)]
      exact or_assoc.symm
    rw [split2, List.mem_filter, decide_eq_true_eq]
    by_cases m : z ∈ fz (ks gs) g.2
    · have r := (mem_rdr nd hg).mpr m
      rw [if_pos r]
      have := wait g hg m
      constructor
      · rintro (q | ⟨_, q⟩)
        · have := old.mp q
          omega
        · omega
      · intro q
        exact .inr ⟨r, by omega⟩
    · have r : g.1 ∉ rdr gs z := fun r => m ((mem_rdr nd hg).mp r)
      rw [if_neg r]
      exact ⟨fun q => q.elim old.mp fun x => absurd x.1 r, fun q => .inl (old.mpr q)⟩
  · intro pre x post e g hg ex y hy
    rcases List.eq_nil_or_concat post with rfl | ⟨post', b, rfl⟩
    · have e2 : t = pre ∧ z = x := by
        have := List.append_inj' e rfl
        exact ⟨this.1, (List.cons.inj this.2).1⟩
      obtain ⟨rfl, rfl⟩ := e2
      -- z was ready: it waited for nothing
      have : wf g.1 = 0 := (h.rdy g hg).mp (by rw [ex]; exact List.mem_append_right _ zy)
      rw [h.cnt g hg] at this
      have l0 : ((fz (ks gs) g.2).filter fun z => decide (z ∉ t)).length = 0 := by omega
      have := List.length_eq_zero_iff.mp l0
      rw [List.filter_eq_nil_iff] at this
      have := this y hy
      simpa using this
    · have e' : t ++ [z] = (pre ++ x :: post') ++ [b] := by rw [e]; simp
      have := List.append_inj' e' rfl
      exact h.tp pre x post' this.1 g hg ex y hy
theorem Half.done {t : List Str} {wf : Str → Int} (h : Half gs t [] wf) (nd : (ks gs).Nodup) (rk : Ranked gs) : Topo gs t := by
  obtain ⟨f, hf⟩ := rk
  have ndt : t.Nodup := by
    have := h.nd
    rwa [List.append_nil] at this
  have all : ∀ n, ∀ g ∈ gs, f g.1 ≤ n → g.1 ∈ t := by
    intro n
    induction n using Nat.strongRecOn with
    | ind n ih =>
      intro g hg le
      have : wf g.1 = 0 := by
        rw [h.cnt g hg]
        have : ((fz (ks gs) g.2).filter fun z => decide (z ∉ t)) = [] := by
          rw [List.filter_eq_nil_iff]
          intro y hy
          obtain ⟨y1, y2⟩ := mem_fz.mp hy
          have lt := hf g hg y y1 y2
          obtain ⟨g', hg', rfl⟩ := List.mem_map.mp y2
          have := ih (f g'.1) (by omega) g' hg' (Nat.le_refl _)
          simp [this]
        rw [this]
        rfl
      have := (h.rdy g hg).mpr this
      rwa [List.append_nil] at this
  refine ⟨?_, ?_⟩
  · refine (List.perm_ext_iff_of_nodup ndt nd).mpr fun a => ⟨fun m => h.sub a (List.mem_append_left _ m), fun m => ?_⟩
    obtain ⟨g, hg, rfl⟩ := List.mem_map.mp m
    exact all (f g.1) g hg (Nat.le_refl _)
  · intro pre z post e zs hz y hy hk
    exact h.tp pre z post e (z, zs) hz rfl y (mem_fz.mpr ⟨hy, hk⟩)
end
end C

set_option Elab.async false
set_option linter.all false
set_option maxRecDepth 100000
set_option maxHeartbeats 4000000
namespace W
open PySem PySem.Spec PyProof.Rows L2 Evl G C
theorem inj_nd {α β : Type} {f : α → β} : ∀ {l : List α}, (l.map f).Nodup → ∀ {a b : α}, a ∈ l → b ∈ l → f a = f b → a = b
  | [], _, _, _, h, _, _ => by cases h
  | c :: r, nd, a, b, ha, hb, e => by
    rw [List.map_cons, List.nodup_cons] at nd
    rcases List.mem_cons.mp ha with ha | ha <;> rcases List.mem_cons.mp hb with hb | hb
    · rw [ha, hb]
    · exact absurd (List.mem_map.mpr ⟨b, hb, by rw [← e, ha]⟩) nd.1
    · exact absurd (List.mem_map.mpr ⟨a, ha, by rw [e, hb]⟩) nd.1
    · exact inj_nd nd.2 ha hb e
/-! ### dicts from names to tuples of names -/
abbrev Pr := (Str × List Str) × Addr
def kvP (ps : List Pr) : List (Key × V) := ps.map fun p => (Sum.inr p.1.1, V.ref p.2)
structure KvT (K : PySem.W.Frag) (H : Hp) (kvs : List (Key × V)) (gs : List (Str × List Str)) (ps : List Pr) : Prop where
  fst : ps.map Prod.fst = gs
  kv : kvs = kvP ps
  each : ∀ p ∈ ps, SqT K H p.2 (p.1.2.map V.str)
section
variable {K : PySem.W.Frag} {H H' : Hp} {kvs : List (Key × V)} {gs : List (Str × List Str)} {ps : List Pr}
theorem KvT.ext (h : KvT K H kvs gs ps) (e : ∀ a xs, SqT K H a xs → SqT K H' a xs) : KvT K H' kvs gs ps := ⟨h.fst, h.kv, fun p hp => e _ _ (h.each p hp)⟩
theorem KvT.hit (h : KvT K H kvs gs ps) (nd : (ks gs).Nodup) {g : Str × List Str} (m : g ∈ gs) : ∃ t, valV kvs (Sum.inr g.1) = some (.ref t) ∧ SqT K H t (g.2.map V.str) := by
  rw [← h.fst] at m nd
  obtain ⟨p, hp, rfl⟩ := List.mem_map.mp m
  refine ⟨p.2, ?_, h.each p hp⟩
  rw [h.kv]
  refine valV_hit (fun p : Pr => (Sum.inr p.1.1 : Key)) (fun p => V.ref p.2) ps p hp fun b hb e => ?_
  unfold ks at nd
  rw [List.map_map] at nd
  exact inj_nd nd hb hp (Sum.inr.inj e)
theorem KvT.len (h : KvT K H kvs gs ps) : kvs.length = gs.length := by
  rw [h.kv, ← h.fst]
  simp [kvP]
theorem KvT.nth (h : KvT K H kvs gs ps) {i : Nat} {k : Key} {v : V} (e : kvs[i]? = some (k, v)) : ∃ g, gs[i]? = some g ∧ k = Sum.inr g.1 := by
  rw [h.kv] at e
  unfold kvP at e
  rw [List.getElem?_map] at e
  cases q : ps[i]? with
  | none => rw [q] at e; cases e
  | some p =>
    rw [q] at e
    refine ⟨p.1, ?_, ?_⟩
    · rw [← h.fst, List.getElem?_map, q]
      rfl
    · have := Option.some.inj e
      exact (congrArg Prod.fst this).symm
theorem KvT.isSome (h : KvT K H kvs gs ps) (z : Str) : (valV kvs (Sum.inr z)).isSome = decide (z ∈ ks gs) := by
  have q : valV kvs (Sum.inr z) = none ↔ z ∉ ks gs := by
    rw [h.kv]
    unfold kvP
    rw [valV_map (fun p : Pr => (Sum.inr p.1.1 : Key)) (fun p => V.ref p.2)]
    unfold ks
    rw [← h.fst, List.map_map]
    constructor
    · intro a m
      obtain ⟨p, hp, e⟩ := List.mem_map.mp m
      exact a p hp (congrArg Sum.inr e)
    · intro a p hp e
      exact a (List.mem_map.mpr ⟨p, hp, Sum.inr.inj e⟩)
  by_cases m : z ∈ ks gs
  · rw [decide_eq_true m]
    cases v : valV kvs (Sum.inr z) with
    | none => exact absurd m (q.mp v)
    | some _ => rfl
  · rw [decide_eq_false m, q.mpr m]
    rfl
end
/-! ### dicts from names to lists of names of their own -/
def kvR (rs : List (Str × Addr)) : List (Key × V) := rs.map fun r => (Sum.inr r.1, V.ref r.2)
structure RdO (H : Hp) (D : Addr) (rs : List (Str × Addr)) (R : Str → List Str) : Prop where
  at_ : H D = some (.dK (kvR rs))
  nk : (rs.map Prod.fst).Nodup
  na : (rs.map Prod.snd).Nodup
  each : ∀ r ∈ rs, H r.2 = some (.lst ((R r.1).map V.str))
section
variable {H H' : Hp} {D b : Addr} {rs : List (Str × Addr)} {R : Str → List Str} {o : HO}
theorem RdO.hit (h : RdO H D rs R) {r : Str × Addr} (m : r ∈ rs) : valV (kvR rs) (Sum.inr r.1) = some (.ref r.2) :=
  valV_hit (fun r : Str × Addr => (Sum.inr r.1 : Key)) (fun r => V.ref r.2) rs r m fun _ hb e => inj_nd h.nk hb m (Sum.inr.inj e)
theorem RdO.of {z : Str} (m : z ∈ rs.map Prod.fst) : ∃ l, (z, l) ∈ rs := by
  obtain ⟨r, hr, rfl⟩ := List.mem_map.mp m
  exact ⟨r.2, hr⟩
theorem RdO.other (h : RdO H D rs R) (h1 : b ≠ D) (h2 : b ∉ rs.map Prod.snd) : RdO (upd H b o) D rs R := by
  refine ⟨?_, h.nk, h.na, fun r hr => ?_⟩
  · rw [upd_ne (Ne.symm h1)]
    exact h.at_
  · rw [upd_ne fun e => h2 (List.mem_map.mpr ⟨r, hr, e⟩)]
    exact h.each r hr
theorem RdO.ext (h : RdO H D rs R) (e : Ex H H') : RdO H' D rs R := ⟨e _ _ h.at_, h.nk, h.na, fun r hr => e _ _ (h.each r hr)⟩
theorem RdO.put (h : RdO H D rs R) {z x : Str} {l : Addr} (m : (z, l) ∈ rs) : RdO (upd H l (.lst ((R z).map V.str ++ [.str x]))) D rs (fun y => if y = z then R y ++ [x] else R y) := by
  refine ⟨?_, h.nk, h.na, fun r hr => ?_⟩
  · rw [upd_ne fun e => ?_]
    · exact h.at_
    · have := h.each _ m
      rw [← e, h.at_] at this
      cases this
  · by_cases e : r.1 = z
    · have : r = (z, l) := inj_nd h.nk hr m e
      subst this
      rw [upd_same]
      simp
    · rw [upd_ne fun q => e (congrArg Prod.fst (inj_nd h.na hr m q))]
      rw [h.each r hr]
      simp [e]
theorem RdO.congr (h : RdO H D rs R) {R' : Str → List Str} (e : ∀ r ∈ rs, R' r.1 = R r.1) : RdO H D rs R' := ⟨h.at_, h.nk, h.na, fun r hr => by rw [e r hr]; exact h.each r hr⟩
end
/-! ### what sequence_of holds -/
structure Fr (HL : Hp) (W D Y : Addr) (rs : List (Str × Addr)) : Prop where
  wd : W ≠ D
  yr : Y ∉ rs.map Prod.snd
  nw : HL W = none
  nd : HL D = none
  ny : HL Y = none
  nr : ∀ r ∈ rs, HL r.2 = none
structure Sx (HL : Hp) (W D Y : Addr) (rs : List (Str × Addr)) (Hc : Hp) (wl : List (Key × V)) (R : Str → List Str) (y : List Str) : Prop where
  ex : Ex HL Hc
  w : Hc W = some (.dK wl)
  d : RdO Hc D rs R
  y : Hc Y = some (.lst (y.map V.str))
section
variable {HL Hc H' : Hp} {W D Y b : Addr} {rs : List (Str × Addr)} {wl wl' : List (Key × V)} {R : Str → List Str} {y y' : List Str} {o : HO}
theorem Sx.ext (s : Sx HL W D Y rs Hc wl R y) (e : Ex Hc H') : Sx HL W D Y rs H' wl R y := ⟨s.ex.trans e, e _ _ s.w, s.d.ext e, e _ _ s.y⟩
theorem Sx.wr (s : Sx HL W D Y rs Hc wl R y) : W ∉ rs.map Prod.snd := fun m => by
  obtain ⟨r, hr, e⟩ := List.mem_map.mp m
  have := s.d.each r hr
  rw [e, s.w] at this
  cases this
theorem Sx.wy (s : Sx HL W D Y rs Hc wl R y) : W ≠ Y := fun e => by
  have := s.y
  rw [← e, s.w] at this
  cases this
theorem Sx.yd (s : Sx HL W D Y rs Hc wl R y) : Y ≠ D := fun e => by
  have := s.y
  rw [e, s.d.at_] at this
  cases this
theorem Sx.putW (F : Fr HL W D Y rs) (s : Sx HL W D Y rs Hc wl R y) : Sx HL W D Y rs (upd Hc W (.dK wl')) wl' R y :=
  ⟨s.ex.mut F.nw, upd_same, s.d.other F.wd s.wr, by rw [upd_ne (Ne.symm s.wy)]; exact s.y⟩
theorem Sx.putY (F : Fr HL W D Y rs) (s : Sx HL W D Y rs Hc wl R y) : Sx HL W D Y rs (upd Hc Y (.lst (y'.map V.str))) wl R y' :=
  ⟨s.ex.mut F.ny, by rw [upd_ne s.wy]; exact s.w, s.d.other s.yd F.yr, upd_same⟩
theorem Sx.putR (F : Fr HL W D Y rs) (s : Sx HL W D Y rs Hc wl R y) {z x : Str} {l : Addr} (m : (z, l) ∈ rs) : Sx HL W D Y rs (upd Hc l (.lst ((R z).map V.str ++ [.str x]))) wl (fun y => if y = z then R y ++ [x] else R y) y := by
  have lin : l ∈ rs.map Prod.snd := List.mem_map.mpr ⟨_, m, rfl⟩
  refine ⟨s.ex.mut (F.nr _ m), ?_, s.d.put m, ?_⟩
  · rw [upd_ne fun e => s.wr (by rw [e]; exact lin)]
    exact s.w
  · rw [upd_ne fun e => F.yr (by rw [e]; exact lin)]
    exact s.y
theorem Sx.other (s : Sx HL W D Y rs Hc wl R y) (nb : HL b = none) (h1 : b ≠ W) (h2 : b ≠ D) (h3 : b ≠ Y) (h4 : b ∉ rs.map Prod.snd) : Sx HL W D Y rs (upd Hc b o) wl R y :=
  ⟨s.ex.mut nb, by rw [upd_ne (Ne.symm h1)]; exact s.w, s.d.other h2 h4, by rw [upd_ne (Ne.symm h3)]; exact s.y⟩
theorem Sx.congr (s : Sx HL W D Y rs Hc wl R y) {R' : Str → List Str} (e : ∀ r ∈ rs, R' r.1 = R r.1) : Sx HL W D Y rs Hc wl R' y := ⟨s.ex, s.w, s.d.congr e, s.y⟩
end
/-- the numbers that each waits for -/
def kvW (zs : List Str) (wf : Str → Int) : List (Key × V) := zs.map fun z => (Sum.inr z, .int (wf z))
theorem kvW_hit {zs : List Str} {wf : Str → Int} {z : Str} (m : z ∈ zs) : valV (kvW zs wf) (Sum.inr z) = some (.int (wf z)) :=
  valV_hit (fun z : Str => (Sum.inr z : Key)) (fun z => .int (wf z)) zs z m fun _ _ e => Sum.inr.inj e
theorem kvW_put {zs : List Str} {wf : Str → Int} {z : Str} {i : Int} (m : z ∈ zs) : putK (kvW zs wf) (Sum.inr z) (.int i) = kvW zs (fun y => if y = z then i else wf y) := by
  unfold putK
  have q : ((kvW zs wf).any fun kv => decide (kv.1 = (Sum.inr z : Key))) = true := List.any_eq_true.mpr ⟨(Sum.inr z, .int (wf z)), List.mem_map.mpr ⟨z, m, rfl⟩, decide_eq_true rfl⟩
  rw [if_pos q]
  unfold kvW
  rw [List.map_map]
  refine List.map_congr_left fun y _ => ?_
  show (if (Sum.inr y : Key) = Sum.inr z then _ else _) = _
  by_cases e : y = z
  · rw [if_pos (by rw [e])]
    simp [e]
  · rw [if_neg fun q => e (Sum.inr.inj q)]
    simp [e]
theorem kvW_new {zs : List Str} {wf : Str → Int} {z : Str} (m : z ∉ zs) : putK (kvW zs wf) (Sum.inr z) (.int (wf z)) = kvW (zs ++ [z]) wf := by
  have q : valV (kvW zs wf) (Sum.inr z) = none := (valV_map (fun z : Str => (Sum.inr z : Key)) (fun z => V.int (wf z)) zs _).mpr fun a ha e => m (by cases e; exact ha)
  rw [putK_new q]
  simp [kvW]
end W

set_option Elab.async false
set_option linter.all false
set_option maxRecDepth 100000
set_option maxHeartbeats 8000000
namespace W
open PySem PySem.Spec PyProof.Rows L2 Evl G C
def spSeqOf (K : PySem.W.Frag) : Sp := fun vs H Q _ => ∃ (a : Addr) (kvs : List (Key × V)) (gs : List (Str × List Str)) (ps : List Pr), vs = [.ref a] ∧ H a = some (.dK kvs) ∧ KvT K H kvs gs ps ∧ (ks gs).Nodup ∧ Ranked gs ∧ gs.length ≤ 60 ∧ (∀ g ∈ gs, g.2.length ≤ 50) ∧
  ∀ (l : Addr) (seq : List Str) (H' : Hp), Ex H H' → H l = none → H' l = some (.lst (seq.map V.str)) → Topo gs seq → Q (.ref l) H'
theorem len_sub : ∀ {l m : List Str}, l.Nodup → (∀ x ∈ l, x ∈ m) → l.length ≤ m.length
  | [], _, _, _ => Nat.zero_le _
  | x :: r, m, nd, h => by
    obtain ⟨n1, n2⟩ := List.nodup_cons.mp nd
    have hx := h x List.mem_cons_self
    have ih := len_sub (m := m.erase x) n2 fun z hz => (List.mem_erase_of_ne fun e => n1 (by rw [← e]; exact hz)).mpr (h z (List.mem_cons_of_mem _ hz))
    rw [List.length_erase_of_mem hx] at ih
    have := List.length_pos_of_mem hx
    rw [List.length_cons]
    omega
abbrev nSeqOf : List Str := ["sources", "waits", "gate", "readers", "ready", "source", "ahead", "told", "reader"]
section
variable {K : PySem.W.Frag} {w : World} {HL Hc : Hp} {W D Y a p : Addr} {rs : List (Str × Addr)} {wl : List (Key × V)} {R : Str → List Str} {y : List Str} {En : Ends}
/-- readers[source].append(gate) for each of the ahead ones -/
theorem loopA {z : Str} {u5 : Option V} {ys : List Str} (F : Fr HL W D Y rs) (s : Sx HL W D Y rs Hc wl R y) (hp : Hc p = some (.lst (ys.map V.str))) (pr : p ∉ rs.map Prod.snd) (nd : ys.Nodup) (sub : ∀ x ∈ ys, x ∈ rs.map Prod.fst) (sm : ∀ r ∈ rs, (R r.1).length ≤ 1000)
    (k : ∀ H' u, Sx HL W D Y rs H' wl (fun x => if x ∈ ys then R x ++ [z] else R x) y → H' p = some (.lst (ys.map V.str)) → En.nx [some (.ref a), some (.ref W), some (.str z), some (.ref D), some (.ref Y), u, some (.ref p), none, none] H') :
    tFor (iList K (tVar 6)) (gName 5) (tDrop (tBM K "list" rAppend (tDGet (tVar 3) (tVar 5)) (tCons (tVar 2) tNil))) En [some (.ref a), some (.ref W), some (.str z), some (.ref D), some (.ref Y), u5, some (.ref p), none, none] Hc := by
  refine ⟨_, rfl, p, rfl, ⟨_, SqL.of hp⟩, for_list (K := K) (a := p) (xs := ys.map V.str) (fun j σ H' => (∃ u, σ = [some (.ref a), some (.ref W), some (.str z), some (.ref D), some (.ref Y), u, some (.ref p), none, none]) ∧
    Sx HL W D Y rs H' wl (fun x => if x ∈ ys.take j then R x ++ [z] else R x) y ∧ H' p = some (.lst (ys.map V.str))) ⟨⟨_, rfl⟩, s.congr fun r _ => by simp, hp⟩ (fun j σ H' _ q => SqL.of q.2.2) (fun j v σ H' hv q => ?_) (fun σ H' q => ?_)⟩
  · obtain ⟨⟨u, rfl⟩, s1, hp1⟩ := q
    obtain ⟨x, ex, rfl⟩ := nth_map hv
    have xin : x ∈ ys := List.mem_of_getElem? ex
    obtain ⟨l, ml⟩ := RdO.of (sub x xin)
    have notyet := not_in_take nd ex
    have hl := s1.d.each _ ml
    rw [if_neg notyet] at hl
    refine ⟨_, rfl, _, rfl, D, .ref l, rfl, ?_, .inl ⟨rfl, _, SqL.of hl⟩, _, rfl, l, _, _, rfl, rfl, hl, ?_, ⟨_, rfl⟩, ?_, ?_⟩
    · have q := DGet.k (k := Sum.inr x) s1.d.at_
      rw [s1.d.hit ml] at q
      exact q
    · rw [List.length_map]
      exact Nat.lt_of_le_of_lt (sm _ ml) (by decide)
    · have s2 := s1.putR F (x := z) ml
      rw [if_neg notyet] at s2
      refine s2.congr fun r hr => ?_
      rw [take_more ex]
      by_cases e : r.1 = x
      · rw [e]
        simp [notyet]
      · simp [e]
    · rw [upd_ne fun e => pr (by rw [e]; exact List.mem_map.mpr ⟨_, ml, rfl⟩)]
      exact hp1
  · obtain ⟨⟨u, rfl⟩, s1, hp1⟩ := q
    refine k H' u (s1.congr fun r _ => ?_) hp1
    rw [List.length_map, List.take_length]
/-- waits, and what is ready behind it, of each that read it -/
theorem loopB {z : Str} {u8 : Option V} {q : Addr} {zs : List Str} {wf : Str → Int} {t : List Str} {ksl : List Str} (F : Fr HL W D Y rs) (s : Sx HL W D Y rs Hc (kvW ksl wf) R y) (hz : (z, q) ∈ rs) (eR : R z = zs) (nd : zs.Nodup) (sub : ∀ x ∈ zs, x ∈ ksl) (sm : y.length + zs.length ≤ 800)
    (T : Addr) (hT : Hc T = some (.lst (t.map V.str))) (tw : T ≠ W) (ty : T ≠ Y) {u5 u6 : Option V} (few : ksl.length ≤ 1000)
    (k : ∀ H' u y', Sx HL W D Y rs H' (kvW ksl (fun x => if x ∈ zs then wf x - 1 else wf x)) R y' → y'.Perm (y ++ zs.filter fun x => decide (wf x = 1)) → H' T = some (.lst (t.map V.str)) → En.nx [some (.ref a), some (.ref W), some (.str z), some (.ref D), some (.ref Y), u5, u6, some (.ref T), u] H') :
    tFor (iList K (tDGet (tVar 3) (tVar 2))) (gName 8) (tSeq (sDAug (tVar 1) (tVar 8) (tC (.int 1)) rSub) (tIfS (tB (tOp rEq (tDGet (tVar 1) (tVar 8)) (tC (.int 0)))) (tDrop (tCB rPush (tCons (tVar 4) (tCons (tVar 8) tNil)))) tNext)) En
      [some (.ref a), some (.ref W), some (.str z), some (.ref D), some (.ref Y), u5, u6, some (.ref T), u8] Hc := by
  have hq := s.d.each _ hz
  have g0 := DGet.k (k := Sum.inr z) s.d.at_
  rw [s.d.hit hz] at g0
  rw [eR] at hq
  refine ⟨_, rfl, _, rfl, D, .ref q, rfl, g0, q, rfl, ⟨_, SqL.of hq⟩, for_list (K := K) (a := q) (xs := zs.map V.str) (fun j σ H' => (∃ u, σ = [some (.ref a), some (.ref W), some (.str z), some (.ref D), some (.ref Y), u5, u6, some (.ref T), u]) ∧
    (∃ y', Sx HL W D Y rs H' (kvW ksl (fun x => if x ∈ zs.take j then wf x - 1 else wf x)) R y' ∧ y'.Perm (y ++ (zs.take j).filter fun x => decide (wf x = 1))) ∧ H' T = some (.lst (t.map V.str))) ⟨⟨_, rfl⟩, ⟨y, ?_, by simp⟩, hT⟩ (fun j σ H' _ p => ?_) (fun j v σ H' hv p => ?_) (fun σ H' p => ?_)⟩
  · have e : (fun x => if x ∈ zs.take 0 then wf x - 1 else wf x) = wf := by
      funext x
      simp
    rw [e]
    exact s
  · obtain ⟨_, ⟨y', s1, _⟩, _⟩ := p
    have := s1.d.each _ hz
    rw [eR] at this
    exact SqL.of this
  · obtain ⟨⟨u, rfl⟩, ⟨y', s1, pm⟩, hT1⟩ := p
    obtain ⟨x, ex, rfl⟩ := nth_map hv
    have xin : x ∈ zs := List.mem_of_getElem? ex
    have notyet := not_in_take nd ex
    have hx := kvW_hit (wf := fun x => if x ∈ zs.take j then wf x - 1 else wf x) (sub x xin)
    have hx' : valV (kvW ksl fun x => if x ∈ zs.take j then wf x - 1 else wf x) (Sum.inr x) = some (.int (wf x)) := by
      rw [hx]
      simp [notyet]
    have g1 := DGet.k (k := Sum.inr x) s1.w
    rw [hx'] at g1
    have lenW : (kvW ksl fun x => if x ∈ zs.take j then wf x - 1 else wf x).length < sizeLine := by
      unfold kvW
      rw [List.length_map]
      exact Nat.lt_of_le_of_lt few (by decide)
    have same : (fun y_1 => if y_1 = x then wf x - 1 else if y_1 ∈ zs.take j then wf y_1 - 1 else wf y_1) = fun x => if x ∈ zs.take (j + 1) then wf x - 1 else wf x := by
      funext b
      rw [take_more ex]
      by_cases e : b = x
      · subst e
        simp
      · simp [e]
    have s2 : Sx HL W D Y rs (upd H' W (.dK (putK (kvW ksl fun x => if x ∈ zs.take j then wf x - 1 else wf x) (Sum.inr x) (.int (wf x - 1))))) (kvW ksl fun x => if x ∈ zs.take (j + 1) then wf x - 1 else wf x) R y' := by
      rw [kvW_put (sub x xin), same]
      exact s1.putW F
    have g2 := DGet.k (k := Sum.inr x) s2.w
    have hx2 : valV (kvW ksl fun x => if x ∈ zs.take (j + 1) then wf x - 1 else wf x) (Sum.inr x) = some (.int (wf x - 1)) := by
      rw [kvW_hit (sub x xin), take_more ex]
      simp
    rw [hx2] at g2
    have hT2 : (upd H' W (.dK (putK (kvW ksl fun x => if x ∈ zs.take j then wf x - 1 else wf x) (Sum.inr x) (.int (wf x - 1))))) T = some (.lst (t.map V.str)) := by
      rw [upd_ne tw]
      exact hT1
    refine ⟨_, rfl, _, rfl, W, .int (wf x), rfl, g1, wf x, 1, rfl, rfl, _, DPut.k (k := Sum.inr x) s1.w lenW, ?_⟩
    refine ⟨_, rfl, _, rfl, W, .int (wf x - 1), rfl, g2, rfl, _, rfl, ?_⟩
    by_cases e : wf x = 1
    · rw [show decide (V.int (wf x - 1) = V.int 0) = true from decide_eq_true (by rw [e]; rfl)]
      refine iteT ⟨_, rfl, _, rfl, Y, x, y', rfl, s2.y, ?_, fun y2 p2 => ⟨⟨_, rfl⟩, ⟨y2, s2.putY F, ?_⟩, ?_⟩⟩
      · have := pm.length_eq
        have l1 : ((zs.take j).filter fun x => decide (wf x = 1)).length ≤ zs.length := Nat.le_trans (List.length_filter_le _ _) (by rw [List.length_take]; omega)
        rw [List.length_append] at this
        omega
      · rw [take_more ex, List.filter_append]
        have e2 : [x].filter (fun x => decide (wf x = 1)) = [x] := by simp [e]
        rw [e2, ← List.append_assoc]
        exact p2.trans ((List.Perm.cons x pm).trans (List.perm_append_singleton x _).symm)
      · rw [upd_ne ty]
        exact hT2
    · rw [show decide (V.int (wf x - 1) = V.int 0) = false from decide_eq_false fun z => e (by have := V.int.inj z; omega)]
      refine iteF ⟨⟨_, rfl⟩, ⟨y', s2, ?_⟩, hT2⟩
      rw [take_more ex, List.filter_append]
      have e2 : [x].filter (fun x => decide (wf x = 1)) = [] := by simp [e]
      rw [e2, List.append_nil]
      exact pm
  · obtain ⟨⟨u, rfl⟩, ⟨y', s1, pm⟩, hT1⟩ := p
    rw [List.length_map, List.take_length] at s1 pm
    exact k H' u y' s1 pm hT1
end
section
variable {HL H Hc H' : Hp} {W D Y a : Addr} {rs : List (Str × Addr)} {wl : List (Key × V)} {R : Str → List Str} {y : List Str} {u : HO} {o : Obj}
theorem Fr.lock (F : Fr H W D Y rs) (ha : H a = some u) : Fr (upd H a (.frz o u)) W D Y rs := by
  have q : ∀ b, H b = none → (upd H a (.frz o u)) b = none := fun b n => by
    rw [upd_ne (fun e => by rw [e, ha] at n; cases n)]
    exact n
  exact ⟨F.wd, F.yr, q _ F.nw, q _ F.nd, q _ F.ny, fun r hr => q _ (F.nr r hr)⟩
theorem ex_lock (e : Ex H H') (ha : H a = some u) : Ex (upd H a (.frz o u)) (upd H' a (.frz o u)) := fun b v hb => by
  by_cases z : b = a
  · rw [z, upd_same] at hb ⊢
    exact hb
  · rw [upd_ne z] at hb ⊢
    exact e b v hb
theorem Sx.lock (F : Fr H W D Y rs) (s : Sx H W D Y rs Hc wl R y) (ha : H a = some u) : Sx (upd H a (.frz o u)) W D Y rs (upd Hc a (.frz o u)) wl R y := by
  have ne : ∀ b, H b = none → b ≠ a := fun b n e => by rw [e, ha] at n; cases n
  refine ⟨ex_lock s.ex ha, ?_, s.d.other (Ne.symm (ne _ F.nd)) (fun m => ?_), ?_⟩
  · rw [upd_ne (ne _ F.nw)]
    exact s.w
  · obtain ⟨r, hr, e⟩ := List.mem_map.mp m
    exact ne _ (F.nr r hr) e
  · rw [upd_ne (ne _ F.ny)]
    exact s.y
theorem Sx.unlock (F : Fr H W D Y rs) (ha : H a = some u) (s : Sx (upd H a (.frz o u)) W D Y rs Hc wl R y) : Sx H W D Y rs (upd Hc a u) wl R y := by
  have ne : ∀ b, H b = none → b ≠ a := fun b n e => by rw [e, ha] at n; cases n
  refine ⟨ex_unlock ha s.ex, ?_, s.d.other (Ne.symm (ne _ F.nd)) (fun m => ?_), ?_⟩
  · rw [upd_ne (ne _ F.nw)]
    exact s.w
  · obtain ⟨r, hr, e⟩ := List.mem_map.mp m
    exact ne _ (F.nr r hr) e
  · rw [upd_ne (ne _ F.ny)]
    exact s.y
end
def wf0 (gs : List (Str × List Str)) : Str → Int := fun z => match gs.find? fun g => decide (g.1 = z) with
  | some g => ((fz (ks gs) g.2).length : Nat)
  | none => 0
theorem wf0_at {gs : List (Str × List Str)} (nd : (ks gs).Nodup) {g : Str × List Str} (h : g ∈ gs) : wf0 gs g.1 = ((fz (ks gs) g.2).length : Nat) := by
  unfold wf0
  have q : gs.find? (fun x => decide (x.1 = g.1)) = some g := by
    cases e : gs.find? (fun x => decide (x.1 = g.1)) with
    | none =>
      have := List.find?_eq_none.mp e g h
      simp at this
    | some g' =>
      have h1 := List.mem_of_find?_eq_some e
      have h2 := of_decide_eq_true (List.find?_some (p := fun x : Str × List Str => decide (x.1 = g.1)) e)
      rw [eq_of_nd nd h1 h h2]
  rw [q]
section
variable {K : PySem.W.Frag} {w : World} {HL : Hp} {W D Y a : Addr} {rs : List (Str × Addr)} {En : Ends} {gs : List (Str × List Str)} {kvs : List (Key × V)} {ps : List Pr} {od : Obj}
/-- {gate: [] for gate in sources} -/
theorem mkR {Qd : Hp → Prop} (hk : KvT K HL kvs gs ps) (nd : (ks gs).Nodup) (few : gs.length ≤ 1000) (ha : HL a = some (.frz od (.dK kvs))) (nD : HL D = none)
    (hd : ∀ H' rs, Ex HL H' → RdO H' D rs (fun _ => []) → rs.map Prod.fst = ks gs → (∀ r ∈ rs, HL r.2 = none) → Qd H') :
    DcG (Itk a od kvs) (gName 2) tYes (tVar 2) (tLst tNil) [2] [some (.ref a), some (.ref W), none, none, none, none, none, none, none] HL D Qd := by
  have len := hk.len
  have lk : (ks gs).length = gs.length := by unfold ks; rw [List.length_map]
  refine dc_it walk_keys (fun i Hc => Ex HL Hc ∧ ∃ rs, RdO Hc D rs (fun _ => []) ∧ rs.map Prod.fst = (ks gs).take i ∧ ∀ r ∈ rs, HL r.2 = none) ⟨Ex.new nD, [], ⟨upd_same, List.nodup_nil, List.nodup_nil, fun r m => by cases m⟩, by simp, fun r m => by cases m⟩
    (fun i Hx _ p => p.1 _ _ ha) (fun i x Ha Hb hi p yy => ?_) (fun Hx p => ?_)
  · obtain ⟨rfl, k, v, ek, rfl⟩ := yy
    obtain ⟨g, eg, rfl⟩ := hk.nth ek
    obtain ⟨eA, rs, h, hf, hn⟩ := p
    refine ⟨wipe_set _ 2 _, ?_⟩
    refine ⟨_, rfl, by decide, fun q nq => ?_⟩
    have eg' : (ks gs)[i]? = some g.1 := by
      unfold ks
      rw [List.getElem?_map, eg]
      rfl
    have gnot : g.1 ∉ rs.map Prod.fst := by
      rw [hf]
      exact not_in_take nd eg'
    have qD : q ≠ D := fun e => by rw [e, h.at_] at nq; cases nq
    have qr : q ∉ rs.map Prod.snd := fun m => by
      obtain ⟨r, hr, e⟩ := List.mem_map.mp m
      rw [← e, h.each r hr] at nq
      cases nq
    have kn : putK (kvR rs) (Sum.inr g.1) (.ref q) = kvR (rs ++ [(g.1, q)]) := by
      have q0 : valV (kvR rs) (Sum.inr g.1) = none := (valV_map (fun r : Str × Addr => (Sum.inr r.1 : Key)) (fun r => V.ref r.2) rs _).mpr fun r hr e => gnot (List.mem_map.mpr ⟨r, hr, Sum.inr.inj e⟩)
      rw [putK_new q0]
      simp [kvR]
    refine ⟨kvR rs, Sum.inr g.1, rfl, ?_, ?_, ?_, rs ++ [(g.1, q)], ?_, ?_, ?_⟩
    · rw [upd_ne (Ne.symm qD)]
      exact h.at_
    · have := congrArg List.length hf
      rw [List.length_map, List.length_take] at this
      unfold kvR
      rw [List.length_map]
      exact Nat.lt_of_le_of_lt (show rs.length ≤ 1000 by omega) (by decide)
    · exact (eA.trans (Ex.new nq)).mut nD
    · rw [kn]
      refine ⟨upd_same, ?_, ?_, ?_⟩
      · rw [List.map_append]
        exact List.nodup_append.mpr ⟨h.nk, by simp, fun x hx z hz e => by simp at hz; exact gnot (by rw [← hz, ← e]; exact hx)⟩
      · rw [List.map_append]
        exact List.nodup_append.mpr ⟨h.na, by simp, fun x hx z hz e => by simp at hz; exact qr (by rw [← hz, ← e]; exact hx)⟩
      · intro r hr
        rcases List.mem_append.mp hr with hr | hr
        · have := h.each r hr
          rw [upd_ne (fun e => by rw [e, h.at_] at this; cases this), upd_ne (fun e => qr (List.mem_map.mpr ⟨r, hr, e⟩))]
          exact this
        · rw [List.mem_singleton.mp hr, upd_ne qD, upd_same]
          rfl
    · rw [List.map_append, hf, take_more eg']
      rfl
    · intro r hr
      rcases List.mem_append.mp hr with hr | hr
      · exact hn r hr
      · rw [List.mem_singleton.mp hr]
        exact ex_none eA nq
  · obtain ⟨eA, rs, h, hf, hn⟩ := p
    refine hd Hx rs eA h ?_ hn
    rw [hf, len, ← lk, List.take_length]
def Ri (gs : List (Str × List Str)) (i : Nat) : Str → List Str := fun x => ((gs.take i).filter fun g => decide (x ∈ fz (ks gs) g.2)).map Prod.fst
def Yi (gs : List (Str × List Str)) (i : Nat) : List Str := ((gs.take i).filter fun g => decide (fz (ks gs) g.2 = [])).map Prod.fst
theorem Ri_more {i : Nat} {g : Str × List Str} (e : gs[i]? = some g) (x : Str) : Ri gs (i + 1) x = if x ∈ fz (ks gs) g.2 then Ri gs i x ++ [g.1] else Ri gs i x := by
  unfold Ri
  rw [take_more e, List.filter_append, List.map_append]
  by_cases m : x ∈ fz (ks gs) g.2
  · simp [m]
  · simp [m]
theorem Yi_more {i : Nat} {g : Str × List Str} (e : gs[i]? = some g) : Yi gs (i + 1) = if fz (ks gs) g.2 = [] then Yi gs i ++ [g.1] else Yi gs i := by
  unfold Yi
  rw [take_more e, List.filter_append, List.map_append]
  by_cases m : fz (ks gs) g.2 = []
  · simp [m]
  · simp [m]
theorem Ri_len (i : Nat) (x : Str) : (Ri gs i x).length ≤ gs.length := by
  unfold Ri
  rw [List.length_map]
  exact Nat.le_trans (List.length_filter_le _ _) (by rw [List.length_take]; omega)
theorem Yi_len (i : Nat) : (Yi gs i).length ≤ gs.length := by
  unfold Yi
  rw [List.length_map]
  exact Nat.le_trans (List.length_filter_le _ _) (by rw [List.length_take]; omega)
/-- the first walk over the gates -/
theorem loopG {Hc : Hp} {u2 u5 u6 : Option V} {y0 : List Str} (F : Fr HL W D Y rs) (s : Sx HL W D Y rs Hc (kvW [] (wf0 gs)) (Ri gs 0) y0) (hy0 : y0.Perm (Yi gs 0)) (hk : KvT K HL kvs gs ps) (ext : ∀ H', Ex HL H' → KvT K H' kvs gs ps) (nd : (ks gs).Nodup) (hr : rs.map Prod.fst = ks gs) (few : gs.length ≤ 60) (few2 : ∀ g ∈ gs, g.2.length ≤ 50) (ha : HL a = some (.frz od (.dK kvs)))
    (k : ∀ H' u2 u5 u6 y, Sx HL W D Y rs H' (kvW (ks gs) (wf0 gs)) (rdr gs) y → y.Perm ((gs.filter fun g => decide (fz (ks gs) g.2 = [])).map Prod.fst) → En.nx [some (.ref a), some (.ref W), u2, some (.ref D), some (.ref Y), u5, u6, none, none] H') :
    tFor (iKeys (tVar 0)) (gName 2) (tSeq (tAsg (tCB (rSortX w) (tCons (tSx w (iTup K (tDGet (tVar 0) (tVar 2))) (gName 5) (tB (tDIn (tVar 5) (tVar 0))) (tVar 5) [5]) tNil)) (gName 6))
        (tSeq (sDPut (tVar 1) (tVar 2) (tCB (fun xs H Q => ∃ p ys, xs = [V.ref p] ∧ (SqL K H p ys ∨ SqT K H p ys) ∧ Q (V.int (ys.length : Int)) H) (tCons (tVar 6) tNil)))
        (tSeq (tFor (iList K (tVar 6)) (gName 5) (tDrop (tBM K "list" rAppend (tDGet (tVar 3) (tVar 5)) (tCons (tVar 2) tNil))))
          (tIfS (tNot fun σ H Q => tVar 6 σ H fun x H' => ∃ k, TruV K x H' k ∧ Q k H') (tDrop (tCB rPush (tCons (tVar 4) (tCons (tVar 2) tNil)))) tNext)))) En
      [some (.ref a), some (.ref W), u2, some (.ref D), some (.ref Y), u5, u6, none, none] Hc := by
  have len := hk.len
  have lk : (ks gs).length = gs.length := by unfold ks; rw [List.length_map]
  refine ⟨_, rfl, a, od, rfl, .inl ⟨kvs, s.ex _ _ ha, for_it walk_keys (fun i σ H' => (∃ u2 u5 u6, σ = [some (.ref a), some (.ref W), u2, some (.ref D), some (.ref Y), u5, u6, none, none]) ∧
    ∃ y, Sx HL W D Y rs H' (kvW ((ks gs).take i) (wf0 gs)) (Ri gs i) y ∧ y.Perm (Yi gs i)) ⟨⟨_, _, _, rfl⟩, y0, s, hy0⟩ (fun i σ H' _ p => ?_) (fun i x σ Hz Ha hi p yy => ?_) (fun σ H' p => ?_)⟩⟩
  · obtain ⟨_, y, s1, _⟩ := p
    exact s1.ex _ _ ha
  · obtain ⟨rfl, kk, v, ek, rfl⟩ := yy
    obtain ⟨g, eg, rfl⟩ := hk.nth ek
    obtain ⟨⟨u2, u5, u6, rfl⟩, y, s1, pm⟩ := p
    have gin : g ∈ gs := List.mem_of_getElem? eg
    have eg' : (ks gs)[i]? = some g.1 := by
      unfold ks
      rw [List.getElem?_map, eg]
      rfl
    have gnot := not_in_take nd eg'
    obtain ⟨t, ht, hst⟩ := (ext _ s1.ex).hit nd gin
    have frz : ∀ H', Ex Ha H' → H' a = some (.frz od (.dK kvs)) := fun H' e => e _ _ (s1.ex _ _ ha)
    refine ⟨_, rfl, _, rfl, a, .ref t, rfl, .inl ⟨kvs, Sum.inr g.1, .inr ⟨od, frz _ (Ex.refl _)⟩, rfl, ht.symm⟩, t, rfl, ⟨_, hst⟩, fun S nS => ?_⟩
    refine walks_tup (K := K) (w := w) (a := t) (D := S) (xs := g.2.map V.str) (fun j H' => Ex Ha H' ∧ H' S = some (setO w S (fz (ks gs) (g.2.take j)))) ⟨Ex.new nS, upd_same⟩ (fun j H' _ p => ex_t p.1 hst) (fun j x H' hx p => ?_) (fun H2 p => ?_)
    · obtain ⟨e1, hS⟩ := p
      obtain ⟨z, ez, rfl⟩ := nth_map hx
      refine ⟨wipe_set _ 5 _, ?_⟩
      refine ⟨_, rfl, _, rfl, a, _, rfl, .inl ⟨kvs, Sum.inr z, .inr ⟨od, frz _ e1⟩, rfl, rfl⟩, _, rfl, ?_⟩
      rw [hk.isSome z]
      by_cases m : z ∈ ks gs
      · rw [decide_eq_true m]
        refine iteT ⟨_, rfl, z, _, rfl, hS, ?_, e1.mut nS, ?_⟩
        · have := Nat.le_trans (len_fz (ks := ks gs) (zs := g.2.take j)) (show (g.2.take j).length ≤ 50 by rw [List.length_take]; have := few2 g gin; omega)
          have : (50 : Nat) + 1 < scanBound := by decide
          omega
        · rw [upd_same, take_more ez, fz_snoc, if_pos m]
      · rw [decide_eq_false m]
        refine iteF ⟨e1, ?_⟩
        rw [hS, take_more ez, fz_snoc, if_neg m]
    · obtain ⟨e2, hS⟩ := p
      rw [List.length_map, List.take_length] at hS
      have l1 := Nat.le_trans (len_fz (ks := ks gs) (zs := g.2)) (few2 g gin)
      refine ⟨S, _, rfl, hS, by omega, fun ys q pys nq => ?_⟩
      have e3 : Ex Ha (upd H2 q (.lst (ys.map V.str))) := e2.trans (Ex.new nq)
      have s2 := s1.ext e3
      have nq0 : Ha q = none := ex_none e2 nq
      have qr : q ∉ rs.map Prod.snd := fun m => by
        obtain ⟨r, hr, e⟩ := List.mem_map.mp m
        rw [← e, s1.d.each r hr] at nq0
        cases nq0
      have qW : q ≠ W := fun e => by rw [e, s1.w] at nq0; cases nq0
      have hq : (upd H2 q (.lst (ys.map V.str))) q = some (.lst (ys.map V.str)) := upd_same
      generalize upd H2 q (.lst (ys.map V.str)) = H3 at s2 hq e3
      have nys : ys.Nodup := pys.nodup_iff.mpr nd_fz
      refine ⟨_, rfl, q, _, rfl, .inl (SqL.of hq), _, rfl, _, rfl, W, _, rfl, DPut.k (k := Sum.inr g.1) s2.w ?_, ?_⟩
      · unfold kvW
        rw [List.length_map, List.length_take]
        exact Nat.lt_of_le_of_lt (show min i (ks gs).length ≤ 1000 by omega) (by decide)
      · have wl : (V.int ((ys.map V.str).length : Int)) = .int (wf0 gs g.1) := by
          rw [wf0_at nd gin, List.length_map, pys.length_eq]
        rw [wl, kvW_new gnot, ← take_more eg']
        have s3 := s2.putW F (wl' := kvW ((ks gs).take (i + 1)) (wf0 gs))
        refine loopA (z := g.1) (ys := ys) F s3 (by rw [upd_ne qW]; exact hq) qr nys (fun x hx => ?_) (fun r hr => ?_) (fun H4 u s4 hq4 => ?_)
        · rw [hr]
          exact (mem_fz.mp (pys.mem_iff.mp hx)).2
        · have := Ri_len (gs := gs) i r.1
          omega
        · have s5 := s4.congr (R' := Ri gs (i + 1)) fun r hr => by
            rw [Ri_more eg]
            simp only [pys.mem_iff]
          refine ⟨_, rfl, _, .inl ⟨_, SqL.of hq4, rfl⟩, ?_⟩
          by_cases em : fz (ks gs) g.2 = []
          · have ye : ys = [] := List.length_eq_zero_iff.mp (by rw [pys.length_eq, em]; rfl)
            rw [ye]
            refine iteT ⟨_, rfl, _, rfl, Y, g.1, y, rfl, s5.y, ?_, fun y' p' => ⟨⟨_, _, _, rfl⟩, y', s5.putY F, ?_⟩⟩
            · have := Yi_len (gs := gs) i
              rw [← pm.length_eq] at this
              omega
            · rw [Yi_more eg, if_pos em]
              exact p'.trans ((List.Perm.cons _ pm).trans (List.perm_append_singleton _ _).symm)
          · have ye : ys ≠ [] := fun e => em (List.length_eq_zero_iff.mp (by rw [← pys.length_eq, e]; rfl))
            have ye2 : (!(ys.map V.str).isEmpty) = true := by
              cases ys with
              | nil => exact absurd rfl ye
              | cons _ _ => rfl
            rw [ye2]
            refine iteF ⟨⟨_, _, _, rfl⟩, y, s5, ?_⟩
            rw [Yi_more eg, if_neg em]
            exact pm
  · obtain ⟨⟨u2, u5, u6, rfl⟩, y, s1, pm⟩ := p
    rw [len] at s1 pm
    refine k H' u2 u5 u6 y ?_ ?_
    · rw [← lk, List.take_length] at s1
      refine s1.congr fun r _ => ?_
      unfold rdr Ri
      rw [lk, List.take_length]
    · unfold Yi at pm
      rw [List.take_length] at pm
      exact pm
end
section
variable {K : PySem.W.Frag} {HL : Hp} {W D Y T a : Addr} {rs : List (Str × Addr)} {En : Ends} {gs : List (Str × List Str)}
/-- the second walk -/
theorem loopC {Hc : Hp} {u2 u5 u6 u8 : Option V} {y : List Str} {wf : Str → Int} (F : Fr HL W D Y rs) (nT : HL T = none) (tW : T ≠ W) (tD : T ≠ D) (tY : T ≠ Y) (tR : T ∉ rs.map Prod.snd) (s : Sx HL W D Y rs Hc (kvW (ks gs) wf) (rdr gs) y) (hf : Half gs [] y wf)
    (hT : Hc T = some (.lst [])) (nd : (ks gs).Nodup) (hr : rs.map Prod.fst = ks gs) (few : gs.length ≤ 60)
    (k : ∀ H' t wf σ, σ[7]? = some (some (.ref T)) → Ex HL H' → H' T = some (.lst (t.map V.str)) → Half gs t [] wf → En.nx σ H') :
    tWhile (fun σ H Q => tVar 4 σ H fun x H' => ∃ k, TruV K x H' k ∧ Q k H') (tSeq (tAsg (tCB rPopH (tCons (tVar 4) tNil)) (gName 2)) (tSeq (tDrop (tBM K "list" rAppend (tVar 7) (tCons (tVar 2) tNil)))
      (tFor (iList K (tDGet (tVar 3) (tVar 2))) (gName 8) (tSeq (sDAug (tVar 1) (tVar 8) (tC (.int 1)) rSub) (tIfS (tB (tOp rEq (tDGet (tVar 1) (tVar 8)) (tC (.int 0)))) (tDrop (tCB rPush (tCons (tVar 4) (tCons (tVar 8) tNil)))) tNext))))) En
      [some (.ref a), some (.ref W), u2, some (.ref D), some (.ref Y), u5, u6, some (.ref T), u8] Hc := by
  have lk : (ks gs).length = gs.length := by unfold ks; rw [List.length_map]
  refine ⟨fun m σ H' => ∃ u2 u5 u6 u8 t y wf, σ = [some (.ref a), some (.ref W), u2, some (.ref D), some (.ref Y), u5, u6, some (.ref T), u8] ∧ Sx HL W D Y rs H' (kvW (ks gs) wf) (rdr gs) y ∧ Half gs t y wf ∧ H' T = some (.lst (t.map V.str)) ∧ m + t.length = gs.length,
    ⟨gs.length, u2, u5, u6, u8, [], y, wf, rfl, s, hf, hT, rfl⟩, fun m σ H' p => ?_⟩
  obtain ⟨u2, u5, u6, u8, t, y, wf, rfl, s1, hf1, hT1, em⟩ := p
  refine ⟨_, rfl, _, .inl ⟨_, SqL.of s1.y, rfl⟩, ?_⟩
  have lens : t.length + y.length ≤ gs.length := by
    rw [← lk, ← List.length_append]
    exact len_sub hf1.nd hf1.sub
  cases y with
  | nil => exact iteF (k H' t wf _ rfl s1.ex hT1 hf1)
  | cons y0 yr =>
    rw [List.length_cons] at lens
    refine iteT ⟨fun σ H' => ∃ u2 u5 u6 u8 t y wf, σ = [some (.ref a), some (.ref W), u2, some (.ref D), some (.ref Y), u5, u6, some (.ref T), u8] ∧ Sx HL W D Y rs H' (kvW (ks gs) wf) (rdr gs) y ∧ Half gs t y wf ∧ H' T = some (.lst (t.map V.str)) ∧ (m - 1) + t.length = gs.length,
      fun σ' H'' q => ⟨m - 1, by omega, q⟩, ?_⟩
    refine ⟨_, rfl, Y, y0 :: yr, rfl, s1.y, by simp, by rw [List.length_cons]; omega, fun z y1 pm => ?_⟩
    have s2 := s1.putY F (y' := y1)
    have l1 : y1.length = yr.length := by
      have := pm.length_eq
      simpa using this
    have hT2 : (upd H' Y (.lst (y1.map V.str))) T = some (.lst (t.map V.str)) := by
      rw [upd_ne tY]
      exact hT1
    generalize upd H' Y (.lst (y1.map V.str)) = H2 at s2 hT2
    refine ⟨_, rfl, .inl ⟨rfl, _, SqL.of hT2⟩, _, rfl, T, _, _, rfl, rfl, hT2, ?_, ?_⟩
    · rw [List.length_map]
      exact Nat.lt_of_le_of_lt (show t.length ≤ 1000 by omega) (by decide)
    · have s3 : Sx HL W D Y rs (upd H2 T (.lst (t.map V.str ++ [.str z]))) (kvW (ks gs) wf) (rdr gs) y1 := s2.other nT tW tD tY tR
      have hT3 : (upd H2 T (.lst (t.map V.str ++ [.str z]))) T = some (.lst ((t ++ [z]).map V.str)) := by
        rw [upd_same, List.map_append]
        rfl
      generalize upd H2 T (.lst (t.map V.str ++ [.str z])) = H3 at s3 hT3
      have zin : z ∈ ks gs := hf1.sub z (List.mem_append_right _ (pm.mem_iff.mp List.mem_cons_self))
      obtain ⟨q, hq⟩ := RdO.of (rs := rs) (z := z) (by rw [hr]; exact zin)
      have rl : (rdr gs z).length ≤ gs.length := by
        unfold rdr
        rw [List.length_map]
        exact List.length_filter_le _ _
      refine loopB (zs := rdr gs z) (t := t ++ [z]) (ksl := ks gs) (wf := wf) F s3 hq rfl (rdr_nd nd) (fun x hx => ?_) (by omega) T hT3 tW tY (by omega) (fun H4 u y' s4 py hT4 => ?_)
      · obtain ⟨g, hg, rfl, _⟩ := rdr_sub hx
        exact List.mem_map.mpr ⟨g, hg, rfl⟩
      · exact ⟨_, _, _, _, t ++ [z], y', _, rfl, s4, hf1.step nd pm py, hT4, by rw [List.length_append, List.length_singleton]; omega⟩
end
section
variable {P : Program} {w : World} {K : PySem.W.Frag} {mg : Str → Option Value} {base : Heap}
theorem scSeqOf : FnScope nSeqOf ["sources"] (defScope dSeqOf) := ⟨rfl, rfl, rfl, by decide +kernel, rfl, by decide +kernel, by decide +kernel⟩
theorem okSeqOf {f : Addr} {fd : FuncData} (F : At K mg "sequence_of" dSeqOf ["sources"] f fd) (T : Txt K mg) : FnOk P w K mg base CX0 1 f fd ["sources"] (spSeqOf K) := by
  refine F.fn.ok scSeqOf (fun vs H Q E h => ?_) (fun cdv A outer s H vs Q E hr h => ?_)
  · obtain ⟨a, kvs, gs, ps, rfl, _⟩ := h
    rfl
  · obtain ⟨a, kvs, gs, ps, rfl, ha, hk, nd, rk, few, few2, k⟩ := h
    have hu := hu_of hr
    refine ⟨_, pss_cons (ps_set (i := 1) scSeqOf.nd rfl (Or.inl rfl) pe_dnewK)
      (pss_cons (ps_lock (ps_setDc (i := 3) (own := [("gate", 2)]) (g := gName 2) rfl scSeqOf.nd rfl rfl (sw_dict rfl rfl rfl (by decide +kernel)) (pi_keys (pv 0)) (blkOk_by (own := [("gate", 2)]) (N := nSeqOf) (sc := defScope dSeqOf) (by decide +kernel))
          (fun _ _ _ _ _ => pg_name (i := 2) scSeqOf.nd rfl (Or.inl rfl)) (fun _ _ _ _ _ => pts_nil) (fun _ _ _ _ _ => pv 2) (fun _ _ _ _ _ => pe_lst pa_nil)))
      (pss_cons (ps_set (i := 4) scSeqOf.nd rfl (Or.inl rfl) (pe_lst pa_nil))
      (pss_cons (ps_lock (ps_for PassesOwn.never rfl (pi_keys (pv 0)) (pg_name (i := 2) scSeqOf.nd rfl (Or.inl rfl))
        (pss_cons (ps_set (i := 6) scSeqOf.nd rfl (Or.inl rfl) (pe_callB (cr_sortX rfl) (by rfl) T.sorted (by decide +kernel) (pa_cons (pe_sx (own := [("source", 5)]) (g := gName 5) rfl scSeqOf.nd (pi_tup (pe_dget hu (pv 0) (pv 2) (fun _ _ => rfl))) (blkOk_by (own := [("source", 5)]) (N := nSeqOf) (sc := defScope dSeqOf) (by decide +kernel))
            (fun _ _ _ _ _ => pg_name (i := 5) scSeqOf.nd rfl (Or.inl rfl)) (fun _ _ _ _ _ => pts_one (pt_cmp (pc_din hu (pv 5) (pv 0)))) (fun _ _ _ _ _ => pv 5)) pa_nil)))
        (pss_cons (ps_dput hu (pv 1) (pv 2) (pe_callB call_len_seq (by rfl) T.len PySem.boot_len (pa_cons (pv 6) pa_nil)) rfl)
        (pss_cons (ps_for PassesOwn.never rfl (pi_list (pv 6)) (pg_name (i := 5) scSeqOf.nd rfl (Or.inl rfl))
          (pss_one (ps_expr (pe_bm PySem.F.plainAttrs_list PySem.F.slot_list_append PySem.F.type_list_append mt_append (pe_dget hu (pv 3) (pv 5) (fun _ _ => rfl)) (pa_cons (pv 2) pa_nil)))))
        (pss_one (ps_if (pt_not (pt_truth (pv 6) (by intro _; rfl))) (pss_one (ps_expr (pe_callBfun cr_push (by rfl) T.push (pa_cons (pv 4) (pa_cons (pv 2) pa_nil))))) pss_nil)))))))
      (pss_cons (ps_set (i := 7) scSeqOf.nd rfl (Or.inl rfl) (pe_lst pa_nil))
      (pss_cons (ps_while PassesOwn.never (pt_truth (pv 4) (by intro _; rfl))
        (pss_cons (ps_set (i := 2) scSeqOf.nd rfl (Or.inl rfl) (pe_callBfun cr_popH (by rfl) T.popH (pa_cons (pv 4) pa_nil)))
        (pss_cons (ps_expr (pe_bm PySem.F.plainAttrs_list PySem.F.slot_list_append PySem.F.type_list_append mt_append (pv 7) (pa_cons (pv 2) pa_nil)))
        (pss_one (ps_for PassesOwn.never rfl (pi_list (pe_dget hu (pv 3) (pv 2) (fun _ _ => rfl))) (pg_name (i := 8) scSeqOf.nd rfl (Or.inl rfl))
          (pss_cons (ps_daug hu (pv 1) (pv 8) pe_int in_sub (fun _ _ _ => rfl))
          (pss_one (ps_if (pt_cmpR op_eq (pe_dget hu (pv 1) (pv 8) (fun _ _ => rfl)) pe_int (nomark _)) (pss_one (ps_expr (pe_callBfun cr_push (by rfl) T.push (pa_cons (pv 4) (pa_cons (pv 8) pa_nil))))) pss_nil))))))))
      (pss_one (ps_ret (pv 7)))))))), ?_⟩
    intro W nW
    have Wa : W ≠ a := fun e => by rw [e, ha] at nW; cases nW
    have x1 : Ex H (upd H W (.dK [])) := Ex.new nW
    have ha1 := x1 _ _ ha
    have hW1 : (upd H W (.dK [])) W = some (.dK []) := upd_same
    generalize upd H W (.dK []) = H1 at x1 ha1 hW1
    refine ⟨a, _, ha1, trivial, fun od => ?_⟩
    have hfz : (upd H1 a (.frz od (.dK kvs))) a = some (.frz od (.dK kvs)) := upd_same
    have keepT : ∀ {H2 : Hp} {od : Obj}, Ex (upd H a (.frz od (.dK kvs))) H2 → KvT K H2 kvs gs ps := fun {H2 od} e => hk.ext fun b xs hb => by
      rcases hb with (hb | ⟨o, hb⟩) | hb
      · exact .inl (.inl (e _ _ (by rw [upd_ne (fun z => by rw [z, ha] at hb; cases hb)]; exact hb)))
      · exact .inl (.inr ⟨o, e _ _ (by rw [upd_ne (fun z => by rw [z, ha] at hb; cases hb)]; exact hb)⟩)
      · exact .inr hb
    refine ⟨_, rfl, a, od, rfl, .inl ⟨kvs, hfz, fun D nD => ?_⟩⟩
    refine mkR (keepT (ex_lock x1 ha)) nd (by omega) hfz nD fun H2 rs e2 hd hrs hn => ?_
    have x2 := ex_unlock ha1 e2
    have Da : D ≠ a := fun e => by rw [e, hfz] at nD; cases nD
    have DW : D ≠ W := fun e => by
      rw [upd_ne Da, e, hW1] at nD
      cases nD
    have nD1 : H1 D = none := by rwa [upd_ne Da] at nD
    have nrs : ∀ r ∈ rs, r.2 ≠ a ∧ H1 r.2 = none := fun r hr => by
      have q := hn r hr
      have qa : r.2 ≠ a := fun e => by rw [e, hfz] at q; cases q
      rw [upd_ne qa] at q
      exact ⟨qa, q⟩
    have hd2 : RdO (upd H2 a (.dK kvs)) D rs (fun _ => []) := hd.other (Ne.symm Da) fun m => by
      obtain ⟨r, hr, e⟩ := List.mem_map.mp m
      exact (nrs r hr).1 e
    refine ⟨e2 _ _ hfz, ?_⟩
    generalize upd H2 a (.dK kvs) = H3 at x2 hd2
    refine ⟨by decide, fun Y nY => ?_⟩
    have x3 : Ex H1 (upd H3 Y (.lst [])) := x2.trans (Ex.new nY)
    have F0 : Fr H W D Y rs := by
      have nY1 : H1 Y = none := ex_none x2 nY
      refine ⟨Ne.symm DW, fun m => ?_, nW, ex_none x1 nD1, ex_none x1 nY1, fun r hr => ex_none x1 (nrs r hr).2⟩
      obtain ⟨r, hr, e⟩ := List.mem_map.mp m
      have := hd2.each r hr
      rw [e, nY] at this
      cases this
    have s0 : Sx H W D Y rs (upd H3 Y (.lst [])) (kvW [] (wf0 gs)) (Ri gs 0) [] :=
      ⟨x1.trans x3, x3 _ _ hW1, (hd2.ext (Ex.new nY)).congr fun r _ => by simp [Ri], upd_same⟩
    have ha3 := x3 _ _ ha1
    generalize upd H3 Y (.lst []) = H4 at s0 ha3
    refine ⟨a, _, ha3, trivial, fun od2 => ?_⟩
    refine loopG (F0.lock ha) (s0.lock F0 ha) (by simp [Yi]) (keepT (Ex.refl _)) (fun H' e => keepT e) nd hrs few few2 upd_same (fun H5 u2 u5 u6 y s5 py => ?_)
    refine ⟨s5.ex _ _ upd_same, ?_⟩
    have s6 := s5.unlock F0 ha
    generalize upd H5 a (.dK kvs) = H6 at s6
    refine ⟨by decide, fun T nT => ?_⟩
    have s7 := s6.ext (Ex.new (o := .lst []) nT)
    have hT : (upd H6 T (.lst [])) T = some (.lst []) := upd_same
    have tW : T ≠ W := fun e => by rw [e, s6.w] at nT; cases nT
    have tD : T ≠ D := fun e => by rw [e, s6.d.at_] at nT; cases nT
    have tY : T ≠ Y := fun e => by rw [e, s6.y] at nT; cases nT
    have tR : T ∉ rs.map Prod.snd := fun m => by
      obtain ⟨r, hr, e⟩ := List.mem_map.mp m
      rw [← e, s6.d.each r hr] at nT
      cases nT
    have nT0 := ex_none s6.ex nT
    generalize upd H6 T (.lst []) = H7 at s7 hT
    refine loopC F0 nT0 tW tD tY tR s7 (Half.start nd (fun g hg => wf0_at nd hg) py) hT nd hrs few (fun H8 t wf σ hσ e8 hT8 hf => ?_)
    exact ⟨_, hσ, k T t H8 e8 nT0 hT8 (hf.done nd rk)⟩
end
end W

set_option Elab.async false
set_option linter.all false
set_option maxRecDepth 100000
set_option maxHeartbeats 8000000
namespace W
open PySem PySem.Spec PyProof.Rows L2 Evl G C
def spCNoRing (K : PySem.W.Frag) : Sp := fun vs H Q _ => ∃ (a : Addr) (kvs : List (Key × V)) (gs : List (Str × List Str)) (ps : List Pr), vs = [.ref a] ∧ H a = some (.dK kvs) ∧ KvT K H kvs gs ps ∧ (ks gs).Nodup ∧ Ranked gs ∧ gs.length ≤ 60 ∧ (∀ g ∈ gs, g.2.length ≤ 50) ∧
  ∀ (H' : Hp), Ex H H' → Q .non H'
abbrev nGor : List Str := ["sources", "gate", "placed", "left"]
section
variable {P : Program} {w : World} {K : PySem.W.Frag} {mg : Str → Option Value} {base : Heap}
theorem KvT.ex {H H' : Hp} {kvs : List (Key × V)} {gs : List (Str × List Str)} {ps : List Pr} (h : KvT K H kvs gs ps) (e : Ex H H') : KvT K H' kvs gs ps := h.ext fun _ _ q => ex_t e q
theorem scGor : FnScope nGor ["sources"] (defScope dGateOnRing) := ⟨rfl, rfl, rfl, by decide +kernel, rfl, by decide +kernel, by decide +kernel⟩
theorem okGor {f : Addr} {fd : FuncData} (F : At K mg "gate_on_ring" dGateOnRing ["sources"] f fd) (T : Txt K mg) : FnOk P w K mg base CX0 2 f fd ["sources"] (spCNoRing K) := by
  obtain ⟨fS, fdS, FS⟩ := T.seqOf
  have GS : FnOk P w K mg base CX0 1 fS fdS ["sources"] (spSeqOf K) := okSeqOf FS T
  refine F.fn.ok scGor (fun vs H Q E h => ?_) (fun cdv A outer s H vs Q E hr h => ?_)
  · obtain ⟨a, kvs, gs, ps, rfl, _⟩ := h
    rfl
  · obtain ⟨a, kvs, gs, ps, rfl, ha, hk, nd, rk, few, few2, k⟩ := h
    have hu := hu_of hr
    refine ⟨_, pss_cons (ps_set (i := 2) scGor.nd rfl (Or.inr rfl) (pe_dc (own := [("gate", 1)]) (g := gName 1) rfl scGor.nd (pi_list (pe_call GS hr (by rfl) FS.gl FS.fn.kp FS.bi .nil pass0 (pa_cons (pv 0) pa_nil))) (blkOk_by (own := [("gate", 1)]) (N := nGor) (sc := defScope dGateOnRing) (by decide +kernel))
          (fun _ _ _ _ _ => pg_name (i := 1) scGor.nd rfl (Or.inl rfl)) (fun _ _ _ _ _ => pts_nil) (fun _ _ _ _ _ => pv 1) (fun _ _ _ _ _ => pe_bl)))
      (pss_cons (ps_setDc (i := 3) (own := [("gate", 1)]) (g := gName 1) rfl scGor.nd rfl rfl (sw_dict rfl rfl rfl (by decide +kernel)) (pi_list (pe_callB (call_sortedD rfl) (by rfl) T.sorted (by decide +kernel) (pa_cons (pv 0) pa_nil))) (blkOk_by (own := [("gate", 1)]) (N := nGor) (sc := defScope dGateOnRing) (by decide +kernel))
          (fun _ _ _ _ _ => pg_name (i := 1) scGor.nd rfl (Or.inl rfl)) (fun _ _ _ _ _ => pts_one (pt_cmp (pc_dnotin hu (pv 1) (pv 2)))) (fun _ _ _ _ _ => pv 1) (fun _ _ _ _ _ => pe_dget hu (pv 0) (pv 1) (fun _ _ => rfl)))
      (pss_cons (ps_lock (ps_for PassesOwn.never rfl (pi_keys (pv 3)) (pg_name (i := 1) scGor.nd rfl (Or.inl rfl)) (pss_one ps_never))) (pss_one (ps_ret pe_non)))), ?_⟩
    refine ⟨_, rfl, a, kvs, gs, ps, rfl, ha, hk, nd, rk, few, few2, fun l seq H1 e1 nl hl tp => ?_⟩
    refine ⟨l, rfl, ⟨_, SqL.of hl⟩, fun D nD => ?_⟩
    have lseq : seq.length ≤ 60 := by
      rw [tp.1.length_eq, List.length_map]
      exact few
    refine dc_each (as := seq) (em := V.str) (walk_list (K := K) (a := l)) (fun z => Sum.inr z) (fun _ => .bl true) (by omega) (fun H' e => SqL.of (e _ _ hl)) (fun z hz => ev_var (i := 1) rfl) (fun z hz => ev_c) (keys_nodup (f := fun z => z) (by rw [List.map_id']; exact tp.1.nodup_iff.mpr nd)) nD (fun H2 e2 hD => ?_)
    have x2 : Ex H H2 := e1.trans e2
    have ha2 := x2 _ _ ha
    have hk2 := hk.ex x2
    refine ⟨_, rfl, a, kvs, ks gs, rfl, .inl ha2, ?_, by unfold ks; rw [List.length_map]; omega, fun ys p pm _ np => ?_⟩
    · rw [hk.kv]
      unfold kvP ks
      rw [← hk.fst, List.map_map, List.map_map, List.map_map]
      rfl
    · have e3 : Ex H2 (upd H2 p (.lst (ys.map V.str))) := Ex.new np
      have hp : (upd H2 p (.lst (ys.map V.str))) p = some (.lst (ys.map V.str)) := upd_same
      generalize upd H2 p (.lst (ys.map V.str)) = H3 at e3 hp
      refine ⟨p, rfl, ⟨_, SqL.of hp⟩, fun L nL => ?_⟩
      refine dc_it (walk_list (K := K) (a := p) (xs := ys.map V.str)) (fun i Hc => Ex H3 Hc ∧ Hc L = some (.dK [])) ⟨Ex.new nL, upd_same⟩ (fun i Hc _ q => SqL.of (q.1 _ _ hp)) (fun i x Ha Hb hi q yy => ?_) (fun Hc q => ?_)
      · obtain ⟨rfl, ex⟩ := yy
        obtain ⟨z, ez, rfl⟩ := nth_map ex
        have zin : z ∈ seq := tp.1.mem_iff.mpr (pm.mem_iff.mp (List.mem_of_getElem? ez))
        refine ⟨wipe_set _ 1 _, ?_⟩
        have hit := valV_hit (fun z : Str => (Sum.inr z : Key)) (fun _ => V.bl true) seq z zin fun _ _ e => Sum.inr.inj e
        have g := DGet.k (k := Sum.inr z) ((e3.trans q.1) _ _ hD)
        rw [hit] at g
        exact ⟨_, rfl, _, rfl, D, some (.bl true), rfl, g, _, rfl, iteF q⟩
      · refine ⟨L, _, q.2, trivial, fun od => ?_⟩
        refine ⟨_, rfl, L, od, rfl, .inl ⟨[], upd_same, for_it walk_keys (fun i σ Hd => i = 0 ∧ Hd = upd Hc L (.frz od (.dK []))) ⟨rfl, rfl⟩ (fun i σ Hd _ r => by rw [r.2]; exact upd_same) (fun i x σ Ha Hb hi _ _ => absurd hi (Nat.not_lt_zero _)) (fun σ Hd r => ?_)⟩⟩
        rw [r.2]
        refine ⟨upd_same, k _ ?_⟩
        exact (x2.trans e3).trans (q.1.trans (ex_unlock q.2 (Ex.refl _)))
theorem scNoRing : FnScope ["sources", "gate"] ["sources"] (defScope dCNoRing) := ⟨rfl, rfl, rfl, by decide +kernel, rfl, by decide +kernel, by decide +kernel⟩
theorem okNoRing {f : Addr} {fd : FuncData} (F : At K mg "check_no_ring" dCNoRing ["sources"] f fd) (T : Txt K mg) : FnOk P w K mg base CX0 3 f fd ["sources"] (spCNoRing K) := by
  obtain ⟨fS, fdS, FS⟩ := T.gateOnRing
  have GS : FnOk P w K mg base CX0 2 fS fdS ["sources"] (spCNoRing K) := okGor FS T
  refine F.fn.ok scNoRing (fun vs H Q E h => ?_) (fun cdv A outer s H vs Q E hr h => ?_)
  · obtain ⟨a, kvs, gs, ps, rfl, _⟩ := h
    rfl
  · obtain ⟨a, kvs, gs, ps, rfl, ha, hk, nd, rk, few, few2, k⟩ := h
    refine ⟨_, pss_cons (ps_set (i := 1) scNoRing.nd rfl (Or.inl rfl) (pe_call GS hr (by rfl) FS.gl FS.fn.kp FS.bi .nil pass0 (pa_cons (pv 0) pa_nil)))
      (pss_one (ps_if (pt_cmp (pc_notN (pv 1))) (pss_one ps_never) pss_nil)), ?_⟩
    exact ⟨_, rfl, a, kvs, gs, ps, rfl, ha, hk, nd, rk, few, few2, fun H1 e1 => ⟨_, rfl, _, rfl, iteF (k H1 e1)⟩⟩
end
end W

set_option Elab.async false
set_option linter.all false
set_option maxRecDepth 100000
set_option maxHeartbeats 8000000
namespace W
open PySem PySem.Spec PyProof.Rows L2 Evl G C
/-- tuple(list or tuple) -/
def rTup (K : PySem.W.Frag) : List V → Hp → VK → Prop := fun xs H Q => ∃ p ys, xs = [.ref p] ∧ ((SqL K H p ys ∧ ∀ l, H l = none → Q (.ref l) (upd H l (.tup ys))) ∨ (SqT K H p ys ∧ Q (.ref p) H))
theorem call_tup {Y : Cx} {K : PySem.W.Frag} (h : Y.K = K := by rfl) : CallR Y (.type "tuple") (rTup K) := by
  subst h
  exact call_tuple_of
abbrev sgI (p a b c d : Addr) (u5 u6 u7 u8 u9 u10 u11 u12 : Option V) : L2.St := [some (.ref p), some (.ref a), some (.ref b), some (.ref c), some (.ref d), u5, u6, u7, u8, u9, u10, u11, u12, none, none, none]
section
variable {K : PySem.W.Frag} {H Hc H' : Hp} {D a t : Addr} {xs : List V} {kvs : List (Key × V)} {gs pref : List (Str × List Str)} {ps : List Pr} {o : HO} {En : Ends}
theorem st_dict (h : SqT K H a xs) (hD : H D = some (.dK kvs)) : SqT K (upd H D o) a xs := by
  rcases h with (h | ⟨q, h⟩) | h
  · exact .inl (.inl (by rw [upd_ne fun e => by rw [e, hD] at h; cases h]; exact h))
  · exact .inl (.inr ⟨q, by rw [upd_ne fun e => by rw [e, hD] at h; cases h]; exact h⟩)
  · exact .inr h
theorem sl_dict (h : SqL K H a xs) (hD : H D = some (.dK kvs)) : SqL K (upd H D o) a xs := by
  rcases h with (h | ⟨q, h⟩) | h
  · exact .inl (.inl (by rw [upd_ne fun e => by rw [e, hD] at h; cases h]; exact h))
  · exact .inl (.inr ⟨q, by rw [upd_ne fun e => by rw [e, hD] at h; cases h]; exact h⟩)
  · exact .inr h
theorem KvT.none (h : KvT K H kvs gs ps) {z : Str} (m : z ∉ ks gs) : valV kvs (Sum.inr z) = none := by
  have q := h.isSome z
  rw [decide_eq_false m] at q
  exact Option.isSome_eq_false_iff.mp q |> Option.isNone_iff_eq_none.mp
/-- sources[z] = t -/
theorem KvT.put (h : KvT K H kvs gs ps) (hD : H D = some (.dK kvs)) {z : Str} {zs : List Str} (m : z ∉ ks gs) (ht : SqT K H t (zs.map V.str)) :
    (upd H D (.dK (putK kvs (Sum.inr z) (.ref t)))) D = some (.dK (putK kvs (Sum.inr z) (.ref t))) ∧ KvT K (upd H D (.dK (putK kvs (Sum.inr z) (.ref t)))) (putK kvs (Sum.inr z) (.ref t)) (gs ++ [(z, zs)]) (ps ++ [((z, zs), t)]) := by
  refine ⟨upd_same, ?_, ?_, fun p hp => ?_⟩
  · rw [List.map_append, h.fst]
    rfl
  · rw [putK_new (h.none m), h.kv]
    simp [kvP]
  · rcases List.mem_append.mp hp with hp | hp
    · exact st_dict (h.each p hp) hD
    · rw [List.mem_singleton.mp hp]
      exact st_dict ht hD
/-- the dict of sources so far -/
def SrcAt (K : PySem.W.Frag) (H : Hp) (D : Addr) (gs : List (Str × List Str)) : Prop := ∃ kvs ps, H D = some (.dK kvs) ∧ KvT K H kvs gs ps
theorem SrcAt.ex (h : SrcAt K H D gs) (e : Ex H H') : SrcAt K H' D gs := by
  obtain ⟨kvs, ps, h1, h2⟩ := h
  exact ⟨kvs, ps, e _ _ h1, h2.ex e⟩
def bet' (gs : List Gt) : List (Str × List Str) := gs.map fun g => (g.1, g.2.2)
def ber (rs : List Rg) : List (Str × List Str) := rs.map fun r => (r.1, [r.2.2])
theorem ks_app {l m : List (Str × List Str)} : ks (l ++ m) = ks l ++ ks m := by unfold ks; rw [List.map_append]
theorem ks_bet {gs : List Gt} : ks (bet' gs) = gnm gs := by unfold ks bet' gnm; rw [List.map_map]; rfl
theorem ks_ber {rs : List Rg} : ks (ber rs) = rnm rs := by unfold ks ber rnm; rw [List.map_map]; rfl
/-- the turn of a walk that gives each its sources -/
theorem turn_src {z : Str} {zs : List Str} (n : Nat) (e : Ex H Hc) (s : SrcAt K Hc D gs) (nD : H D = none) (m : z ∉ ks gs) (few : gs.length ≤ 1000) (ht : SqT K Hc t (zs.map V.str)) :
    ∃ H4, DPut Hc D (.str z) (.ref t) H4 ∧ Ex H H4 ∧ SrcAt K H4 D (gs ++ [(z, zs)]) := by
  obtain ⟨kvs, ps, h1, h2⟩ := s
  have q := h2.put h1 m ht
  refine ⟨_, DPut.k (k := Sum.inr z) h1 ?_, e.mut nD, _, _, q.1, q.2⟩
  rw [h2.len]
  exact Nat.lt_of_le_of_lt few (by decide)
theorem fresh_next {α : Type} {f : α → Str × List Str} {as : List α} {i : Nat} {x : α} (nd : (ks (pref ++ as.map f)).Nodup) (e : as[i]? = some x) : (f x).1 ∉ ks (pref ++ (as.take i).map f) ∧ pref ++ (as.take (i + 1)).map f = (pref ++ (as.take i).map f) ++ [f x] := by
  constructor
  · rw [ks_app] at nd ⊢
    have e1 : (ks pref ++ ks (as.map f))[(ks pref).length + i]? = some (f x).1 := by
      rw [List.getElem?_append_right (by omega)]
      unfold ks
      rw [Nat.add_sub_cancel_left, List.getElem?_map, List.getElem?_map, e]
      rfl
    have q := not_in_take nd e1
    rw [List.take_append, List.take_of_length_le (by omega), Nat.add_sub_cancel_left] at q
    have t1 : (ks (as.map f)).take i = ks ((as.take i).map f) := by unfold ks; rw [List.map_take, List.map_take]
    rwa [t1] at q
  · rw [take_more e, List.map_append, ← List.append_assoc]
    rfl
section
variable {p b c d : Addr} {u5 u7 u8 u9 u10 u11 u12 : Option V}
/-- {name: () for name in inputs} -/
theorem mkS {zs : List Str} {Qd : Hp → Prop} {σ : L2.St} (hσ : 5 < σ.length) (hl : SqL K H a (zs.map V.str)) (nd : zs.Nodup) (few : zs.length ≤ 1000) (nD : H D = none) (hd : ∀ H', Ex H H' → SrcAt K H' D (zs.map fun z => (z, [])) → Qd H') :
    DcG (Itl K a) (gName 5) tYes (tVar 5) (tTup tNil) [5] σ H D Qd := by
  have nd' : (ks (([] : List (Str × List Str)) ++ zs.map fun z => (z, ([] : List Str)))).Nodup := by
    unfold ks
    rw [List.nil_append, List.map_map]
    exact (by rw [List.map_id'']; exact nd; exact fun _ => rfl)
  refine dc_it (walk_list (K := K) (a := a) (xs := zs.map V.str)) (fun i Hc => Ex H Hc ∧ SrcAt K Hc D ([] ++ (zs.take i).map fun z => (z, []))) ⟨Ex.new nD, [], [], upd_same, rfl, rfl, fun p hp => by cases hp⟩ (fun i Hc _ q => ex_l q.1 hl) (fun i x Ha Hb hi q yy => ?_) (fun Hc q => ?_)
  · obtain ⟨rfl, ex⟩ := yy
    obtain ⟨z, ez, rfl⟩ := nth_map ex
    obtain ⟨n1, n2⟩ := fresh_next (f := fun z => (z, ([] : List Str))) nd' ez
    refine ⟨wipe_set _ 5 _, _, (by show ((wipe σ [5]).set 5 _)[5]? = _; rw [List.getElem?_set_self (by show 5 < (σ.set 5 none).length; rw [List.length_set]; exact hσ)]), by decide, fun t nt => ?_⟩
    have e1 : Ex Hb (upd Hb t (.tup [])) := Ex.new nt
    obtain ⟨kvs, ps, h1, h2⟩ := q.2.ex e1
    have q2 := h2.put (t := t) (zs := []) h1 n1 (st_of upd_same)
    refine ⟨kvs, Sum.inr z, rfl, h1, ?_, (q.1.trans e1).mut nD, _, ps ++ [((z, []), t)], q2.1, ?_⟩
    · rw [h2.len]
      exact Nat.lt_of_le_of_lt (show _ ≤ 1000 by simp; omega) (by decide)
    · rw [n2]
      exact q2.2
  · refine hd Hc q.1 ?_
    have := q.2
    rw [List.length_map, List.take_length, List.nil_append] at this
    exact this
/-- for name, _, wires in gates: sources[name] = tuple(wires) -/
theorem loopS5 {gts : List Gt} (hg : Dp K H (.ref b) (.list (gts.map gateD))) (e : Ex H Hc) (s : SrcAt K Hc D pref) (nD : H D = none) (nd : (ks (pref ++ bet' gts)).Nodup) (few : pref.length ≤ 500) (few2 : gts.length ≤ 500)
    (k : ∀ H' u5 u7 u8, Ex H H' → SrcAt K H' D (pref ++ bet' gts) → En.nx (sgI p a b c d u5 (some (.ref D)) u7 u8 u9 u10 u11 u12) H') :
    tFor (iList K (tVar 2)) (gTup K 3 (gCons (gName 5) (gCons (gName 7) (gCons (gName 8) gNil)))) (sDPut (tVar 6) (tVar 5) (tCB (rTup K) (tCons (tVar 8) tNil))) En (sgI p a b c d u5 (some (.ref D)) u7 u8 u9 u10 u11 u12) Hc := by
  cases hg with
  | @lst b xs _ hb ha =>
    have len := dp_len ha
    refine ⟨_, rfl, b, rfl, ⟨_, ex_l e hb⟩, for_list (K := K) (a := b) (xs := xs) (fun i σ H' => (∃ u5 u7 u8, σ = sgI p a b c d u5 (some (.ref D)) u7 u8 u9 u10 u11 u12) ∧ Ex H H' ∧ SrcAt K H' D (pref ++ bet' (gts.take i))) ⟨⟨_, _, _, rfl⟩, e, by simpa [bet'] using s⟩ (fun i σ H' _ q => ex_l q.2.1 hb) (fun i x σ H' hx q => ?_) (fun σ H' q => ?_)⟩
    · obtain ⟨⟨u5, u7, u8, rfl⟩, e1, s1⟩ := q
      obtain ⟨g, eg, dg⟩ := dp_nth ha hx
      obtain ⟨t, l, rfl, ht, hl⟩ := gate_of (dp_ex e1 dg)
      obtain ⟨n1, n2⟩ := fresh_next (f := fun g : Gt => (g.1, g.2.2)) nd eg
      refine ⟨t, _, rfl, ht, rfl, _, _, rfl, _, _, rfl, _, _, rfl, rfl, ?_⟩
      refine ⟨_, rfl, l, _, rfl, .inl ⟨hl, fun t2 nt => ?_⟩⟩
      have e2 : Ex H' (upd H' t2 (.tup (g.2.2.map V.str))) := Ex.new nt
      obtain ⟨H4, d4, e4, s4⟩ := turn_src (t := t2) (z := g.1) (zs := g.2.2) 0 (e1.trans e2) (s1.ex e2) nD n1 (by simp only [List.length_append, bet', List.length_map, List.length_take]; omega) (st_of upd_same)
      refine ⟨_, rfl, _, rfl, D, H4, rfl, d4, ⟨_, _, _, rfl⟩, e4, ?_⟩
      rw [show bet' (gts.take (i + 1)) = (gts.take (i + 1)).map fun g : Gt => (g.1, g.2.2) from rfl, n2]
      exact s4
    · obtain ⟨⟨u5, u7, u8, rfl⟩, e1, s1⟩ := q
      rw [len, List.take_length] at s1
      exact k H' u5 u7 u8 e1 s1
/-- for name, _, source in registers: sources[name] = (source,) -/
theorem loopS6 {rgs : List Rg} (hg : Dp K H (.ref c) (.list (rgs.map regD))) (e : Ex H Hc) (s : SrcAt K Hc D pref) (nD : H D = none) (nd : (ks (pref ++ ber rgs)).Nodup) (few : pref.length ≤ 500) (few2 : rgs.length ≤ 500)
    (k : ∀ H' u5 u7 u9, Ex H H' → SrcAt K H' D (pref ++ ber rgs) → En.nx (sgI p a b c d u5 (some (.ref D)) u7 u8 u9 u10 u11 u12) H') :
    tFor (iList K (tVar 3)) (gTup K 3 (gCons (gName 5) (gCons (gName 7) (gCons (gName 9) gNil)))) (sDPut (tVar 6) (tVar 5) (tTup (tCons (tVar 9) tNil))) En (sgI p a b c d u5 (some (.ref D)) u7 u8 u9 u10 u11 u12) Hc := by
  cases hg with
  | @lst b' xs _ hb ha =>
    have len := dp_len ha
    refine ⟨_, rfl, c, rfl, ⟨_, ex_l e hb⟩, for_list (K := K) (a := c) (xs := xs) (fun i σ H' => (∃ u5 u7 u9, σ = sgI p a b c d u5 (some (.ref D)) u7 u8 u9 u10 u11 u12) ∧ Ex H H' ∧ SrcAt K H' D (pref ++ ber (rgs.take i))) ⟨⟨_, _, _, rfl⟩, e, by simpa [ber] using s⟩ (fun i σ H' _ q => ex_l q.2.1 hb) (fun i x σ H' hx q => ?_) (fun σ H' q => ?_)⟩
    · obtain ⟨⟨u5, u7, u9, rfl⟩, e1, s1⟩ := q
      obtain ⟨r, er, dr⟩ := dp_nth ha hx
      obtain ⟨t, rfl, ht⟩ := reg_of (dp_ex e1 dr)
      obtain ⟨n1, n2⟩ := fresh_next (f := fun r : Rg => (r.1, [r.2.2])) nd er
      refine ⟨t, _, rfl, ht, rfl, _, _, rfl, _, _, rfl, _, _, rfl, rfl, ?_⟩
      refine ⟨_, rfl, (by show 1 ≤ sizeLine; decide), fun t2 nt => ?_⟩
      have e2 : Ex H' (upd H' t2 (.tup [.str r.2.2])) := Ex.new nt
      obtain ⟨H4, d4, e4, s4⟩ := turn_src (t := t2) (z := r.1) (zs := [r.2.2]) 0 (e1.trans e2) (s1.ex e2) nD n1 (by simp only [List.length_append, ber, List.length_map, List.length_take]; omega) (st_of upd_same)
      refine ⟨_, rfl, _, rfl, D, H4, rfl, d4, ⟨_, _, _, rfl⟩, e4, ?_⟩
      rw [show ber (rgs.take (i + 1)) = (rgs.take (i + 1)).map fun r : Rg => (r.1, [r.2.2]) from rfl, n2]
      exact s4
    · obtain ⟨⟨u5, u7, u9, rfl⟩, e1, s1⟩ := q
      rw [len, List.take_length] at s1
      exact k H' u5 u7 u9 e1 s1
end
end
end W

set_option Elab.async false
set_option linter.all false
set_option maxRecDepth 100000
set_option maxHeartbeats 8000000
namespace W
open PySem PySem.Spec PyProof.Rows L2 Evl G C
section
variable {K : PySem.W.Frag} {H Hc H' : Hp} {D a t p b c d : Addr} {xs : List V} {kvs : List (Key × V)} {gs pref : List (Str × List Str)} {ps : List Pr} {o : HO} {En : Ends} {od : Obj} {u5 u7 u8 u9 u10 u11 u12 : Option V}
theorem flat_len {gs : List (Str × List Str)} (h : ∀ g ∈ gs, g.2.length ≤ 50) : (gs.flatMap Prod.snd).length ≤ 50 * gs.length := by
  induction gs with
  | nil => exact Nat.le_refl _
  | cons g r ih =>
    have := ih fun x hx => h x (List.mem_cons_of_mem _ hx)
    have := h g List.mem_cons_self
    rw [List.flatMap_cons, List.length_append, List.length_cons]
    omega
/-- [wire for name in sources for wire in sources[name]] -/
theorem allS {Q : VK} (hk : KvT K H kvs gs ps) (nd : (ks gs).Nodup) (few : gs.length ≤ 500) (few2 : ∀ g ∈ gs, g.2.length ≤ 50) (hD : H D = some (.frz od (.dK kvs)))
    (hd : ∀ H' L, Ex H H' → H' L = some (.lst ((gs.flatMap Prod.snd).map V.str)) → H L = none → Q (.ref L) H') :
    tLc2 (iKeys (tVar 6)) (gName 5) tYes (iTup K (tDGet (tVar 6) (tVar 5))) (gName 14) tYes (tVar 14) [5, 14] [14] (sgI p a b c d u5 (some (.ref D)) u7 u8 u9 u10 u11 u12) H Q := by
  have len := hk.len
  refine ⟨_, rfl, D, od, rfl, .inl ⟨kvs, hD, fun L nL => ?_⟩⟩
  refine ⟨fun i m Hc => m + i = gs.length ∧ Ex H Hc ∧ Hc L = some (.lst (((gs.take i).flatMap Prod.snd).map V.str)), ⟨gs.length, rfl, Ex.new nL, upd_same⟩, ?_⟩
  rintro i m Hc ⟨em, e1, h1⟩
  have fz := e1 _ _ hD
  rcases Nat.lt_or_ge i gs.length with lt | ge
  · refine .inr ⟨⟨fz, by rw [len]; exact lt⟩, fun H' => Ex H H' ∧ H' L = some (.lst (((gs.take (i + 1)).flatMap Prod.snd).map V.str)), fun H' q => ⟨m - 1, by omega, by omega, q⟩, fun x H' y => ?_⟩
    obtain ⟨rfl, k, v, ek, rfl⟩ := y
    obtain ⟨g, eg, rfl⟩ := hk.nth ek
    have gin : g ∈ gs := List.mem_of_getElem? eg
    obtain ⟨t, ht, hst⟩ := (hk.ex e1).hit nd gin
    refine ⟨rfl, ?_⟩
    refine ⟨_, rfl, _, rfl, D, .ref t, rfl, .inl ⟨kvs, Sum.inr g.1, .inr ⟨od, fz⟩, rfl, ht.symm⟩, t, rfl, ⟨_, hst⟩, ?_⟩
    refine ⟨fun j k H2 => k + j = g.2.length ∧ Ex H H2 ∧ H2 L = some (.lst (((gs.take i).flatMap Prod.snd ++ g.2.take j).map V.str)) ∧ SqT K H2 t (g.2.map V.str), ⟨g.2.length, rfl, e1, by simpa using h1, hst⟩, ?_⟩
    rintro j k H2 ⟨ek2, e2, h2, st2⟩
    rcases Nat.lt_or_ge j g.2.length with lt2 | ge2
    · refine .inr ⟨⟨_, (g.2.map V.str)[j]'(by rw [List.length_map]; exact lt2), st2, by simp [lt2]⟩, fun H3 => Ex H H3 ∧ H3 L = some (.lst (((gs.take i).flatMap Prod.snd ++ g.2.take (j + 1)).map V.str)) ∧ SqT K H3 t (g.2.map V.str), fun H3 q => ⟨k - 1, by omega, by omega, q⟩, fun x H3 y => ?_⟩
      obtain ⟨rfl, y⟩ := y
      obtain ⟨z, ez, rfl⟩ := nth_map (y _ st2)
      refine ⟨rfl, _, rfl, _, h2, ?_, e2.mut nL, ?_, ?_⟩
      · rw [List.length_map, List.length_append]
        have l1 := flat_len (gs := gs.take i) fun g hg => few2 g (List.mem_of_mem_take hg)
        have l2 : (gs.take i).length ≤ 500 := by rw [List.length_take]; omega
        have l3 : (g.2.take j).length ≤ 50 := by rw [List.length_take]; have := few2 g gin; omega
        exact Nat.lt_of_le_of_lt (show _ ≤ 30000 by omega) (by decide)
      · rw [upd_same, take_more ez]
        simp
      · rcases st2 with (q | ⟨q, r⟩) | q
        · exact .inl (.inl (by rw [upd_ne fun e => by rw [e, h2] at q; cases q]; exact q))
        · exact .inl (.inr ⟨q, by rw [upd_ne fun e => by rw [e, h2] at r; cases r]; exact r⟩)
        · exact .inr q
    · have ej : j = g.2.length := by omega
      subst ej
      refine .inl ⟨⟨_, st2, by rw [List.length_map]; exact Nat.le_refl _⟩, e2, ?_⟩
      rw [h2, List.take_length, take_more eg, List.flatMap_append]
      simp
  · have ei : i = gs.length := by omega
    subst ei
    refine .inl ⟨⟨fz, by rw [len]; exact Nat.le_refl _⟩, hd Hc L e1 ?_ nL⟩
    rw [h1, List.take_length]
/-- {gate[0]: sources[gate[0]] for gate in gates} -/
theorem mkB {gts : List Gt} {Qd : Hp → Prop} (hg : Dp K H (.ref b) (.list (gts.map gateD))) (s : SrcAt K H D gs) (nd : (ks gs).Nodup) (sub : ∀ g ∈ gts, (g.1, g.2.2) ∈ gs) (ndg : (gnm gts).Nodup) (few : gts.length ≤ 500) {B : Addr} (nB : H B = none)
    (hd : ∀ H', Ex H H' → SrcAt K H' B (bet' gts) → Qd H') :
    DcG (Itl K b) (gName 13) tYes (tOp (rIxT K) (tVar 13) (tC (.int 0))) (tDGet (tVar 6) (tOp (rIxT K) (tVar 13) (tC (.int 0)))) [13] (sgI p a b c d u5 (some (.ref D)) u7 u8 u9 u10 u11 u12) H B Qd := by
  cases hg with
  | @lst b' xs _ hb ha =>
    have len := dp_len ha
    have nd' : (ks (([] : List (Str × List Str)) ++ gts.map fun g : Gt => (g.1, g.2.2))).Nodup := by
      rw [List.nil_append]
      exact (by rw [show gts.map (fun g : Gt => (g.1, g.2.2)) = bet' gts from rfl, ks_bet]; exact ndg)
    obtain ⟨kvs, ps, h1, h2⟩ := s
    refine dc_it (walk_list (K := K) (a := b) (xs := xs)) (fun i Hc => Ex H Hc ∧ SrcAt K Hc B ([] ++ (gts.take i).map fun g : Gt => (g.1, g.2.2))) ⟨Ex.new nB, [], [], upd_same, rfl, rfl, fun p hp => by cases hp⟩ (fun i Hc _ q => ex_l q.1 hb) (fun i x Ha Hb hi q yy => ?_) (fun Hc q => ?_)
    · obtain ⟨rfl, ex⟩ := yy
      obtain ⟨g, eg, dg⟩ := dp_nth ha ex
      have gin := List.mem_of_getElem? eg
      obtain ⟨tg, l, rfl, htg, hl⟩ := gate_of (dp_ex q.1 dg)
      obtain ⟨n1, n2⟩ := fresh_next (f := fun g : Gt => (g.1, g.2.2)) nd' eg
      obtain ⟨t, ht, hst⟩ := (h2.ex q.1).hit nd (sub g gin)
      have hD := DGet.k (k := Sum.inr g.1) (q.1 _ _ h1)
      rw [ht] at hD
      obtain ⟨kv3, ps3, h3, h4⟩ := q.2
      have q2 := h4.put (t := t) (zs := g.2.2) h3 n1 hst
      refine ⟨wipe_set _ 13 _, _, rfl, tg, _, 0, .str g.1, rfl, rfl, htg, rfl, _, rfl, _, rfl, tg, _, 0, .str g.1, rfl, rfl, htg, rfl, D, .ref t, rfl, hD, kv3, Sum.inr g.1, rfl, h3, ?_, q.1.mut nB, _, ps3 ++ [((g.1, g.2.2), t)], q2.1, ?_⟩
      · rw [h4.len]
        exact Nat.lt_of_le_of_lt (show _ ≤ 1000 by simp; omega) (by decide)
      · rw [n2]
        exact q2.2
    · refine hd Hc q.1 ?_
      have := q.2
      rw [len, List.take_length, List.nil_append] at this
      exact this
end
end W

set_option Elab.async false
set_option linter.all false
set_option maxRecDepth 100000
set_option maxHeartbeats 8000000
namespace W
open PySem PySem.Spec PyProof.Rows L2 Evl G C
/-- all but p stays -/
def ExBut (p : Addr) (H H' : Hp) : Prop := ∀ b o, H b = some o → b ≠ p → H' b = some o
theorem ExBut.refl (p : Addr) (H : Hp) : ExBut p H H := fun _ _ e _ => e
theorem ExBut.trans {p : Addr} {H H1 H2 : Hp} (a : ExBut p H H1) (b : ExBut p H1 H2) : ExBut p H H2 := fun c o e n => b c o (a c o e n) n
theorem ExBut.of {p : Addr} {H H' : Hp} (e : Ex H H') : ExBut p H H' := fun b o h _ => e b o h
theorem ExBut.upd {p : Addr} {H : Hp} {o : HO} : ExBut p H (upd H p o) := fun b u e n => by rw [upd_ne n]; exact e
theorem ExBut.mut {p b : Addr} {H H' : Hp} {o : HO} (e : ExBut p H H') (h : H b = none) : ExBut p H (L2.upd H' b o) := fun a u ha n => by
  rw [upd_ne fun z => by rw [z, h] at ha; cases ha]
  exact e a u ha n
theorem ExBut.fresh {p b : Addr} {H H' : Hp} (e : ExBut p H H') (h : H' b = none) (n : b ≠ p) : H b = none := by
  cases q : H b with
  | none => rfl
  | some o =>
    rw [e _ _ q n] at h
    cases h
/-- no list or tuple stands at p -/
def Apart (H : Hp) (p : Addr) : Prop := ∀ u, H p = some u → (∀ xs, u ≠ .lst xs) ∧ (∀ xs, u ≠ .tup xs) ∧ ∀ o v, u ≠ .frz o v
theorem apart_ins {H : Hp} {p C dx : Addr} {fs : List (Str × V)} (h : H p = some (.ins C dx fs)) : Apart H p := fun u e => by
  rw [h] at e
  cases e
  exact ⟨(fun _ z => by cases z), (fun _ z => by cases z), (fun _ _ z => by cases z)⟩
section
variable {K : PySem.W.Frag} {H H' : Hp} {p a : Addr} {xs : List V}
theorem but_st (hp : Apart H p) (e : ExBut p H H') (h : SqT K H a xs) : SqT K H' a xs := by
  rcases h with (h | ⟨q, h⟩) | h
  · exact .inl (.inl (e _ _ h fun z => (hp _ (z ▸ h)).2.1 _ rfl))
  · exact .inl (.inr ⟨q, e _ _ h fun z => (hp _ (z ▸ h)).2.2 _ _ rfl⟩)
  · exact .inr h
theorem but_sl (hp : Apart H p) (e : ExBut p H H') (h : SqL K H a xs) : SqL K H' a xs := by
  rcases h with (h | ⟨q, h⟩) | h
  · exact .inl (.inl (e _ _ h fun z => (hp _ (z ▸ h)).1 _ rfl))
  · exact .inl (.inr ⟨q, e _ _ h fun z => (hp _ (z ▸ h)).2.2 _ _ rfl⟩)
  · exact .inr h
mutual
theorem but_dp (hp : Apart H p) (e : ExBut p H H') : ∀ {d : PyData} {x : V}, Dp K H x d → Dp K H' x d
  | .none, _, h => by cases h; exact .non
  | .bool b, _, h => by cases h; exact .bl b
  | .int i, _, h => by cases h; exact .int i
  | .str z, _, h => by cases h; exact .str z
  | .list ds, _, h => by
    cases h with
    | lst hs a => exact .lst (but_sl hp e hs) (but_dpAll hp e a)
  | .tuple ds, _, h => by
    cases h with
    | tup hs a => exact .tup (but_st hp e hs) (but_dpAll hp e a)
  | .dict _, _, h => by cases h
theorem but_dpAll (hp : Apart H p) (e : ExBut p H H') : ∀ {ds : List PyData} {xs : List V}, DpAll K H xs ds → DpAll K H' xs ds
  | [], _, h => by cases h; exact .nil
  | d :: ds, _, h => by
    cases h with
    | cons a b => exact .cons (but_dp hp e a) (but_dpAll hp e b)
end
end
/-! ### data of tuples, texts, numbers alone -/
mutual
def noL : PyData → Bool
  | .tuple ds => noLs ds
  | .list _ => false
  | .dict _ => false
  | _ => true
def noLs : List PyData → Bool
  | [] => true
  | d :: ds => noL d && noLs ds
end
/-- only lists change from H to H' -/
def ExT (H H' : Hp) : Prop := ∀ b o, H b = some o → (∀ xs, o ≠ .lst xs) → H' b = some o
theorem ExT.of {H H' : Hp} (e : Ex H H') : ExT H H' := fun b o h _ => e b o h
theorem ExT.upd {H : Hp} {L : Addr} {xs : List V} {o : HO} (h : H L = some (.lst xs)) : ExT H (upd H L o) := fun b u hb n => by
  rw [upd_ne fun z => by rw [z, h] at hb; cases hb; exact n _ rfl]
  exact hb
section
variable {K : PySem.W.Frag} {H H' : Hp}
theorem t_st (e : ExT H H') {a : Addr} {xs : List V} (h : SqT K H a xs) : SqT K H' a xs := by
  rcases h with (h | ⟨q, h⟩) | h
  · exact .inl (.inl (e _ _ h fun _ z => by cases z))
  · exact .inl (.inr ⟨q, e _ _ h fun _ z => by cases z⟩)
  · exact .inr h
mutual
theorem t_dp (e : ExT H H') : ∀ {d : PyData} {x : V}, noL d = true → Dp K H x d → Dp K H' x d
  | .none, _, _, h => by cases h; exact .non
  | .bool b, _, _, h => by cases h; exact .bl b
  | .int i, _, _, h => by cases h; exact .int i
  | .str z, _, _, h => by cases h; exact .str z
  | .list ds, _, n, h => by cases n
  | .tuple ds, _, n, h => by
    cases h with
    | tup hs a => exact .tup (t_st e hs) (t_dpAll e n a)
  | .dict _, _, _, h => by cases h
theorem t_dpAll (e : ExT H H') : ∀ {ds : List PyData} {xs : List V}, noLs ds = true → DpAll K H xs ds → DpAll K H' xs ds
  | [], _, _, h => by cases h; exact .nil
  | d :: ds, _, n, h => by
    cases h with
    | cons a b =>
      have n : (noL d && noLs ds) = true := n
      rw [Bool.and_eq_true] at n
      exact .cons (t_dp e n.1 a) (t_dpAll e n.2 b)
end
theorem noLs_map {α : Type} {f : α → PyData} (h : ∀ a, noL (f a) = true) : ∀ l : List α, noLs (l.map f) = true
  | [] => rfl
  | a :: l => by
    show (noL (f a) && noLs (l.map f)) = true
    rw [h a, noLs_map h l]
    rfl
theorem noL_txt (zs : List Str) : noL (.tuple (txtD zs)) = true := noLs_map (fun _ => rfl) zs
theorem noL_gate (g : Gt) : noL (gateU g) = true := by
  show (noL (.str g.1) && (noL (.str g.2.1) && (noL (.tuple (txtD g.2.2)) && true))) = true
  rw [noL_txt]
  rfl
theorem noL_reg (r : Rg) : noL (regD r) = true := rfl
theorem dpAll_snoc : ∀ {xs : List V} {ds : List PyData} {x : V} {d : PyData}, DpAll K H xs ds → Dp K H x d → DpAll K H (xs ++ [x]) (ds ++ [d])
  | _, _, _, _, .nil, h => .cons h .nil
  | _, _, _, _, .cons a b, h => .cons a (dpAll_snoc b h)
end
/-! ### sorting gates and registers -/
theorem alike_txts : ∀ (a b : List Str), PySem.W.alikeAll (txtD a) (txtD b) = true
  | [], _ => by unfold txtD; simp [PySem.W.alikeAll]
  | _ :: _, [] => by unfold txtD; simp [PySem.W.alikeAll]
  | x :: a, y :: b => by
    have := alike_txts a b
    unfold txtD at this ⊢
    simp [PySem.W.alikeAll, PySem.W.alike, this]
theorem alike_gates (gs : List Gt) : PySem.W.AllAlike (gs.map gateD) := by
  intro d hd d' hd'
  obtain ⟨g, _, rfl⟩ := List.mem_map.mp hd
  obtain ⟨g', _, rfl⟩ := List.mem_map.mp hd'
  simp [gateD, PySem.W.alike, PySem.W.alikeAll, alike_txts]
theorem alike_regs (gs : List Rg) : PySem.W.AllAlike (gs.map regD) := by
  intro d hd d' hd'
  obtain ⟨g, _, rfl⟩ := List.mem_map.mp hd
  obtain ⟨g', _, rfl⟩ := List.mem_map.mp hd'
  simp [regD, PySem.W.alike, PySem.W.alikeAll]
theorem sortable_gates (gs : List Gt) : PySem.W.Sortable (gs.map gateD) := .inl fun d hd => by
  obtain ⟨g, _, rfl⟩ := List.mem_map.mp hd
  exact ⟨_, _, rfl⟩
theorem sortable_regs (gs : List Rg) : PySem.W.Sortable (gs.map regD) := .inl fun d hd => by
  obtain ⟨g, _, rfl⟩ := List.mem_map.mp hd
  exact ⟨_, _, rfl⟩
theorem deep_txts : ∀ zs : List Str, PyData.depthAll (txtD zs) = 0
  | [] => rfl
  | z :: zs => by
    have := deep_txts zs
    unfold txtD at this ⊢
    simp [PyData.depthAll, PyData.depth, this]
theorem deep_gate (g : Gt) : (gateD g).depth ≤ 50 := by
  simp [gateD, PyData.depth, PyData.depthAll, deep_txts]
theorem deep_reg (g : Rg) : (regD g).depth ≤ 50 := by
  simp [regD, PyData.depth, PyData.depthAll]
section
variable {K : PySem.W.Frag} {H Hc H' : Hp} {D a t p b c d : Addr} {u5 u6 u7 u8 u9 u10 u11 u12 : Option V}
/-- sorted(gates), the names unlike -/
theorem srtG {gts : List Gt} {xs : List V} {Q : VK} {b : Addr} {H : Hp} (hb : SqL K H b xs) (ha : DpAll K H xs (gts.map gateD)) (nd : (gnm gts).Nodup) (few : gts.length ≤ 1000)
    (k : ∀ sg ys L, sg.Perm gts → Rising (fun g : Gt => g.1) sg → H L = none → DpAll K H ys (sg.map gateD) → Q (.ref L) (upd H L (.lst ys))) : rSrt K [.ref b] H Q := by
  obtain ⟨sg, s1, s2, s3⟩ := srt_names (f := gateD) (nm := fun g : Gt => g.1) (rest := fun g => [.str g.2.1, .list (txtD g.2.2)]) (fun _ => rfl) (dp_len ha) nd
  refine ⟨b, xs, gts.map gateD, rfl, hb, ha, alike_gates gts, sortable_gates gts, by rw [List.length_map]; exact few, fun d hd => ?_, fun L nL => k sg _ L s1 s2 nL ?_⟩
  · obtain ⟨g, _, rfl⟩ := List.mem_map.mp hd
    exact deep_gate g
  · have q := srt_dp ha
    rw [s3] at q
    exact q
theorem srtRg {rgs : List Rg} {xs : List V} {Q : VK} {b : Addr} {H : Hp} (hb : SqL K H b xs) (ha : DpAll K H xs (rgs.map regD)) (nd : (rnm rgs).Nodup) (few : rgs.length ≤ 1000)
    (k : ∀ sg ys L, sg.Perm rgs → Rising (fun g : Rg => g.1) sg → H L = none → DpAll K H ys (sg.map regD) → Q (.ref L) (upd H L (.lst ys))) : rSrt K [.ref b] H Q := by
  obtain ⟨sg, s1, s2, s3⟩ := srt_names (f := regD) (nm := fun g : Rg => g.1) (rest := fun g => [.int g.2.1, .str g.2.2]) (fun _ => rfl) (dp_len ha) nd
  refine ⟨b, xs, rgs.map regD, rfl, hb, ha, alike_regs rgs, sortable_regs rgs, by rw [List.length_map]; exact few, fun d hd => ?_, fun L nL => k sg _ L s1 s2 nL ?_⟩
  · obtain ⟨g, _, rfl⟩ := List.mem_map.mp hd
    exact deep_reg g
  · have q := srt_dp ha
    rw [s3] at q
    exact q
/-- [(name, kind, tuple(wires)) for name, kind, wires in sorted(gates)] -/
theorem mkG {gts : List Gt} {Q : VK} (hg : Dp K H (.ref b) (.list (gts.map gateD))) (nd : (gnm gts).Nodup) (few : gts.length ≤ 1000)
    (k : ∀ sg ys L H', sg.Perm gts → Rising (fun g : Gt => g.1) sg → Ex H H' → H' L = some (.lst ys) → DpAll K H' ys (sg.map gateU) → Q (.ref L) H') :
    tLc (iList K (tCB (rSrt K) (tCons (tVar 2) tNil))) (gTup K 3 (gCons (gName 5) (gCons (gName 11) (gCons (gName 8) gNil)))) tYes (tTup (tCons (tVar 5) (tCons (tVar 11) (tCons (tCB (rTup K) (tCons (tVar 8) tNil)) tNil)))) [5, 11, 8]
      (sgI p a b c d u5 u6 u7 u8 u9 u10 u11 u12) H Q := by
  cases hg with
  | @lst b' xs _ hb ha =>
    refine ⟨_, rfl, ?_⟩
    dsimp only [tNil]
    refine srtG hb ha nd few fun sg ys S s1 s2 nS hys => ?_
    have e1 : Ex H (upd H S (.lst ys)) := Ex.new nS
    have hS : (upd H S (.lst ys)) S = some (.lst ys) := upd_same
    have hys1 := dpAll_ex e1 hys
    generalize upd H S (.lst ys) = H1 at e1 hS hys1
    have len := dp_len hys1
    have ls : sg.length ≤ 1000 := by rw [s1.length_eq]; exact few
    refine ⟨S, rfl, ⟨_, SqL.of hS⟩, fun L nL => ?_⟩
    refine lc_it (walk_list (K := K) (a := S) (xs := ys)) (fun i Hc => Ex H1 Hc ∧ ∃ acc, Hc L = some (.lst acc) ∧ DpAll K Hc acc ((sg.take i).map gateU)) ⟨Ex.new nL, [], upd_same, .nil⟩ (fun i Hc _ q => ex_l q.1 (SqL.of hS)) (fun i x Ha Hb hi q yy => ?_) (fun Hc q => ?_)
    · obtain ⟨rfl, ex⟩ := yy
      obtain ⟨e2, acc, h2, dacc⟩ := q
      obtain ⟨g, eg, dg⟩ := dp_nth hys1 ex
      obtain ⟨t, l, rfl, ht, hl⟩ := gate_of (dp_ex e2 dg)
      refine ⟨t, _, rfl, ht, rfl, _, _, rfl, _, _, rfl, _, _, rfl, rfl, rfl, ?_⟩
      refine ⟨_, rfl, _, rfl, _, rfl, l, _, rfl, .inl ⟨hl, fun t2 nt2 => ?_⟩⟩
      have e3 : Ex Hb (upd Hb t2 (.tup (g.2.2.map V.str))) := Ex.new nt2
      have h3 : (upd Hb t2 (.tup (g.2.2.map V.str))) t2 = some (.tup (g.2.2.map V.str)) := upd_same
      generalize upd Hb t2 (.tup (g.2.2.map V.str)) = H3 at e3 h3
      refine ⟨(by show 3 ≤ sizeLine; decide), fun t3 nt3 => ?_⟩
      have e4 : Ex H3 (upd H3 t3 (.tup [.str g.1, .str g.2.1, .ref t2])) := Ex.new nt3
      have h4 : (upd H3 t3 (.tup [.str g.1, .str g.2.1, .ref t2])) t3 = some (.tup [.str g.1, .str g.2.1, .ref t2]) := upd_same
      have d4 : Dp K (upd H3 t3 (.tup [.str g.1, .str g.2.1, .ref t2])) (.ref t3) (gateU g) := .tup (st_of h4) (.cons (.str _) (.cons (.str _) (.cons (dp_txt (st_of (e4 _ _ h3))) .nil)))
      generalize upd H3 t3 (.tup [.str g.1, .str g.2.1, .ref t2]) = H4 at e4 h4 d4
      have e34 := e3.trans e4
      have h24 := e34 _ _ h2
      refine ⟨acc, h24, ?_, (e2.trans e34).mut nL, acc ++ [.ref t3], upd_same, ?_⟩
      · rw [dp_len dacc, List.length_take]
        exact Nat.lt_of_le_of_lt (show _ ≤ 1000 by omega) (by decide)
      · rw [take_more eg, List.map_append]
        exact dpAll_snoc (t_dpAll (ExT.upd h24) (noLs_map noL_gate _) (dpAll_ex e34 dacc)) (t_dp (ExT.upd h24) (noL_gate g) d4)
    · obtain ⟨e2, acc, h2, dacc⟩ := q
      rw [len, List.take_length] at dacc
      exact k sg acc L Hc s1 s2 (e1.trans e2) h2 dacc
/-- [(name, bit, source) for name, bit, source in registers] -/
theorem mkRg {rgs : List Rg} {Q : VK} (hg : Dp K H (.ref c) (.list (rgs.map regD))) (few : rgs.length ≤ 1000)
    (k : ∀ ys L H', Ex H H' → H' L = some (.lst ys) → DpAll K H' ys (rgs.map regD) → Q (.ref L) H') :
    tLc (iList K (tVar 3)) (gTup K 3 (gCons (gName 5) (gCons (gName 15) (gCons (gName 9) gNil)))) tYes (tTup (tCons (tVar 5) (tCons (tVar 15) (tCons (tVar 9) tNil)))) [5, 15, 9] (sgI p a b c d u5 u6 u7 u8 u9 u10 u11 u12) H Q := by
  cases hg with
  | @lst b' xs _ hb ha =>
    have len := dp_len ha
    refine ⟨_, rfl, c, rfl, ⟨_, hb⟩, fun L nL => ?_⟩
    refine lc_it (walk_list (K := K) (a := c) (xs := xs)) (fun i Hc => Ex H Hc ∧ ∃ acc, Hc L = some (.lst acc) ∧ DpAll K Hc acc ((rgs.take i).map regD)) ⟨Ex.new nL, [], upd_same, .nil⟩ (fun i Hc _ q => ex_l q.1 hb) (fun i x Ha Hb hi q yy => ?_) (fun Hc q => ?_)
    · obtain ⟨rfl, ex⟩ := yy
      obtain ⟨e2, acc, h2, dacc⟩ := q
      obtain ⟨r, er, dr⟩ := dp_nth ha ex
      obtain ⟨t, rfl, ht⟩ := reg_of (dp_ex e2 dr)
      refine ⟨t, _, rfl, ht, rfl, _, _, rfl, _, _, rfl, _, _, rfl, rfl, rfl, ?_⟩
      refine ⟨_, rfl, _, rfl, _, rfl, (by show 3 ≤ sizeLine; decide), fun t3 nt3 => ?_⟩
      have e4 : Ex Hb (upd Hb t3 (.tup [.str r.1, .int r.2.1, .str r.2.2])) := Ex.new nt3
      have d4 : Dp K (upd Hb t3 (.tup [.str r.1, .int r.2.1, .str r.2.2])) (.ref t3) (regD r) := .tup (st_of upd_same) (.cons (.str _) (.cons (.int _) (.cons (.str _) .nil)))
      generalize upd Hb t3 (.tup [.str r.1, .int r.2.1, .str r.2.2]) = H4 at e4 d4
      have h24 := e4 _ _ h2
      refine ⟨acc, h24, ?_, (e2.trans e4).mut nL, acc ++ [.ref t3], upd_same, ?_⟩
      · rw [dp_len dacc, List.length_take]
        exact Nat.lt_of_le_of_lt (show _ ≤ 1000 by omega) (by decide)
      · rw [take_more er, List.map_append]
        exact dpAll_snoc (t_dpAll (ExT.upd h24) (noLs_map noL_reg _) (dpAll_ex e4 dacc)) (t_dp (ExT.upd h24) (noL_reg r) d4)
    · obtain ⟨e2, acc, h2, dacc⟩ := q
      rw [len, List.take_length] at dacc
      exact k acc L Hc e2 h2 dacc
end
end W

set_option Elab.async false
set_option linter.all false
set_option maxRecDepth 100000
set_option maxHeartbeats 8000000
namespace W
open PySem PySem.Spec PyProof.Rows L2 Evl G C
/-- what is asked of a circuit -/
structure Good (c : Cir) : Prop where
  nd : (names c).Nodup
  inm : ∀ z ∈ c.ins, nameOk z
  gts : ∀ g ∈ c.gates, gateOk g
  rgs : ∀ r ∈ c.regs, regOk r
  src : ∀ g ∈ c.gates, ∀ z ∈ g.2.2, z ∈ names c
  rsrc : ∀ r ∈ c.regs, r.2.2 ∈ names c
  out : ∀ z ∈ c.outs, z ∈ names c
  rank : Ranked (bet' c.gates)
  li : c.ins.length ≤ 8
  lg : c.gates.length ≤ 40
  lr : c.regs.length ≤ 8
  lo : c.outs.length ≤ 8
def srcsL (c : Cir) : List (Str × List Str) := ((c.ins.map fun z => (z, [])) ++ bet' c.gates) ++ ber c.regs
def kindsC (c : Cir) : List (Str × Str) := ((c.ins.map fun z => (z, ("input" : Str))) ++ (c.gates.map fun g => (g.1, g.2.1))) ++ (c.regs.map fun r => (r.1, ("register" : Str)))
def kvSt (l : List (Str × Str)) : List (Key × V) := l.map fun q => (Sum.inr q.1, .str q.2)
def flds (a1 a2 a3 a4 D5 D6 L7 : Addr) : List (Str × V) := putF "_sequence" (.ref L7) (putF "_kinds" (.ref D6) (putF "_sources" (.ref D5) (putF "_outputs" (.ref a4) (putF "_registers" (.ref a3) (putF "_gates" (.ref a2) (putF "_inputs" (.ref a1) []))))))
theorem flds_in (a1 a2 a3 a4 D5 D6 L7 : Addr) : (flds a1 a2 a3 a4 D5 D6 L7).lookup ("_inputs" : Str) = some (.ref a1) ∧ (flds a1 a2 a3 a4 D5 D6 L7).lookup ("_gates" : Str) = some (.ref a2) ∧ (flds a1 a2 a3 a4 D5 D6 L7).lookup ("_registers" : Str) = some (.ref a3) ∧ (flds a1 a2 a3 a4 D5 D6 L7).lookup ("_outputs" : Str) = some (.ref a4) ∧
    (flds a1 a2 a3 a4 D5 D6 L7).lookup ("_sources" : Str) = some (.ref D5) ∧ (flds a1 a2 a3 a4 D5 D6 L7).lookup ("_kinds" : Str) = some (.ref D6) ∧ (flds a1 a2 a3 a4 D5 D6 L7).lookup ("_sequence" : Str) = some (.ref L7) := ⟨rfl, rfl, rfl, rfl, rfl, rfl, rfl⟩
/-- the circuit c stands at p -/
def CirAt (K : PySem.W.Frag) (C : Addr) (H : Hp) (p : Addr) (c : Cir) : Prop := ∃ (dx a1 a2 a3 a4 D5 D6 L7 : Addr) (sg : List Gt) (sr : List Rg) (seq : List Str), H p = some (.ins C dx (flds a1 a2 a3 a4 D5 D6 L7)) ∧ Dp K H (.ref a1) (.tuple (txtD c.ins)) ∧
  (Dp K H (.ref a2) (.tuple (sg.map gateU)) ∧ sg.Perm c.gates ∧ Rising (fun g : Gt => g.1) sg) ∧ (Dp K H (.ref a3) (.tuple (sr.map regD)) ∧ sr.Perm c.regs ∧ Rising (fun r : Rg => r.1) sr) ∧
  Dp K H (.ref a4) (.tuple (txtD c.outs)) ∧ SrcAt K H D5 (srcsL c) ∧ H D6 = some (.dK (kvSt (kindsC c))) ∧ H L7 = some (.lst (seq.map V.str)) ∧ Topo (bet' c.gates) seq
section
variable {K : PySem.W.Frag} {H Hc H' : Hp} {C D a t p b c d : Addr} {kc : Cir} {xs : List V} {En : Ends} {u5 u6 u7 u8 u9 u10 u11 u12 : Option V}
theorem CirAt.ex (h : CirAt K C H p kc) (e : Ex H H') : CirAt K C H' p kc := by
  obtain ⟨dx, a1, a2, a3, a4, D5, D6, L7, sg, sr, seq, h1, h2, ⟨h3, h4, h5⟩, ⟨h6, h7, h8⟩, h9, h10, h11, h12, h13⟩ := h
  exact ⟨dx, a1, a2, a3, a4, D5, D6, L7, sg, sr, seq, e _ _ h1, dp_ex e h2, ⟨dp_ex e h3, h4, h5⟩, ⟨dp_ex e h6, h7, h8⟩, dp_ex e h9, h10.ex e, e _ _ h11, e _ _ h12, h13⟩
theorem ks_srcs (kc : Cir) : ks (srcsL kc) = names kc := by
  unfold srcsL
  rw [ks_app, ks_app, ks_bet, ks_ber]
  unfold names gn rn gnm rnm ks
  rw [List.map_map, ← List.append_assoc]
  congr 2
  exact List.map_id'' (fun _ => rfl) _
theorem fst_kinds (kc : Cir) : (kindsC kc).map Prod.fst = names kc := by
  unfold kindsC names gn rn
  rw [List.map_append, List.map_append, List.map_map, List.map_map, List.map_map, ← List.append_assoc]
  congr 2
  exact List.map_id'' (fun _ => rfl) _
/-- [gate[0] for gate in gates] -/
theorem gate_names {gts : List Gt} {Qd : Hp → Prop} {xs : List V} (hb : SqL K H b xs) (ha : DpAll K H xs (gts.map gateD)) (few : gts.length ≤ 1000) (nD : H D = none) (hd : ∀ H', Ex H H' → H' D = some (.lst ((gnm gts).map V.str)) → Qd H') :
    LcG (Itl K b) 13 (tOp (rIxT K) (tVar 13) (tC (.int 0))) (sgI p a b c d u5 u6 u7 u8 u9 u10 u11 u12) H D Qd := by
  have len := dp_len ha
  refine lc_pure (walk_list (K := K) (a := b) (xs := xs)) (fun i => (gts[i]?.map fun g => V.str g.1).getD .non) (by omega) (fun H' e => ex_l e hb) (fun i x => xs[i]? = some x) (fun i Ha x Hb _ _ y => ⟨y.1, y.2⟩) (fun i x hi ex => ?_) nD (fun H' e q => hd H' e ?_)
  · obtain ⟨g, eg, dg⟩ := dp_nth ha ex
    obtain ⟨t, l, rfl, ht, _⟩ := gate_of dg
    rw [eg]
    exact fun H1 e1 Q1 q1 => ⟨_, rfl, t, _, 0, .str g.1, rfl, rfl, ex_t e1 ht, rfl, q1 H1 (Ex.refl H1)⟩
  · rw [q, len]
    unfold gnm
    rw [List.map_map]
    congr 2
    exact range_map gts _ (fun g => V.str g.1) fun i x e => by rw [e]; rfl
/-- the kinds so far: one more -/
theorem kvSt_put {l : List (Str × Str)} {z y : Str} (m : z ∉ l.map Prod.fst) : putK (kvSt l) (Sum.inr z) (.str y) = kvSt (l ++ [(z, y)]) := by
  have q : valV (kvSt l) (Sum.inr z) = none := (valV_map (fun q : Str × Str => (Sum.inr q.1 : Key)) (fun q => V.str q.2) l _).mpr fun a ha e => m (List.mem_map.mpr ⟨a, ha, Sum.inr.inj e⟩)
  rw [putK_new q]
  simp [kvSt]
/-- for name, kind, _ in gates: self._kinds[name] = kind -/
theorem loopK {cC dx : Addr} {fs : List (Str × V)} {gts : List Gt} {l0 : List (Str × Str)} (cl : Cls K cC) (nk : NoAttr K cC "_kinds") (lf : fs.lookup ("_kinds" : Str) = some (.ref D)) (hp : Hc p = some (.ins cC dx fs)) (hg : Dp K Hc (.ref b) (.list (gts.map gateD)))
    (hD : Hc D = some (.dK (kvSt l0))) (nd : (l0.map Prod.fst ++ gnm gts).Nodup) (few : l0.length ≤ 500) (few2 : gts.length ≤ 500)
    (k : ∀ H' u5 u7 u11, H' p = Hc p → (∀ x o, Hc x = some o → x ≠ D → H' x = some o) → H' D = some (.dK (kvSt (l0 ++ gts.map fun g => (g.1, g.2.1)))) → En.nx (sgI p a b c d u5 u6 u7 u8 u9 u10 u11 u12) H') :
    tFor (iList K (tVar 2)) (gTup K 3 (gCons (gName 5) (gCons (gName 11) (gCons (gName 7) gNil)))) (sDPut (tFld K (tVar 0) "_kinds") (tVar 5) (tVar 11)) En (sgI p a b c d u5 u6 u7 u8 u9 u10 u11 u12) Hc := by
  have pD : p ≠ D := fun e => by rw [e, hD] at hp; cases hp
  cases hg with
  | @lst b' xs _ hb ha =>
    have len := dp_len ha
    have keep : ∀ {H' : Hp}, (∀ x o, Hc x = some o → x ≠ D → H' x = some o) → ExBut D Hc H' := fun h => h
    have ap : Apart Hc D := fun u e => by
      rw [hD] at e
      cases e
      exact ⟨(fun _ z => by cases z), (fun _ z => by cases z), (fun _ _ z => by cases z)⟩
    refine ⟨_, rfl, b, rfl, ⟨_, hb⟩, for_list (K := K) (a := b) (xs := xs) (fun i σ H' => (∃ u5 u7 u11, σ = sgI p a b c d u5 u6 u7 u8 u9 u10 u11 u12) ∧ ExBut D Hc H' ∧ H' D = some (.dK (kvSt (l0 ++ (gts.take i).map fun g => (g.1, g.2.1))))) ⟨⟨_, _, _, rfl⟩, ExBut.refl _ _, by simpa using hD⟩
      (fun i σ H' _ q => but_sl ap q.2.1 hb) (fun i x σ H' hx q => ?_) (fun σ H' q => ?_)⟩
    · obtain ⟨⟨u5, u7, u11, rfl⟩, e1, h1⟩ := q
      obtain ⟨g, eg, dg⟩ := dp_nth ha hx
      obtain ⟨t, l, rfl, ht, _⟩ := gate_of (but_dp ap e1 dg)
      have notin : g.1 ∉ (l0 ++ (gts.take i).map fun g => (g.1, g.2.1)).map Prod.fst := by
        have a1 : (l0.map Prod.fst ++ gnm gts)[(l0.map Prod.fst).length + i]? = some g.1 := by
          rw [List.getElem?_append_right (by omega), Nat.add_sub_cancel_left]
          simp [gnm, eg]
        have a2 := not_in_take nd a1
        rw [List.take_append, List.take_of_length_le (by omega), Nat.add_sub_cancel_left] at a2
        rw [List.map_append, List.map_map]
        have a3 : (gnm gts).take i = (gts.take i).map (Prod.fst ∘ fun g : Gt => (g.1, g.2.1)) := (List.map_take (f := fun g : Gt => g.1)).symm
        rwa [a3] at a2
      refine ⟨t, _, rfl, ht, rfl, _, _, rfl, _, _, rfl, _, _, rfl, rfl, ?_⟩
      refine ⟨_, rfl, _, rfl, p, cC, dx, fs, _, rfl, e1 _ _ hp pD, cl, nk, lf, _, rfl, D, _, rfl, DPut.k (k := Sum.inr g.1) h1 ?_, ⟨_, _, _, rfl⟩, e1.trans ExBut.upd, ?_⟩
      · simp only [kvSt, List.length_map, List.length_append, List.length_take]
        exact Nat.lt_of_le_of_lt (show _ ≤ 1000 by omega) (by decide)
      · rw [upd_same, kvSt_put notin, take_more eg, List.map_append, ← List.append_assoc]
        rfl
    · obtain ⟨⟨u5, u7, u11, rfl⟩, e1, h1⟩ := q
      rw [len, List.take_length] at h1
      exact k H' u5 u7 u11 (by rw [hp]; exact e1 _ _ hp pD) e1 h1
/-- for row in registers: self._kinds[row[0]] = "register" -/
theorem loopKr {cC dx : Addr} {fs : List (Str × V)} {rgs : List Rg} {l0 : List (Str × Str)} (cl : Cls K cC) (nk : NoAttr K cC "_kinds") (lf : fs.lookup ("_kinds" : Str) = some (.ref D)) (hp : Hc p = some (.ins cC dx fs)) (hg : Dp K Hc (.ref c) (.list (rgs.map regD)))
    (hD : Hc D = some (.dK (kvSt l0))) (nd : (l0.map Prod.fst ++ rnm rgs).Nodup) (few : l0.length ≤ 500) (few2 : rgs.length ≤ 500)
    (k : ∀ H' u12, H' p = Hc p → (∀ x o, Hc x = some o → x ≠ D → H' x = some o) → H' D = some (.dK (kvSt (l0 ++ rgs.map fun r => (r.1, ("register" : Str))))) → En.nx (sgI p a b c d u5 u6 u7 u8 u9 u10 u11 u12) H') :
    tFor (iList K (tVar 3)) (gName 12) (sDPut (tFld K (tVar 0) "_kinds") (tOp (rIxT K) (tVar 12) (tC (.int 0))) (tC (.str "register"))) En (sgI p a b c d u5 u6 u7 u8 u9 u10 u11 u12) Hc := by
  have pD : p ≠ D := fun e => by rw [e, hD] at hp; cases hp
  cases hg with
  | @lst b' xs _ hb ha =>
    have len := dp_len ha
    have ap : Apart Hc D := fun u e => by
      rw [hD] at e
      cases e
      exact ⟨(fun _ z => by cases z), (fun _ z => by cases z), (fun _ _ z => by cases z)⟩
    refine ⟨_, rfl, c, rfl, ⟨_, hb⟩, for_list (K := K) (a := c) (xs := xs) (fun i σ H' => (∃ u12, σ = sgI p a b c d u5 u6 u7 u8 u9 u10 u11 u12) ∧ ExBut D Hc H' ∧ H' D = some (.dK (kvSt (l0 ++ (rgs.take i).map fun r => (r.1, ("register" : Str)))))) ⟨⟨_, rfl⟩, ExBut.refl _ _, by simpa using hD⟩
      (fun i σ H' _ q => but_sl ap q.2.1 hb) (fun i x σ H' hx q => ?_) (fun σ H' q => ?_)⟩
    · obtain ⟨⟨u12, rfl⟩, e1, h1⟩ := q
      obtain ⟨r, er, dr⟩ := dp_nth ha hx
      obtain ⟨t, rfl, ht⟩ := reg_of (but_dp ap e1 dr)
      have notin : r.1 ∉ (l0 ++ (rgs.take i).map fun r => (r.1, ("register" : Str))).map Prod.fst := by
        have a1 : (l0.map Prod.fst ++ rnm rgs)[(l0.map Prod.fst).length + i]? = some r.1 := by
          rw [List.getElem?_append_right (by omega), Nat.add_sub_cancel_left]
          simp [rnm, er]
        have a2 := not_in_take nd a1
        rw [List.take_append, List.take_of_length_le (by omega), Nat.add_sub_cancel_left] at a2
        rw [List.map_append, List.map_map]
        have a3 : (rnm rgs).take i = (rgs.take i).map (Prod.fst ∘ fun r : Rg => (r.1, ("register" : Str))) := (List.map_take (f := fun r : Rg => r.1)).symm
        rwa [a3] at a2
      refine ⟨_, rfl, p, cC, dx, fs, _, rfl, e1 _ _ hp pD, cl, nk, lf, _, rfl, t, _, 0, .str r.1, rfl, rfl, ht, rfl, D, _, rfl, DPut.k (k := Sum.inr r.1) h1 ?_, ⟨_, rfl⟩, e1.trans ExBut.upd, ?_⟩
      · simp only [kvSt, List.length_map, List.length_append, List.length_take]
        exact Nat.lt_of_le_of_lt (show _ ≤ 1000 by omega) (by decide)
      · rw [upd_same, kvSt_put notin, take_more er, List.map_append, ← List.append_assoc]
        rfl
    · obtain ⟨⟨u12, rfl⟩, e1, h1⟩ := q
      rw [len, List.take_length] at h1
      exact k H' u12 (by rw [hp]; exact e1 _ _ hp pD) e1 h1
end
end W

set_option Elab.async false
set_option linter.all false
set_option maxRecDepth 100000
set_option maxHeartbeats 16000000
namespace W
open PySem PySem.Spec PyProof.Rows L2 Evl G C
theorem pi_tupK {X : Cx} {K : PySem.W.Frag} {tg l : Expr} {tl : TE} (hl : PE X l tl) (h : X.K = K := by rfl) : PI X tg l (iTup K tl) := by
  subst h
  exact pi_tup hl
theorem pg_tupK {X : Cx} {K : PySem.W.Frag} {es : List Expr} {k : Nat} {t : TGs} {n : Nat} {pos : Pos} (hc : X.calm = true) (h : PGs X es t) (hn : (assignEach es X.env).length = n := by rfl) (hst : (assignEach es X.env).findIdx? (·.1) = none := by rfl) (hK : X.K = K := by rfl) : PG X (.Tuple es k pos) (gTup K n t) := by
  subst hK
  exact pg_tup hc h hn hst
theorem ix_tupK {X : Cx} {K : PySem.W.Frag} (h : X.K = K := by rfl) : IxR X (rIxT K) := by
  subst h
  exact ix_tup
def spInit (K : PySem.W.Frag) (C : Addr) : Sp := fun vs H Q _ => ∃ (p dx : Addr) (x1 x2 x3 x4 : V) (c : Cir), vs = [.ref p, x1, x2, x3, x4] ∧ Good c ∧ H p = some (.ins C dx []) ∧ Dp K H x1 (.list (txtD c.ins)) ∧ Dp K H x2 (.list (c.gates.map gateD)) ∧ Dp K H x3 (.list (c.regs.map regD)) ∧ Dp K H x4 (.list (txtD c.outs)) ∧
  ∀ H', ExBut p H H' → CirAt K C H' p c → Q .non H'
/-- what stands in H stands in H' -/
structure Mv (K : PySem.W.Frag) (H H' : Hp) : Prop where
  dp : ∀ {d : PyData} {v : V}, Dp K H v d → Dp K H' v d
  src : ∀ {D : Addr} {gs : List (Str × List Str)}, SrcAt K H D gs → SrcAt K H' D gs
section
variable {K : PySem.W.Frag} {H H1 H2 : Hp} {p C dx : Addr} {fs : List (Str × V)}
theorem Mv.trans (a : Mv K H H1) (b : Mv K H1 H2) : Mv K H H2 := ⟨fun q => b.dp (a.dp q), fun q => b.src (a.src q)⟩
theorem Mv.of (e : Ex H H1) : Mv K H H1 := ⟨dp_ex e, fun q => q.ex e⟩
theorem Mv.but (hp : H p = some (.ins C dx fs)) (e : ExBut p H H1) : Mv K H H1 := by
  refine ⟨but_dp (apart_ins hp) e, fun {D gs} q => ?_⟩
  obtain ⟨kvs, ps, h1, h2⟩ := q
  exact ⟨kvs, ps, e _ _ h1 (fun z => by rw [z, hp] at h1; cases h1), h2.ext fun _ _ z => but_st (apart_ins hp) e z⟩
/-- a store to a field, behind what only makes things -/
theorem Mv.fld {fs' : List (Str × V)} (hp : H p = some (.ins C dx fs)) (e : Ex H H1) : Mv K H (upd H1 p (.ins C dx fs')) ∧ ExBut p H (upd H1 p (.ins C dx fs')) ∧ (upd H1 p (.ins C dx fs')) p = some (.ins C dx fs') :=
  ⟨.but hp ((ExBut.of e).trans ExBut.upd), (ExBut.of e).trans ExBut.upd, upd_same⟩
theorem list_of {x : V} {ds : List PyData} (h : Dp K H x (.list ds)) : ∃ b xs, x = .ref b ∧ SqL K H b xs ∧ DpAll K H xs ds := by
  cases h with
  | @lst a xs _ hs ha => exact ⟨a, xs, rfl, hs, ha⟩
/-- a dict of one's own turns -/
theorem turn_dict {D : Addr} {kvs : List (Key × V)} (hD : H D = some (.dK kvs)) (e : ∀ x o, H x = some o → x ≠ D → H1 x = some o) : (∀ {d : PyData} {v : V}, Dp K H v d → Dp K H1 v d) ∧ ∀ {D' : Addr} {gs : List (Str × List Str)}, D' ≠ D → SrcAt K H D' gs → SrcAt K H1 D' gs := by
  have ap : Apart H D := fun u z => by
    rw [hD] at z
    cases z
    exact ⟨(fun _ z => by cases z), (fun _ z => by cases z), (fun _ _ z => by cases z)⟩
  refine ⟨but_dp ap e, fun {D' gs} ne q => ?_⟩
  obtain ⟨kvs, ps, h1, h2⟩ := q
  exact ⟨kvs, ps, e _ _ h1 ne, h2.ext fun _ _ z => but_st ap e z⟩
end
theorem fld_tup {K : PySem.W.Frag} {te : TE} {f : Str} {D : Ends} {σ : L2.St} {H : Hp} (h : te σ H fun v H' => rTup K [v] H' fun y H1 => ∃ x, σ[0]? = some (some x) ∧ ∃ a C dx fs, x = .ref a ∧ H1 a = some (.ins C dx fs) ∧ Cls K C ∧ NoAttr K C f ∧ fs.length < 1000 ∧ D.nx σ (upd H1 a (.ins C dx (putF f y fs)))) :
    sFld K (tVar 0) (tCB (rTup K) (tCons te tNil)) f D σ H := h
theorem fld_tupS {K : PySem.W.Frag} {te : TE} {f : Str} {D : Ends} {σ : L2.St} {H : Hp} (h : te σ H fun v H' => rSrt K [v] H' fun v H' => rTup K [v] H' fun y H1 => ∃ x, σ[0]? = some (some x) ∧ ∃ a C dx fs, x = .ref a ∧ H1 a = some (.ins C dx fs) ∧ Cls K C ∧ NoAttr K C f ∧ fs.length < 1000 ∧ D.nx σ (upd H1 a (.ins C dx (putF f y fs)))) :
    sFld K (tVar 0) (tCB (rTup K) (tCons (tCB (rSrt K) (tCons te tNil)) tNil)) f D σ H := h
abbrev nInit : List Str := ["self", "inputs", "gates", "registers", "outputs", "name", "sources", "_", "wires", "source", "between", "kind", "row", "gate", "wire", "bit"]
section
variable {P : Program} {w : World} {K : PySem.W.Frag} {mg : Str → Option Value} {base : Heap}
theorem scInit : FnScope nInit ["self", "inputs", "gates", "registers", "outputs"] (defScope (dM 0)) := ⟨rfl, rfl, rfl, by decide +kernel, rfl, by decide +kernel, by decide +kernel⟩
theorem okInit {C f : Addr} {fd : FuncData} {dvs : List V} (F : FunD K "__init__" "Circuit.__init__" (defArgs (dM 0)) (defBody (dM 0)) (defScope (dM 0)) dvs [] f fd) (T : Txt K mg) (DT : DicT K w mg) (CT : CirT K mg C) :
    FnOk P w K mg base CX0 5 f fd ["self", "inputs", "gates", "registers", "outputs"] (spInit K C) := by
  obtain ⟨f1, fd1, F1⟩ := T.cInputs
  obtain ⟨f2, fd2, F2⟩ := T.cGates
  obtain ⟨f3, fd3, F3⟩ := T.cRegs
  obtain ⟨f4, fd4, F4⟩ := T.cSources
  obtain ⟨f5, fd5, F5⟩ := T.cOutputs
  obtain ⟨f6, fd6, F6⟩ := T.cNoRing
  obtain ⟨f7, fd7, F7⟩ := T.cNumber
  obtain ⟨f8, fd8, F8⟩ := T.seqOf
  obtain ⟨t1, m1⟩ := T.mInputs
  obtain ⟨t2, m2⟩ := T.mGates
  obtain ⟨t3, m3⟩ := T.mRegisters
  obtain ⟨t4, m4⟩ := T.mOutputs
  have G1 : FnOk P w K mg base CX0 4 f1 fd1 ["inputs"] (spCInputs K) := (okCInputs F1 T).mono (by decide)
  have G2 : FnOk P w K mg base CX0 4 f2 fd2 ["gates", "inputs"] (spCGates K) := (okCGates F2 T DT).mono (by decide)
  have G3 : FnOk P w K mg base CX0 4 f3 fd3 ["registers", "taken"] (spCRegs K) := (okCRegs F3 T).mono (by decide)
  have G4 : FnOk P w K mg base CX0 4 f4 fd4 ["sources", "wires"] (spCSources K) := (okCSources F4 T).mono (by decide)
  have G5 : FnOk P w K mg base CX0 4 f5 fd5 ["outputs", "wires"] (spCOutputs K) := (okCOutputs F5 T).mono (by decide)
  have G6 : FnOk P w K mg base CX0 4 f6 fd6 ["sources"] (spCNoRing K) := (okNoRing F6 T).mono (by decide)
  have G7 : FnOk P w K mg base CX0 4 f7 fd7 ["what", "rows", "limit"] (spCNumber K) := (okCNumber F7 T).mono (by decide)
  have G8 : FnOk P w K mg base CX0 4 f8 fd8 ["sources"] (spSeqOf K) := (okSeqOf F8 T).mono (by decide)
  refine F.ok scInit (fun vs H Q E h => ?_) (fun cdv A outer s H vs Q E hr h => ?_)
  · obtain ⟨p, dx, x1, x2, x3, x4, c, rfl, _⟩ := h
    rfl
  · obtain ⟨p, dx, x1, x2, x3, x4, c, rfl, good, hp, d1, d2, d3, d4, k⟩ := h
    have hu := hu_of hr
    have nds := scInit.nd
    suffices hh : ∃ t, PSs (cxOf CX0 P w K mg base nInit "Circuit.__init__" (defScope (dM 0)) f cdv A outer s H E).nox (defBody (dM 0)) t ∧ t { nx := fun _ H' => Q .non H', rt := Q } (L2.start nInit [.ref p, x1, x2, x3, x4]) H by
      obtain ⟨t, a, b⟩ := hh
      exact ⟨t, a.nox, b⟩
    refine ⟨_, pss_cons (ps_expr (pe_call G1 hr (by rfl) F1.gl F1.fn.kp F1.bi .nil pass0 (pa_cons (pv 1) pa_nil)))
      (pss_cons (ps_expr (pe_call G2 hr (by rfl) F2.gl F2.fn.kp F2.bi .nil pass0 (pa_cons (pv 2) (pa_cons (pv 1) pa_nil))))
      (pss_cons (ps_expr (pe_call G3 hr (by rfl) F3.gl F3.fn.kp F3.bi .nil pass0 (pa_cons (pv 3) (pa_cons (pe_op op_cat (pe_callTy call_list_of (by rfl) T.list (by decide +kernel) (pa_cons (pv 1) pa_nil))
          (pe_lc (own := [("gate", 13)]) (g := gName 13) (by rfl) nds (pi_list (pv 2)) (blkOk_by (own := [("gate", 13)]) (N := nInit) (sc := defScope (dM 0)) (by decide +kernel)) (fun _ _ _ _ _ => pg_name (i := 13) nds rfl (Or.inl rfl)) (fun _ _ _ _ _ => pts_nil) (fun _ _ _ _ _ => pe_ix ix_tupK (pv 13) pe_int (fun _ _ => rfl)))) pa_nil))))
      (pss_cons (ps_set (i := 6) nds rfl (Or.inr rfl) (pe_dc (own := [("name", 5)]) (g := gName 5) rfl nds (pi_list (pv 1)) (blkOk_by (own := [("name", 5)]) (N := nInit) (sc := defScope (dM 0)) (by decide +kernel)) (fun _ _ _ _ _ => pg_name (i := 5) nds rfl (Or.inl rfl)) (fun _ _ _ _ _ => pts_nil) (fun _ _ _ _ _ => pv 5) (fun _ _ _ _ _ => pe_tup pa_nil)))
      (pss_cons (ps_for PassesOwn.never rfl (pi_list (pv 2)) (pg_tup rfl (pgs_cons (pg_name (i := 5) nds rfl (Or.inl rfl)) (pgs_cons (pg_name (i := 7) nds rfl (Or.inl rfl)) (pgs_cons (pg_name (i := 8) nds rfl (Or.inl rfl)) pgs_nil))))
          (pss_one (ps_dput hu (pv 6) (pv 5) (pe_callTy call_tup (by rfl) T.tuple (by decide +kernel) (pa_cons (pv 8) pa_nil)) rfl)))
      (pss_cons (ps_for PassesOwn.never rfl (pi_list (pv 3)) (pg_tup rfl (pgs_cons (pg_name (i := 5) nds rfl (Or.inl rfl)) (pgs_cons (pg_name (i := 7) nds rfl (Or.inl rfl)) (pgs_cons (pg_name (i := 9) nds rfl (Or.inl rfl)) pgs_nil))))
          (pss_one (ps_dput hu (pv 6) (pv 5) (pe_tup (pa_cons (pv 9) pa_nil)) rfl)))
      (pss_cons (ps_expr (pe_call G4 hr (by rfl) F4.gl F4.fn.kp F4.bi .nil pass0 (pa_cons (pe_lock (pe_lc2 (own := [("name", 5), ("wire", 14)]) (vs1 := [14]) (g := gName 5) (g1 := gName 14) rfl nds (pi_keys (pv 6)) (blkOk_by (own := [("name", 5), ("wire", 14)]) (N := nInit) (sc := defScope (dM 0)) (by decide +kernel)) (by decide)
          (fun _ _ _ _ _ => pg_name (i := 5) nds rfl (Or.inl rfl)) (fun _ _ _ _ _ => pts_nil) (wi1 := iTup K (tDGet (tVar 6) (tVar 5))) (fun _ _ _ _ _ => pi_tupK (pe_dget hu (pv 6) (pv 5) (fun _ _ => rfl))) (fun _ _ _ _ _ => pg_name (i := 14) nds rfl (Or.inl rfl)) (fun _ _ _ _ _ => pts_nil) (fun _ _ _ _ _ => pv 14))) (pa_cons (pv 6) pa_nil))))
      (pss_cons (ps_expr (pe_call G5 hr (by rfl) F5.gl F5.fn.kp F5.bi .nil pass0 (pa_cons (pv 4) (pa_cons (pv 6) pa_nil))))
      (pss_cons (ps_setDc (i := 10) (own := [("gate", 13)]) (g := gName 13) rfl nds rfl rfl (sw_dict rfl rfl rfl (by decide +kernel)) (pi_list (pv 2)) (blkOk_by (own := [("gate", 13)]) (N := nInit) (sc := defScope (dM 0)) (by decide +kernel)) (fun _ _ _ _ _ => pg_name (i := 13) nds rfl (Or.inl rfl)) (fun _ _ _ _ _ => pts_nil)
          (fun _ _ _ _ _ => pe_ix ix_tupK (pv 13) pe_int (fun _ _ => rfl)) (fun _ _ _ _ _ => pe_dget hu (pv 6) (pe_ix ix_tupK (pv 13) pe_int (fun _ _ => rfl)) (fun _ _ => rfl)))
      (pss_cons (ps_expr (pe_call G6 hr (by rfl) F6.gl F6.fn.kp F6.bi .nil pass0 (pa_cons (pv 10) pa_nil)))
      (pss_cons (ps_expr (pe_call G7 hr (by rfl) F7.gl F7.fn.kp F7.bi .nil pass0 (pa_cons pe_str (pa_cons (pv 1) (pa_cons (pGi rfl m1) pa_nil)))))
      (pss_cons (ps_expr (pe_call G7 hr (by rfl) F7.gl F7.fn.kp F7.bi .nil pass0 (pa_cons pe_str (pa_cons (pv 2) (pa_cons (pGi rfl m2) pa_nil)))))
      (pss_cons (ps_expr (pe_call G7 hr (by rfl) F7.gl F7.fn.kp F7.bi .nil pass0 (pa_cons pe_str (pa_cons (pv 3) (pa_cons (pGi rfl m3) pa_nil)))))
      (pss_cons (ps_expr (pe_call G7 hr (by rfl) F7.gl F7.fn.kp F7.bi .nil pass0 (pa_cons pe_str (pa_cons (pv 4) (pa_cons (pGi rfl m4) pa_nil)))))
      (pss_cons (ps_fld (pv 0) (pe_callTy call_tup (by rfl) T.tuple (by decide +kernel) (pa_cons (pv 1) pa_nil)) rfl)
      (pss_cons (ps_fld (pv 0) (pe_callTy call_tup (by rfl) T.tuple (by decide +kernel) (pa_cons (pe_lc (own := [("name", 5), ("kind", 11), ("wires", 8)]) (g := gTup K 3 (gCons (gName 5) (gCons (gName 11) (gCons (gName 8) gNil)))) rfl nds (pi_list (pe_callB (cr_srt hr.units) (by rfl) T.sorted (by decide +kernel) (pa_cons (pv 2) pa_nil))) (blkOk_by (own := [("name", 5), ("kind", 11), ("wires", 8)]) (N := nInit) (sc := defScope (dM 0)) (by decide +kernel))
          (fun _ _ _ _ _ => pg_tupK rfl (pgs_cons (pg_name (i := 5) nds rfl (Or.inl rfl)) (pgs_cons (pg_name (i := 11) nds rfl (Or.inl rfl)) (pgs_cons (pg_name (i := 8) nds rfl (Or.inl rfl)) pgs_nil)))) (fun _ _ _ _ _ => pts_nil)
          (fun _ _ _ _ _ => pe_tup (pa_cons (pv 5) (pa_cons (pv 11) (pa_cons (pe_callTy call_tup (by rfl) T.tuple (by decide +kernel) (pa_cons (pv 8) pa_nil)) pa_nil))))) pa_nil)) rfl)
      (pss_cons (ps_fld (pv 0) (pe_callTy call_tup (by rfl) T.tuple (by decide +kernel) (pa_cons (pe_callB (cr_srt hr.units) (by rfl) T.sorted (by decide +kernel) (pa_cons (pe_lc (own := [("name", 5), ("bit", 15), ("source", 9)]) (g := gTup K 3 (gCons (gName 5) (gCons (gName 15) (gCons (gName 9) gNil)))) rfl nds (pi_list (pv 3)) (blkOk_by (own := [("name", 5), ("bit", 15), ("source", 9)]) (N := nInit) (sc := defScope (dM 0)) (by decide +kernel))
          (fun _ _ _ _ _ => pg_tupK rfl (pgs_cons (pg_name (i := 5) nds rfl (Or.inl rfl)) (pgs_cons (pg_name (i := 15) nds rfl (Or.inl rfl)) (pgs_cons (pg_name (i := 9) nds rfl (Or.inl rfl)) pgs_nil)))) (fun _ _ _ _ _ => pts_nil)
          (fun _ _ _ _ _ => pe_tup (pa_cons (pv 5) (pa_cons (pv 15) (pa_cons (pv 9) pa_nil))))) pa_nil)) pa_nil)) rfl)
      (pss_cons (ps_fld (pv 0) (pe_callTy call_tup (by rfl) T.tuple (by decide +kernel) (pa_cons (pv 4) pa_nil)) rfl)
      (pss_cons (ps_fld (pv 0) (pv 6) rfl)
      (pss_cons (ps_fld (pv 0) (pe_dc (own := [("name", 5)]) (g := gName 5) rfl nds (pi_list (pv 1)) (blkOk_by (own := [("name", 5)]) (N := nInit) (sc := defScope (dM 0)) (by decide +kernel)) (fun _ _ _ _ _ => pg_name (i := 5) nds rfl (Or.inl rfl)) (fun _ _ _ _ _ => pts_nil) (fun _ _ _ _ _ => pv 5) (fun _ _ _ _ _ => pe_str)) rfl)
      (pss_cons (ps_for PassesOwn.never rfl (pi_list (pv 2)) (pg_tup rfl (pgs_cons (pg_name (i := 5) nds rfl (Or.inl rfl)) (pgs_cons (pg_name (i := 11) nds rfl (Or.inl rfl)) (pgs_cons (pg_name (i := 7) nds rfl (Or.inl rfl)) pgs_nil))))
          (pss_one (ps_dput hu (pe_fld (pv 0) rfl) (pv 5) (pv 11) rfl)))
      (pss_cons (ps_for PassesOwn.never rfl (pi_list (pv 3)) (pg_name (i := 12) nds rfl (Or.inl rfl))
          (pss_one (ps_dput hu (pe_fld (pv 0) rfl) (pe_ix ix_tup (pv 12) pe_int (fun _ _ => rfl)) pe_str rfl)))
      (pss_one (ps_fld (pv 0) (pe_call G8 hr (by rfl) F8.gl F8.fn.kp F8.bi .nil pass0 (pa_cons (pv 10) pa_nil)) rfl))))))))))))))))))))))), ?_⟩
    obtain ⟨a, rfl, ha⟩ := txl_of d1
    obtain ⟨b, xb, rfl, hb, db⟩ := list_of d2
    obtain ⟨cc, xc, rfl, hc, dc⟩ := list_of d3
    obtain ⟨d, rfl, hdd⟩ := txl_of d4
    have lb := dp_len db
    have lc := dp_len dc
    have ndn := good.nd
    unfold names at ndn
    have nd1 : c.ins.Nodup := (List.nodup_append.mp ndn).1
    have nd2 : (c.ins ++ gnm c.gates).Nodup := by
      rw [← List.append_assoc] at ndn
      exact (List.nodup_append.mp ndn).1
    have nd3 : ((c.ins ++ gnm c.gates) ++ rnm c.regs).Nodup := by
      rw [← List.append_assoc] at ndn
      exact ndn
    have ndg : (gnm c.gates).Nodup := (List.nodup_append.mp nd2).2.1
    have ndr : (rnm c.regs).Nodup := (List.nodup_append.mp nd3).2.1
    have l1 := good.li
    have l2 := good.lg
    have l3 := good.lr
    have l4 := good.lo
    have nds' : (ks (srcsL c)).Nodup := by rw [ks_srcs]; exact good.nd
    have nds1 : (ks ((c.ins.map fun z => (z, ([] : List Str))) ++ bet' c.gates)).Nodup := by
      have := nds'
      unfold srcsL at this
      rw [ks_app] at this
      exact (List.nodup_append.mp this).1
    have short : ∀ g ∈ srcsL c, g.2.length ≤ 50 := by
      intro g hg
      unfold srcsL at hg
      rcases List.mem_append.mp hg with hg | hg
      · rcases List.mem_append.mp hg with hg | hg
        · obtain ⟨z, _, rfl⟩ := List.mem_map.mp hg
          exact Nat.zero_le _
        · obtain ⟨g', hg', rfl⟩ := List.mem_map.mp hg
          have := kinds_few (good.gts g' hg').2.1
          show g'.2.2.length ≤ 50
          omega
      · obtain ⟨r, _, rfl⟩ := List.mem_map.mp hg
        show 1 ≤ 50
        decide
    have wires : ∀ y ∈ (srcsL c).flatMap Prod.snd, y ∈ ks (srcsL c) := by
      intro y hy
      rw [ks_srcs]
      obtain ⟨g, hg, hy⟩ := List.mem_flatMap.mp hy
      unfold srcsL at hg
      rcases List.mem_append.mp hg with hg | hg
      · rcases List.mem_append.mp hg with hg | hg
        · obtain ⟨z, _, rfl⟩ := List.mem_map.mp hg
          cases hy
        · obtain ⟨g', hg', rfl⟩ := List.mem_map.mp hg
          exact good.src g' hg' y hy
      · obtain ⟨r, hr, rfl⟩ := List.mem_map.mp hg
        rw [List.mem_singleton.mp hy]
        exact good.rsrc r hr
    refine ⟨_, rfl, .ref a, c.ins, rfl, d1, nd1, good.inm, by omega, fun H1 e1 => ?_⟩
    refine ⟨_, rfl, _, rfl, .ref b, .ref a, c.gates, c.ins, rfl, dp_ex e1 d2, dp_ex e1 d1, nd2, good.gts, by omega, by omega, fun H2 e2 => ?_⟩
    have x2 := e1.trans e2
    refine ⟨_, rfl, _, rfl, a, _, rfl, .inl (ex_l x2 ha), fun q1 nq1 => ?_⟩
    have x3 : Ex H2 (upd H2 q1 (.lst (c.ins.map V.str))) := Ex.new nq1
    have hq1 : (upd H2 q1 (.lst (c.ins.map V.str))) q1 = some (.lst (c.ins.map V.str)) := upd_same
    generalize upd H2 q1 (.lst (c.ins.map V.str)) = H3 at x3 hq1
    have y3 := x2.trans x3
    refine ⟨_, rfl, b, rfl, ⟨_, ex_l y3 hb⟩, fun q2 nq2 => ?_⟩
    refine gate_names (p := p) (a := a) (b := b) (c := cc) (d := d) (ex_l y3 hb) (dpAll_ex y3 db) (by omega) nq2 (fun H4 e4 hq2 => ?_)
    refine ⟨q1, q2, _, _, rfl, rfl, e4 _ _ hq1, hq2, ?_, fun q3 nq3 => ?_⟩
    · simp only [gnm, List.length_map]
      exact Nat.le_trans (show _ ≤ 1000 by omega) (by decide)
    have x5 : Ex H4 (upd H4 q3 (.lst (c.ins.map V.str ++ (gnm c.gates).map V.str))) := Ex.new nq3
    have hq3 : (upd H4 q3 (.lst (c.ins.map V.str ++ (gnm c.gates).map V.str))) q3 = some (.lst ((c.ins ++ gnm c.gates).map V.str)) := by
      rw [upd_same, List.map_append]
    generalize upd H4 q3 (.lst (c.ins.map V.str ++ (gnm c.gates).map V.str)) = H5 at x5 hq3
    have y5 := y3.trans (e4.trans x5)
    refine ⟨.ref cc, .ref q3, c.regs, c.ins ++ gnm c.gates, rfl, dp_ex y5 d3, dp_txl (SqL.of hq3), nd3, good.rgs, by omega, by simp only [gnm, List.length_append, List.length_map]; omega, fun H6 e6 => ?_⟩
    have y6 := y5.trans e6
    refine ⟨_, rfl, a, rfl, ⟨_, ex_l y6 ha⟩, fun D nD => ?_⟩
    refine mkS (zs := c.ins) (by show 5 < 16; decide) (ex_l y6 ha) nd1 (by omega) nD (fun H7 e7 s7 => ?_)
    refine loopS5 (p := p) (a := a) (b := b) (c := cc) (d := d) (gts := c.gates) (dp_ex y6 d2) e7 s7 nD nds1 (by rw [List.length_map]; omega) (by omega) (fun H8 u5 u7 u8 e8 s8 => ?_)
    refine loopS6 (p := p) (a := a) (b := b) (c := cc) (d := d) (rgs := c.regs) (dp_ex y6 d3) e8 s8 nD nds' (by simp only [bet', List.length_append, List.length_map]; omega) (by omega) (fun H9 u5 u7 u9 e9 s9 => ?_)
    have y9 := y6.trans e9
    obtain ⟨kvs, ps, hD, hk⟩ := s9
    have hk : KvT K H9 kvs (srcsL c) ps := hk
    have len9 : (srcsL c).length ≤ 500 := by
      simp only [srcsL, bet', ber, List.length_append, List.length_map]
      omega
    refine ⟨D, _, hD, trivial, fun od => ?_⟩
    refine allS (p := p) (a := a) (b := b) (c := cc) (d := d) (hk.ext fun _ _ z => st_dict z hD) nds' len9 short upd_same (fun H10 L e10 hL nL => ⟨e10 _ _ upd_same, ?_⟩)
    have LD : L ≠ D := fun e => by rw [e, upd_same] at nL; cases nL
    have x11 := ex_unlock hD e10
    have hL11 : (upd H10 D (.dK kvs)) L = some (.lst (((srcsL c).flatMap Prod.snd).map V.str)) := by
      rw [upd_ne LD]
      exact hL
    generalize upd H10 D (.dK kvs) = H11 at x11 hL11
    have has1 : ∀ y ∈ ks (srcsL c), has kvs y := fun y hy => by
      have q := hk.isSome y
      rw [decide_eq_true hy] at q
      exact Option.isSome_iff_exists.mp q
    refine ⟨_, rfl, L, D, _, kvs, rfl, SqL.of hL11, x11 _ _ hD, fun y hy => has1 y (wires y hy), fun H12 e12 => ?_⟩
    have x12 := x11.trans e12
    have y12 := y9.trans x12
    refine ⟨_, rfl, _, rfl, .ref d, D, c.outs, kvs, rfl, dp_ex y12 d4, x12 _ _ hD, fun y hy => has1 y (by rw [ks_srcs]; exact good.out y hy), fun H13 e13 => ?_⟩
    have x13 := x12.trans e13
    have y13 := y9.trans x13
    have s13 : SrcAt K H13 D (srcsL c) := ⟨kvs, ps, x13 _ _ hD, hk.ex x13⟩
    refine ⟨_, rfl, b, rfl, ⟨_, ex_l y13 hb⟩, fun B nB => ?_⟩
    refine mkB (p := p) (a := a) (b := b) (c := cc) (d := d) (dp_ex y13 d2) s13 nds' (fun g hg => ?_) ndg (by omega) nB (fun H14 e14 s14 => ?_)
    · unfold srcsL
      exact List.mem_append_left _ (List.mem_append_right _ (List.mem_map.mpr ⟨g, hg, rfl⟩))
    have y14 := y13.trans e14
    obtain ⟨kvB, psB, hB, hkB⟩ := id s14
    have ndB : (ks (bet' c.gates)).Nodup := by rw [ks_bet]; exact ndg
    have lenB : (bet' c.gates).length ≤ 60 := by
      unfold bet'
      rw [List.length_map]
      omega
    have shortB : ∀ g ∈ bet' c.gates, g.2.length ≤ 50 := fun g hg => short g (by
      unfold srcsL
      exact List.mem_append_left _ (List.mem_append_right _ hg))
    refine ⟨_, rfl, B, kvB, bet' c.gates, psB, rfl, hB, hkB, ndB, good.rank, lenB, shortB, fun H15 e15 => ?_⟩
    have y15 := y14.trans e15
    have s15 := s13.ex (e14.trans e15)
    have sB15 := s14.ex e15
    refine ⟨_, rfl, "inputs", a, _, 8, rfl, ex_l y15 ha, by rw [List.length_map]; omega, ?_⟩
    refine ⟨_, rfl, "gates", b, _, 200, rfl, ex_l y15 hb, by omega, ?_⟩
    refine ⟨_, rfl, "registers", cc, _, 8, rfl, ex_l y15 hc, by omega, ?_⟩
    refine ⟨_, rfl, "outputs", d, _, 8, rfl, ex_l y15 hdd, by rw [List.length_map]; omega, ?_⟩
    have hp15 := y15 _ _ hp
    have d1' := dp_ex y15 d1
    have d2' := dp_ex y15 d2
    have d3' := dp_ex y15 d3
    have d4' := dp_ex y15 d4
    have b15 : ExBut p H H15 := ExBut.of y15
    have nBD : B ≠ D := fun e => by
      obtain ⟨_, _, z, _⟩ := s13
      rw [e, z] at nB
      cases nB
    clear hD hk hB hkB s7 s8 s13 s14 e1 e2 x2 x3 hq1 y3 hq2 hq3 x5 y5 e6 y6 nD e7 e8 e9 y9 e10 x11 hL11 e12 x12 y12 e13 x13 y13 e14 y14 e15 y15 hL nL nB
    -- the fields
    have txl : ∀ {H0 : Hp} {l : Addr} {zs : List Str}, Dp K H0 (.ref l) (.list (txtD zs)) → SqL K H0 l (zs.map V.str) := fun {H0 l zs} z => by
      obtain ⟨l', e, q⟩ := txl_of z
      cases e
      exact q
    have store : ∀ {H0 : Hp} {fs fs' : List (Str × V)}, H0 p = some (.ins C dx fs) → Mv K H0 (upd H0 p (.ins C dx fs')) ∧ ExBut p H0 (upd H0 p (.ins C dx fs')) ∧ (upd H0 p (.ins C dx fs')) p = some (.ins C dx fs') := fun h => ⟨.but h ExBut.upd, ExBut.upd, upd_same⟩
    -- inputs
    refine ⟨_, rfl, a, _, rfl, .inl ⟨txl d1', fun a1 n1 => ?_⟩⟩
    have e16 : Ex H15 (upd H15 a1 (.tup (c.ins.map V.str))) := Ex.new n1
    have D1 : Dp K (upd H15 a1 (.tup (c.ins.map V.str))) (.ref a1) (.tuple (txtD c.ins)) := dp_txt (st_of upd_same)
    generalize upd H15 a1 (.tup (c.ins.map V.str)) = H16 at e16 D1
    have hp16 := e16 _ _ hp15
    refine ⟨_, rfl, p, C, dx, _, rfl, hp16, CT.cl, CT.n_inputs, by decide, ?_⟩
    obtain ⟨m17, b17, hp17⟩ := store (fs' := putF "_inputs" (.ref a1) []) hp16
    have D1 := m17.dp D1
    have m17 := (Mv.of (K := K) e16).trans m17
    have b17 := b15.trans ((ExBut.of e16).trans b17)
    generalize upd H16 p (.ins C dx (putF "_inputs" (.ref a1) [])) = H17 at D1 m17 b17 hp17
    -- gates
    dsimp only
    refine fld_tup (K := K) ?_
    refine mkG (p := p) (a := a) (b := b) (c := cc) (d := d) (m17.dp d2') ndg (by omega) (fun sg ys L H18 pg rg e18 hL dys => ⟨L, ys, rfl, .inl ⟨SqL.of hL, fun a2 n2 => ?_⟩⟩)
    have e19 : Ex H17 (upd H18 a2 (.tup ys)) := e18.trans (Ex.new n2)
    have D2 : Dp K (upd H18 a2 (.tup ys)) (.ref a2) (.tuple (sg.map gateU)) := .tup (st_of upd_same) (dpAll_ex (Ex.new n2) dys)
    generalize upd H18 a2 (.tup ys) = H19 at e19 D2
    have hp19 := e19 _ _ hp17
    refine ⟨_, rfl, p, C, dx, _, rfl, hp19, CT.cl, CT.n_gates, (by show 1 < 1000; decide), ?_⟩
    obtain ⟨m20, b20, hp20⟩ := store (fs' := putF "_gates" (.ref a2) (putF "_inputs" (.ref a1) [])) hp19
    have D2 := m20.dp D2
    have m20 := (Mv.of (K := K) e19).trans m20
    have D1 := m20.dp D1
    have b20 := b17.trans ((ExBut.of e19).trans b20)
    have m20 := m17.trans m20
    generalize upd H19 p (.ins C dx (putF "_gates" (.ref a2) (putF "_inputs" (.ref a1) []))) = H20 at D1 D2 m20 b20 hp20
    clear m17 b17 hp17 e19 hp19 hp16 e16 dys hL e18 n2 n1
    -- registers
    dsimp only
    refine fld_tupS (K := K) ?_
    refine mkRg (p := p) (a := a) (b := b) (c := cc) (d := d) (m20.dp d3') (by omega) (fun ys L H21 e21 hL dys => ?_)
    refine srtRg (SqL.of hL) dys ndr (by omega) (fun sr ys2 L2 pr rr nL2 dys2 => ?_)
    refine ⟨L2, ys2, rfl, .inl ⟨SqL.of upd_same, fun a3 n3 => ?_⟩⟩
    have e22 : Ex H21 (upd (upd H21 L2 (.lst ys2)) a3 (.tup ys2)) := (Ex.new nL2).trans (Ex.new n3)
    have D3 : Dp K (upd (upd H21 L2 (.lst ys2)) a3 (.tup ys2)) (.ref a3) (.tuple (sr.map regD)) := .tup (st_of upd_same) (dpAll_ex e22 dys2)
    have e22 := e21.trans e22
    generalize upd (upd H21 L2 (.lst ys2)) a3 (.tup ys2) = H22 at e22 D3
    have hp22 := e22 _ _ hp20
    refine ⟨_, rfl, p, C, dx, _, rfl, hp22, CT.cl, CT.n_registers, (by show 2 < 1000; decide), ?_⟩
    obtain ⟨m23, b23, hp23⟩ := store (fs' := putF "_registers" (.ref a3) (putF "_gates" (.ref a2) (putF "_inputs" (.ref a1) []))) hp22
    have D3 := m23.dp D3
    have m23 := (Mv.of (K := K) e22).trans m23
    have D1 := m23.dp D1
    have D2 := m23.dp D2
    have b23 := b20.trans ((ExBut.of e22).trans b23)
    have m23 := m20.trans m23
    generalize upd H22 p (.ins C dx (putF "_registers" (.ref a3) (putF "_gates" (.ref a2) (putF "_inputs" (.ref a1) [])))) = H23 at D1 D2 D3 m23 b23 hp23
    clear m20 b20 hp20 e22 hp22 dys2 nL2 n3 dys hL e21
    -- outputs
    refine ⟨_, rfl, d, _, rfl, .inl ⟨txl (m23.dp d4'), fun a4 n4 => ?_⟩⟩
    have e24 : Ex H23 (upd H23 a4 (.tup (c.outs.map V.str))) := Ex.new n4
    have D4 : Dp K (upd H23 a4 (.tup (c.outs.map V.str))) (.ref a4) (.tuple (txtD c.outs)) := dp_txt (st_of upd_same)
    generalize upd H23 a4 (.tup (c.outs.map V.str)) = H24 at e24 D4
    have hp24 := e24 _ _ hp23
    refine ⟨_, rfl, p, C, dx, _, rfl, hp24, CT.cl, CT.n_outputs, (by show 3 < 1000; decide), ?_⟩
    obtain ⟨m25, b25, hp25⟩ := store (fs' := putF "_outputs" (.ref a4) (putF "_registers" (.ref a3) (putF "_gates" (.ref a2) (putF "_inputs" (.ref a1) [])))) hp24
    have D4 := m25.dp D4
    have m25 := (Mv.of (K := K) e24).trans m25
    have D1 := m25.dp D1
    have D2 := m25.dp D2
    have D3 := m25.dp D3
    have b25 := b23.trans ((ExBut.of e24).trans b25)
    have m25 := m23.trans m25
    generalize upd H24 p (.ins C dx (putF "_outputs" (.ref a4) (putF "_registers" (.ref a3) (putF "_gates" (.ref a2) (putF "_inputs" (.ref a1) []))))) = H25 at D1 D2 D3 D4 m25 b25 hp25
    clear m23 b23 hp23 e24 hp24 n4
    -- sources
    refine ⟨_, rfl, _, rfl, p, C, dx, _, rfl, hp25, CT.cl, CT.n_sources, (by show 4 < 1000; decide), ?_⟩
    obtain ⟨m26, b26, hp26⟩ := store (fs' := putF "_sources" (.ref D) (putF "_outputs" (.ref a4) (putF "_registers" (.ref a3) (putF "_gates" (.ref a2) (putF "_inputs" (.ref a1) []))))) hp25
    have D1 := m26.dp D1
    have D2 := m26.dp D2
    have D3 := m26.dp D3
    have D4 := m26.dp D4
    have b26 := b25.trans b26
    have m26 := m25.trans m26
    generalize upd H25 p (.ins C dx (putF "_sources" (.ref D) (putF "_outputs" (.ref a4) (putF "_registers" (.ref a3) (putF "_gates" (.ref a2) (putF "_inputs" (.ref a1) [])))))) = H26 at D1 D2 D3 D4 m26 b26 hp26
    clear m25 b25 hp25
    -- kinds
    refine ⟨_, rfl, a, rfl, ⟨_, txl (m26.dp d1')⟩, fun E6 nE6 => ?_⟩
    refine dc_each (as := c.ins) (em := V.str) (walk_list (K := K) (a := a)) (fun z => Sum.inr z) (fun _ => .str "input") (by omega) (fun H' e => ex_l e (txl (m26.dp d1'))) (fun z hz => ev_var (i := 5) rfl) (fun z hz => ev_c) (keys_nodup (f := fun z => z) (by rw [List.map_id']; exact nd1)) nE6 (fun H27 e27 hE6 => ?_)
    have hp27 := e27 _ _ hp26
    have hE6' : H27 E6 = some (.dK (kvSt (c.ins.map fun z => (z, ("input" : Str))))) := by
      rw [hE6]
      unfold kvSt
      rw [List.map_map]
      rfl
    refine ⟨_, rfl, p, C, dx, _, rfl, hp27, CT.cl, CT.n_kinds, (by show 5 < 1000; decide), ?_⟩
    obtain ⟨m28, b28, hp28⟩ := store (fs' := putF "_kinds" (.ref E6) (putF "_sources" (.ref D) (putF "_outputs" (.ref a4) (putF "_registers" (.ref a3) (putF "_gates" (.ref a2) (putF "_inputs" (.ref a1) [])))))) hp27
    have pE : E6 ≠ p := fun e => by rw [e, hp27] at hE6'; cases hE6'
    have hE28 := b28 _ _ hE6' pE
    have m28 := (Mv.of (K := K) e27).trans m28
    have D1 := m28.dp D1
    have D2 := m28.dp D2
    have D3 := m28.dp D3
    have D4 := m28.dp D4
    have s26 := m26.src s15
    have sB26 := m26.src sB15
    have neD : D ≠ E6 := fun e => by
      obtain ⟨_, _, z, _⟩ := s26
      rw [e, nE6] at z
      cases z
    have neB : B ≠ E6 := fun e => by
      obtain ⟨_, _, z, _⟩ := sB26
      rw [e, nE6] at z
      cases z
    have s28 := m28.src s26
    have sB28 := m28.src sB26
    have m28 := m26.trans m28
    have nE0 : H E6 = none := b26.fresh nE6 pE
    have b28 := b26.trans ((ExBut.of e27).trans b28)
    generalize hf28 : putF "_kinds" (.ref E6) (putF "_sources" (.ref D) (putF "_outputs" (.ref a4) (putF "_registers" (.ref a3) (putF "_gates" (.ref a2) (putF "_inputs" (.ref a1) []))))) = f28 at D1 D2 D3 D4 m28 b28 hp28 hE28 s28 sB28
    have lf : f28.lookup ("_kinds" : Str) = some (.ref E6) := by rw [← hf28]; rfl
    have lf7 : f28.length < 1000 := by rw [← hf28]; show 6 < 1000; decide
    generalize upd H27 p (.ins C dx f28) = H28 at D1 D2 D3 D4 m28 b28 hp28 hE28 s28 sB28
    clear m26 b26 hp26 e27 hp27 hE6 hE6' nE6 s26 sB26
    refine loopK (p := p) (a := a) (b := b) (c := cc) (d := d) (gts := c.gates) (l0 := c.ins.map fun z => (z, ("input" : Str))) CT.cl CT.n_kinds lf hp28 (m28.dp d2') hE28 (by rw [List.map_map]; exact (by rw [show (c.ins.map (Prod.fst ∘ fun z => (z, ("input" : Str)))) = c.ins from List.map_id'' (fun _ => rfl) _]; exact nd2)) (by rw [List.length_map]; omega) (by omega) (fun H29 u5 u7 u11 ep eo hE29 => ?_)
    obtain ⟨t29, ts29⟩ := turn_dict (K := K) hE28 eo
    have hp29 : H29 p = some (.ins C dx f28) := by rw [ep]; exact hp28
    have D1 := t29 D1
    have D2 := t29 D2
    have D3 := t29 D3
    have D4 := t29 D4
    have s29 := ts29 neD s28
    have sB29 := ts29 neB sB28
    have d3'' := t29 (m28.dp d3')
    have b29 : ExBut p H H29 := fun x o hx nx => eo x o (b28 x o hx nx) fun z => by rw [z, nE0] at hx; cases hx
    refine loopKr (p := p) (a := a) (b := b) (c := cc) (d := d) (rgs := c.regs) (l0 := (c.ins.map fun z => (z, ("input" : Str))) ++ c.gates.map fun g => (g.1, g.2.1)) CT.cl CT.n_kinds lf hp29 d3'' hE29 ?_ (by simp only [List.length_append, List.length_map]; omega) (by omega) (fun H30 u12 ep2 eo2 hE30 => ?_)
    · rw [List.map_append, List.map_map, List.map_map]
      rw [show (c.ins.map (Prod.fst ∘ fun z => (z, ("input" : Str)))) = c.ins from List.map_id'' (fun _ => rfl) _]
      exact nd3
    obtain ⟨t30, ts30⟩ := turn_dict (K := K) hE29 eo2
    have hp30 : H30 p = some (.ins C dx f28) := by rw [ep2]; exact hp29
    have D1 := t30 D1
    have D2 := t30 D2
    have D3 := t30 D3
    have D4 := t30 D4
    have s30 := ts30 neD s29
    obtain ⟨kvC, psC, hB30, hkB30⟩ := ts30 neB sB29
    have b30 : ExBut p H H30 := fun x o hx nx => eo2 x o (b29 x o hx nx) fun z => by rw [z, nE0] at hx; cases hx
    -- the sequence
    refine ⟨_, rfl, B, kvC, bet' c.gates, psC, rfl, hB30, hkB30, ndB, good.rank, lenB, shortB, fun L7 seq H31 e31 nL7 hL7 tp => ?_⟩
    have hp31 := e31 _ _ hp30
    refine ⟨_, rfl, p, C, dx, _, rfl, hp31, CT.cl, CT.n_sequence, lf7, ?_⟩
    obtain ⟨m32, b32, hp32⟩ := store (fs' := putF "_sequence" (.ref L7) f28) hp31
    have mm := (Mv.of (K := K) e31).trans m32
    have pL : L7 ≠ p := fun e => by rw [e, hp31] at hL7; cases hL7
    refine k _ (b30.trans ((ExBut.of e31).trans b32)) ⟨dx, a1, a2, a3, a4, D, E6, L7, sg, sr, seq, ?_, mm.dp D1, ⟨mm.dp D2, pg, rg⟩, ⟨mm.dp D3, pr, rr⟩, mm.dp D4, mm.src s30, ?_, b32 _ _ hL7 pL, tp⟩
    · rw [hp32, ← hf28]
      rfl
    · exact b32 _ _ (e31 _ _ hE30) pE
end
end W

set_option Elab.async false
set_option linter.all false
set_option maxRecDepth 100000
set_option maxHeartbeats 8000000
namespace W
open PySem PySem.Spec PyProof.Rows L2 Evl G C
def nIn (c : Cir) (z : Str) : Bool := decide (z ∈ names c)
theorem kinds_isSome (c : Cir) (z : Str) : (valV (kvSt (kindsC c)) (Sum.inr z)).isSome = nIn c z := by
  have q : valV (kvSt (kindsC c)) (Sum.inr z) = none ↔ z ∉ names c := by
    unfold kvSt
    rw [valV_map (fun q : Str × Str => (Sum.inr q.1 : Key)) (fun q => V.str q.2), ← fst_kinds]
    constructor
    · intro a m
      obtain ⟨p, hp, e⟩ := List.mem_map.mp m
      exact a p hp (congrArg Sum.inr e)
    · intro a p hp e
      exact a (List.mem_map.mpr ⟨p, hp, Sum.inr.inj e⟩)
  unfold nIn
  by_cases m : z ∈ names c
  · rw [decide_eq_true m]
    cases v : valV (kvSt (kindsC c)) (Sum.inr z) with
    | none => exact absurd m (q.mp v)
    | some _ => rfl
  · rw [decide_eq_false m, q.mpr m]
    rfl
theorem kinds_hit {c : Cir} (g : Good c) {q : Str × Str} (m : q ∈ kindsC c) : valV (kvSt (kindsC c)) (Sum.inr q.1) = some (.str q.2) :=
  valV_hit (fun q : Str × Str => (Sum.inr q.1 : Key)) (fun q => V.str q.2) (kindsC c) q m fun b hb e => inj_nd (f := Prod.fst) (by rw [fst_kinds]; exact g.nd) hb m (Sum.inr.inj e)
section
variable {P : Program} {w : World} {K : PySem.W.Frag} {mg : Str → Option Value} {base : Heap} {C : Addr}
/-! ### the class's methods -/
def spCont (K : PySem.W.Frag) (C : Addr) : Sp := fun vs H Q _ => ∃ (p : Addr) (z : Str) (c : Cir), vs = [.ref p, .str z] ∧ CirAt K C H p c ∧ Q (.bl (nIn c z)) H
theorem scCont : FnScope ["self", "value"] ["self", "value"] (defScope (dM 13)) := ⟨rfl, rfl, rfl, by decide +kernel, rfl, by decide +kernel, by decide +kernel⟩
theorem okCont {f : Addr} {fd : FuncData} (F : MthT K C "__contains__" "Circuit.__contains__" (dM 13) ["self", "value"] f fd) (T : Txt K mg) (CT : CirT K mg C) : FnOk P w K mg base CX0 1 f fd ["self", "value"] (spCont K C) := by
  refine F.fn.ok scCont (fun vs H Q E h => ?_) (fun cdv A outer s H vs Q E hr h => ?_)
  · obtain ⟨p, z, c, rfl, _⟩ := h
    rfl
  · obtain ⟨p, z, c, rfl, hc, k⟩ := h
    have hu := hu_of hr
    refine ⟨_, pss_one (ps_ret (pe_and (pe_callB call_isi (by rfl) T.isinstance (by decide +kernel) (pa_cons (pv 1) (pa_cons (pTy "str" (by rfl) T.str (by decide +kernel)) pa_nil))) (pe_one (pe_cmp (pc_din hu (pv 1) (pe_fld (pv 0) rfl)) rfl)))), ?_⟩
    obtain ⟨dx, a1, a2, a3, a4, D5, D6, L7, sg, sr, seq, h1, h2, _, _, h9, h10, h11, h12, h13⟩ := hc
    refine rd_isi (K := K) (i := 1) (T := "str") rfl (.dp (.str z)) (kit_S (.str z)) ⟨_, rfl, ?_⟩
    refine iteT ?_
    refine ⟨_, rfl, _, rfl, p, C, dx, _, _, rfl, h1, CT.cl, CT.n_kinds, (flds_in a1 a2 a3 a4 D5 D6 L7).2.2.2.2.2.1, D6, _, rfl, DGet.k (k := Sum.inr z) h11, ?_⟩
    rw [kinds_isSome]
    exact k
def spM {α : Type} (K : PySem.W.Frag) (C : Addr) (post : Cir → VK → Hp → Prop) : Sp := fun vs H Q _ => ∃ (p : Addr) (c : Cir), vs = [.ref p] ∧ CirAt K C H p c ∧ Good c ∧ post c Q H
/-- the answer is a new list of texts -/
def newTx (zs : Cir → List Str) : Cir → VK → Hp → Prop := fun c Q H => ∀ l H', Ex H H' → H l = none → H' l = some (.lst ((zs c).map V.str)) → Q (.ref l) H'
theorem scM1 : FnScope ["self"] ["self"] (defScope (dM 1)) := ⟨rfl, rfl, rfl, by decide +kernel, rfl, by decide +kernel, by decide +kernel⟩
theorem okInputs {f : Addr} {fd : FuncData} (F : MthT K C "inputs" "Circuit.inputs" (dM 1) ["self"] f fd) (T : Txt K mg) (CT : CirT K mg C) : FnOk P w K mg base CX0 1 f fd ["self"] (spM (α := Nat) K C (newTx Cir.ins)) := by
  refine F.fn.ok scM1 (fun vs H Q E h => ?_) (fun cdv A outer s H vs Q E hr h => ?_)
  · obtain ⟨p, c, rfl, _⟩ := h
    rfl
  · obtain ⟨p, c, rfl, hc, _, k⟩ := h
    refine ⟨_, pss_one (ps_ret (pe_callTy call_list_of (by rfl) T.list (by decide +kernel) (pa_cons (pe_fld (pv 0) rfl) pa_nil))), ?_⟩
    obtain ⟨dx, a1, a2, a3, a4, D5, D6, L7, sg, sr, seq, h1, h2, _, _, h9, h10, h11, h12, h13⟩ := hc
    obtain ⟨l, el, hl⟩ := txt_of h2
    cases el
    exact ⟨_, rfl, p, C, dx, _, _, rfl, h1, CT.cl, CT.n_inputs, (flds_in a1 a2 a3 a4 D5 D6 L7).1, a1, _, rfl, .inr hl, fun l nl => k l _ (Ex.new nl) nl upd_same⟩
theorem scM4 : FnScope ["self"] ["self"] (defScope (dM 4)) := ⟨rfl, rfl, rfl, by decide +kernel, rfl, by decide +kernel, by decide +kernel⟩
theorem okOutputs {f : Addr} {fd : FuncData} (F : MthT K C "outputs" "Circuit.outputs" (dM 4) ["self"] f fd) (T : Txt K mg) (CT : CirT K mg C) : FnOk P w K mg base CX0 1 f fd ["self"] (spM (α := Nat) K C (newTx Cir.outs)) := by
  refine F.fn.ok scM4 (fun vs H Q E h => ?_) (fun cdv A outer s H vs Q E hr h => ?_)
  · obtain ⟨p, c, rfl, _⟩ := h
    rfl
  · obtain ⟨p, c, rfl, hc, _, k⟩ := h
    refine ⟨_, pss_one (ps_ret (pe_callTy call_list_of (by rfl) T.list (by decide +kernel) (pa_cons (pe_fld (pv 0) rfl) pa_nil))), ?_⟩
    obtain ⟨dx, a1, a2, a3, a4, D5, D6, L7, sg, sr, seq, h1, h2, _, _, h9, h10, h11, h12, h13⟩ := hc
    obtain ⟨l, el, hl⟩ := txt_of h9
    cases el
    exact ⟨_, rfl, p, C, dx, _, _, rfl, h1, CT.cl, CT.n_outputs, (flds_in a1 a2 a3 a4 D5 D6 L7).2.2.2.1, a4, _, rfl, .inr hl, fun l nl => k l _ (Ex.new nl) nl upd_same⟩
/-- registers, sorted -/
def RgOf (c : Cir) (sr : List Rg) : Prop := sr.Perm c.regs ∧ Rising (fun r : Rg => r.1) sr
theorem RgOf.eq {c : Cir} {s t : List Rg} (h : RgOf c s) (g : RgOf c t) : s = t := rising_eq h.2 g.2 (h.1.trans g.1.symm)
def newRg (K : PySem.W.Frag) : Cir → VK → Hp → Prop := fun c Q H => ∀ sr, RgOf c sr → ∀ l xs H', Ex H H' → H l = none → H' l = some (.lst xs) → DpAll K H' xs (sr.map regD) → Q (.ref l) H'
theorem scM3 : FnScope ["self"] ["self"] (defScope (dM 3)) := ⟨rfl, rfl, rfl, by decide +kernel, rfl, by decide +kernel, by decide +kernel⟩
theorem okRegisters {f : Addr} {fd : FuncData} (F : MthT K C "registers" "Circuit.registers" (dM 3) ["self"] f fd) (T : Txt K mg) (CT : CirT K mg C) : FnOk P w K mg base CX0 1 f fd ["self"] (spM (α := Nat) K C (newRg K)) := by
  refine F.fn.ok scM3 (fun vs H Q E h => ?_) (fun cdv A outer s H vs Q E hr h => ?_)
  · obtain ⟨p, c, rfl, _⟩ := h
    rfl
  · obtain ⟨p, c, rfl, hc, _, k⟩ := h
    refine ⟨_, pss_one (ps_ret (pe_callTy call_list_of (by rfl) T.list (by decide +kernel) (pa_cons (pe_fld (pv 0) rfl) pa_nil))), ?_⟩
    obtain ⟨dx, a1, a2, a3, a4, D5, D6, L7, sg, sr, seq, h1, h2, _, ⟨h6, h7, h8⟩, h9, h10, h11, h12, h13⟩ := hc
    cases h6 with
    | @tup _ xs _ hs ha =>
      exact ⟨_, rfl, p, C, dx, _, _, rfl, h1, CT.cl, CT.n_registers, (flds_in a1 a2 a3 a4 D5 D6 L7).2.2.1, a3, _, rfl, .inr hs, fun l nl => k sr ⟨h7, h8⟩ l xs _ (Ex.new nl) nl upd_same (dpAll_ex (Ex.new nl) ha)⟩
/-- the first state -/
def firstOf (sr : List Rg) : List Int := sr.map fun r => r.2.1
def newFst (K : PySem.W.Frag) : Cir → VK → Hp → Prop := fun c Q H => ∀ sr, RgOf c sr → ∀ t H', Ex H H' → H t = none → H' t = some (.tup ((firstOf sr).map V.int)) → Q (.ref t) H'
abbrev nM6 : List Str := ["self", "_", "bit"]
theorem scM6 : FnScope nM6 ["self"] (defScope (dM 6)) := ⟨rfl, rfl, rfl, by decide +kernel, rfl, by decide +kernel, by decide +kernel⟩
theorem okFirst {f : Addr} {fd : FuncData} (F : MthT K C "first" "Circuit.first" (dM 6) ["self"] f fd) (T : Txt K mg) (CT : CirT K mg C) : FnOk P w K mg base CX0 1 f fd ["self"] (spM (α := Nat) K C (newFst K)) := by
  refine F.fn.ok scM6 (fun vs H Q E h => ?_) (fun cdv A outer s H vs Q E hr h => ?_)
  · obtain ⟨p, c, rfl, _⟩ := h
    rfl
  · obtain ⟨p, c, rfl, hc, good, k⟩ := h
    refine ⟨_, pss_one (ps_ret (pe_callTy call_tup (by rfl) T.tuple (by decide +kernel) (pa_cons (pe_lc (own := [("_", 1), ("bit", 2)]) (g := gTup K 3 (gCons (gName 1) (gCons (gName 2) (gCons (gName 1) gNil)))) rfl scM6.nd (pi_tup (pe_fld (pv 0) rfl)) (blkOk_by (own := [("_", 1), ("bit", 2)]) (N := nM6) (sc := defScope (dM 6)) (by decide +kernel))
      (fun _ _ _ _ _ => pg_tupK rfl (pgs_cons (pg_name (i := 1) scM6.nd rfl (Or.inl rfl)) (pgs_cons (pg_name (i := 2) scM6.nd rfl (Or.inl rfl)) (pgs_cons (pg_name (i := 1) scM6.nd rfl (Or.inl rfl)) pgs_nil)))) (fun _ _ _ _ _ => pts_nil) (fun _ _ _ _ _ => pv 2)) pa_nil))), ?_⟩
    obtain ⟨dx, a1, a2, a3, a4, D5, D6, L7, sg, sr, seq, h1, h2, _, ⟨h6, h7, h8⟩, h9, h10, h11, h12, h13⟩ := hc
    cases h6 with
    | @tup _ xs _ hs ha =>
      have len := dp_len ha
      refine ⟨_, rfl, p, C, dx, _, _, rfl, h1, CT.cl, CT.n_registers, (flds_in a1 a2 a3 a4 D5 D6 L7).2.2.1, a3, rfl, ⟨_, hs⟩, fun L nL => ?_⟩
      refine lc_it (walk_tup (K := K) (a := a3) (xs := xs)) (fun i Hc => Ex H Hc ∧ Hc L = some (.lst ((firstOf (sr.take i)).map V.int))) ⟨Ex.new nL, upd_same⟩ (fun i Hc _ q => ex_t q.1 hs) (fun i x Ha Hb hi q yy => ?_) (fun Hc q => ?_)
      · obtain ⟨rfl, ex⟩ := yy
        obtain ⟨e2, hL⟩ := q
        obtain ⟨r, er, dr⟩ := dp_nth ha ex
        obtain ⟨t, rfl, ht⟩ := reg_of (dp_ex e2 dr)
        refine ⟨t, _, rfl, ht, rfl, _, _, rfl, _, _, rfl, _, _, rfl, rfl, rfl, ?_⟩
        refine ⟨_, rfl, _, hL, ?_, e2.mut nL, ?_⟩
        · simp only [firstOf, List.length_map, List.length_take]
          have := good.lr
          have := h7.length_eq
          exact Nat.lt_of_le_of_lt (show _ ≤ 1000 by omega) (by decide)
        · rw [upd_same, take_more er]
          simp [firstOf]
      · obtain ⟨e2, hL⟩ := q
        rw [len, List.take_length] at hL
        exact ⟨L, _, rfl, .inl ⟨SqL.of hL, fun t nt => k sr ⟨h7, h8⟩ t _ (e2.trans (Ex.new nt)) (ex_none e2 nt) upd_same⟩⟩
def spCWire (K : PySem.W.Frag) (C : Addr) : Sp := fun vs H Q _ => ∃ (p : Addr) (z : Str) (c : Cir), vs = [.ref p, .str z] ∧ CirAt K C H p c ∧ z ∈ names c ∧ Q .non H
theorem scCWire : FnScope ["circuit", "wire"] ["circuit", "wire"] (defScope dCWire) := ⟨rfl, rfl, rfl, by decide +kernel, rfl, by decide +kernel, by decide +kernel⟩
theorem okCWire {f : Addr} {fd : FuncData} (F : At K mg "check_wire" dCWire ["circuit", "wire"] f fd) (T : Txt K mg) (CT : CirT K mg C) : FnOk P w K mg base CX0 2 f fd ["circuit", "wire"] (spCWire K C) := by
  obtain ⟨fI, gI, FI⟩ := CT.cont
  have GI : FnOk P w K mg base CX0 1 fI gI ["self", "value"] (spCont K C) := okCont FI T CT
  refine F.fn.ok scCWire (fun vs H Q E h => ?_) (fun cdv A outer s H vs Q E hr h => ?_)
  · obtain ⟨p, z, c, rfl, _⟩ := h
    rfl
  · obtain ⟨p, z, c, rfl, hc, hz, k⟩ := h
    refine ⟨_, pss_one (ps_if (pt_cmpR (op_ninOwn GI hr FI.me.at_ FI.me.fn FI.bi pass0) (pv 1) (pv 0) (by rfl)) (pss_one ps_never) pss_nil), ?_⟩
    obtain ⟨dx, a1, a2, a3, a4, D5, D6, L7, sg, sr, seq, h1, hrest⟩ := id hc
    refine ⟨_, rfl, _, rfl, p, dx, _, rfl, h1, p, z, c, rfl, hc, _, rfl, _, rfl, ?_⟩
    rw [show nIn c z = true from decide_eq_true hz]
    exact iteF k
end
end W

set_option Elab.async false
set_option linter.all false
set_option maxRecDepth 100000
set_option maxHeartbeats 8000000
namespace W
open PySem PySem.Spec PyProof.Rows L2 Evl G C
section
variable {P : Program} {w : World} {K : PySem.W.Frag} {mg : Str → Option Value} {base : Heap} {C : Addr}
def spKind (K : PySem.W.Frag) (C : Addr) : Sp := fun vs H Q _ => ∃ (p : Addr) (z k : Str) (c : Cir), vs = [.ref p, .str z] ∧ CirAt K C H p c ∧ Good c ∧ (z, k) ∈ kindsC c ∧ Q (.str k) H
theorem scM7 : FnScope ["self", "wire"] ["self", "wire"] (defScope (dM 7)) := ⟨rfl, rfl, rfl, by decide +kernel, rfl, by decide +kernel, by decide +kernel⟩
theorem okKindM {f : Addr} {fd : FuncData} (F : MthT K C "kind" "Circuit.kind" (dM 7) ["self", "wire"] f fd) (T : Txt K mg) (CT : CirT K mg C) : FnOk P w K mg base CX0 3 f fd ["self", "wire"] (spKind K C) := by
  obtain ⟨fI, gI, FI⟩ := T.cWire
  have GI : FnOk P w K mg base CX0 2 fI gI ["circuit", "wire"] (spCWire K C) := okCWire FI T CT
  refine F.fn.ok scM7 (fun vs H Q E h => ?_) (fun cdv A outer s H vs Q E hr h => ?_)
  · obtain ⟨p, z, k, c, rfl, _⟩ := h
    rfl
  · obtain ⟨p, z, k, c, rfl, hc, good, hz, kk⟩ := h
    have hu := hu_of hr
    refine ⟨_, pss_cons (ps_expr (pe_call GI hr (by rfl) FI.gl FI.fn.kp FI.bi .nil pass0 (pa_cons (pv 0) (pa_cons (pv 1) pa_nil)))) (pss_one (ps_ret (pe_dget hu (pe_fld (pv 0) rfl) (pv 1) (fun _ _ => rfl)))), ?_⟩
    refine ⟨_, rfl, _, rfl, p, z, c, rfl, hc, by rw [← fst_kinds]; exact List.mem_map.mpr ⟨_, hz, rfl⟩, ?_⟩
    obtain ⟨dx, a1, a2, a3, a4, D5, D6, L7, sg, sr, seq, h1, h2, _, _, h9, h10, h11, h12, h13⟩ := hc
    have q := DGet.k (k := Sum.inr z) h11
    rw [kinds_hit good hz] at q
    exact ⟨_, rfl, p, C, dx, _, _, rfl, h1, CT.cl, CT.n_kinds, (flds_in a1 a2 a3 a4 D5 D6 L7).2.2.2.2.2.1, _, rfl, D6, _, rfl, q, kk⟩
def spSrcs (K : PySem.W.Frag) (C : Addr) : Sp := fun vs H Q _ => ∃ (p : Addr) (z : Str) (zs : List Str) (c : Cir), vs = [.ref p, .str z] ∧ CirAt K C H p c ∧ Good c ∧ (z, zs) ∈ srcsL c ∧ ∀ l H', Ex H H' → H l = none → H' l = some (.lst (zs.map V.str)) → Q (.ref l) H'
theorem scM8 : FnScope ["self", "wire"] ["self", "wire"] (defScope (dM 8)) := ⟨rfl, rfl, rfl, by decide +kernel, rfl, by decide +kernel, by decide +kernel⟩
theorem okSrcs {f : Addr} {fd : FuncData} (F : MthT K C "sources" "Circuit.sources" (dM 8) ["self", "wire"] f fd) (T : Txt K mg) (CT : CirT K mg C) : FnOk P w K mg base CX0 3 f fd ["self", "wire"] (spSrcs K C) := by
  obtain ⟨fI, gI, FI⟩ := T.cWire
  have GI : FnOk P w K mg base CX0 2 fI gI ["circuit", "wire"] (spCWire K C) := okCWire FI T CT
  refine F.fn.ok scM8 (fun vs H Q E h => ?_) (fun cdv A outer s H vs Q E hr h => ?_)
  · obtain ⟨p, z, k, c, rfl, _⟩ := h
    rfl
  · obtain ⟨p, z, zs, c, rfl, hc, good, hz, kk⟩ := h
    have hu := hu_of hr
    have nds' : (ks (srcsL c)).Nodup := by rw [ks_srcs]; exact good.nd
    refine ⟨_, pss_cons (ps_expr (pe_call GI hr (by rfl) FI.gl FI.fn.kp FI.bi .nil pass0 (pa_cons (pv 0) (pa_cons (pv 1) pa_nil)))) (pss_one (ps_ret (pe_callTy call_list_of (by rfl) T.list (by decide +kernel) (pa_cons (pe_dget hu (pe_fld (pv 0) rfl) (pv 1) (fun _ _ => rfl)) pa_nil)))), ?_⟩
    refine ⟨_, rfl, _, rfl, p, z, c, rfl, hc, by rw [← ks_srcs]; exact List.mem_map.mpr ⟨_, hz, rfl⟩, ?_⟩
    obtain ⟨dx, a1, a2, a3, a4, D5, D6, L7, sg, sr, seq, h1, h2, _, _, h9, ⟨kvs, ps, hD, hk⟩, h11, h12, h13⟩ := hc
    obtain ⟨t, ht, hst⟩ := hk.hit nds' hz
    have q := DGet.k (k := Sum.inr z) hD
    rw [ht] at q
    exact ⟨_, rfl, p, C, dx, _, _, rfl, h1, CT.cl, CT.n_sources, (flds_in a1 a2 a3 a4 D5 D6 L7).2.2.2.2.1, _, rfl, D5, _, rfl, q, t, _, rfl, .inr hst, fun l nl => kk l _ (Ex.new nl) nl upd_same⟩
/-- all wires, sorted -/
def newWs : Cir → VK → Hp → Prop := fun c Q H => ∀ zs, zs.Perm (names c) → sortedS zs = true → ∀ l H', Ex H H' → H l = none → H' l = some (.lst (zs.map V.str)) → Q (.ref l) H'
theorem scM5 : FnScope ["self"] ["self"] (defScope (dM 5)) := ⟨rfl, rfl, rfl, by decide +kernel, rfl, by decide +kernel, by decide +kernel⟩
theorem names_few {c : Cir} (g : Good c) : (names c).length ≤ 56 := by
  have := g.li
  have := g.lg
  have := g.lr
  simp only [names, gn, rn, List.length_append, List.length_map]
  omega
theorem okWires {f : Addr} {fd : FuncData} (F : MthT K C "wires" "Circuit.wires" (dM 5) ["self"] f fd) (T : Txt K mg) (CT : CirT K mg C) : FnOk P w K mg base CX0 1 f fd ["self"] (spM (α := Nat) K C newWs) := by
  refine F.fn.ok scM5 (fun vs H Q E h => ?_) (fun cdv A outer s H vs Q E hr h => ?_)
  · obtain ⟨p, c, rfl, _⟩ := h
    rfl
  · obtain ⟨p, c, rfl, hc, good, k⟩ := h
    refine ⟨_, pss_one (ps_ret (pe_callB (call_sortedD rfl) (by rfl) T.sorted (by decide +kernel) (pa_cons (pe_fld (pv 0) rfl) pa_nil))), ?_⟩
    obtain ⟨dx, a1, a2, a3, a4, D5, D6, L7, sg, sr, seq, h1, h2, _, _, h9, h10, h11, h12, h13⟩ := hc
    refine ⟨_, rfl, p, C, dx, _, _, rfl, h1, CT.cl, CT.n_kinds, (flds_in a1 a2 a3 a4 D5 D6 L7).2.2.2.2.2.1, D6, _, names c, rfl, .inl h11, ?_, ?_, fun ys l pm so nl => k ys pm so l _ (Ex.new nl) nl upd_same⟩
    · rw [← fst_kinds]
      unfold kvSt
      rw [List.map_map, List.map_map]
      rfl
    · have := names_few good
      omega
/-- the gates, each behind its sources -/
def newSeq : Cir → VK → Hp → Prop := fun c Q H => ∀ seq, Topo (bet' c.gates) seq → ∀ l H', Ex H H' → H l = none → H' l = some (.lst (seq.map V.str)) → Q (.ref l) H'
theorem scM11 : FnScope ["self"] ["self"] (defScope (dM 11)) := ⟨rfl, rfl, rfl, by decide +kernel, rfl, by decide +kernel, by decide +kernel⟩
theorem okSequence {f : Addr} {fd : FuncData} (F : MthT K C "sequence" "Circuit.sequence" (dM 11) ["self"] f fd) (T : Txt K mg) (CT : CirT K mg C) : FnOk P w K mg base CX0 1 f fd ["self"] (spM (α := Nat) K C newSeq) := by
  refine F.fn.ok scM11 (fun vs H Q E h => ?_) (fun cdv A outer s H vs Q E hr h => ?_)
  · obtain ⟨p, c, rfl, _⟩ := h
    rfl
  · obtain ⟨p, c, rfl, hc, _, k⟩ := h
    refine ⟨_, pss_one (ps_ret (pe_callTy call_list_of (by rfl) T.list (by decide +kernel) (pa_cons (pe_fld (pv 0) rfl) pa_nil))), ?_⟩
    obtain ⟨dx, a1, a2, a3, a4, D5, D6, L7, sg, sr, seq, h1, h2, _, _, h9, h10, h11, h12, h13⟩ := hc
    exact ⟨_, rfl, p, C, dx, _, _, rfl, h1, CT.cl, CT.n_sequence, (flds_in a1 a2 a3 a4 D5 D6 L7).2.2.2.2.2.2, L7, _, rfl, .inl (SqL.of h12), fun l nl => k seq h13 l _ (Ex.new nl) nl upd_same⟩
/-! ### == -/
theorem strOk_name {z : Str} (h : nameOk z) : PyData.strOk z = true := by
  unfold PyData.strOk
  rw [← Array.all_toList, List.all_eq_true]
  intro x hx
  unfold nameOk nameL at h
  cases q : z.cps.toList with
  | nil => rw [q] at hx; cases hx
  | cons a r =>
    rw [q] at h hx
    simp only [Bool.and_eq_true, List.all_eq_true, Bool.or_eq_true] at h
    have h3 := h.2 x hx
    have low : ∀ y ∈ smalls, y < 0x110000 := by decide
    have low2 : ∀ y ∈ digs, y < 0x110000 := by decide
    rcases h3 with h3 | h3
    · exact decide_eq_true (low x (by simpa using h3))
    · exact decide_eq_true (low2 x (by simpa using h3))
theorem kind_ok {z : Str} {n : Nat} (h : kindsL.lookup z = some n) : PyData.strOk z = true := by
  unfold kindsL at h
  simp only [List.lookup] at h
  repeat' split at h
  all_goals first | (next e => have := eq_of_beq e; subst this; decide +kernel) | cases h
theorem lay_txts : ∀ {zs : List Str}, (∀ z ∈ zs, PyData.strOk z = true) → PyData.canLayAll0 (txtD zs) = true
  | [], _ => rfl
  | z :: zs, h => by
    have a := lay_txts (zs := zs) fun y hy => h y (List.mem_cons_of_mem _ hy)
    have b := h z List.mem_cons_self
    unfold txtD at a ⊢
    simp [PyData.canLayAll0, PyData.canLay0, a, b]
theorem lay_all {α : Type} {f : α → PyData} : ∀ {l : List α}, (∀ a ∈ l, (f a).canLay0 = true) → PyData.canLayAll0 (l.map f) = true
  | [], _ => rfl
  | a :: l, h => by
    have x := lay_all (l := l) fun y hy => h y (List.mem_cons_of_mem _ hy)
    have y := h a List.mem_cons_self
    simp [PyData.canLayAll0, x, y]
theorem deep_all {α : Type} {f : α → PyData} {n : Nat} : ∀ {l : List α}, (∀ a ∈ l, (f a).depth ≤ n) → PyData.depthAll (l.map f) ≤ n
  | [], _ => Nat.zero_le _
  | a :: l, h => by
    have x := deep_all (l := l) fun y hy => h y (List.mem_cons_of_mem _ hy)
    have y := h a List.mem_cons_self
    simp only [List.map_cons, PyData.depthAll]
    omega
theorem shaped_txts {zs : List Str} (h : ∀ z ∈ zs, nameOk z) : SeqAt.shaped (.tuple (txtD zs)) = true := by
  unfold SeqAt.shaped
  rw [Bool.and_eq_true]
  refine ⟨?_, decide_eq_true ?_⟩
  · simpa [PyData.canLay0] using lay_txts fun z hz => strOk_name (h z hz)
  · simp only [PyData.depth, deep_txts]
    omega
theorem shaped_gates {gs : List Gt} (h : ∀ g ∈ gs, gateOk g) : SeqAt.shaped (.tuple (gs.map gateU)) = true := by
  unfold SeqAt.shaped
  rw [Bool.and_eq_true]
  refine ⟨?_, decide_eq_true ?_⟩
  · have q := lay_all (f := gateU) (l := gs) fun g hg => by
      have a := strOk_name (h g hg).1
      have b := kind_ok (h g hg).2.1
      have c := lay_txts fun z hz => strOk_name ((h g hg).2.2 z hz)
      simp [gateU, PyData.canLay0, PyData.canLayAll0, a, b, c]
    simpa [PyData.canLay0] using q
  · have q := deep_all (f := gateU) (n := 2) (l := gs) fun g hg => by
      simp [gateU, PyData.depth, PyData.depthAll, deep_txts]
    simp only [PyData.depth]
    omega
theorem shaped_regs {rs : List Rg} (h : ∀ r ∈ rs, regOk r) : SeqAt.shaped (.tuple (rs.map regD)) = true := by
  unfold SeqAt.shaped
  rw [Bool.and_eq_true]
  refine ⟨?_, decide_eq_true ?_⟩
  · have q := lay_all (f := regD) (l := rs) fun r hr => by
      have a := strOk_name (h r hr).1
      have c := strOk_name (h r hr).2.2
      simp [regD, PyData.canLay0, PyData.canLayAll0, a, c]
    simpa [PyData.canLay0] using q
  · have q := deep_all (f := regD) (n := 2) (l := rs) fun g hg => by
      simp [regD, PyData.depth, PyData.depthAll]
    simp only [PyData.depth]
    omega
/-- two circuits of the same -/
def Same (c e : Cir) : Prop := c.ins = e.ins ∧ c.gates.Perm e.gates ∧ c.regs.Perm e.regs ∧ c.outs = e.outs
def rSame (K : PySem.W.Frag) (C : Addr) : Addr → Addr → Hp → Prop := fun a b H => ∃ c e : Cir, CirAt K C H a c ∧ CirAt K C H b e ∧ Good c ∧ Good e ∧ Same c e
theorem scM14 : FnScope ["self", "other"] ["self", "other"] (defScope (dM 14)) := ⟨rfl, rfl, rfl, by decide +kernel, rfl, by decide +kernel, by decide +kernel⟩
theorem okEqM {f : Addr} {fd : FuncData} (F : MthT K C "__eq__" "Circuit.__eq__" (dM 14) ["self", "other"] f fd) (T : Txt K mg) (CT : CirT K mg C) : FnOk P w K mg base CX0 1 f fd ["self", "other"] (spEq (rSame K C)) := by
  refine F.fn.ok scM14 (fun vs H Q E h => ?_) (fun cdv A outer s H vs Q E hr h => ?_)
  · obtain ⟨a, b, rfl, _⟩ := h
    rfl
  · obtain ⟨a, b, rfl, ⟨c, e, hc, he, gc, ge, s1, s2, s3, s4⟩, k⟩ := h
    refine ⟨_, pss_one (ps_ret (pe_and (pe_callB call_isi (by rfl) T.isinstance (by decide +kernel) (pa_cons (pv 1) (pa_cons (pe_glob (v := .ref C) (by rfl) CT.gl rfl) pa_nil)))
      (pe_and (pe_cmpR (op_eqD hr.units) (pe_fld (pv 0) rfl) (pe_fld (pv 1) rfl) (nomark _)) (pe_and (pe_cmpR (op_eqD hr.units) (pe_fld (pv 0) rfl) (pe_fld (pv 1) rfl) (nomark _)) (pe_and (pe_cmpR (op_eqD hr.units) (pe_fld (pv 0) rfl) (pe_fld (pv 1) rfl) (nomark _))
      (pe_one (pe_cmpR (op_eqD hr.units) (pe_fld (pv 0) rfl) (pe_fld (pv 1) rfl) (nomark _)))))))), ?_⟩
    obtain ⟨dx, a1, a2, a3, a4, D5, D6, L7, sg, sr, seq, h1, h2, ⟨h3, h4, h5⟩, ⟨h6, h7, h8⟩, h9, _, _, _, _⟩ := hc
    obtain ⟨dy, b1, b2, b3, b4, E5, E6, M7, tg, tr, teq, g1, g2, ⟨g3, g4, g5⟩, ⟨g6, g7, g8⟩, g9, _, _, _, _⟩ := he
    have eg : sg = tg := rising_eq h5 g5 (h4.trans (s2.trans g4.symm))
    have er : sr = tr := rising_eq h8 g8 (h7.trans (s3.trans g7.symm))
    subst eg er
    rw [← s1] at g2
    rw [← s4] at g9
    have f1 := flds_in a1 a2 a3 a4 D5 D6 L7
    have f2 := flds_in b1 b2 b3 b4 E5 E6 M7
    have w1 := shaped_txts gc.inm
    have w2 := shaped_gates (gs := sg) fun g hg => gc.gts g (h4.mem_iff.mp hg)
    have w3 := shaped_regs (rs := sr) fun r hr => gc.rgs r (h7.mem_iff.mp hr)
    have w4 : SeqAt.shaped (.tuple (txtD c.outs)) = true := shaped_txts fun z hz => by
      have q := gc.out z hz
      unfold names at q
      rcases List.mem_append.mp q with q | q
      · exact gc.inm z q
      · rcases List.mem_append.mp q with q | q
        · obtain ⟨g, hg, rfl⟩ := List.mem_map.mp q
          exact (gc.gts g hg).1
        · obtain ⟨g, hg, rfl⟩ := List.mem_map.mp q
          exact (gc.rgs g hg).1
    have rf : ∀ {d : PyData}, SeqAt.shaped d = true → PyData.eqv d d = true := fun z => SeqAt.eqv_refl _ (SeqAt.canLay_of_shaped z)
    refine ⟨_, rfl, .ref b, .ref C, .ref C, .ref C, true, rfl, .own C, .base (CT.ty H b dy _ g1), CT.isC, _, rfl, iteT ?_⟩
    refine ⟨_, rfl, a, C, dx, _, _, rfl, h1, CT.cl, CT.n_inputs, f1.1, _, rfl, b, C, dy, _, _, rfl, g1, CT.cl, CT.n_inputs, f2.1, _, _, h2, g2, w1, w1, _, rfl, ?_⟩
    rw [rf w1]
    refine iteT ⟨_, rfl, a, C, dx, _, _, rfl, h1, CT.cl, CT.n_gates, f1.2.1, _, rfl, b, C, dy, _, _, rfl, g1, CT.cl, CT.n_gates, f2.2.1, _, _, h3, g3, w2, w2, _, rfl, ?_⟩
    rw [rf w2]
    refine iteT ⟨_, rfl, a, C, dx, _, _, rfl, h1, CT.cl, CT.n_registers, f1.2.2.1, _, rfl, b, C, dy, _, _, rfl, g1, CT.cl, CT.n_registers, f2.2.2.1, _, _, h6, g6, w3, w3, _, rfl, ?_⟩
    rw [rf w3]
    refine iteT ⟨_, rfl, a, C, dx, _, _, rfl, h1, CT.cl, CT.n_outputs, f1.2.2.2.1, _, rfl, b, C, dy, _, _, rfl, g1, CT.cl, CT.n_outputs, f2.2.2.2.1, _, _, h9, g9, w4, w4, ?_⟩
    rw [rf w4]
    exact k H (fun _ _ z => z)
end
end W

set_option Elab.async false
set_option linter.all false
set_option maxRecDepth 100000
set_option maxHeartbeats 8000000
namespace W
open PySem PySem.Spec PyProof.Rows L2 Evl G C
def bitsD (bs : List Int) : PyData := .tuple (bs.map .int)
def BitsOk (n : Nat) (bs : List Int) : Prop := bs.length = n ∧ ∀ b ∈ bs, b = 0 ∨ b = 1
theorem isLetter_ok {n : Nat} {bs : List Int} (h : BitsOk n bs) : isLetter (bitsD bs) n = true := by
  show (decide ((bs.map PyData.int).length = n) && (bs.map PyData.int).all isBit) = true
  rw [List.length_map, decide_eq_true h.1, Bool.true_and, List.all_eq_true]
  intro d hd
  obtain ⟨b, hb, rfl⟩ := List.mem_map.mp hd
  exact isBit_of (h.2 b hb)
def wordL (ws : List (List Int)) : PyData := .list (ws.map bitsD)
def wordT (ws : List (List Int)) : PyData := .tuple (ws.map bitsD)
theorem isWord_ok {n : Nat} {ws : List (List Int)} (h : ∀ w ∈ ws, BitsOk n w) : (ws.map bitsD).all (fun d => isLetter d n) = true := by
  rw [List.all_eq_true]
  intro d hd
  obtain ⟨b, hb, rfl⟩ := List.mem_map.mp hd
  exact isLetter_ok (h b hb)
/-- a fault, or none -/
abbrev Flt := Option (Str × Int)
def fltD : Flt → PyData
  | none => .none
  | some f => .tuple [.str f.1, .int f.2]
def FltOk (c : Cir) (f : Flt) : Prop := ∀ q, f = some q → q.1 ∈ names c ∧ (q.2 = 0 ∨ q.2 = 1)
section
variable {P : Program} {w : World} {K : PySem.W.Frag} {mg : Str → Option Value} {base : Heap} {C : Addr}
theorem bits_of {H : Hp} {x : V} {bs : List Int} (h : Dp K H x (bitsD bs)) : ∃ t, x = .ref t ∧ SqT K H t (bs.map V.int) := by
  cases h with
  | @tup a xs _ hs ha =>
    rw [ints_back ha] at hs
    exact ⟨a, rfl, hs⟩
theorem dp_ints {H : Hp} : ∀ {bs : List Int}, DpAll K H (bs.map V.int) (bs.map PyData.int)
  | [] => .nil
  | _ :: _ => .cons (.int _) dp_ints
theorem dp_bits {H : Hp} {t : Addr} {bs : List Int} (h : SqT K H t (bs.map V.int)) : Dp K H (.ref t) (bitsD bs) := .tup h dp_ints
theorem flt_of {H : Hp} {x : V} {z : Str} {b : Int} (h : Dp K H x (fltD (some (z, b)))) : ∃ t, x = .ref t ∧ SqT K H t [.str z, .int b] := by
  cases h with
  | @tup a xs _ hs ha =>
    cases ha with
    | cons a1 r1 =>
      cases r1 with
      | cons a2 r2 =>
        cases r2
        cases a1
        cases a2
        exact ⟨a, rfl, hs⟩
def spBits (K : PySem.W.Frag) (C : Addr) (n : Cir → Nat) : Sp := fun vs H Q _ => ∃ (p : Addr) (x : V) (c : Cir) (bs : List Int), vs = [.ref p, x] ∧ CirAt K C H p c ∧ Good c ∧ Dp K H x (bitsD bs) ∧ BitsOk (n c) bs ∧ ∀ H', Ex H H' → Q .non H'
theorem scCState : FnScope ["circuit", "state"] ["circuit", "state"] (defScope dCState) := ⟨rfl, rfl, rfl, by decide +kernel, rfl, by decide +kernel, by decide +kernel⟩
theorem srOf (c : Cir) (g : Good c) : True := trivial
theorem okCState {f : Addr} {fd : FuncData} (F : At K mg "check_state" dCState ["circuit", "state"] f fd) (T : Txt K mg) (CT : CirT K mg C) : FnOk P w K mg base CX0 4 f fd ["circuit", "state"] (spBits K C (fun c => c.regs.length)) := by
  obtain ⟨fF, gF, FF⟩ := CT.first
  obtain ⟨fL, gL, FL⟩ := T.letter
  have GF : FnOk P w K mg base CX0 3 fF gF ["self"] (spM (α := Nat) K C (newFst K)) := (okFirst FF T CT).mono (by decide)
  have GL : FnOk P w K mg base CX0 3 fL gL ["value", "width"] (spW K isLetter) := okLetter FL T
  refine F.fn.ok scCState (fun vs H Q E h => ?_) (fun cdv A outer s H vs Q E hr h => ?_)
  · obtain ⟨p, x, c, bs, rfl, _⟩ := h
    rfl
  · obtain ⟨p, x, c, bs, rfl, hc, good, hx, ok, k⟩ := h
    refine ⟨_, pss_one (ps_if (pt_not (pt_val (pe_call GL hr (by rfl) FL.gl FL.fn.kp FL.bi .nil pass0 (pa_cons (pv 1) (pa_cons (pe_callB call_len_seq (by rfl) T.len PySem.boot_len (pa_cons (pe_meth0 (pv 0) CT.cl FF.me GF hr FF.bi .nil pass0) pa_nil)) pa_nil))))) (pss_one ps_never) pss_nil), ?_⟩
    obtain ⟨dx, a1, a2, a3, a4, D5, D6, L7, sg, sr, seq, h1, _, _, ⟨_, h7, h8⟩, _⟩ := id hc
    refine ⟨_, rfl, _, rfl, p, dx, _, rfl, h1, rfl, p, c, rfl, hc, good, fun sr' hs' t H1 e1 nt ht => ?_⟩
    refine ⟨t, _, rfl, .inr (st_of ht), x, bitsD bs, c.regs.length, ?_, .dp (dp_ex e1 hx), by have := good.lr; omega, fun H2 e2 => ⟨_, rfl, ?_⟩⟩
    · simp [firstOf, hs'.1.length_eq]
    · rw [isLetter_ok ok]
      exact iteF (k H2 (e1.trans e2))
theorem scCLetter : FnScope ["circuit", "letter"] ["circuit", "letter"] (defScope dCLetter) := ⟨rfl, rfl, rfl, by decide +kernel, rfl, by decide +kernel, by decide +kernel⟩
theorem okCLetter {f : Addr} {fd : FuncData} (F : At K mg "check_letter" dCLetter ["circuit", "letter"] f fd) (T : Txt K mg) (CT : CirT K mg C) : FnOk P w K mg base CX0 4 f fd ["circuit", "letter"] (spBits K C (fun c => c.ins.length)) := by
  obtain ⟨fF, gF, FF⟩ := CT.inputs
  obtain ⟨fL, gL, FL⟩ := T.letter
  have GF : FnOk P w K mg base CX0 3 fF gF ["self"] (spM (α := Nat) K C (newTx Cir.ins)) := (okInputs FF T CT).mono (by decide)
  have GL : FnOk P w K mg base CX0 3 fL gL ["value", "width"] (spW K isLetter) := okLetter FL T
  refine F.fn.ok scCLetter (fun vs H Q E h => ?_) (fun cdv A outer s H vs Q E hr h => ?_)
  · obtain ⟨p, x, c, bs, rfl, _⟩ := h
    rfl
  · obtain ⟨p, x, c, bs, rfl, hc, good, hx, ok, k⟩ := h
    refine ⟨_, pss_one (ps_if (pt_not (pt_val (pe_call GL hr (by rfl) FL.gl FL.fn.kp FL.bi .nil pass0 (pa_cons (pv 1) (pa_cons (pe_callB call_len_seq (by rfl) T.len PySem.boot_len (pa_cons (pe_meth0 (pv 0) CT.cl FF.me GF hr FF.bi .nil pass0) pa_nil)) pa_nil))))) (pss_one ps_never) pss_nil), ?_⟩
    obtain ⟨dx, a1, a2, a3, a4, D5, D6, L7, sg, sr, seq, h1, _⟩ := id hc
    refine ⟨_, rfl, _, rfl, p, dx, _, rfl, h1, rfl, p, c, rfl, hc, good, fun l H1 e1 nl hl => ?_⟩
    refine ⟨l, _, rfl, .inl (SqL.of hl), x, bitsD bs, c.ins.length, by simp, .dp (dp_ex e1 hx), by have := good.li; omega, fun H2 e2 => ⟨_, rfl, ?_⟩⟩
    rw [isLetter_ok ok]
    exact iteF (k H2 (e1.trans e2))
def spWord (K : PySem.W.Frag) (C : Addr) : Sp := fun vs H Q _ => ∃ (p : Addr) (x : V) (c : Cir) (ws : List (List Int)), vs = [.ref p, x] ∧ CirAt K C H p c ∧ Good c ∧ (Dp K H x (wordL ws) ∨ Dp K H x (wordT ws)) ∧ (∀ w ∈ ws, BitsOk c.ins.length w) ∧ ws.length ≤ 500 ∧ ∀ H', Ex H H' → Q .non H'
theorem scCWord : FnScope ["circuit", "word"] ["circuit", "word"] (defScope dCWord) := ⟨rfl, rfl, rfl, by decide +kernel, rfl, by decide +kernel, by decide +kernel⟩
theorem okCWord {f : Addr} {fd : FuncData} (F : At K mg "check_word" dCWord ["circuit", "word"] f fd) (T : Txt K mg) (CT : CirT K mg C) : FnOk P w K mg base CX0 5 f fd ["circuit", "word"] (spWord K C) := by
  obtain ⟨fF, gF, FF⟩ := CT.inputs
  obtain ⟨fL, gL, FL⟩ := T.word
  have GF : FnOk P w K mg base CX0 4 fF gF ["self"] (spM (α := Nat) K C (newTx Cir.ins)) := (okInputs FF T CT).mono (by decide)
  have GL : FnOk P w K mg base CX0 4 fL gL ["value", "width"] (spWs K isWord) := okWord FL T
  refine F.fn.ok scCWord (fun vs H Q E h => ?_) (fun cdv A outer s H vs Q E hr h => ?_)
  · obtain ⟨p, x, c, bs, rfl, _⟩ := h
    rfl
  · obtain ⟨p, x, c, ws, rfl, hc, good, hx, ok, lw, k⟩ := h
    refine ⟨_, pss_one (ps_if (pt_not (pt_val (pe_call GL hr (by rfl) FL.gl FL.fn.kp FL.bi .nil pass0 (pa_cons (pv 1) (pa_cons (pe_callB call_len_seq (by rfl) T.len PySem.boot_len (pa_cons (pe_meth0 (pv 0) CT.cl FF.me GF hr FF.bi .nil pass0) pa_nil)) pa_nil))))) (pss_one ps_never) pss_nil), ?_⟩
    obtain ⟨dx, a1, a2, a3, a4, D5, D6, L7, sg, sr, seq, h1, _⟩ := id hc
    refine ⟨_, rfl, _, rfl, p, dx, _, rfl, h1, rfl, p, c, rfl, hc, good, fun l H1 e1 nl hl => ?_⟩
    have sz : ∀ d, (d = wordL ws ∨ d = wordT ws) → szD d ≤ 1000 ∧ isWord d c.ins.length = true := by
      rintro d (rfl | rfl)
      · exact ⟨by show (ws.map bitsD).length ≤ 1000; rw [List.length_map]; omega, isWord_ok ok⟩
      · exact ⟨by show (ws.map bitsD).length ≤ 1000; rw [List.length_map]; omega, isWord_ok ok⟩
    obtain ⟨d, hd, hd2⟩ : ∃ d, (d = wordL ws ∨ d = wordT ws) ∧ Dp K H x d := hx.elim (fun z => ⟨_, .inl rfl, z⟩) fun z => ⟨_, .inr rfl, z⟩
    obtain ⟨q1, q2⟩ := sz d hd
    refine ⟨l, _, rfl, .inl (SqL.of hl), x, d, c.ins.length, by simp, .dp (dp_ex e1 hd2), by have := good.li; omega, q1, fun H2 e2 => ⟨_, rfl, ?_⟩⟩
    rw [q2]
    exact iteF (k H2 (e1.trans e2))
def spFault (K : PySem.W.Frag) (C : Addr) : Sp := fun vs H Q _ => ∃ (p : Addr) (x : V) (c : Cir) (q : Str × Int), vs = [.ref p, x] ∧ CirAt K C H p c ∧ Dp K H x (fltD (some q)) ∧ FltOk c (some q) ∧ ∀ H', Ex H H' → Q (.bl true) H'
theorem scIsFault : FnScope ["circuit", "value"] ["circuit", "value"] (defScope dIsFault) := ⟨rfl, rfl, rfl, by decide +kernel, rfl, by decide +kernel, by decide +kernel⟩
theorem okIsFault {f : Addr} {fd : FuncData} (F : At K mg "is_fault" dIsFault ["circuit", "value"] f fd) (T : Txt K mg) (CT : CirT K mg C) : FnOk P w K mg base CX0 3 f fd ["circuit", "value"] (spFault K C) := by
  obtain ⟨fI, gI, FI⟩ := CT.cont
  obtain ⟨fB, gB, FB⟩ := T.bit
  have GI : FnOk P w K mg base CX0 2 fI gI ["self", "value"] (spCont K C) := (okCont FI T CT).mono (by decide)
  have GB : FnOk P w K mg base CX0 2 fB gB ["value"] (spT K isBit) := okBit FB T
  refine F.fn.ok scIsFault (fun vs H Q E h => ?_) (fun cdv A outer s H vs Q E hr h => ?_)
  · obtain ⟨p, x, c, q, rfl, _⟩ := h
    rfl
  · obtain ⟨p, x, c, ⟨z, b⟩, rfl, hc, hx, ok, k⟩ := h
    refine ⟨_, pss_cons (ps_if (PW.pt (pw_or (pt_not (pt_val (pe_callB call_isi (by rfl) T.isinstance (by decide +kernel) (pa_cons (pv 1) (pa_cons (pTy "tuple" (by rfl) T.tuple (by decide +kernel)) pa_nil)))))
        (pw_or1 (pt_cmpR op_ne (pe_callB call_len_seq (by rfl) T.len PySem.boot_len (pa_cons (pv 1) pa_nil)) pe_int (nomark _))))) (pss_one (ps_ret pe_bl)) pss_nil)
      (pss_one (ps_ret (pe_and (pe_cmpR (op_inOwn GI hr FI.me.at_ FI.me.fn FI.bi pass0) (pe_ix ix_tup (pv 1) pe_int (fun _ _ => rfl)) (pv 0) (by rfl)) (pe_one (pe_call GB hr (by rfl) FB.gl FB.fn.kp FB.bi .nil pass0 (pa_cons (pe_ix ix_tup (pv 1) pe_int (fun _ _ => rfl)) pa_nil)))))), ?_⟩
    obtain ⟨o1, o2⟩ := ok _ rfl
    obtain ⟨t, rfl, ht⟩ := flt_of hx
    obtain ⟨dx, a1, a2, a3, a4, D5, D6, L7, sg, sr, seq, h1, _⟩ := id hc
    refine rd_isi (K := K) (i := 1) (T := "tuple") rfl (.dp hx) (kit_T (fltD (some (z, b)))) ⟨_, rfl, ?_⟩
    refine iteF ?_
    refine ⟨_, rfl, t, _, rfl, .inr ht, rfl, _, rfl, ?_⟩
    refine iteF ?_
    refine ⟨_, rfl, t, _, 0, .str z, rfl, rfl, ht, rfl, _, rfl, p, dx, _, rfl, h1, p, z, c, rfl, hc, _, rfl, _, rfl, ?_⟩
    rw [show nIn c z = true from decide_eq_true o1]
    refine iteT ⟨_, rfl, t, _, 1, .int b, rfl, rfl, ht, rfl, .int b, .int b, rfl, .dp (.int b), fun H' e => ?_⟩
    rw [isBit_of o2]
    exact k H' e
def spStuck (K : PySem.W.Frag) (C : Addr) : Sp := fun vs H Q _ => ∃ (p : Addr) (x : V) (c : Cir) (f : Flt), vs = [.ref p, x] ∧ CirAt K C H p c ∧ Dp K H x (fltD f) ∧ FltOk c f ∧ ∀ H', Ex H H' → Q .non H'
theorem scCStuck : FnScope ["circuit", "stuck"] ["circuit", "stuck"] (defScope dCStuck) := ⟨rfl, rfl, rfl, by decide +kernel, rfl, by decide +kernel, by decide +kernel⟩
theorem okCStuck {f : Addr} {fd : FuncData} (F : At K mg "check_stuck" dCStuck ["circuit", "stuck"] f fd) (T : Txt K mg) (CT : CirT K mg C) : FnOk P w K mg base CX0 4 f fd ["circuit", "stuck"] (spStuck K C) := by
  obtain ⟨fI, gI, FI⟩ := T.isFault
  have GI : FnOk P w K mg base CX0 3 fI gI ["circuit", "value"] (spFault K C) := okIsFault FI T CT
  refine F.fn.ok scCStuck (fun vs H Q E h => ?_) (fun cdv A outer s H vs Q E hr h => ?_)
  · obtain ⟨p, x, c, q, rfl, _⟩ := h
    rfl
  · obtain ⟨p, x, c, fl, rfl, hc, hx, ok, k⟩ := h
    refine ⟨_, pss_one (ps_if (PW.pt (pw_and (pt_cmp (pc_notN (pv 1))) (pw_and1 (pt_not (pt_val (pe_call GI hr (by rfl) FI.gl FI.fn.kp FI.bi .nil pass0 (pa_cons (pv 0) (pa_cons (pv 1) pa_nil)))))))) (pss_one ps_never) pss_nil), ?_⟩
    cases fl with
    | none =>
      cases hx
      exact ⟨_, rfl, _, rfl, iteF (iteF (k H (Ex.refl H)))⟩
    | some q =>
      obtain ⟨z, b⟩ := q
      obtain ⟨t, rfl, ht⟩ := flt_of hx
      exact ⟨_, rfl, _, rfl, iteT ⟨_, rfl, _, rfl, p, .ref t, c, (z, b), rfl, hc, hx, ok, fun H' e => ⟨_, rfl, iteF (k H' e)⟩⟩⟩
/-- a state, or none -/
def stD : Option (List Int) → PyData
  | none => .none
  | some bs => bitsD bs
def spCourse (K : PySem.W.Frag) (C : Addr) : Sp := fun vs H Q _ => ∃ (p : Addr) (x y z : V) (c : Cir) (ws : List (List Int)) (st : Option (List Int)) (f : Flt), vs = [.ref p, x, y, z] ∧ CirAt K C H p c ∧ Good c ∧ (Dp K H x (wordL ws) ∨ Dp K H x (wordT ws)) ∧ (∀ w ∈ ws, BitsOk c.ins.length w) ∧ ws.length ≤ 500 ∧
  Dp K H y (stD st) ∧ (∀ bs, st = some bs → BitsOk c.regs.length bs) ∧ Dp K H z (fltD f) ∧ FltOk c f ∧ ∀ H', Ex H H' → Q .non H'
theorem scCCourse : FnScope ["circuit", "word", "state", "stuck"] ["circuit", "word", "state", "stuck"] (defScope dCCourse) := ⟨rfl, rfl, rfl, by decide +kernel, rfl, by decide +kernel, by decide +kernel⟩
theorem okCCourse {f : Addr} {fd : FuncData} (F : At K mg "check_course" dCCourse ["circuit", "word", "state", "stuck"] f fd) (T : Txt K mg) (CT : CirT K mg C) : FnOk P w K mg base CX0 6 f fd ["circuit", "word", "state", "stuck"] (spCourse K C) := by
  obtain ⟨f1, g1, F1⟩ := T.cWord
  obtain ⟨f2, g2, F2⟩ := T.cState
  obtain ⟨f3, g3, F3⟩ := T.cStuck
  have G1 : FnOk P w K mg base CX0 5 f1 g1 ["circuit", "word"] (spWord K C) := okCWord F1 T CT
  have G2 : FnOk P w K mg base CX0 5 f2 g2 ["circuit", "state"] (spBits K C (fun c => c.regs.length)) := (okCState F2 T CT).mono (by decide)
  have G3 : FnOk P w K mg base CX0 5 f3 g3 ["circuit", "stuck"] (spStuck K C) := (okCStuck F3 T CT).mono (by decide)
  refine F.fn.ok scCCourse (fun vs H Q E h => ?_) (fun cdv A outer s H vs Q E hr h => ?_)
  · obtain ⟨p, x, y, z, c, ws, st, fl, rfl, _⟩ := h
    rfl
  · obtain ⟨p, x, y, z, c, ws, st, fl, rfl, hc, good, hx, okw, lw, hy, oks, hz, okf, k⟩ := h
    refine ⟨_, pss_cons (ps_expr (pe_call G1 hr (by rfl) F1.gl F1.fn.kp F1.bi .nil pass0 (pa_cons (pv 0) (pa_cons (pv 1) pa_nil))))
      (pss_cons (ps_if (pt_cmp (pc_notN (pv 2))) (pss_one (ps_expr (pe_call G2 hr (by rfl) F2.gl F2.fn.kp F2.bi .nil pass0 (pa_cons (pv 0) (pa_cons (pv 2) pa_nil))))) pss_nil)
      (pss_one (ps_expr (pe_call G3 hr (by rfl) F3.gl F3.fn.kp F3.bi .nil pass0 (pa_cons (pv 0) (pa_cons (pv 3) pa_nil)))))), ?_⟩
    refine ⟨_, rfl, _, rfl, p, x, c, ws, rfl, hc, good, hx, okw, lw, fun H1 e1 => ?_⟩
    cases st with
    | none =>
      cases hy
      exact ⟨_, rfl, _, rfl, iteF ⟨_, rfl, _, rfl, p, z, c, fl, rfl, hc.ex e1, dp_ex e1 hz, okf, fun H2 e2 => k H2 (e1.trans e2)⟩⟩
    | some bs =>
      obtain ⟨t, rfl, ht⟩ := bits_of hy
      exact ⟨_, rfl, _, rfl, iteT ⟨_, rfl, _, rfl, p, .ref t, c, bs, rfl, hc.ex e1, good, dp_ex e1 hy, oks bs rfl, fun H2 e2 => ⟨_, rfl, _, rfl, p, z, c, fl, rfl, hc.ex (e1.trans e2), dp_ex (e1.trans e2) hz, okf, fun H3 e3 => k H3 ((e1.trans e2).trans e3)⟩⟩⟩
def spStep (K : PySem.W.Frag) (C : Addr) : Sp := fun vs H Q _ => ∃ (p : Addr) (x y z : V) (c : Cir) (bs ls : List Int) (f : Flt), vs = [.ref p, x, y, z] ∧ CirAt K C H p c ∧ Good c ∧ Dp K H x (bitsD bs) ∧ BitsOk c.regs.length bs ∧ Dp K H y (bitsD ls) ∧ BitsOk c.ins.length ls ∧ Dp K H z (fltD f) ∧ FltOk c f ∧ ∀ H', Ex H H' → Q .non H'
theorem scCStep : FnScope ["circuit", "state", "letter", "stuck"] ["circuit", "state", "letter", "stuck"] (defScope dCStep) := ⟨rfl, rfl, rfl, by decide +kernel, rfl, by decide +kernel, by decide +kernel⟩
theorem okCStep {f : Addr} {fd : FuncData} (F : At K mg "check_step" dCStep ["circuit", "state", "letter", "stuck"] f fd) (T : Txt K mg) (CT : CirT K mg C) : FnOk P w K mg base CX0 5 f fd ["circuit", "state", "letter", "stuck"] (spStep K C) := by
  obtain ⟨f1, g1, F1⟩ := T.cState
  obtain ⟨f2, g2, F2⟩ := T.cLetter
  obtain ⟨f3, g3, F3⟩ := T.cStuck
  have G1 : FnOk P w K mg base CX0 4 f1 g1 ["circuit", "state"] (spBits K C (fun c => c.regs.length)) := okCState F1 T CT
  have G2 : FnOk P w K mg base CX0 4 f2 g2 ["circuit", "letter"] (spBits K C (fun c => c.ins.length)) := okCLetter F2 T CT
  have G3 : FnOk P w K mg base CX0 4 f3 g3 ["circuit", "stuck"] (spStuck K C) := okCStuck F3 T CT
  refine F.fn.ok scCStep (fun vs H Q E h => ?_) (fun cdv A outer s H vs Q E hr h => ?_)
  · obtain ⟨p, x, y, z, c, bs, ls, fl, rfl, _⟩ := h
    rfl
  · obtain ⟨p, x, y, z, c, bs, ls, fl, rfl, hc, good, hx, okx, hy, oky, hz, okf, k⟩ := h
    refine ⟨_, pss_cons (ps_expr (pe_call G1 hr (by rfl) F1.gl F1.fn.kp F1.bi .nil pass0 (pa_cons (pv 0) (pa_cons (pv 1) pa_nil))))
      (pss_cons (ps_expr (pe_call G2 hr (by rfl) F2.gl F2.fn.kp F2.bi .nil pass0 (pa_cons (pv 0) (pa_cons (pv 2) pa_nil))))
      (pss_one (ps_expr (pe_call G3 hr (by rfl) F3.gl F3.fn.kp F3.bi .nil pass0 (pa_cons (pv 0) (pa_cons (pv 3) pa_nil)))))), ?_⟩
    exact ⟨_, rfl, _, rfl, p, x, c, bs, rfl, hc, good, hx, okx, fun H1 e1 => ⟨_, rfl, _, rfl, p, y, c, ls, rfl, hc.ex e1, good, dp_ex e1 hy, oky, fun H2 e2 => ⟨_, rfl, _, rfl, p, z, c, fl, rfl, hc.ex (e1.trans e2), dp_ex (e1.trans e2) hz, okf, fun H3 e3 => k H3 ((e1.trans e2).trans e3)⟩⟩⟩
end
end W

set_option Elab.async false
set_option linter.all false
set_option maxRecDepth 100000
set_option maxHeartbeats 8000000
/-! What all wires say, by itself. -/
namespace W
open PySem PySem.Spec PyProof.Rows L2 Evl G C
abbrev isBt (b : Int) : Prop := b = 0 ∨ b = 1
def bitK (k : Str) (ys : List Int) : Int := (((madeL.lookup k).getD [])[(num ys).toNat]?).getD 0
theorem kinds_cases {k : Str} {n : Nat} (h : kindsL.lookup k = some n) : (k = "and" ∧ n = 2) ∨ (k = "high" ∧ n = 0) ∨ (k = "low" ∧ n = 0) ∨ (k = "not" ∧ n = 1) ∨ (k = "or" ∧ n = 2) ∨ (k = "pick" ∧ n = 3) ∨ (k = "xor" ∧ n = 2) := by
  unfold kindsL at h
  simp only [List.lookup] at h
  repeat' split at h
  all_goals first | cases h | skip
  all_goals (rename_i e; have e := eq_of_beq e; simp [e])
/-- the table has what a kind makes -/
structure Made (k : Str) (ys : List Int) (v : Int) : Prop where
  is : bitK k ys = v
  tab : ∃ bs, madeL.lookup k = some bs ∧ atI (bs.map V.int) (num ys) = some (.int v)
  bit : isBt v
theorem made_mk {k : Str} {ys : List Int} (h1 : (madeL.lookup k).isSome = true) (h2 : atI (((madeL.lookup k).getD []).map V.int) (num ys) = some (.int (bitK k ys))) (h3 : isBt (bitK k ys)) : Made k ys (bitK k ys) := by
  refine ⟨rfl, ?_, h3⟩
  obtain ⟨bs, e⟩ := Option.isSome_iff_exists.mp h1
  rw [e] at h2
  exact ⟨bs, e, h2⟩
theorem made_of {k : Str} {ys : List Int} (h : kindsL.lookup k = some ys.length) (hb : ∀ b ∈ ys, isBt b) : Made k ys (bitK k ys) := by
  have two : ∀ {ys : List Int}, ys.length = 2 → (∀ b ∈ ys, isBt b) → ∃ a b, ys = [a, b] ∧ isBt a ∧ isBt b := by
    intro ys h hb
    match ys, h with
    | [a, b], _ => exact ⟨a, b, rfl, hb a (by simp), hb b (by simp)⟩
  rcases kinds_cases h with ⟨rfl, e⟩ | ⟨rfl, e⟩ | ⟨rfl, e⟩ | ⟨rfl, e⟩ | ⟨rfl, e⟩ | ⟨rfl, e⟩ | ⟨rfl, e⟩
  · obtain ⟨a, b, rfl, ha, hc⟩ := two e hb
    rcases ha with rfl | rfl <;> rcases hc with rfl | rfl <;> exact made_mk (by decide +kernel) (by kernel_rfl) (by decide +kernel)
  · obtain rfl := List.length_eq_zero_iff.mp e
    exact made_mk (by decide +kernel) (by kernel_rfl) (by decide +kernel)
  · obtain rfl := List.length_eq_zero_iff.mp e
    exact made_mk (by decide +kernel) (by kernel_rfl) (by decide +kernel)
  · obtain ⟨a, rfl⟩ := List.length_eq_one_iff.mp e
    rcases hb a (by simp) with rfl | rfl <;> exact made_mk (by decide +kernel) (by kernel_rfl) (by decide +kernel)
  · obtain ⟨a, b, rfl, ha, hc⟩ := two e hb
    rcases ha with rfl | rfl <;> rcases hc with rfl | rfl <;> exact made_mk (by decide +kernel) (by kernel_rfl) (by decide +kernel)
  · match ys, e with
    | [a, b, c], _ =>
      rcases hb a (by simp) with rfl | rfl <;> rcases hb b (by simp) with rfl | rfl <;> rcases hb c (by simp) with rfl | rfl <;> exact made_mk (by decide +kernel) (by kernel_rfl) (by decide +kernel)
  · obtain ⟨a, b, rfl, ha, hc⟩ := two e hb
    rcases ha with rfl | rfl <;> rcases hc with rfl | rfl <;> exact made_mk (by decide +kernel) (by kernel_rfl) (by decide +kernel)
/-- what is said of itself: by a letter and a state -/
def base0 (c : Cir) (sr : List Rg) (st le : List Int) : List (Str × Int) := c.ins.zip le ++ (sr.map fun r => r.1).zip st
def Free (fl : Flt) (z : Str) : Prop := ∀ q, fl = some q → q.1 ≠ z
structure Says (c : Cir) (sr : List Rg) (st le : List Int) (fl : Flt) (f : Str → Int) : Prop where
  held : ∀ q, fl = some q → f q.1 = q.2
  base : ∀ q ∈ base0 c sr st le, Free fl q.1 → f q.1 = q.2
  gate : ∀ g ∈ c.gates, Free fl g.1 → f g.1 = bitK g.2.1 (g.2.2.map f)
theorem free_or (fl : Flt) (z : Str) : Free fl z ∨ ∃ q, fl = some q ∧ q.1 = z := by
  cases fl with
  | none => exact .inl fun q h => by cases h
  | some q =>
    by_cases e : q.1 = z
    · exact .inr ⟨q, rfl, e⟩
    · exact .inl fun q' h => by cases h; exact e
theorem zip_keys {α β : Type} : ∀ {xs : List α} {ys : List β}, xs.length = ys.length → (xs.zip ys).map Prod.fst = xs
  | [], [], _ => rfl
  | x :: xs, y :: ys, h => by
    rw [List.zip_cons_cons, List.map_cons, zip_keys (Nat.succ.inj h)]
theorem base_keys {c : Cir} {sr : List Rg} {st le : List Int} (hl : le.length = c.ins.length) (hs : st.length = sr.length) : (base0 c sr st le).map Prod.fst = c.ins ++ sr.map fun r => r.1 := by
  unfold base0
  rw [List.map_append, zip_keys hl.symm, zip_keys (by rw [List.length_map, hs])]
theorem base_mem {c : Cir} {sr : List Rg} {st le : List Int} (hr : RgOf c sr) (hl : le.length = c.ins.length) (hs : st.length = c.regs.length) {z : Str} (h : z ∈ c.ins ∨ z ∈ rn c) : ∃ b, (z, b) ∈ base0 c sr st le := by
  have q : z ∈ (base0 c sr st le).map Prod.fst := by
    rw [base_keys hl (by rw [hs, hr.1.length_eq])]
    rcases h with h | h
    · exact List.mem_append_left _ h
    · exact List.mem_append_right _ ((hr.1.map fun r => r.1).mem_iff.mpr h)
  obtain ⟨p, hp, rfl⟩ := List.mem_map.mp q
  exact ⟨p.2, hp⟩
theorem gate_at {c : Cir} {z : Str} (h : z ∈ gn c) : ∃ g ∈ c.gates, g.1 = z := by
  obtain ⟨g, hg, e⟩ := List.mem_map.mp h
  exact ⟨g, hg, e⟩
theorem in_bet {c : Cir} {y : Str} : y ∈ (bet' c.gates).map Prod.fst ↔ y ∈ gn c := by
  unfold bet' gn
  rw [List.map_map]
  rfl
theorem names_in {c : Cir} {z : Str} : z ∈ names c ↔ z ∈ c.ins ∨ z ∈ gn c ∨ z ∈ rn c := by
  unfold names
  rw [List.mem_append, List.mem_append]
theorem says_one {c : Cir} (good : Good c) {sr : List Rg} {st le : List Int} {fl : Flt} {f f' : Str → Int} (hr : RgOf c sr) (hl : le.length = c.ins.length) (hs : st.length = c.regs.length) (h : Says c sr st le fl f) (h' : Says c sr st le fl f') : ∀ z ∈ names c, f z = f' z := by
  obtain ⟨rk, hrk⟩ := good.rank
  have low : ∀ z, (z ∈ c.ins ∨ z ∈ rn c) → f z = f' z := by
    intro z hz
    rcases free_or fl z with fr | ⟨q, e, rfl⟩
    · obtain ⟨b, hb⟩ := base_mem (st := st) (le := le) hr hl hs hz
      rw [h.base _ hb fr, h'.base _ hb fr]
    · rw [h.held q e, h'.held q e]
  have high : ∀ n, ∀ g ∈ c.gates, rk g.1 ≤ n → f g.1 = f' g.1 := by
    intro n
    induction n using Nat.strongRecOn with
    | ind n ih =>
      intro g hg le
      rcases free_or fl g.1 with fr | ⟨q, e, e2⟩
      · rw [h.gate g hg fr, h'.gate g hg fr]
        congr 1
        refine List.map_congr_left fun y hy => ?_
        rcases names_in.mp (good.src g hg y hy) with a | a | a
        · exact low y (.inl a)
        · have lt := hrk (g.1, g.2.2) (List.mem_map.mpr ⟨g, hg, rfl⟩) y hy (in_bet.mpr a)
          obtain ⟨g', hg', rfl⟩ := gate_at a
          exact ih (rk g'.1) (by have : rk g'.1 < rk g.1 := lt; omega) g' hg' (Nat.le_refl _)
        · exact low y (.inr a)
      · rw [← e2, h.held q e, h'.held q e]
  intro z hz
  rcases names_in.mp hz with a | a | a
  · exact low z (.inl a)
  · obtain ⟨g, hg, rfl⟩ := gate_at a
    exact high _ g hg (Nat.le_refl _)
  · exact low z (.inr a)
/-- by fuel -/
def ev (c : Cir) (sr : List Rg) (st le : List Int) (fl : Flt) : Nat → Str → Int
  | 0, _ => 0
  | n + 1, z => match fl.filter fun q => q.1 == z with
    | some q => q.2
    | none => match (base0 c sr st le).lookup z with
      | some b => b
      | none => match c.gates.find? fun g => g.1 == z with
        | some g => bitK g.2.1 (g.2.2.map (ev c sr st le fl n))
        | none => 0
theorem lookup_in {l : List (Str × Int)} (nd : (l.map Prod.fst).Nodup) {q : Str × Int} (h : q ∈ l) : l.lookup q.1 = some q.2 := by
  induction l with
  | nil => cases h
  | cons a r ih =>
    rw [List.map_cons, List.nodup_cons] at nd
    rcases List.mem_cons.mp h with h | h
    · subst h
      exact List.lookup_cons_self
    · have : (q.1 == a.1) = false := by
        rw [beq_eq_false_iff_ne]
        exact fun e => nd.1 (List.mem_map.mpr ⟨q, h, e⟩)
      rw [List.lookup_cons, this]
      exact ih nd.2 h
theorem lookup_out {l : List (Str × Int)} {z : Str} (h : z ∉ l.map Prod.fst) : l.lookup z = none := by
  rw [List.lookup_eq_none_iff]
  exact fun p hp => by
    rw [bne_iff_ne]
    exact fun e => h (List.mem_map.mpr ⟨p, hp, e.symm⟩)
theorem find_gate {gs : List Gt} (nd : (gs.map fun g => g.1).Nodup) {g : Gt} (h : g ∈ gs) : gs.find? (fun x => x.1 == g.1) = some g := by
  induction gs with
  | nil => cases h
  | cons a r ih =>
    rw [List.map_cons, List.nodup_cons] at nd
    rcases List.mem_cons.mp h with h | h
    · subst h
      rw [List.find?_cons_of_pos]
      exact beq_self_eq_true _
    · rw [List.find?_cons_of_neg]
      · exact ih nd.2 h
      · intro e
        exact nd.1 (List.mem_map.mpr ⟨g, h, (eq_of_beq e).symm⟩)
theorem says_some {c : Cir} (good : Good c) {sr : List Rg} {st le : List Int} (fl : Flt) (hr : RgOf c sr) (hl : le.length = c.ins.length) (hs : st.length = c.regs.length) : ∃ f, Says c sr st le fl f := by
  obtain ⟨rk, hrk⟩ := good.rank
  have nd := good.nd
  unfold names at nd
  obtain ⟨n1, n2, n3⟩ := List.nodup_append.mp nd
  obtain ⟨n4, n5, n6⟩ := List.nodup_append.mp n2
  have bk := base_keys (c := c) (sr := sr) (st := st) (le := le) hl (by rw [hs, hr.1.length_eq])
  have pr : (sr.map fun r => r.1).Perm (rn c) := hr.1.map _
  have bnd : ((base0 c sr st le).map Prod.fst).Nodup := by
    rw [bk]
    refine List.nodup_append.mpr ⟨n1, pr.nodup_iff.mpr n5, fun a ha b hb => n3 a ha b (List.mem_append_right _ (pr.mem_iff.mp hb))⟩
  have gout : ∀ z ∈ gn c, (base0 c sr st le).lookup z = none := by
    intro z hz
    refine lookup_out ?_
    rw [bk]
    intro m
    rcases List.mem_append.mp m with m | m
    · exact n3 z m z (List.mem_append_left _ hz) rfl
    · exact n6 z hz z (pr.mem_iff.mp m) rfl
  let h : Str → Nat := fun z => if z ∈ gn c then rk z + 1 else 0
  let e := ev c sr st le fl
  have fixed : ∀ n m z, h z < n → h z < m → e n z = e m z := by
    intro n
    induction n with
    | zero => intro m z a; exact absurd a (Nat.not_lt_zero _)
    | succ n ih =>
      intro m z a b
      cases m with
      | zero => exact absurd b (Nat.not_lt_zero _)
      | succ m =>
        show ev c sr st le fl (n + 1) z = ev c sr st le fl (m + 1) z
        unfold ev
        split
        · rfl
        split
        · rfl
        split
        · next g hg =>
          have hm := List.mem_of_find?_eq_some hg
          have hz : g.1 = z := by have := List.find?_some hg; exact eq_of_beq this
          congr 1
          refine List.map_congr_left fun y hy => ?_
          have zin : z ∈ gn c := List.mem_map.mpr ⟨g, hm, hz⟩
          have hzv : h z = rk z + 1 := if_pos zin
          have lt : h y < h z := by
            rw [hzv]
            show (if y ∈ gn c then rk y + 1 else 0) < _
            split
            · next yi =>
              have : rk y < rk g.1 := hrk (g.1, g.2.2) (List.mem_map.mpr ⟨g, hm, rfl⟩) y hy (in_bet.mpr yi)
              rw [hz] at this
              omega
            · omega
          exact ih m y (by omega) (by omega)
        · rfl
  have top : ∃ N, ∀ z ∈ names c, h z < N := by
    have gen : ∀ l : List Str, ∃ N, ∀ z ∈ l, h z < N := by
      intro l
      induction l with
      | nil => exact ⟨0, fun z hz => by cases hz⟩
      | cons a r ih =>
        obtain ⟨N, hN⟩ := ih
        exact ⟨N + h a + 1, fun z hz => by
          rcases List.mem_cons.mp hz with rfl | hz
          · omega
          · have := hN z hz
            omega⟩
    exact gen _
  obtain ⟨N, hN⟩ := top
  have unf : ∀ n z, e (n + 1) z = match fl.filter (fun q => q.1 == z) with | some q => q.2 | none => match (base0 c sr st le).lookup z with | some b => b | none => match c.gates.find? fun g => g.1 == z with | some g => bitK g.2.1 (g.2.2.map (e n)) | none => 0 := fun n z => rfl
  have nofl : ∀ z, Free fl z → (fl.filter fun q => q.1 == z) = none := by
    intro z fr
    cases fl with
    | none => rfl
    | some q =>
      rw [Option.filter_some]
      rw [if_neg]
      intro q2
      exact fr q rfl (eq_of_beq q2)
  refine ⟨e (N + 1), ?_, ?_, ?_⟩
  · intro q hq
    rw [unf, hq, Option.filter_some, if_pos (beq_self_eq_true _)]
  · intro q hq fr
    rw [unf, nofl _ fr, lookup_in bnd hq]
  · intro g hg fr
    rw [unf, nofl _ fr, gout g.1 (List.mem_map.mpr ⟨g, hg, rfl⟩), find_gate n4 hg]
    show bitK g.2.1 (g.2.2.map (e N)) = _
    congr 1
    refine List.map_congr_left fun y hy => fixed _ _ y ?_ ?_
    · exact hN y (good.src g hg y hy)
    · have := hN y (good.src g hg y hy)
      omega
open Classical in
noncomputable def val (c : Cir) (sr : List Rg) (st le : List Int) (fl : Flt) : Str → Int := if h : ∃ f, Says c sr st le fl f then Classical.choose h else fun _ => 0
theorem val_says {c : Cir} (good : Good c) {sr : List Rg} {st le : List Int} (fl : Flt) (hr : RgOf c sr) (hl : le.length = c.ins.length) (hs : st.length = c.regs.length) : Says c sr st le fl (val c sr st le fl) := by
  have h := says_some good fl hr hl hs
  unfold val
  rw [dif_pos h]
  exact Classical.choose_spec h
theorem says_bit {c : Cir} (good : Good c) {sr : List Rg} {st le : List Int} {fl : Flt} {f : Str → Int} (hr : RgOf c sr) (hl : BitsOk c.ins.length le) (hs : BitsOk c.regs.length st) (hf : FltOk c fl) (h : Says c sr st le fl f) : ∀ z ∈ names c, isBt (f z) := by
  obtain ⟨rk, hrk⟩ := good.rank
  have low : ∀ z, (z ∈ c.ins ∨ z ∈ rn c) → isBt (f z) := by
    intro z hz
    rcases free_or fl z with fr | ⟨q, e, rfl⟩
    · obtain ⟨b, hb⟩ := base_mem (st := st) (le := le) hr hl.1 hs.1 hz
      rw [h.base _ hb fr]
      unfold base0 at hb
      rcases List.mem_append.mp hb with hb | hb
      · exact hl.2 b (List.of_mem_zip hb).2
      · exact hs.2 b (List.of_mem_zip hb).2
    · rw [h.held q e]
      exact (hf q e).2
  have high : ∀ n, ∀ g ∈ c.gates, rk g.1 ≤ n → isBt (f g.1) := by
    intro n
    induction n using Nat.strongRecOn with
    | ind n ih =>
      intro g hg le
      rcases free_or fl g.1 with fr | ⟨q, e, e2⟩
      · rw [h.gate g hg fr]
        refine (made_of (by rw [List.length_map]; exact (good.gts g hg).2.1) fun b hb => ?_).bit
        obtain ⟨y, hy, rfl⟩ := List.mem_map.mp hb
        rcases names_in.mp (good.src g hg y hy) with a | a | a
        · exact low y (.inl a)
        · have lt := hrk (g.1, g.2.2) (List.mem_map.mpr ⟨g, hg, rfl⟩) y hy (in_bet.mpr a)
          obtain ⟨g', hg', rfl⟩ := gate_at a
          exact ih (rk g'.1) (by have : rk g'.1 < rk g.1 := lt; omega) g' hg' (Nat.le_refl _)
        · exact low y (.inr a)
      · rw [← e2, h.held q e]
        exact (hf q e).2
  intro z hz
  rcases names_in.mp hz with a | a | a
  · exact low z (.inl a)
  · obtain ⟨g, hg, rfl⟩ := gate_at a
    exact high _ g hg (Nat.le_refl _)
  · exact low z (.inr a)
end W

set_option Elab.async false
set_option linter.all false
set_option maxRecDepth 100000
set_option maxHeartbeats 8000000
namespace W
open PySem PySem.Spec PyProof.Rows L2 Evl G C
/-- gates laid as tuples with lists, none of them at L -/
def PlO (L : Addr) (H : Hp) (ts : List (Addr × Addr)) (gs : List Gt) : Prop := Paired (fun (t : Addr × Addr) (g : Gt) => H t.1 = some (.tup [.str g.1, .str g.2.1, .ref t.2]) ∧ H t.2 = some (.lst (g.2.2.map V.str)) ∧ t.1 ≠ L ∧ t.2 ≠ L) ts gs
theorem PlO.mono {L : Addr} {H H' : Hp} {ts : List (Addr × Addr)} {gs : List Gt} (h : PlO L H ts gs) (e : ExBut L H H') : PlO L H' ts gs := Paired.mono (fun t g q => ⟨e _ _ q.1 q.2.2.1, e _ _ q.2.1 q.2.2.2, q.2.2.1, q.2.2.2⟩) h
theorem PlO.dp {K : PySem.W.Frag} {L : Addr} {H : Hp} : ∀ {ts : List (Addr × Addr)} {gs : List Gt}, PlO L H ts gs → DpAll K H (ts.map fun t => V.ref t.1) (gs.map gateD)
  | _, _, .nil => .nil
  | _, _, .cons q r => .cons (.tup (st_of q.1) (.cons (.str _) (.cons (.str _) (.cons (.lst (SqL.of q.2.1) dp_txts) .nil)))) (PlO.dp r)
/-- the gates, each behind its own -/
structure PlanOk (c : Cir) (pl : List Gt) : Prop where
  pm : pl.Perm c.gates
  tp : ∀ pre g post, pl = pre ++ g :: post → ∀ y ∈ g.2.2, y ∈ gn c → y ∈ pre.map fun x => x.1
theorem plan_of_seq {c : Cir} (good : Good c) {seq : List Str} (tp : Topo (bet' c.gates) seq) : ∃ pl, PlanOk c pl ∧ pl.map (fun x => x.1) = seq := by
  have nd := good.nd
  unfold names at nd
  have n4 : (gn c).Nodup := (List.nodup_append.mp (List.nodup_append.mp nd).2.1).1
  have kg : (bet' c.gates).map Prod.fst = gn c := by
    unfold bet' gn
    rw [List.map_map]
    rfl
  have pm : seq.Perm (gn c) := by
    have := tp.1
    rwa [kg] at this
  have gen : ∀ l : List Str, (∀ z ∈ l, z ∈ gn c) → ∃ pl : List Gt, pl.map (fun x => x.1) = l ∧ ∀ g ∈ pl, g ∈ c.gates := by
    intro l
    induction l with
    | nil => exact fun _ => ⟨[], rfl, fun g h => by cases h⟩
    | cons a r ih =>
      intro h
      obtain ⟨pl, e, hp⟩ := ih fun z hz => h z (List.mem_cons_of_mem _ hz)
      obtain ⟨g, hg, rfl⟩ := gate_at (h a List.mem_cons_self)
      refine ⟨g :: pl, by rw [List.map_cons, e], fun x hx => ?_⟩
      rcases List.mem_cons.mp hx with rfl | hx
      · exact hg
      · exact hp x hx
  obtain ⟨pl, e, hp⟩ := gen seq fun z hz => pm.mem_iff.mp hz
  have ndp : (pl.map fun x => x.1).Nodup := by rw [e]; exact pm.nodup_iff.mpr n4
  have one : ∀ {a b : Gt}, a ∈ c.gates → b ∈ c.gates → a.1 = b.1 → a = b := fun {a b} ha hb q => inj_nd (f := fun x : Gt => x.1) n4 ha hb q
  have nds : ∀ {l : List Gt}, (l.map fun x => x.1).Nodup → l.Nodup := fun {l} h => by
    unfold List.Nodup at h ⊢
    rw [List.pairwise_map] at h
    exact h.imp fun ne q => ne (by rw [q])
  refine ⟨pl, ⟨?_, ?_⟩, e⟩
  · refine (List.perm_ext_iff_of_nodup (nds ndp) (nds n4)).mpr fun g => ⟨hp g, fun m => ?_⟩
    have : g.1 ∈ pl.map fun x => x.1 := by
      rw [e]
      exact pm.mem_iff.mpr (List.mem_map.mpr ⟨g, m, rfl⟩)
    obtain ⟨g', hg', q⟩ := List.mem_map.mp this
    rw [← one (hp g' hg') m q]
    exact hg'
  · intro pre g post q y hy hk
    have := tp.2 (pre.map fun x => x.1) g.1 (post.map fun x => x.1) (by rw [← e, q, List.map_append, List.map_cons]) g.2.2 (List.mem_map.mpr ⟨g, hp g (by rw [q]; simp), rfl⟩) y hy (by rw [kg]; exact hk)
    exact this
section
variable {P : Program} {w : World} {K : PySem.W.Frag} {mg : Str → Option Value} {base : Heap} {C : Addr}
def spPlanOf (K : PySem.W.Frag) (C : Addr) : Sp := fun vs H Q _ => ∃ (p : Addr) (c : Cir), vs = [.ref p] ∧ CirAt K C H p c ∧ Good c ∧ ∀ pl, PlanOk c pl → ∀ l xs H', Ex H H' → H l = none → H' l = some (.lst xs) → DpAll K H' xs (pl.map gateD) → Q (.ref l) H'
abbrev nPlanOf : List Str := ["circuit", "gate"]
theorem scPlanOf : FnScope nPlanOf ["circuit"] (defScope dPlanOf) := ⟨rfl, rfl, rfl, by decide +kernel, rfl, by decide +kernel, by decide +kernel⟩
theorem okPlanOf {f : Addr} {fd : FuncData} (F : At K mg "plan_of" dPlanOf ["circuit"] f fd) (T : Txt K mg) (CT : CirT K mg C) : FnOk P w K mg base CX0 4 f fd ["circuit"] (spPlanOf K C) := by
  obtain ⟨fQ, gQ, FQ⟩ := CT.sequence
  obtain ⟨fK, gK, FK⟩ := CT.kind
  obtain ⟨fS, gS, FS⟩ := CT.sources
  have GQ : FnOk P w K mg base CX0 3 fQ gQ ["self"] (spM (α := Nat) K C newSeq) := (okSequence FQ T CT).mono (by decide)
  have GK : FnOk P w K mg base CX0 3 fK gK ["self", "wire"] (spKind K C) := okKindM FK T CT
  have GS : FnOk P w K mg base CX0 3 fS gS ["self", "wire"] (spSrcs K C) := okSrcs FS T CT
  refine F.fn.ok scPlanOf (fun vs H Q E h => ?_) (fun cdv A outer s H vs Q E hr h => ?_)
  · obtain ⟨p, c, rfl, _⟩ := h
    rfl
  · obtain ⟨p, c, rfl, hc, good, k⟩ := h
    refine ⟨_, pss_one (ps_ret (pe_lc (own := [("gate", 1)]) (g := gName 1) rfl scPlanOf.nd (pi_list (pe_meth0 (pv 0) CT.cl FQ.me GQ hr FQ.bi .nil pass0)) (blkOk_by (own := [("gate", 1)]) (N := nPlanOf) (sc := defScope dPlanOf) (by decide +kernel))
      (fun _ _ _ _ _ => pg_name (i := 1) scPlanOf.nd rfl (Or.inl rfl)) (fun _ _ _ _ _ => pts_nil) (fun _ _ _ _ _ => pe_tup (pa_cons (pv 1) (pa_cons (pe_meth (pv 0) CT.cl FK.me GK hr FK.bi .nil pass0 (pa_cons (pv 1) pa_nil)) (pa_cons (pe_meth (pv 0) CT.cl FS.me GS hr FS.bi .nil pass0 (pa_cons (pv 1) pa_nil)) pa_nil)))))), ?_⟩
    obtain ⟨dx, a1, a2, a3, a4, D5, D6, L7, sg, sr, sq, h1, _⟩ := id hc
    have at_ : ∀ {H' : Hp}, Ex H H' → H' p = some (.ins C dx (flds a1 a2 a3 a4 D5 D6 L7)) := fun e => e _ _ h1
    refine ⟨_, rfl, p, dx, _, rfl, h1, rfl, p, c, rfl, hc, good, fun seq tp l H1 e1 nl hl => ?_⟩
    obtain ⟨pl, po, rfl⟩ := plan_of_seq good tp
    have few : pl.length ≤ 40 := by rw [po.pm.length_eq]; exact good.lg
    refine ⟨l, rfl, ⟨_, SqL.of hl⟩, fun L nL => ?_⟩
    refine lc_it (walk_list (K := K) (a := l) (xs := (pl.map fun x => x.1).map V.str)) (fun i Hc => Ex H1 Hc ∧ ∃ ts, Hc L = some (.lst (ts.map fun t => V.ref t.1)) ∧ PlO L Hc ts (pl.take i)) ⟨Ex.new nL, [], upd_same, .nil⟩ (fun i Hc _ q => SqL.of (q.1 _ _ hl)) (fun i x Ha Hb hi q yy => ?_) (fun Hc q => ?_)
    · obtain ⟨rfl, ex⟩ := yy
      obtain ⟨e2, ts, h2, hts⟩ := q
      obtain ⟨z, ez, rfl⟩ := nth_map ex
      rw [List.getElem?_map] at ez
      obtain ⟨g, eg, rfl⟩ := Option.map_eq_some_iff.mp ez
      have hg : g ∈ c.gates := po.pm.mem_iff.mp (List.mem_of_getElem? eg)
      have e12 := e1.trans e2
      refine ⟨rfl, ?_⟩
      refine ⟨_, rfl, _, rfl, p, dx, _, rfl, at_ e12, rfl, _, rfl, p, g.1, g.2.1, c, rfl, hc.ex e12, good, ?_, ?_⟩
      · unfold kindsC
        exact List.mem_append_left _ (List.mem_append_right _ (List.mem_map.mpr ⟨g, hg, rfl⟩))
      refine ⟨_, rfl, p, dx, _, rfl, at_ e12, rfl, _, rfl, p, g.1, g.2.2, c, rfl, hc.ex e12, good, ?_, fun s H3 e3 ns hs => ?_⟩
      · unfold srcsL bet'
        exact List.mem_append_left _ (List.mem_append_right _ (List.mem_map.mpr ⟨g, hg, rfl⟩))
      have sL : s ≠ L := fun q => by rw [q, h2] at ns; cases ns
      refine ⟨(by show 3 ≤ sizeLine; decide), fun t nt => ?_⟩
      have tL : t ≠ L := fun q => by rw [q, e3 _ _ h2] at nt; cases nt
      have ts' : t ≠ s := fun q => by rw [q, hs] at nt; cases nt
      have e4 : Ex H3 (upd H3 t (.tup [.str g.1, .str g.2.1, .ref s])) := Ex.new nt
      have h4 : (upd H3 t (.tup [.str g.1, .str g.2.1, .ref s])) t = some (.tup [.str g.1, .str g.2.1, .ref s]) := upd_same
      generalize upd H3 t (.tup [.str g.1, .str g.2.1, .ref s]) = H4 at e4 h4
      have e24 := e3.trans e4
      refine ⟨_, e24 _ _ h2, ?_, (e2.trans e24).mut nL, ts ++ [(t, s)], ?_, ?_⟩
      · rw [List.length_map]
        have := Paired.length hts
        rw [List.length_take] at this
        exact Nat.lt_of_le_of_lt (show _ ≤ 1000 by omega) (by decide)
      · rw [upd_same, List.map_append]
        rfl
      · rw [take_more eg]
        refine Paired.snoc (PlO.mono hts ((ExBut.of e24).trans ExBut.upd)) ⟨?_, ?_, tL, sL⟩
        · rw [upd_ne tL]
          exact h4
        · rw [upd_ne sL]
          exact e4 _ _ hs
    · obtain ⟨e2, ts, h2, hts⟩ := q
      rw [List.length_map, List.length_map, List.take_length] at hts
      exact k pl po L _ Hc (e1.trans e2) (ex_none e1 nL) h2 hts.dp
end
end W

set_option Elab.async false
set_option linter.all false
set_option maxRecDepth 100000
set_option maxHeartbeats 8000000
namespace W
open PySem PySem.Spec PyProof.Rows L2 Evl G C
def HasL (l : List (Str × Int)) (kvs : List (Key × V)) : Prop := ∀ q ∈ l, valV kvs (Sum.inr q.1) = some (.int q.2)
def HasF (S : List Str) (f : Str → Int) (kvs : List (Key × V)) : Prop := ∀ z ∈ S, valV kvs (Sum.inr z) = some (.int (f z))
theorem HasL.put {l : List (Str × Int)} {kvs : List (Key × V)} {z : Str} {b : Int} (h : HasL l kvs) (n : z ∉ l.map Prod.fst) : HasL (l ++ [(z, b)]) (putK kvs (Sum.inr z) (.int b)) := by
  intro q hq
  rw [valV_put]
  rcases List.mem_append.mp hq with hq | hq
  · rw [if_neg]
    · exact h q hq
    · intro e
      exact n (List.mem_map.mpr ⟨q, hq, Sum.inr.inj e⟩)
  · rw [List.mem_singleton.mp hq, if_pos rfl]
theorem HasF.put {S : List Str} {f : Str → Int} {kvs : List (Key × V)} (h : HasF S f kvs) (z : Str) : HasF (S ++ [z]) f (putK kvs (Sum.inr z) (.int (f z))) := by
  intro y hy
  rw [valV_put]
  by_cases e : (Sum.inr y : Key) = Sum.inr z
  · rw [if_pos e, Sum.inr.inj e]
  · rw [if_neg e]
    rcases List.mem_append.mp hy with hy | hy
    · exact h y hy
    · exact absurd (by rw [List.mem_singleton.mp hy]) e
theorem putK_le (kvs : List (Key × V)) (k : Key) (v : V) : (putK kvs k v).length ≤ kvs.length + 1 := by
  unfold putK
  split
  · rw [List.length_map]; exact Nat.le_succ _
  · rw [List.length_append]; exact Nat.le_refl _
theorem exbut_ex {H0 H1 H : Hp} {D : Addr} (e : Ex H0 H1) (n : H0 D = none) (b : ExBut D H1 H) : Ex H0 H := fun a o h => b a o (e a o h) (fun q => by rw [q, n] at h; cases h)
theorem zip_next {α : Type} {xs : List Str} {ys : List Int} {i : Nat} {x : Str} {y : Int} (hx : xs[i]? = some x) (hy : ys[i]? = some y) : (xs.zip ys)[i]? = some (x, y) := by
  rw [List.getElem?_zip_eq_some]
  exact ⟨hx, hy⟩
theorem next_out {l m : List (Str × Int)} {i : Nat} {q : Str × Int} (nd : ((l ++ m).map Prod.fst).Nodup) (e : m[i]? = some q) : q.1 ∉ (l ++ m.take i).map Prod.fst := by
  intro h
  rw [List.map_append] at h nd
  obtain ⟨n1, n2, n3⟩ := List.nodup_append.mp nd
  have hq : q.1 ∈ m.map Prod.fst := List.mem_map.mpr ⟨q, List.mem_of_getElem? e, rfl⟩
  rcases List.mem_append.mp h with h | h
  · exact n3 q.1 h q.1 hq rfl
  · rw [List.map_take] at h
    obtain ⟨j, hj⟩ := List.mem_iff_getElem?.mp h
    rw [List.getElem?_take] at hj
    split at hj
    · next lt =>
      have e2 : (m.map Prod.fst)[i]? = some q.1 := by rw [List.getElem?_map, e]; rfl
      have := (List.getElem?_inj (by
        have := (List.getElem?_eq_some_iff.mp hj).1
        exact this) n2).mp (hj.trans e2.symm)
      omega
    · cases hj
abbrev sgS (p a y x : Addr) (zv : V) (u5 u6 u7 u8 u9 u10 u11 u12 u13 : Option V) : L2.St := [some (.ref p), some (.ref a), some (.ref y), some (.ref x), some zv, u5, u6, u7, u8, u9, u10, u11, u12, u13]
section
variable {K : PySem.W.Frag} {H0 H1 : Hp} {p a y x D : Addr} {zv : V} {u6 u7 u8 u9 u10 u11 u12 u13 : Option V} {En : Ends} {pref : List (Str × Int)}
/-- for name, bit in zip(names, bits): said[name] = bit -/
theorem loopZ1 {l : Addr} {zs : List Str} {bs : List Int} (e01 : Ex H0 H1) (nD : H0 D = none) (hl : H1 l = some (.lst (zs.map V.str))) (hb : SqT K H0 x (bs.map V.int)) (len : zs.length = bs.length) (few : zs.length ≤ 100) {kv0 : List (Key × V)}
    (hD : H1 D = some (.dK kv0)) (h0 : HasL pref kv0) (l0 : kv0.length ≤ 100) (nd : ((pref ++ zs.zip bs).map Prod.fst).Nodup)
    (k : ∀ H' u6 u7 kvs, ExBut D H1 H' → H' D = some (.dK kvs) → HasL (pref ++ zs.zip bs) kvs → kvs.length ≤ kv0.length + zs.length → En.nx (sgS p a y x zv (some (.ref D)) u6 u7 u8 u9 u10 u11 u12 u13) H') :
    ∃ W : Nat → Nat → L2.St → Hp → Prop, (∃ m, W 0 m (sgS p a y x zv (some (.ref D)) u6 u7 u8 u9 u10 u11 u12 u13) H1) ∧ ∀ i m σ H, W i m σ H →
      ((Itm K l x).stop i H ∧ En.nx σ H) ∨ ((Itm K l x).go i H ∧ ∃ N : L2.St → Hp → Prop, (∀ σ' H', N σ' H' → ∃ m', m' < m ∧ W (i + 1) m' σ' H') ∧ ∀ v H', (Itm K l x).yld i H v H' →
        gTup K 2 (gCons (gName 6) (gCons (gName 7) gNil)) v σ H' fun σ2 H2 => sDPut (tVar 5) (tVar 6) (tVar 7) { En with nx := N, ct := N, bk := En.nx } σ2 H2) := by
  have lD : l ≠ D := fun q => by rw [q, hD] at hl; cases hl
  refine for_zipM (K := K) (a := l) (b := x) (xs := zs.map V.str) (ys := bs.map V.int) (by rw [List.length_map, List.length_map, len])
    (fun i σ H => (∃ u6 u7, σ = sgS p a y x zv (some (.ref D)) u6 u7 u8 u9 u10 u11 u12 u13) ∧ ExBut D H1 H ∧ ∃ kvs, H D = some (.dK kvs) ∧ HasL (pref ++ (zs.zip bs).take i) kvs ∧ kvs.length ≤ kv0.length + i)
    ⟨⟨_, _, rfl⟩, ExBut.refl _ _, kv0, hD, by simpa using h0, Nat.le_refl _⟩ (fun i σ H q => ⟨SqL.of (q.2.1 _ _ hl lD), ex_t (exbut_ex e01 nD q.2.1) hb⟩) (fun i xv yv T σ H hx hy q nT => ?_) (fun σ H q => ?_)
  · obtain ⟨⟨v6, v7, rfl⟩, e, kvs, hd, hh, hn⟩ := q
    obtain ⟨nm, en, rfl⟩ := nth_map hx
    obtain ⟨b, eb, rfl⟩ := nth_map hy
    have i1 := (List.getElem?_eq_some_iff.mp en).1
    have TD : T ≠ D := fun q => by rw [q, hd] at nT; cases nT
    have e2 : Ex H (upd H T (.tup [.str nm, .int b])) := Ex.new nT
    have hT : (upd H T (.tup [.str nm, .int b])) T = some (.tup [.str nm, .int b]) := upd_same
    generalize upd H T (.tup [.str nm, .int b]) = H2 at e2 hT
    refine ⟨T, _, rfl, st_of hT, rfl, _, _, rfl, _, _, rfl, rfl, ?_⟩
    have zn := zip_next (α := Nat) en eb
    refine ⟨_, rfl, _, rfl, _, rfl, D, _, rfl, DPut.k (k := Sum.inr nm) (e2 _ _ hd) (Nat.lt_of_le_of_lt (show _ ≤ 1000 by omega) (by decide)), ⟨_, _, rfl⟩, (e.trans (ExBut.of e2)).trans ExBut.upd, _, upd_same, ?_, ?_⟩
    · rw [take_more zn, ← List.append_assoc]
      exact hh.put (next_out nd zn)
    · have := putK_le kvs (Sum.inr nm : Key) (.int b)
      omega
  · obtain ⟨⟨v6, v7, rfl⟩, e, kvs, hd, hh, hn⟩ := q
    rw [List.length_map] at hh hn
    rw [List.take_of_length_le (by rw [List.length_zip]; omega)] at hh
    exact k H v6 v7 kvs e hd hh hn
/-- for (name, _, _), bit in zip(registers, bits): said[name] = bit -/
theorem loopZ2 {l : Addr} {xs : List V} {rs : List Rg} {bs : List Int} (e01 : Ex H0 H1) (nD : H0 D = none) (hl : H1 l = some (.lst xs)) (hb : SqT K H0 y (bs.map V.int)) (len : rs.length = bs.length) (few : rs.length ≤ 100) {kv0 : List (Key × V)}
    (hx1 : ∀ H', ExBut D H1 H' → DpAll K H' xs (rs.map regD))
    (hD : H1 D = some (.dK kv0)) (h0 : HasL pref kv0) (l0 : kv0.length ≤ 100) (nd : ((pref ++ (rs.map fun r => r.1).zip bs).map Prod.fst).Nodup)
    (k : ∀ H' u6 u7 u8 kvs, ExBut D H1 H' → H' D = some (.dK kvs) → HasL (pref ++ (rs.map fun r => r.1).zip bs) kvs → kvs.length ≤ kv0.length + rs.length → En.nx (sgS p a y x zv (some (.ref D)) u6 u7 u8 u9 u10 u11 u12 u13) H') :
    ∃ W : Nat → Nat → L2.St → Hp → Prop, (∃ m, W 0 m (sgS p a y x zv (some (.ref D)) u6 u7 u8 u9 u10 u11 u12 u13) H1) ∧ ∀ i m σ H, W i m σ H →
      ((Itm K l y).stop i H ∧ En.nx σ H) ∨ ((Itm K l y).go i H ∧ ∃ N : L2.St → Hp → Prop, (∀ σ' H', N σ' H' → ∃ m', m' < m ∧ W (i + 1) m' σ' H') ∧ ∀ v H', (Itm K l y).yld i H v H' →
        gTup K 2 (gCons (gTup K 3 (gCons (gName 6) (gCons (gName 8) (gCons (gName 8) gNil)))) (gCons (gName 7) gNil)) v σ H' fun σ2 H2 => sDPut (tVar 5) (tVar 6) (tVar 7) { En with nx := N, ct := N, bk := En.nx } σ2 H2) := by
  have lD : l ≠ D := fun q => by rw [q, hD] at hl; cases hl
  have lx := dp_len (hx1 H1 (ExBut.refl _ _))
  refine for_zipM (K := K) (a := l) (b := y) (xs := xs) (ys := bs.map V.int) (by rw [lx, List.length_map, len])
    (fun i σ H => (∃ u6 u7 u8, σ = sgS p a y x zv (some (.ref D)) u6 u7 u8 u9 u10 u11 u12 u13) ∧ ExBut D H1 H ∧ ∃ kvs, H D = some (.dK kvs) ∧ HasL (pref ++ ((rs.map fun r => r.1).zip bs).take i) kvs ∧ kvs.length ≤ kv0.length + i)
    ⟨⟨_, _, _, rfl⟩, ExBut.refl _ _, kv0, hD, by simpa using h0, Nat.le_refl _⟩ (fun i σ H q => ⟨SqL.of (q.2.1 _ _ hl lD), ex_t (exbut_ex e01 nD q.2.1) hb⟩) (fun i xv yv T σ H hx hy q nT => ?_) (fun σ H q => ?_)
  · obtain ⟨⟨v6, v7, v8, rfl⟩, e, kvs, hd, hh, hn⟩ := q
    obtain ⟨r, er, dr⟩ := dp_nth (hx1 H e) hx
    obtain ⟨b, eb, rfl⟩ := nth_map hy
    have i1 := (List.getElem?_eq_some_iff.mp er).1
    have TD : T ≠ D := fun q => by rw [q, hd] at nT; cases nT
    have e2 : Ex H (upd H T (.tup [xv, .int b])) := Ex.new nT
    have hT : (upd H T (.tup [xv, .int b])) T = some (.tup [xv, .int b]) := upd_same
    generalize upd H T (.tup [xv, .int b]) = H2 at e2 hT
    obtain ⟨t, rfl, ht⟩ := reg_of (dp_ex e2 dr)
    have zn := zip_next (α := Nat) (xs := rs.map fun r => r.1) (by rw [List.getElem?_map, er]; rfl) eb
    refine ⟨T, _, rfl, st_of hT, rfl, _, _, rfl, ⟨t, _, rfl, ht, rfl, _, _, rfl, _, _, rfl, _, _, rfl, rfl, _, _, rfl, rfl, ?_⟩⟩
    refine ⟨_, rfl, _, rfl, _, rfl, D, _, rfl, DPut.k (k := Sum.inr r.1) (e2 _ _ hd) (Nat.lt_of_le_of_lt (show _ ≤ 1000 by omega) (by decide)), ⟨_, _, _, rfl⟩, (e.trans (ExBut.of e2)).trans ExBut.upd, _, upd_same, ?_, ?_⟩
    · rw [take_more zn, ← List.append_assoc]
      exact hh.put (next_out nd zn)
    · have := putK_le kvs (Sum.inr r.1 : Key) (.int b)
      omega
  · obtain ⟨⟨v6, v7, v8, rfl⟩, e, kvs, hd, hh, hn⟩ := q
    rw [lx] at hh hn
    rw [List.take_of_length_le (by rw [List.length_zip, List.length_map]; omega)] at hh
    exact k H v6 v7 v8 kvs e hd hh hn
end
end W

set_option Elab.async false
set_option linter.all false
set_option maxRecDepth 100000
set_option maxHeartbeats 16000000
namespace W
open PySem PySem.Spec PyProof.Rows L2 Evl G C
section
variable {K : PySem.W.Frag} {H H' : Hp} {D : Addr} {kvs : List (Key × V)}
theorem d_rd {a : Addr} {u : HO} (e : ExBut D H H') (hD : H D = some (.dK kvs)) (hu : ∀ kvs, u ≠ .dK kvs) (h : Rd H a u) : Rd H' a u := by
  rcases h with h | ⟨o, h⟩
  · refine .inl (e _ _ h fun q => ?_)
    rw [q, hD] at h
    exact hu kvs (Option.some.inj h).symm
  · refine .inr ⟨o, e _ _ h fun q => ?_⟩
    rw [q, hD] at h
    cases h
theorem d_l {a : Addr} {xs : List V} (e : ExBut D H H') (hD : H D = some (.dK kvs)) (h : SqL K H a xs) : SqL K H' a xs := by
  rcases h with h | h
  · exact .inl (d_rd e hD (fun _ q => by cases q) h)
  · exact .inr h
theorem d_t {a : Addr} {xs : List V} (e : ExBut D H H') (hD : H D = some (.dK kvs)) (h : SqT K H a xs) : SqT K H' a xs := by
  rcases h with h | h
  · exact .inl (d_rd e hD (fun _ q => by cases q) h)
  · exact .inr h
mutual
theorem d_dp (e : ExBut D H H') (hD : H D = some (.dK kvs)) : ∀ {d : PyData} {x : V}, Dp K H x d → Dp K H' x d
  | .none, _, h => by cases h; exact .non
  | .bool b, _, h => by cases h; exact .bl b
  | .int i, _, h => by cases h; exact .int i
  | .str z, _, h => by cases h; exact .str z
  | .list ds, _, h => by
    cases h with
    | lst hs a => exact .lst (d_l e hD hs) (d_dpAll e hD a)
  | .tuple ds, _, h => by
    cases h with
    | tup hs a => exact .tup (d_t e hD hs) (d_dpAll e hD a)
  | .dict _, _, h => by cases h
theorem d_dpAll (e : ExBut D H H') (hD : H D = some (.dK kvs)) : ∀ {ds : List PyData} {xs : List V}, DpAll K H xs ds → DpAll K H' xs ds
  | [], _, h => by cases h; exact .nil
  | d :: ds, _, h => by
    cases h with
    | cons a b => exact .cons (d_dp e hD a) (d_dpAll e hD b)
end
end
def heldV : Flt → V
  | none => .non
  | some q => .str q.1
section
variable {K : PySem.W.Frag} {H0 H1 : Hp} {p a y x D : Addr} {zv : V} {u6 u7 u8 u10 u11 u12 u13 : Option V} {En : Ends}
theorem held_is {fl : Flt} {z : Str} : V.str z = heldV fl ↔ ∃ q, fl = some q ∧ q.1 = z := by
  cases fl with
  | none => exact ⟨fun e => (by cases e), fun ⟨q, e, _⟩ => (by cases e)⟩
  | some q => exact ⟨fun e => ⟨q, rfl, (V.str.inj e).symm⟩, fun ⟨q', e, e2⟩ => by cases e; rw [← e2]; rfl⟩
theorem scal_held (fl : Flt) (z : Str) : scal (.str z) (heldV fl) = true := by cases fl <;> rfl
/-- the gates one after another -/
theorem loopZ3 {c : Cir} {sr : List Rg} {st le : List Int} {fl : Flt} {f : Str → Int} {pl : List Gt} {xl : List V} {S0 : List Str} (good : Good c) (po : PlanOk c pl) (sy : Says c sr st le fl f) (hb : ∀ z ∈ names c, isBt (f z)) (hS : ∀ z, z ∈ c.ins ∨ z ∈ rn c → z ∈ S0) (hh : ∀ q, fl = some q → q.1 ∈ S0)
    (e01 : Ex H0 H1) (nD : H0 D = none) (ha : SqL K H0 a xl) (hx : DpAll K H0 xl (pl.map gateD)) {kv0 : List (Key × V)} (hD : H1 D = some (.dK kv0)) (h0 : HasF S0 f kv0) (l0 : kv0.length ≤ 100)
    (k : ∀ H' u10 u11 u12 u13 kvs, Ex H0 H' → H' D = some (.dK kvs) → HasF (S0 ++ pl.map fun g => g.1) f kvs → En.nx (sgS p a y x zv (some (.ref D)) u6 u7 u8 (some (heldV fl)) u10 u11 u12 u13) H') :
    tFor (iList K (tVar 1)) (gTup K 3 (gCons (gName 10) (gCons (gName 11) (gCons (gName 12) gNil)))) (tIfS (tTest (tOp rNe (tVar 10) (tVar 9))) (sDPut (tVar 5) (tVar 10) (tCall (spBitOf K) [] E0 (tCons (tVar 11) (tCons (tLc (iList K (tVar 12)) (gName 13) tYes (tDGet (tVar 5) (tVar 13)) [13]) tNil)))) tNext) En
      (sgS p a y x zv (some (.ref D)) u6 u7 u8 (some (heldV fl)) u10 u11 u12 u13) H1 := by
  have lg := good.lg
  have lpl := po.pm.length_eq
  have lxl := dp_len hx
  refine ⟨_, rfl, a, rfl, ⟨_, ex_l e01 ha⟩, for_list (K := K) (a := a) (xs := xl) (fun i σ Hc => (∃ u10 u11 u12 u13, σ = sgS p a y x zv (some (.ref D)) u6 u7 u8 (some (heldV fl)) u10 u11 u12 u13) ∧ Ex H0 Hc ∧ ∃ kvs, Hc D = some (.dK kvs) ∧ HasF (S0 ++ (pl.take i).map fun g => g.1) f kvs ∧ kvs.length ≤ kv0.length + i)
    ⟨⟨_, _, _, _, rfl⟩, e01, kv0, hD, by simpa using h0, Nat.le_refl _⟩ (fun i σ Hc _ q => ex_l q.2.1 ha) (fun i xv σ Hc hxi q => ?_) (fun σ Hc q => ?_)⟩
  · obtain ⟨⟨u10, u11, u12, u13, rfl⟩, e, kvs, hd, hf, hn⟩ := q
    obtain ⟨g, eg, dg⟩ := dp_nth hx hxi
    have i1 := (List.getElem?_eq_some_iff.mp eg).1
    have hg : g ∈ c.gates := po.pm.mem_iff.mp (List.mem_of_getElem? eg)
    obtain ⟨t, l, rfl, ht, hl⟩ := gate_of (dp_ex e dg)
    have nxt : (pl.take (i + 1)).map (fun g => g.1) = (pl.take i).map (fun g => g.1) ++ [g.1] := by rw [take_more eg, List.map_append]; rfl
    refine ⟨t, _, rfl, ht, rfl, _, _, rfl, _, _, rfl, _, _, rfl, rfl, ?_⟩
    refine ⟨_, rfl, _, rfl, scal_held fl g.1, _, rfl, ?_⟩
    by_cases eh : V.str g.1 = heldV fl
    · rw [decide_eq_true eh]
      refine iteF ⟨⟨_, _, _, _, rfl⟩, e, kvs, hd, ?_, by omega⟩
      obtain ⟨q, eq, e2⟩ := held_is.mp eh
      intro z hz
      rw [nxt] at hz
      rcases List.mem_append.mp hz with hz | hz
      · exact hf z (List.mem_append_left _ hz)
      · rcases List.mem_append.mp hz with hz | hz
        · exact hf z (List.mem_append_right _ hz)
        · rw [List.mem_singleton.mp hz, ← e2]
          exact hf _ (List.mem_append_left _ (hh q eq))
    · rw [decide_eq_false eh]
      have fr : Free fl g.1 := fun q eq e2 => eh (held_is.mpr ⟨q, eq, e2⟩)
      have inn : ∀ z ∈ g.2.2, valV kvs (Sum.inr z) = some (.int (f z)) := by
        intro z hz
        refine hf z ?_
        rcases names_in.mp (good.src g hg z hz) with q | q | q
        · exact List.mem_append_left _ (hS z (.inl q))
        · have sp : pl = pl.take i ++ g :: pl.drop (i + 1) := by
            have e1 := List.take_append_drop i pl
            rw [List.drop_eq_getElem_cons i1] at e1
            have e2 : pl[i] = g := Option.some.inj ((List.getElem?_eq_getElem i1).symm.trans eg)
            rw [e2] at e1
            exact e1.symm
          exact List.mem_append_right _ (po.tp _ g _ sp z hz q)
        · exact List.mem_append_left _ (hS z (.inr q))
      have l3 := kinds_few (good.gts g hg).2.1
      refine iteT ⟨_, rfl, _, rfl, l, rfl, ⟨_, hl⟩, fun L nL => ?_⟩
      refine lc_each (as := g.2.2) (em := V.str) (walk_list (K := K) (a := l)) (fun z => .int (f z)) (by omega) (fun H' e => ex_l e hl) (fun z hz => ev_dget (i := 5) (j := 13) (k := Sum.inr z) rfl rfl hd (inn z hz)) nL (fun H2 e2 hL => ?_)
      have mk := made_of (k := g.2.1) (ys := g.2.2.map f) (by rw [List.length_map]; exact (good.gts g hg).2.1) (fun b hb' => by
        obtain ⟨z, hz, rfl⟩ := List.mem_map.mp hb'
        exact hb z (good.src g hg z hz))
      obtain ⟨bs, t1, t2⟩ := mk.tab
      rw [← sy.gate g hg fr] at t2
      have hL2 : H2 L = some (.lst ((g.2.2.map f).map V.int)) := by rw [hL, List.map_map]; rfl
      refine ⟨g.2.1, .ref L, g.2.2.map f, bs, .int (f g.1), rfl, t1, .inl (.lst (SqL.of hL2) dp_ints), t2, ?_⟩
      refine ⟨_, rfl, _, rfl, D, _, rfl, DPut.k (k := Sum.inr g.1) (e2 _ _ hd) (Nat.lt_of_le_of_lt (show _ ≤ 1000 by omega) (by decide)), ⟨_, _, _, _, rfl⟩, (e.trans e2).mut nD, _, upd_same, ?_, ?_⟩
      · rw [nxt, ← List.append_assoc]
        exact hf.put g.1
      · have := putK_le kvs (Sum.inr g.1) (.int (f g.1))
        omega
  · obtain ⟨⟨u10, u11, u12, u13, rfl⟩, e, kvs, hd, hf, hn⟩ := q
    rw [lxl, List.take_length] at hf
    exact k Hc _ _ _ _ kvs e hd hf
end
/-- what all wires say, in a dict at d -/
structure SaidAt (c : Cir) (f : Str → Int) (H : Hp) (d : Addr) : Prop where
  is : ∃ kvs, H d = some (.dK kvs) ∧ HasF (names c) f kvs
section
variable {P : Program} {w : World} {K : PySem.W.Frag} {mg : Str → Option Value} {base : Heap} {C : Addr}
def spSaidBy (K : PySem.W.Frag) (C : Addr) : Sp := fun vs H Q _ => ∃ (p : Addr) (a y x z : V) (c : Cir) (sr : List Rg) (pl : List Gt) (st le : List Int) (fl : Flt), vs = [.ref p, a, y, x, z] ∧ CirAt K C H p c ∧ Good c ∧ RgOf c sr ∧ Dp K H a (.list (pl.map gateD)) ∧ PlanOk c pl ∧
  Dp K H y (bitsD st) ∧ BitsOk c.regs.length st ∧ Dp K H x (bitsD le) ∧ BitsOk c.ins.length le ∧ Dp K H z (fltD fl) ∧ FltOk c fl ∧ ∀ d H', Ex H H' → H d = none → SaidAt c (val c sr st le fl) H' d → Q (.ref d) H'
abbrev nSaidBy : List Str := ["circuit", "plan", "state", "letter", "stuck", "said", "name", "bit", "_", "held", "gate", "kind", "sources", "source"]
theorem scSaidBy : FnScope nSaidBy ["circuit", "plan", "state", "letter", "stuck"] (defScope dSaidBy) := ⟨rfl, rfl, rfl, by decide +kernel, rfl, by decide +kernel, by decide +kernel⟩
theorem okSaidBy {f : Addr} {fd : FuncData} (F : At K mg "said_by" dSaidBy ["circuit", "plan", "state", "letter", "stuck"] f fd) (T : Txt K mg) (CT : CirT K mg C) (DT : DicT K w mg) : FnOk P w K mg base CX0 4 f fd ["circuit", "plan", "state", "letter", "stuck"] (spSaidBy K C) := by
  obtain ⟨fI, gI, FI⟩ := CT.inputs
  obtain ⟨fR, gR, FR⟩ := CT.registers
  obtain ⟨fB, gB, FB⟩ := T.bitOf
  have GI : FnOk P w K mg base CX0 3 fI gI ["self"] (spM (α := Nat) K C (newTx Cir.ins)) := (okInputs FI T CT).mono (by decide)
  have GR : FnOk P w K mg base CX0 3 fR gR ["self"] (spM (α := Nat) K C (newRg K)) := (okRegisters FR T CT).mono (by decide)
  have GB : FnOk P w K mg base CX0 3 fB gB ["kind", "bits"] (spBitOf K) := (okBitOf FB T DT).mono (by decide)
  refine F.fn.ok scSaidBy (fun vs H Q E h => ?_) (fun cdv A outer s H vs Q E hr h => ?_)
  · obtain ⟨p, a, y, x, z, c, sr, pl, st, le, fl, rfl, _⟩ := h
    rfl
  · obtain ⟨p, a, y, x, z, c, sr, pl, st, le, fl, rfl, hc, good, hrg, ha, po, hy, oky, hx, okx, hz, okf, k⟩ := h
    have hu := hu_of hr
    have nds := scSaidBy.nd
    refine ⟨_, pss_cons (ps_set (i := 5) nds rfl (Or.inr rfl) pe_dnewK)
      (pss_cons (ps_for PassesOwn.never rfl (pi_zipM rfl (by rfl) T.zip (pa_cons (pe_meth0 (pv 0) CT.cl FI.me GI hr FI.bi .nil pass0) (pa_cons (pv 3) pa_nil))) (pg_tup rfl (pgs_cons (pg_name (i := 6) nds rfl (Or.inl rfl)) (pgs_cons (pg_name (i := 7) nds rfl (Or.inl rfl)) pgs_nil)))
        (pss_one (ps_dput hu (pv 5) (pv 6) (pv 7) rfl)))
      (pss_cons (ps_for PassesOwn.never rfl (pi_zipM rfl (by rfl) T.zip (pa_cons (pe_meth0 (pv 0) CT.cl FR.me GR hr FR.bi .nil pass0) (pa_cons (pv 2) pa_nil))) (pg_tup rfl (pgs_cons (pg_tup rfl (pgs_cons (pg_name (i := 6) nds rfl (Or.inl rfl)) (pgs_cons (pg_name (i := 8) nds rfl (Or.inl rfl)) (pgs_cons (pg_name (i := 8) nds rfl (Or.inl rfl)) pgs_nil)))) (pgs_cons (pg_name (i := 7) nds rfl (Or.inl rfl)) pgs_nil)))
        (pss_one (ps_dput hu (pv 5) (pv 6) (pv 7) rfl)))
      (pss_cons (ps_set (i := 9) nds rfl (Or.inl rfl) (pe_ifExp (pt_cmp (pc_isN (pv 4))) pe_non (pe_ix ix_tup (pv 4) pe_int (fun _ _ => rfl))))
      (pss_cons (ps_if (pt_cmp (pc_notN (pv 4))) (pss_one (ps_dput hu (pv 5) (pv 9) (pe_ix ix_tup (pv 4) pe_int (fun _ _ => rfl)) rfl)) pss_nil)
      (pss_cons (ps_for PassesOwn.never rfl (pi_list (pv 1)) (pg_tup rfl (pgs_cons (pg_name (i := 10) nds rfl (Or.inl rfl)) (pgs_cons (pg_name (i := 11) nds rfl (Or.inl rfl)) (pgs_cons (pg_name (i := 12) nds rfl (Or.inl rfl)) pgs_nil))))
        (pss_one (ps_if (pt_cmpR op_ne (pv 10) (pv 9) (nomark _)) (pss_one (ps_dput hu (pv 5) (pv 10) (pe_call GB hr (by rfl) FB.gl FB.fn.kp FB.bi .nil pass0 (pa_cons (pv 11) (pa_cons (pe_lc (own := [("source", 13)]) (g := gName 13) rfl nds (pi_list (pv 12)) (blkOk_by (own := [("source", 13)]) (N := nSaidBy) (sc := defScope dSaidBy) (by decide +kernel))
          (fun _ _ _ _ _ => pg_name (i := 13) nds rfl (Or.inl rfl)) (fun _ _ _ _ _ => pts_nil) (fun _ _ _ _ _ => pe_dget hu (pv 5) (pv 13) (fun _ _ => rfl))) pa_nil))) rfl)) pss_nil)))
      (pss_one (ps_ret (pv 5)))))))), ?_⟩
    obtain ⟨dx, a1, a2, a3, a4, D5, D6, L7, sg, sr', sq, h1, _⟩ := id hc
    obtain ⟨ax, rfl, has⟩ : ∃ ax, a = .ref ax ∧ True := by cases ha; exact ⟨_, rfl, trivial⟩
    obtain ⟨yx, rfl, hyt⟩ := bits_of hy
    obtain ⟨xx, rfl, hxt⟩ := bits_of hx
    have sy := val_says good fl hrg okx.1 oky.1
    have li := good.li
    have lr := good.lr
    have lg := good.lg
    have lsr := hrg.1.length_eq
    have lpl := po.pm.length_eq
    obtain ⟨xl, hxl, hxd⟩ : ∃ xs, SqL K H ax xs ∧ DpAll K H xs (pl.map gateD) := by
      cases ha with
      | lst hs hd => exact ⟨_, hs, hd⟩
    have lxl := dp_len hxd
    have bk := base_keys (c := c) (sr := sr) (st := st) (le := le) okx.1 (by rw [oky.1, lsr])
    have ndB : ((base0 c sr st le).map Prod.fst).Nodup := by
      rw [bk]
      have nd := good.nd
      unfold names at nd
      obtain ⟨n1, n2, n3⟩ := List.nodup_append.mp nd
      obtain ⟨n4, n5, n6⟩ := List.nodup_append.mp n2
      have pr : (sr.map fun r => r.1).Perm (rn c) := hrg.1.map _
      exact List.nodup_append.mpr ⟨n1, pr.nodup_iff.mpr n5, fun a ha b hb => n3 a ha b (List.mem_append_right _ (pr.mem_iff.mp hb))⟩
    have nd1 : ((c.ins.zip le).map Prod.fst).Nodup := by
      unfold base0 at ndB
      rw [List.map_append] at ndB
      exact (List.nodup_append.mp ndB).1
    refine fun D nD => ?_
    have e1 : Ex H (upd H D (.dK [])) := Ex.new nD
    have hD1 : (upd H D (.dK [])) D = some (.dK []) := upd_same
    generalize upd H D (.dK []) = H1 at e1 hD1
    refine ⟨_, rfl, p, dx, _, rfl, e1 _ _ h1, rfl, p, c, rfl, hc.ex e1, good, fun l H2 e2 nl hl => ⟨_, rfl, l, xx, _, _, rfl, SqL.of hl, ex_t (e1.trans e2) hxt, ?_⟩⟩
    refine loopZ1 (pref := []) (e1.trans e2) nD hl hxt okx.1.symm (by omega) (e2 _ _ hD1) (fun q h => by cases h) (Nat.zero_le _) (by rw [List.nil_append]; exact nd1) fun H3 u6 u7 kv3 e3 hd3 hh3 hn3 => ?_
    rw [List.nil_append] at hh3
    have x3 : Ex H H3 := exbut_ex (e1.trans e2) nD e3
    refine ⟨_, rfl, p, dx, _, rfl, x3 _ _ h1, rfl, p, c, rfl, hc.ex x3, good, fun sr2 hs2 l2 xs2 H4 e4 nl2 hl2 dxs => ⟨_, rfl, l2, yx, _, _, rfl, SqL.of hl2, ex_t (x3.trans e4) hyt, ?_⟩⟩
    obtain rfl := RgOf.eq hs2 hrg
    refine loopZ2 (pref := c.ins.zip le) (x3.trans e4) nD hl2 hyt (by rw [oky.1, lsr]) (by omega) (fun H' e => d_dpAll e (e4 _ _ hd3) dxs) (e4 _ _ hd3) hh3 (by simp at hn3; omega) ndB fun H5 v6 v7 v8 kv5 e5 hd5 hh5 hn5 => ?_
    have x5 : Ex H H5 := exbut_ex (x3.trans e4) nD e5
    have hbit := says_bit good hrg okx oky okf sy
    have vS : ∀ z, z ∈ c.ins ∨ z ∈ rn c → z ∈ (c.ins ++ sr2.map fun r => r.1) := fun z q => q.elim (List.mem_append_left _) fun q => List.mem_append_right _ ((hrg.1.map fun r => r.1).mem_iff.mpr q)
    have vn : ∀ kvs, HasF ((c.ins ++ sr2.map fun r => r.1) ++ pl.map fun g => g.1) (val c sr2 st le fl) kvs → HasF (names c) (val c sr2 st le fl) kvs := fun kvs h z hz => h z (by
      rcases names_in.mp hz with q | q | q
      · exact List.mem_append_left _ (vS z (.inl q))
      · exact List.mem_append_right _ ((po.pm.map fun g => g.1).mem_iff.mpr q)
      · exact List.mem_append_left _ (vS z (.inr q)))
    have n5 : kv5.length ≤ 50 := by simp at hn3; omega
    cases fl with
    | none =>
      cases hz
      have hf : HasF (c.ins ++ sr2.map fun r => r.1) (val c sr2 st le none) kv5 := by
        intro z hz
        rw [← bk] at hz
        obtain ⟨q, hq, rfl⟩ := List.mem_map.mp hz
        rw [sy.base q hq (fun _ h => by cases h)]
        exact hh5 q hq
      refine ⟨_, rfl, _, rfl, iteT ⟨_, rfl, _, rfl, iteF ?_⟩⟩
      refine loopZ3 (fl := none) good po sy hbit vS (fun q h => by cases h) x5 nD hxl hxd hd5 hf (by omega) fun H7 v10 v11 v12 v13 kv7 x7 hd7 hf7 => ?_
      exact ⟨_, rfl, k D H7 x7 nD ⟨kv7, hd7, vn kv7 hf7⟩⟩
    | some q =>
      obtain ⟨z, b⟩ := q
      obtain ⟨t, rfl, ht⟩ := flt_of hz
      have ht5 := ex_t x5 ht
      have hf : HasF (c.ins ++ sr2.map fun r => r.1) (val c sr2 st le (some (z, b))) (putK kv5 (Sum.inr z) (.int b)) ∧ HasF [z] (val c sr2 st le (some (z, b))) (putK kv5 (Sum.inr z) (.int b)) := by
        have vz : val c sr2 st le (some (z, b)) z = b := sy.held (z, b) rfl
        refine ⟨fun y hy => ?_, fun y hy => ?_⟩
        · rw [valV_put]
          by_cases e : y = z
          · rw [e, if_pos rfl, vz]
          · rw [if_neg fun q => e (Sum.inr.inj q)]
            rw [← bk] at hy
            obtain ⟨q, hq, rfl⟩ := List.mem_map.mp hy
            rw [sy.base q hq (fun q' h => by cases h; exact fun h2 => e h2.symm)]
            exact hh5 q hq
        · rw [List.mem_singleton.mp hy, valV_put, if_pos rfl, vz]
      have hf2 : HasF ((c.ins ++ sr2.map fun r => r.1) ++ [z]) (val c sr2 st le (some (z, b))) (putK kv5 (Sum.inr z) (.int b)) := fun y hy => (List.mem_append.mp hy).elim (hf.1 y) (hf.2 y)
      refine ⟨_, rfl, _, rfl, iteF ⟨_, rfl, t, _, 0, .str z, rfl, rfl, ht5, rfl, _, rfl, _, rfl, iteT ?_⟩⟩
      refine ⟨_, rfl, t, _, 1, .int b, rfl, rfl, ht5, rfl, _, rfl, _, rfl, D, _, rfl, DPut.k (k := Sum.inr z) hd5 (Nat.lt_of_le_of_lt (show _ ≤ 1000 by omega) (by decide)), ?_⟩
      have l6 := putK_le kv5 (Sum.inr z) (.int b)
      refine loopZ3 (fl := some (z, b)) (S0 := (c.ins ++ sr2.map fun r => r.1) ++ [z]) good po sy hbit (fun y q => List.mem_append_left _ (vS y q)) (fun q h => by cases h; exact List.mem_append_right _ List.mem_cons_self) (x5.mut nD) nD hxl hxd upd_same hf2 (by omega) fun H7 v10 v11 v12 v13 kv7 x7 hd7 hf7 => ?_
      refine ⟨_, rfl, k D H7 x7 nD ⟨kv7, hd7, vn kv7 fun y hy => hf7 y ?_⟩⟩
      rcases List.mem_append.mp hy with hy | hy
      · exact List.mem_append_left _ (List.mem_append_left _ hy)
      · exact List.mem_append_right _ hy
end
end W

set_option Elab.async false
set_option linter.all false
set_option maxRecDepth 100000
set_option maxHeartbeats 16000000
namespace W
open PySem PySem.Spec PyProof.Rows L2 Evl G C
def nxt (sr : List Rg) (f : Str → Int) : List Int := sr.map fun r => f r.2.2
noncomputable def step1 (c : Cir) (sr : List Rg) (fl : Flt) (st le : List Int) : List Int := nxt sr (val c sr st le fl)
/-- the state behind i letters -/
noncomputable def sta (c : Cir) (sr : List Rg) (fl : Flt) (st : List Int) (ws : List (List Int)) (i : Nat) : List Int := (ws.take i).foldl (step1 c sr fl) st
/-- what is said at the i-th -/
noncomputable def hdf (c : Cir) (sr : List Rg) (fl : Flt) (st : List Int) (ws : List (List Int)) (i : Nat) : Str → Int := val c sr (sta c sr fl st ws i) (ws.getD i []) fl
noncomputable def states (c : Cir) (sr : List Rg) (fl : Flt) (st : List Int) (ws : List (List Int)) : List (List Int) := (List.range (ws.length + 1)).map (sta c sr fl st ws)
noncomputable def heard (c : Cir) (sr : List Rg) (fl : Flt) (st : List Int) (ws : List (List Int)) (zs : List Str) : List (List Int) := (List.range ws.length).map fun i => zs.map (hdf c sr fl st ws i)
theorem sta_next {c : Cir} {sr : List Rg} {fl : Flt} {st : List Int} {ws : List (List Int)} {i : Nat} {le : List Int} (e : ws[i]? = some le) : sta c sr fl st ws (i + 1) = nxt sr (hdf c sr fl st ws i) ∧ hdf c sr fl st ws i = val c sr (sta c sr fl st ws i) le fl := by
  have q : ws.getD i [] = le := by rw [List.getD_eq_getElem?_getD, e]; rfl
  refine ⟨?_, by unfold hdf; rw [q]⟩
  unfold sta hdf
  rw [take_more e, List.foldl_append, q]
  rfl
theorem nxt_ok {c : Cir} (good : Good c) {sr : List Rg} (hr : RgOf c sr) {f : Str → Int} (hb : ∀ z ∈ names c, isBt (f z)) : BitsOk c.regs.length (nxt sr f) := by
  refine ⟨by unfold nxt; rw [List.length_map, hr.1.length_eq], fun b h => ?_⟩
  obtain ⟨r, hr2, rfl⟩ := List.mem_map.mp h
  exact hb _ (good.rsrc r (hr.1.mem_iff.mp hr2))
theorem sta_ok {c : Cir} (good : Good c) {sr : List Rg} (hr : RgOf c sr) {fl : Flt} (hf : FltOk c fl) {st : List Int} (hs : BitsOk c.regs.length st) {ws : List (List Int)} (hw : ∀ w ∈ ws, BitsOk c.ins.length w) : ∀ i, i ≤ ws.length → BitsOk c.regs.length (sta c sr fl st ws i) := by
  intro i
  induction i with
  | zero => exact fun _ => hs
  | succ i ih =>
    intro lt
    have e : ws[i]? = some ws[i] := List.getElem?_eq_getElem (by omega)
    have ih := ih (by omega)
    have lo := hw _ (List.mem_of_getElem? e)
    rw [(sta_next e).1, (sta_next e).2]
    exact nxt_ok good hr (says_bit good hr lo ih hf (val_says good fl hr lo.1 ih.1))
section
variable {P : Program} {w : World} {K : PySem.W.Frag} {mg : Str → Option Value} {base : Heap} {C : Addr}
def spNext (K : PySem.W.Frag) (C : Addr) : Sp := fun vs H Q _ => ∃ (p d : Addr) (c : Cir) (sr : List Rg) (f : Str → Int), vs = [.ref p, .ref d] ∧ CirAt K C H p c ∧ Good c ∧ RgOf c sr ∧ SaidAt c f H d ∧ ∀ t H', Ex H H' → H t = none → H' t = some (.tup ((nxt sr f).map V.int)) → Q (.ref t) H'
abbrev nNext : List Str := ["circuit", "said", "_", "source"]
theorem scNext : FnScope nNext ["circuit", "said"] (defScope dNextState) := ⟨rfl, rfl, rfl, by decide +kernel, rfl, by decide +kernel, by decide +kernel⟩
theorem okNext {f : Addr} {fd : FuncData} (F : At K mg "next_state" dNextState ["circuit", "said"] f fd) (T : Txt K mg) (CT : CirT K mg C) : FnOk P w K mg base CX0 2 f fd ["circuit", "said"] (spNext K C) := by
  obtain ⟨fR, gR, FR⟩ := CT.registers
  have GR : FnOk P w K mg base CX0 1 fR gR ["self"] (spM (α := Nat) K C (newRg K)) := okRegisters FR T CT
  refine F.fn.ok scNext (fun vs H Q E h => ?_) (fun cdv A outer s H vs Q E hr h => ?_)
  · obtain ⟨p, d, c, sr, f, rfl, _⟩ := h
    rfl
  · obtain ⟨p, d, c, sr, f, rfl, hc, good, hrg, hd, k⟩ := h
    have hu := hu_of hr
    refine ⟨_, pss_one (ps_ret (pe_callTy call_tup (by rfl) T.tuple (by decide +kernel) (pa_cons (pe_lc (own := [("_", 2), ("source", 3)]) (g := gTup K 3 (gCons (gName 2) (gCons (gName 2) (gCons (gName 3) gNil)))) rfl scNext.nd (pi_list (pe_meth0 (pv 0) CT.cl FR.me GR hr FR.bi .nil pass0)) (blkOk_by (own := [("_", 2), ("source", 3)]) (N := nNext) (sc := defScope dNextState) (by decide +kernel))
      (fun _ _ _ _ _ => pg_tupK rfl (pgs_cons (pg_name (i := 2) scNext.nd rfl (Or.inl rfl)) (pgs_cons (pg_name (i := 2) scNext.nd rfl (Or.inl rfl)) (pgs_cons (pg_name (i := 3) scNext.nd rfl (Or.inl rfl)) pgs_nil)))) (fun _ _ _ _ _ => pts_nil) (fun _ _ _ _ _ => pe_dget hu (pv 1) (pv 3) (fun _ _ => rfl))) pa_nil))), ?_⟩
    obtain ⟨dx, a1, a2, a3, a4, D5, D6, L7, sg, sr', sq, h1, _⟩ := id hc
    obtain ⟨kvs, hdk, hf⟩ := hd.is
    refine ⟨_, rfl, p, dx, _, rfl, h1, rfl, p, c, rfl, hc, good, fun sr2 hs2 l xs H1 e1 nl hl dxs => ?_⟩
    obtain rfl := RgOf.eq hs2 hrg
    have len := dp_len dxs
    have lsr := hrg.1.length_eq
    have lr := good.lr
    refine ⟨l, rfl, ⟨_, SqL.of hl⟩, fun L nL => ?_⟩
    refine lc_it (walk_list (K := K) (a := l) (xs := xs)) (fun i Hc => Ex H1 Hc ∧ Hc L = some (.lst ((nxt (sr2.take i) f).map V.int))) ⟨Ex.new nL, upd_same⟩ (fun i Hc _ q => SqL.of (q.1 _ _ hl)) (fun i x Ha Hb hi q yy => ?_) (fun Hc q => ?_)
    · obtain ⟨rfl, ex⟩ := yy
      obtain ⟨e2, hL⟩ := q
      obtain ⟨r, er, dr⟩ := dp_nth dxs ex
      obtain ⟨t, rfl, ht⟩ := reg_of (dp_ex e2 dr)
      refine ⟨t, _, rfl, ht, rfl, _, _, rfl, _, _, rfl, _, _, rfl, rfl, rfl, ?_⟩
      have g := DGet.k (k := Sum.inr r.2.2) ((e1.trans e2) _ _ hdk)
      rw [hf _ (good.rsrc r (hrg.1.mem_iff.mp (List.mem_of_getElem? er)))] at g
      refine ⟨_, rfl, _, rfl, d, _, rfl, g, _, hL, ?_, e2.mut nL, ?_⟩
      · simp only [nxt, List.length_map, List.length_take]
        exact Nat.lt_of_le_of_lt (show _ ≤ 1000 by omega) (by decide)
      · rw [upd_same, take_more er]
        simp [nxt]
    · obtain ⟨e2, hL⟩ := q
      rw [len, List.take_length] at hL
      exact ⟨L, _, rfl, .inl ⟨SqL.of hL, fun t nt => k t _ ((e1.trans e2).trans (Ex.new nt)) (ex_none (e1.trans e2) nt) upd_same⟩⟩
end
end W

set_option Elab.async false
set_option linter.all false
set_option maxRecDepth 100000
set_option maxHeartbeats 16000000
namespace W
open PySem PySem.Spec PyProof.Rows L2 Evl G C
theorem word_of {K : PySem.W.Frag} {H : Hp} {x : V} {ws : List (List Int)} (h : Dp K H x (wordL ws) ∨ Dp K H x (wordT ws)) : ∃ a xs, x = .ref a ∧ (SqL K H a xs ∨ SqT K H a xs) ∧ DpAll K H xs (ws.map bitsD) := by
  rcases h with h | h
  · cases h with
    | lst hs hd => exact ⟨_, _, rfl, .inl hs, hd⟩
  · cases h with
    | tup hs hd => exact ⟨_, _, rfl, .inr hs, hd⟩
theorem noL_bits (bs : List Int) : noL (bitsD bs) = true := by
  show noLs (bs.map PyData.int) = true
  exact noLs_map (fun _ => rfl) bs
def begin (sr : List Rg) (st : Option (List Int)) : List Int := st.getD (firstOf sr)
theorem begin_ok {c : Cir} (good : Good c) {sr : List Rg} (hr : RgOf c sr) {st : Option (List Int)} (h : ∀ bs, st = some bs → BitsOk c.regs.length bs) : BitsOk c.regs.length (begin sr st) := by
  cases st with
  | none =>
    refine ⟨by show (sr.map fun r => r.2.1).length = _; rw [List.length_map, hr.1.length_eq], fun b hb => ?_⟩
    obtain ⟨r, hr2, rfl⟩ := List.mem_map.mp hb
    exact (good.rgs r (hr.1.mem_iff.mp hr2)).2.1
  | some bs => exact h bs rfl
section
variable {P : Program} {w : World} {K : PySem.W.Frag} {mg : Str → Option Value} {base : Heap} {C : Addr}
theorem rd_now {σ : L2.St} {H : Hp} {Q : VK} {p : Addr} {y : V} {c : Cir} {sr : List Rg} {st : Option (List Int)} (CT : CirT K mg C) (h0 : σ[0]? = some (some (.ref p))) (h3 : σ[3]? = some (some y)) (hc : CirAt K C H p c) (good : Good c) (hrg : RgOf c sr) (hy : Dp K H y (stD st))
    (k : ∀ nv H2, Ex H H2 → Dp K H2 nv (bitsD (begin sr st)) → Q nv H2) : tIf (tB (tIsN (tVar 3))) (tMeth C "first" (spM (α := Nat) K C (newFst K)) [] E0 (tVar 0) tNil) (tVar 3) σ H Q := by
  obtain ⟨dx, a1, a2, a3, a4, D5, D6, L7, sg, sr', sq, h1, _⟩ := id hc
  cases st with
  | none =>
    cases hy
    exact ⟨_, h3, _, rfl, iteT ⟨_, h0, p, dx, _, rfl, h1, rfl, p, c, rfl, hc, good, fun sr2 hs2 t H2 e2 nt ht => k _ _ e2 (by obtain rfl := RgOf.eq hs2 hrg; exact dp_bits (st_of ht))⟩⟩
  | some bs =>
    obtain ⟨t, rfl, ht⟩ := bits_of hy
    exact ⟨_, h3, _, rfl, iteF ⟨_, h3, k _ _ (Ex.refl _) hy⟩⟩
theorem rows_upd {H : Hp} {L : Addr} {xs ys : List V} {o : HO} {bs : List (List Int)} (h : H L = some (.lst xs)) (d : DpAll K H ys (bs.map bitsD)) : DpAll K (upd H L o) ys (bs.map bitsD) := t_dpAll (ExT.upd h) (noLs_map noL_bits _) d
/-- two new lists of rows of bits, in a new tuple -/
structure Two (K : PySem.W.Frag) (H H' : Hp) (t l1 l2 : Addr) (bs cs : List (List Int)) : Prop where
  ex : Ex H H'
  nt : H t = none
  n1 : H l1 = none
  n2 : H l2 = none
  ne : l1 ≠ l2
  at_ : H' t = some (.tup [.ref l1, .ref l2])
  d1 : ∃ xs, H' l1 = some (.lst xs) ∧ DpAll K H' xs (bs.map bitsD)
  d2 : ∃ xs, H' l2 = some (.lst xs) ∧ DpAll K H' xs (cs.map bitsD)
def spCourseF (K : PySem.W.Frag) (C : Addr) : Sp := fun vs H Q _ => ∃ (p l : Addr) (x y z : V) (c : Cir) (sr : List Rg) (zs : List Str) (ws : List (List Int)) (st : Option (List Int)) (fl : Flt), vs = [.ref p, .ref l, x, y, z] ∧ CirAt K C H p c ∧ Good c ∧ RgOf c sr ∧ SqL K H l (zs.map V.str) ∧ (∀ z ∈ zs, z ∈ names c) ∧ zs.length ≤ 100 ∧
  (Dp K H x (wordL ws) ∨ Dp K H x (wordT ws)) ∧ (∀ w ∈ ws, BitsOk c.ins.length w) ∧ ws.length ≤ 500 ∧ Dp K H y (stD st) ∧ (∀ bs, st = some bs → BitsOk c.regs.length bs) ∧ Dp K H z (fltD fl) ∧ FltOk c fl ∧
  ∀ t l1 l2 H', Two K H H' t l1 l2 (heard c sr fl (begin sr st) ws zs) (states c sr fl (begin sr st) ws) → Q (.ref t) H'
abbrev nCourse : List Str := ["circuit", "wires", "word", "state", "stuck", "plan", "now", "heard", "states", "letter", "said", "wire"]
theorem scCourse : FnScope nCourse ["circuit", "wires", "word", "state", "stuck"] (defScope dCourse) := ⟨rfl, rfl, rfl, by decide +kernel, rfl, by decide +kernel, by decide +kernel⟩
theorem okCourse {f : Addr} {fd : FuncData} (F : At K mg "course" dCourse ["circuit", "wires", "word", "state", "stuck"] f fd) (T : Txt K mg) (CT : CirT K mg C) (DT : DicT K w mg) : FnOk P w K mg base CX0 6 f fd ["circuit", "wires", "word", "state", "stuck"] (spCourseF K C) := by
  obtain ⟨fP, gP, FP⟩ := T.planOf
  obtain ⟨fF, gF, FF⟩ := CT.first
  obtain ⟨fS, gS, FS⟩ := T.saidBy
  obtain ⟨fN, gN, FN⟩ := T.nextState
  have GP : FnOk P w K mg base CX0 5 fP gP ["circuit"] (spPlanOf K C) := (okPlanOf FP T CT).mono (by decide)
  have GF : FnOk P w K mg base CX0 5 fF gF ["self"] (spM (α := Nat) K C (newFst K)) := (okFirst FF T CT).mono (by decide)
  have GS : FnOk P w K mg base CX0 5 fS gS ["circuit", "plan", "state", "letter", "stuck"] (spSaidBy K C) := (okSaidBy FS T CT DT).mono (by decide)
  have GN : FnOk P w K mg base CX0 5 fN gN ["circuit", "said"] (spNext K C) := (okNext FN T CT).mono (by decide)
  refine F.fn.ok scCourse (fun vs H Q E h => ?_) (fun cdv A outer s H vs Q E hr h => ?_)
  · obtain ⟨p, l, x, y, z, c, sr, zs, ws, st, fl, rfl, _⟩ := h
    rfl
  · obtain ⟨p, l, x, y, z, c, sr, zs, ws, st, fl, rfl, hc, good, hrg, hl, hzs, lzs, hx, okw, lw, hy, oks, hz, okf, k⟩ := h
    have hu := hu_of hr
    have nds := scCourse.nd
    obtain ⟨wa, xs, rfl, hxs, dxs⟩ := word_of hx
    have lxs := dp_len dxs
    have okb := begin_ok good hrg oks
    have stk := sta_ok good hrg okf okb okw
    obtain ⟨dx, a1, a2, a3, a4, D5, D6, L7, sg, sr', sq, h1, _⟩ := id hc
    refine ⟨_, (pss_cons (ps_set (i := 5) nds rfl (Or.inl rfl) (pe_call GP hr (by rfl) FP.gl FP.fn.kp FP.bi .nil pass0 (pa_cons (pv 0) pa_nil)))
 (pss_cons (ps_set (i := 6) nds rfl (Or.inl rfl) (pe_ifExp (pt_cmp (pc_isN (pv 3))) (pe_meth0 (pv 0) CT.cl FF.me GF hr FF.bi .nil pass0) (pv 3)))
 (pss_cons (ps_set (i := 7) nds rfl (Or.inl rfl) (pe_lst pa_nil))
 (pss_cons (ps_set (i := 8) nds rfl (Or.inl rfl) (pe_lst (pa_cons (pv 6) pa_nil)))
 (pss_cons (ps_for PassesOwn.never rfl (pi_sq rfl (pv 2)) (pg_name (i := 9) nds rfl (Or.inl rfl)) (pss_cons (ps_set (i := 10) nds rfl (Or.inr rfl) (pe_call GS hr (by rfl) FS.gl FS.fn.kp FS.bi .nil pass0 (pa_cons (pv 0) (pa_cons (pv 5) (pa_cons (pv 6) (pa_cons (pv 9) (pa_cons (pv 4) pa_nil)))))))
 (pss_cons (ps_expr (pe_bm PySem.F.plainAttrs_list PySem.F.slot_list_append PySem.F.type_list_append mt_append (pv 7) (pa_cons (pe_callTy call_tup (by rfl) T.tuple (by decide +kernel) (pa_cons (pe_lc (own := [("wire", 11)]) (g := gName 11) rfl nds (pi_list (pv 1)) (blkOk_by (own := [("wire", 11)]) (N := nCourse) (sc := defScope dCourse) (by decide +kernel))
          (fun _ _ _ _ _ => pg_name (i := 11) nds rfl (Or.inl rfl)) (fun _ _ _ _ _ => pts_nil) (fun _ _ _ _ _ => pe_dget hu (pv 10) (pv 11) (fun _ _ => rfl))) pa_nil)) pa_nil)))
 (pss_cons (ps_set (i := 6) nds rfl (Or.inl rfl) (pe_call GN hr (by rfl) FN.gl FN.fn.kp FN.bi .nil pass0 (pa_cons (pv 0) (pa_cons (pv 10) pa_nil))))
 (pss_one (ps_expr (pe_bm PySem.F.plainAttrs_list PySem.F.slot_list_append PySem.F.type_list_append mt_append (pv 8) (pa_cons (pv 6) pa_nil))))))))
 (pss_one (ps_ret (pe_tup (pa_cons (pv 7) (pa_cons (pv 8) pa_nil)))))))))), ?_⟩
    refine ⟨_, rfl, p, c, rfl, hc, good, fun pl po pa px H1 e1 np hp dpl => ?_⟩
    refine rd_now (mg := mg) CT rfl rfl (hc.ex e1) good hrg (dp_ex e1 hy) fun nv0 H2 e2 dn0 => ?_
    refine ⟨(by show 0 ≤ sizeLine; decide), fun hL nhL => ?_⟩
    have e3 : Ex H2 (upd H2 hL (.lst [])) := Ex.new nhL
    have hh3 : (upd H2 hL (.lst [])) hL = some (.lst []) := upd_same
    generalize upd H2 hL (.lst []) = H3 at e3 hh3
    refine ⟨_, rfl, (by show 1 ≤ sizeLine; decide), fun sL nsL => ?_⟩
    have sh : sL ≠ hL := fun q => by rw [q, hh3] at nsL; cases nsL
    have e4 : Ex H3 (upd H3 sL (.lst [nv0])) := Ex.new nsL
    have hs4 : (upd H3 sL (.lst [nv0])) sL = some (.lst [nv0]) := upd_same
    generalize upd H3 sL (.lst [nv0]) = H4 at e4 hs4
    have x2 := e1.trans e2
    have x24 := e3.trans e4
    have nsL2 := ex_none e3 nsL
    have dn4 := dp_ex x24 dn0
    refine for_sq (K := K) (a := wa) (xs := xs) (H0 := H2) rfl (hxs.imp (ex_l x2) (ex_t x2)) x24 (fun i σ Hc => (∃ nv u9 u10, σ = [some (.ref p), some (.ref l), some (.ref wa), some y, some z, some (.ref pa), some nv, some (.ref hL), some (.ref sL), u9, u10, none] ∧ Dp K Hc nv (bitsD (sta c sr fl (begin sr st) ws i))) ∧ Ex H2 Hc ∧
        (∃ hx, Hc hL = some (.lst hx) ∧ DpAll K Hc hx (((List.range i).map fun j => zs.map (hdf c sr fl (begin sr st) ws j)).map bitsD)) ∧ (∃ sx, Hc sL = some (.lst sx) ∧ DpAll K Hc sx (((List.range (i + 1)).map (sta c sr fl (begin sr st) ws)).map bitsD)))
      ⟨⟨nv0, _, _, rfl, dn4⟩, x24, ⟨[], e4 _ _ hh3, .nil⟩, ⟨[nv0], hs4, .cons dn4 .nil⟩⟩ (fun i σ Hc q => q.2.1) (fun i x σ Hc ex q => ?_) (fun σ Hc q => ?_)
    · obtain ⟨⟨nv, u9, u10, rfl, dn⟩, e, ⟨hx, hh, dh⟩, ⟨sx, hs, ds⟩⟩ := q
      obtain ⟨le, el, dl⟩ := dp_nth dxs ex
      have okl := okw _ (List.mem_of_getElem? el)
      have ilt := (List.getElem?_eq_some_iff.mp el).1
      have oki := stk i (by omega)
      have xc := x2.trans e
      have hn := sta_next (c := c) (sr := sr) (fl := fl) (st := begin sr st) el
      have sy := val_says good fl hrg okl.1 oki.1
      refine ⟨_, rfl, _, rfl, _, rfl, _, rfl, _, rfl, p, .ref pa, nv, x, z, c, sr, pl, _, le, fl, rfl, hc.ex xc, good, hrg, .lst (SqL.of ((e2.trans e) _ _ hp)) (dpAll_ex (e2.trans e) dpl), po, dn, oki, dp_ex xc dl, okl, dp_ex xc hz, okf, fun d H5 e5 nd sd => ?_⟩
      obtain ⟨kvs, hd, hf⟩ := sd.is
      refine ⟨_, rfl, .inl ⟨rfl, _, SqL.of (e5 _ _ hh)⟩, ?_⟩
      refine ⟨_, rfl, l, rfl, ⟨_, ex_l (xc.trans e5) hl⟩, fun L nL => ?_⟩
      refine lc_each (as := zs) (em := V.str) (walk_list (K := K) (a := l)) (fun z => .int (hdf c sr fl (begin sr st) ws i z)) (by omega) (fun H' e' => ex_l ((xc.trans e5).trans e') hl) (fun z hz => ev_dget (i := 10) (j := 11) (k := Sum.inr z) rfl rfl hd (by rw [hn.2]; exact hf z (hzs z hz))) nL (fun H6 e6 hL6 => ?_)
      refine ⟨L, _, rfl, .inl ⟨SqL.of hL6, fun t nt => ?_⟩⟩
      have e7 : Ex H6 (upd H6 t (.tup (zs.map fun z => .int (hdf c sr fl (begin sr st) ws i z)))) := Ex.new nt
      have ht7 : (upd H6 t (.tup (zs.map fun z => .int (hdf c sr fl (begin sr st) ws i z)))) t = some (.tup ((zs.map (hdf c sr fl (begin sr st) ws i)).map V.int)) := by rw [upd_same, List.map_map]; rfl
      generalize upd H6 t (.tup (zs.map fun z => .int (hdf c sr fl (begin sr st) ws i z))) = H7 at e7 ht7
      have e57 := e5.trans (e6.trans e7)
      have hh7 := e57 _ _ hh
      have lhx := dp_len dh
      have lsx := dp_len ds
      simp only [List.length_map, List.length_range] at lhx lsx
      refine ⟨hL, hx, .ref t, rfl, rfl, hh7, Nat.lt_of_le_of_lt (show _ ≤ 1000 by omega) (by decide), ?_⟩
      have dh8 : DpAll K (upd H7 hL (.lst (hx ++ [.ref t]))) (hx ++ [.ref t]) (((List.range (i + 1)).map fun j => zs.map (hdf c sr fl (begin sr st) ws j)).map bitsD) := by
        rw [List.range_succ, List.map_append, List.map_append]
        exact dpAll_snoc (rows_upd hh7 (dpAll_ex e57 dh)) (t_dp (ExT.upd hh7) (noL_bits _) (dp_bits (st_of ht7)))
      have dL : d ≠ hL := fun q => by rw [q, e5 _ _ hh] at hd; cases hd
      have ds8 : DpAll K (upd H7 hL (.lst (hx ++ [.ref t]))) sx (((List.range (i + 1)).map (sta c sr fl (begin sr st) ws)).map bitsD) := rows_upd hh7 (dpAll_ex e57 ds)
      have hh8 : (upd H7 hL (.lst (hx ++ [.ref t]))) hL = some (.lst (hx ++ [.ref t])) := upd_same
      have hs8 : (upd H7 hL (.lst (hx ++ [.ref t]))) sL = some (.lst sx) := by rw [upd_ne sh]; exact e57 _ _ hs
      have hd8 : (upd H7 hL (.lst (hx ++ [.ref t]))) d = some (.dK kvs) := by rw [upd_ne dL]; exact (e6.trans e7) _ _ hd
      have x8 : Ex H2 (upd H7 hL (.lst (hx ++ [.ref t]))) := (e.trans e57).mut nhL
      generalize upd H7 hL (.lst (hx ++ [.ref t])) = H8 at dh8 ds8 hh8 hs8 hd8 x8
      refine ⟨_, rfl, _, rfl, p, d, c, sr, _, rfl, hc.ex (x2.trans x8), good, hrg, ⟨kvs, hd8, hf⟩, fun t2 H9 e9 nt2 ht2 => ?_⟩
      rw [← hn.2, ← hn.1] at ht2
      have hs9 := e9 _ _ hs8
      have dt9 : Dp K H9 (.ref t2) (bitsD (sta c sr fl (begin sr st) ws (i + 1))) := dp_bits (st_of ht2)
      refine ⟨_, rfl, .inl ⟨rfl, _, SqL.of hs9⟩, _, rfl, sL, sx, .ref t2, rfl, rfl, hs9, Nat.lt_of_le_of_lt (show _ ≤ 1000 by omega) (by decide), ?_⟩
      have x10 : Ex H2 (upd H9 sL (.lst (sx ++ [.ref t2]))) := (x8.trans e9).mut nsL2
      refine ⟨⟨_, _, _, rfl, t_dp (ExT.upd hs9) (noL_bits _) dt9⟩, x10, ⟨_, ?_, rows_upd hs9 (dpAll_ex e9 dh8)⟩, ⟨_, upd_same, ?_⟩⟩
      · rw [upd_ne (Ne.symm sh)]
        exact e9 _ _ hh8
      · rw [List.range_succ, List.map_append, List.map_append]
        exact dpAll_snoc (rows_upd hs9 (dpAll_ex e9 ds8)) (t_dp (ExT.upd hs9) (noL_bits _) dt9)
    · obtain ⟨⟨nv, u9, u10, rfl, dn⟩, e, ⟨hx, hh, dh⟩, ⟨sx, hs, ds⟩⟩ := q
      rw [lxs] at dh ds
      refine ⟨_, rfl, _, rfl, (by show 2 ≤ sizeLine; decide), fun t nt => ?_⟩
      have e3 : Ex Hc (upd Hc t (.tup [.ref hL, .ref sL])) := Ex.new nt
      exact k t hL sL _ ⟨(x2.trans e).trans e3, ex_none (x2.trans e) nt, ex_none x2 nhL, ex_none x2 nsL2, Ne.symm sh, upd_same, ⟨hx, e3 _ _ hh, dpAll_ex e3 dh⟩, ⟨sx, e3 _ _ hs, dpAll_ex e3 ds⟩⟩
end
end W

set_option Elab.async false
set_option linter.all false
set_option maxRecDepth 100000
set_option maxHeartbeats 16000000
namespace W
open PySem PySem.Spec PyProof.Rows L2 Evl G C
section
variable {P : Program} {w : World} {K : PySem.W.Frag} {mg : Str → Option Value} {base : Heap} {C : Addr}
/-- a circuit, a state, a letter, a fault -/
structure Spot (K : PySem.W.Frag) (C : Addr) (H : Hp) (p : Addr) (y x z : V) (c : Cir) (sr : List Rg) (st le : List Int) (fl : Flt) : Prop where
  hc : CirAt K C H p c
  good : Good c
  hrg : RgOf c sr
  hy : Dp K H y (bitsD st)
  oky : BitsOk c.regs.length st
  hx : Dp K H x (bitsD le)
  okx : BitsOk c.ins.length le
  hz : Dp K H z (fltD fl)
  okf : FltOk c fl
theorem Spot.ex {H H' : Hp} {p : Addr} {y x z : V} {c : Cir} {sr : List Rg} {st le : List Int} {fl : Flt} (h : Spot K C H p y x z c sr st le fl) (e : Ex H H') : Spot K C H' p y x z c sr st le fl :=
  ⟨h.hc.ex e, h.good, h.hrg, dp_ex e h.hy, h.oky, dp_ex e h.hx, h.okx, dp_ex e h.hz, h.okf⟩
def valK (zs : List Str) (f : Str → Int) : List (Key × V) := zs.map fun z => (Sum.inr z, .int (f z))
def spVals (K : PySem.W.Frag) (C : Addr) : Sp := fun vs H Q _ => ∃ (p : Addr) (y x z : V) (c : Cir) (sr : List Rg) (st le : List Int) (fl : Flt), vs = [.ref p, y, x, z] ∧ Spot K C H p y x z c sr st le fl ∧
  ∀ zs, zs.Perm (names c) → sortedS zs = true → ∀ d H', Ex H H' → H d = none → H' d = some (.dK (valK zs (val c sr st le fl))) → Q (.ref d) H'
def spStepF (K : PySem.W.Frag) (C : Addr) : Sp := fun vs H Q _ => ∃ (p : Addr) (y x z : V) (c : Cir) (sr : List Rg) (st le : List Int) (fl : Flt), vs = [.ref p, y, x, z] ∧ Spot K C H p y x z c sr st le fl ∧
  ∀ t H', Ex H H' → Dp K H' t (.tuple [bitsD (c.outs.map (val c sr st le fl)), bitsD (nxt sr (val c sr st le fl))]) → Q t H'
abbrev nValues : List Str := ["circuit", "state", "letter", "stuck", "said", "wire"]
theorem scValues : FnScope nValues ["circuit", "state", "letter", "stuck"] (defScope dValues) := ⟨rfl, rfl, rfl, by decide +kernel, rfl, by decide +kernel, by decide +kernel⟩
theorem okValues {f : Addr} {fd : FuncData} (F : AtD K mg "values" dValues [.non] ["circuit", "state", "letter", "stuck"] f fd) (T : Txt K mg) (CT : CirT K mg C) (DT : DicT K w mg) : FnOk P w K mg base CX0 7 f fd ["circuit", "state", "letter", "stuck"] (spVals K C) := by
  obtain ⟨fC, gC, FC⟩ := T.cStep
  obtain ⟨fP, gP, FP⟩ := T.planOf
  obtain ⟨fS, gS, FS⟩ := T.saidBy
  obtain ⟨fW, gW, FW⟩ := CT.wires
  have GC : FnOk P w K mg base CX0 6 fC gC ["circuit", "state", "letter", "stuck"] (spStep K C) := (okCStep FC T CT).mono (by decide)
  have GP : FnOk P w K mg base CX0 6 fP gP ["circuit"] (spPlanOf K C) := (okPlanOf FP T CT).mono (by decide)
  have GS : FnOk P w K mg base CX0 6 fS gS ["circuit", "plan", "state", "letter", "stuck"] (spSaidBy K C) := (okSaidBy FS T CT DT).mono (by decide)
  have GW : FnOk P w K mg base CX0 6 fW gW ["self"] (spM (α := Nat) K C newWs) := (okWires FW T CT).mono (by decide)
  refine F.fn.ok scValues (fun vs H Q E h => ?_) (fun cdv A outer s H vs Q E hr h => ?_)
  · obtain ⟨p, y, x, z, c, sr, st, le, fl, rfl, _⟩ := h
    rfl
  · obtain ⟨p, y, x, z, c, sr, st, le, fl, rfl, sp, k⟩ := h
    have hu := hu_of hr
    have nds := scValues.nd
    refine ⟨_, pss_cons (ps_expr (pe_call GC hr (by rfl) FC.gl FC.fn.kp FC.bi .nil pass0 (pa_cons (pv 0) (pa_cons (pv 1) (pa_cons (pv 2) (pa_cons (pv 3) pa_nil))))))
      (pss_cons (ps_set (i := 4) nds rfl (Or.inr rfl) (pe_call GS hr (by rfl) FS.gl FS.fn.kp FS.bi .nil pass0 (pa_cons (pv 0) (pa_cons (pe_call GP hr (by rfl) FP.gl FP.fn.kp FP.bi .nil pass0 (pa_cons (pv 0) pa_nil)) (pa_cons (pv 1) (pa_cons (pv 2) (pa_cons (pv 3) pa_nil)))))))
      (pss_one (ps_ret (pe_dc (own := [("wire", 5)]) (g := gName 5) rfl nds (pi_list (pe_meth0 (pv 0) CT.cl FW.me GW hr FW.bi .nil pass0)) (blkOk_by (own := [("wire", 5)]) (N := nValues) (sc := defScope dValues) (by decide +kernel))
        (fun _ _ _ _ _ => pg_name (i := 5) nds rfl (Or.inl rfl)) (fun _ _ _ _ _ => pts_nil) (fun _ _ _ _ _ => pv 5) (fun _ _ _ _ _ => pe_dget hu (pv 4) (pv 5) (fun _ _ => rfl)))))), ?_⟩
    refine ⟨_, rfl, _, rfl, _, rfl, _, rfl, p, y, x, z, c, st, le, fl, rfl, sp.hc, sp.good, sp.hy, sp.oky, sp.hx, sp.okx, sp.hz, sp.okf, fun H1 e1 => ?_⟩
    have s1 := sp.ex e1
    refine ⟨_, rfl, _, rfl, p, c, rfl, s1.hc, s1.good, fun pl po pa px H2 e2 np hp dpl => ?_⟩
    have s2 := s1.ex e2
    refine ⟨_, rfl, _, rfl, _, rfl, p, .ref pa, y, x, z, c, sr, pl, st, le, fl, rfl, s2.hc, s2.good, s2.hrg, .lst (SqL.of hp) dpl, po, s2.hy, s2.oky, s2.hx, s2.okx, s2.hz, s2.okf, fun d H3 e3 nd sd => ?_⟩
    have s3 := s2.ex e3
    obtain ⟨kvs, hd, hf⟩ := sd.is
    obtain ⟨dx, a1, a2, a3, a4, D5, D6, L7, sg, sr', sq, h1, _⟩ := id s3.hc
    refine ⟨_, rfl, p, dx, _, rfl, h1, rfl, p, c, rfl, s3.hc, s3.good, fun zs pm so l H4 e4 nl hl => ?_⟩
    have few := names_few sp.good
    have lz := pm.length_eq
    refine ⟨l, rfl, ⟨_, SqL.of hl⟩, fun D nD => ?_⟩
    have x4 := ((e1.trans e2).trans e3).trans e4
    refine dc_each (as := zs) (em := V.str) (walk_list (K := K) (a := l)) (fun z => Sum.inr z) (fun z => .int (val c sr st le fl z)) (by omega) (fun H' e => SqL.of (e _ _ hl)) (fun z hz => ev_var (i := 5) rfl) (fun z hz => ev_dget (i := 4) (j := 5) (k := Sum.inr z) rfl rfl (e4 _ _ hd) (hf z (pm.mem_iff.mp hz))) (keys_nodup (f := fun z => z) (by rw [List.map_id']; exact pm.nodup_iff.mpr sp.good.nd)) nD (fun H5 e5 hD => ?_)
    exact k zs pm so D H5 (x4.trans e5) (ex_none x4 nD) hD
theorem scStepF : FnScope nValues ["circuit", "state", "letter", "stuck"] (defScope dStep) := ⟨rfl, rfl, rfl, by decide +kernel, rfl, by decide +kernel, by decide +kernel⟩
theorem okStepF {f : Addr} {fd : FuncData} (F : AtD K mg "step" dStep [.non] ["circuit", "state", "letter", "stuck"] f fd) (T : Txt K mg) (CT : CirT K mg C) (DT : DicT K w mg) : FnOk P w K mg base CX0 7 f fd ["circuit", "state", "letter", "stuck"] (spStepF K C) := by
  obtain ⟨fC, gC, FC⟩ := T.cStep
  obtain ⟨fP, gP, FP⟩ := T.planOf
  obtain ⟨fS, gS, FS⟩ := T.saidBy
  obtain ⟨fO, gO, FO⟩ := CT.outputs
  obtain ⟨fN, gN, FN⟩ := T.nextState
  have GC : FnOk P w K mg base CX0 6 fC gC ["circuit", "state", "letter", "stuck"] (spStep K C) := (okCStep FC T CT).mono (by decide)
  have GP : FnOk P w K mg base CX0 6 fP gP ["circuit"] (spPlanOf K C) := (okPlanOf FP T CT).mono (by decide)
  have GS : FnOk P w K mg base CX0 6 fS gS ["circuit", "plan", "state", "letter", "stuck"] (spSaidBy K C) := (okSaidBy FS T CT DT).mono (by decide)
  have GO : FnOk P w K mg base CX0 6 fO gO ["self"] (spM (α := Nat) K C (newTx Cir.outs)) := (okOutputs FO T CT).mono (by decide)
  have GN : FnOk P w K mg base CX0 6 fN gN ["circuit", "said"] (spNext K C) := (okNext FN T CT).mono (by decide)
  refine F.fn.ok scStepF (fun vs H Q E h => ?_) (fun cdv A outer s H vs Q E hr h => ?_)
  · obtain ⟨p, y, x, z, c, sr, st, le, fl, rfl, _⟩ := h
    rfl
  · obtain ⟨p, y, x, z, c, sr, st, le, fl, rfl, sp, k⟩ := h
    have hu := hu_of hr
    have nds := scStepF.nd
    refine ⟨_, pss_cons (ps_expr (pe_call GC hr (by rfl) FC.gl FC.fn.kp FC.bi .nil pass0 (pa_cons (pv 0) (pa_cons (pv 1) (pa_cons (pv 2) (pa_cons (pv 3) pa_nil))))))
      (pss_cons (ps_set (i := 4) nds rfl (Or.inr rfl) (pe_call GS hr (by rfl) FS.gl FS.fn.kp FS.bi .nil pass0 (pa_cons (pv 0) (pa_cons (pe_call GP hr (by rfl) FP.gl FP.fn.kp FP.bi .nil pass0 (pa_cons (pv 0) pa_nil)) (pa_cons (pv 1) (pa_cons (pv 2) (pa_cons (pv 3) pa_nil)))))))
      (pss_one (ps_ret (pe_tup (pa_cons (pe_callTy call_tup (by rfl) T.tuple (by decide +kernel) (pa_cons (pe_lc (own := [("wire", 5)]) (g := gName 5) rfl nds (pi_list (pe_meth0 (pv 0) CT.cl FO.me GO hr FO.bi .nil pass0)) (blkOk_by (own := [("wire", 5)]) (N := nValues) (sc := defScope dStep) (by decide +kernel))
        (fun _ _ _ _ _ => pg_name (i := 5) nds rfl (Or.inl rfl)) (fun _ _ _ _ _ => pts_nil) (fun _ _ _ _ _ => pe_dget hu (pv 4) (pv 5) (fun _ _ => rfl))) pa_nil)) (pa_cons (pe_call GN hr (by rfl) FN.gl FN.fn.kp FN.bi .nil pass0 (pa_cons (pv 0) (pa_cons (pv 4) pa_nil))) pa_nil)))))), ?_⟩
    refine ⟨_, rfl, _, rfl, _, rfl, _, rfl, p, y, x, z, c, st, le, fl, rfl, sp.hc, sp.good, sp.hy, sp.oky, sp.hx, sp.okx, sp.hz, sp.okf, fun H1 e1 => ?_⟩
    have s1 := sp.ex e1
    refine ⟨_, rfl, _, rfl, p, c, rfl, s1.hc, s1.good, fun pl po pa px H2 e2 np hp dpl => ?_⟩
    have s2 := s1.ex e2
    refine ⟨_, rfl, _, rfl, _, rfl, p, .ref pa, y, x, z, c, sr, pl, st, le, fl, rfl, s2.hc, s2.good, s2.hrg, .lst (SqL.of hp) dpl, po, s2.hy, s2.oky, s2.hx, s2.okx, s2.hz, s2.okf, fun d H3 e3 nd sd => ?_⟩
    have s3 := s2.ex e3
    obtain ⟨kvs, hd, hf⟩ := sd.is
    obtain ⟨dx, a1, a2, a3, a4, D5, D6, L7, sg, sr', sq, h1, _⟩ := id s3.hc
    refine ⟨_, rfl, p, dx, _, rfl, h1, rfl, p, c, rfl, s3.hc, s3.good, fun l H4 e4 nl hl => ?_⟩
    have lo := sp.good.lo
    refine ⟨l, rfl, ⟨_, SqL.of hl⟩, fun L nL => ?_⟩
    have x4 := ((e1.trans e2).trans e3).trans e4
    refine lc_each (as := c.outs) (em := V.str) (walk_list (K := K) (a := l)) (fun z => .int (val c sr st le fl z)) (by omega) (fun H' e => SqL.of (e _ _ hl)) (fun z hz => ev_dget (i := 4) (j := 5) (k := Sum.inr z) rfl rfl (e4 _ _ hd) (hf z (sp.good.out z hz))) nL (fun H5 e5 hL => ?_)
    refine ⟨L, _, rfl, .inl ⟨SqL.of hL, fun t nt => ?_⟩⟩
    have e6 : Ex H5 (upd H5 t (.tup (c.outs.map fun z => .int (val c sr st le fl z)))) := Ex.new nt
    have ht : (upd H5 t (.tup (c.outs.map fun z => .int (val c sr st le fl z)))) t = some (.tup ((c.outs.map (val c sr st le fl)).map V.int)) := by rw [upd_same, List.map_map]; rfl
    generalize upd H5 t (.tup (c.outs.map fun z => .int (val c sr st le fl z))) = H6 at e6 ht
    have e46 := e4.trans (e5.trans e6)
    have s6 := s3.ex e46
    refine ⟨_, rfl, _, rfl, p, d, c, sr, _, rfl, s6.hc, s6.good, s6.hrg, ⟨kvs, e46 _ _ hd, hf⟩, fun t2 H7 e7 nt2 ht2 => ?_⟩
    refine ⟨(by show 2 ≤ sizeLine; decide), fun t3 nt3 => ?_⟩
    have e8 : Ex H7 (upd H7 t3 (.tup [.ref t, .ref t2])) := Ex.new nt3
    exact k _ _ ((((e1.trans e2).trans e3).trans e46).trans (e7.trans e8)) (.tup (st_of upd_same) (.cons (dp_bits (st_of (e8 _ _ (e7 _ _ ht)))) (.cons (dp_bits (st_of (e8 _ _ ht2))) .nil)))
end
end W

set_option Elab.async false
set_option linter.all false
set_option maxRecDepth 100000
set_option maxHeartbeats 16000000
namespace W
open PySem PySem.Spec PyProof.Rows L2 Evl G C
section
variable {P : Program} {w : World} {K : PySem.W.Frag} {mg : Str → Option Value} {base : Heap} {C : Addr}
/-- a circuit, a word, a state or none, a fault -/
structure Run (K : PySem.W.Frag) (C : Addr) (H : Hp) (p : Addr) (x y z : V) (c : Cir) (sr : List Rg) (ws : List (List Int)) (st : Option (List Int)) (fl : Flt) : Prop where
  hc : CirAt K C H p c
  good : Good c
  hrg : RgOf c sr
  hx : Dp K H x (wordL ws) ∨ Dp K H x (wordT ws)
  okx : ∀ w ∈ ws, BitsOk c.ins.length w
  lw : ws.length ≤ 500
  hy : Dp K H y (stD st)
  oky : ∀ bs, st = some bs → BitsOk c.regs.length bs
  hz : Dp K H z (fltD fl)
  okf : FltOk c fl
theorem Run.ex {H H' : Hp} {p : Addr} {x y z : V} {c : Cir} {sr : List Rg} {ws : List (List Int)} {st : Option (List Int)} {fl : Flt} (h : Run K C H p x y z c sr ws st fl) (e : Ex H H') : Run K C H' p x y z c sr ws st fl :=
  ⟨h.hc.ex e, h.good, h.hrg, h.hx.imp (dp_ex e) (dp_ex e), h.okx, h.lw, dp_ex e h.hy, h.oky, dp_ex e h.hz, h.okf⟩
/-- a new list of rows of bits -/
structure NewRows (K : PySem.W.Frag) (H H' : Hp) (l : Addr) (bs : List (List Int)) : Prop where
  ex : Ex H H'
  new : H l = none
  at_ : ∃ xs, H' l = some (.lst xs) ∧ DpAll K H' xs (bs.map bitsD)
def spAns (K : PySem.W.Frag) (C : Addr) : Sp := fun vs H Q _ => ∃ (p : Addr) (x y z : V) (c : Cir) (sr : List Rg) (ws : List (List Int)) (st : Option (List Int)) (fl : Flt), vs = [.ref p, x, y, z] ∧ Run K C H p x y z c sr ws st fl ∧
  ∀ l H', NewRows K H H' l (heard c sr fl (begin sr st) ws c.outs) → Q (.ref l) H'
def spStates (K : PySem.W.Frag) (C : Addr) : Sp := fun vs H Q _ => ∃ (p : Addr) (x y z : V) (c : Cir) (sr : List Rg) (ws : List (List Int)) (st : Option (List Int)) (fl : Flt), vs = [.ref p, x, y, z] ∧ Run K C H p x y z c sr ws st fl ∧
  ∀ l H', NewRows K H H' l (states c sr fl (begin sr st) ws) → Q (.ref l) H'
noncomputable def line (c : Cir) (sr : List Rg) (fl : Flt) (st : List Int) (ws : List (List Int)) (t : Str) : List Int := (List.range ws.length).map fun i => hdf c sr fl st ws i t
def spTold (K : PySem.W.Frag) (C : Addr) : Sp := fun vs H Q _ => ∃ (p : Addr) (t : Str) (x y z : V) (c : Cir) (sr : List Rg) (ws : List (List Int)) (st : Option (List Int)) (fl : Flt), vs = [.ref p, .str t, x, y, z] ∧ t ∈ names c ∧ Run K C H p x y z c sr ws st fl ∧
  ∀ l H', Ex H H' → H l = none → H' l = some (.lst ((line c sr fl (begin sr st) ws t).map V.int)) → Q (.ref l) H'
abbrev nAns : List Str := ["circuit", "word", "state", "stuck", "heard", "_"]
theorem scAns : FnScope nAns ["circuit", "word", "state", "stuck"] (defScope dAnswer) := ⟨rfl, rfl, rfl, by decide +kernel, rfl, by decide +kernel, by decide +kernel⟩
theorem okAns {f : Addr} {fd : FuncData} (F : AtD K mg "answer" dAnswer [.non, .non] ["circuit", "word", "state", "stuck"] f fd) (T : Txt K mg) (CT : CirT K mg C) (DT : DicT K w mg) : FnOk P w K mg base CX0 7 f fd ["circuit", "word", "state", "stuck"] (spAns K C) := by
  obtain ⟨fC, gC, FC⟩ := T.cCourse
  obtain ⟨fU, gU, FU⟩ := T.course
  obtain ⟨fO, gO, FO⟩ := CT.outputs
  have GC : FnOk P w K mg base CX0 6 fC gC ["circuit", "word", "state", "stuck"] (spCourse K C) := okCCourse FC T CT
  have GU : FnOk P w K mg base CX0 6 fU gU ["circuit", "wires", "word", "state", "stuck"] (spCourseF K C) := okCourse FU T CT DT
  have GO : FnOk P w K mg base CX0 6 fO gO ["self"] (spM (α := Nat) K C (newTx Cir.outs)) := (okOutputs FO T CT).mono (by decide)
  refine F.fn.ok scAns (fun vs H Q E h => ?_) (fun cdv A outer s H vs Q E hr h => ?_)
  · obtain ⟨p, x, y, z, c, sr, ws, st, fl, rfl, _⟩ := h
    rfl
  · obtain ⟨p, x, y, z, c, sr, ws, st, fl, rfl, sp, k⟩ := h
    have nds := scAns.nd
    refine ⟨_, pss_cons (ps_expr (pe_call GC hr (by rfl) FC.gl FC.fn.kp FC.bi .nil pass0 (pa_cons (pv 0) (pa_cons (pv 1) (pa_cons (pv 2) (pa_cons (pv 3) pa_nil))))))
      (pss_cons (ps_asg (pe_call GU hr (by rfl) FU.gl FU.fn.kp FU.bi .nil pass0 (pa_cons (pv 0) (pa_cons (pe_meth0 (pv 0) CT.cl FO.me GO hr FO.bi .nil pass0) (pa_cons (pv 1) (pa_cons (pv 2) (pa_cons (pv 3) pa_nil)))))) (pg_tup rfl (pgs_cons (pg_name (i := 4) nds rfl (Or.inl rfl)) (pgs_cons (pg_name (i := 5) nds rfl (Or.inl rfl)) pgs_nil))))
      (pss_one (ps_ret (pv 4)))), ?_⟩
    refine ⟨_, rfl, _, rfl, _, rfl, _, rfl, p, x, y, z, c, ws, st, fl, rfl, sp.hc, sp.good, sp.hx, sp.okx, sp.lw, sp.hy, sp.oky, sp.hz, sp.okf, fun H1 e1 => ?_⟩
    have s1 := sp.ex e1
    obtain ⟨dx, a1, a2, a3, a4, D5, D6, L7, sg, sr', sq, h1, _⟩ := id s1.hc
    refine ⟨_, rfl, _, rfl, p, dx, _, rfl, h1, rfl, p, c, rfl, s1.hc, s1.good, fun l H2 e2 nl hl => ?_⟩
    have s2 := s1.ex e2
    have lo := sp.good.lo
    refine ⟨_, rfl, _, rfl, _, rfl, p, l, x, y, z, c, sr, c.outs, ws, st, fl, rfl, s2.hc, s2.good, s2.hrg, SqL.of hl, sp.good.out, by omega, s2.hx, s2.okx, s2.lw, s2.hy, s2.oky, s2.hz, s2.okf, fun t l1 l2 H3 tw => ?_⟩
    exact ⟨t, _, rfl, st_of tw.at_, rfl, _, _, rfl, _, _, rfl, rfl, _, rfl, k l1 H3 ⟨(e1.trans e2).trans tw.ex, ex_none (e1.trans e2) tw.n1, tw.d1⟩⟩
abbrev nStA : List Str := ["circuit", "word", "state", "stuck", "_", "states"]
theorem scStA : FnScope nStA ["circuit", "word", "state", "stuck"] (defScope dStatesA) := ⟨rfl, rfl, rfl, by decide +kernel, rfl, by decide +kernel, by decide +kernel⟩
theorem okStatesA {f : Addr} {fd : FuncData} (F : AtD K mg "states_along" dStatesA [.non, .non] ["circuit", "word", "state", "stuck"] f fd) (T : Txt K mg) (CT : CirT K mg C) (DT : DicT K w mg) : FnOk P w K mg base CX0 7 f fd ["circuit", "word", "state", "stuck"] (spStates K C) := by
  obtain ⟨fC, gC, FC⟩ := T.cCourse
  obtain ⟨fU, gU, FU⟩ := T.course
  have GC : FnOk P w K mg base CX0 6 fC gC ["circuit", "word", "state", "stuck"] (spCourse K C) := okCCourse FC T CT
  have GU : FnOk P w K mg base CX0 6 fU gU ["circuit", "wires", "word", "state", "stuck"] (spCourseF K C) := okCourse FU T CT DT
  refine F.fn.ok scStA (fun vs H Q E h => ?_) (fun cdv A outer s H vs Q E hr h => ?_)
  · obtain ⟨p, x, y, z, c, sr, ws, st, fl, rfl, _⟩ := h
    rfl
  · obtain ⟨p, x, y, z, c, sr, ws, st, fl, rfl, sp, k⟩ := h
    have nds := scStA.nd
    refine ⟨_, pss_cons (ps_expr (pe_call GC hr (by rfl) FC.gl FC.fn.kp FC.bi .nil pass0 (pa_cons (pv 0) (pa_cons (pv 1) (pa_cons (pv 2) (pa_cons (pv 3) pa_nil))))))
      (pss_cons (ps_asg (pe_call GU hr (by rfl) FU.gl FU.fn.kp FU.bi .nil pass0 (pa_cons (pv 0) (pa_cons (pe_lst pa_nil) (pa_cons (pv 1) (pa_cons (pv 2) (pa_cons (pv 3) pa_nil)))))) (pg_tup rfl (pgs_cons (pg_name (i := 4) nds rfl (Or.inl rfl)) (pgs_cons (pg_name (i := 5) nds rfl (Or.inl rfl)) pgs_nil))))
      (pss_one (ps_ret (pv 5)))), ?_⟩
    refine ⟨_, rfl, _, rfl, _, rfl, _, rfl, p, x, y, z, c, ws, st, fl, rfl, sp.hc, sp.good, sp.hx, sp.okx, sp.lw, sp.hy, sp.oky, sp.hz, sp.okf, fun H1 e1 => ?_⟩
    refine ⟨_, rfl, (by show 0 ≤ sizeLine; decide), fun l nl => ?_⟩
    have e2 : Ex H1 (upd H1 l (.lst [])) := Ex.new nl
    have hl : (upd H1 l (.lst [])) l = some (.lst (([] : List Str).map V.str)) := upd_same
    generalize upd H1 l (.lst []) = H2 at e2 hl
    have s2 := (sp.ex e1).ex e2
    refine ⟨_, rfl, _, rfl, _, rfl, p, l, x, y, z, c, sr, [], ws, st, fl, rfl, s2.hc, s2.good, s2.hrg, SqL.of hl, (fun z h => by cases h), Nat.zero_le _, s2.hx, s2.okx, s2.lw, s2.hy, s2.oky, s2.hz, s2.okf, fun t l1 l2 H3 tw => ?_⟩
    exact ⟨t, _, rfl, st_of tw.at_, rfl, _, _, rfl, _, _, rfl, rfl, _, rfl, k l2 H3 ⟨(e1.trans e2).trans tw.ex, ex_none (e1.trans e2) tw.n2, tw.d2⟩⟩
abbrev nTold : List Str := ["circuit", "wire", "word", "state", "stuck", "heard", "_", "bits"]
theorem scTold : FnScope nTold ["circuit", "wire", "word", "state", "stuck"] (defScope dTold) := ⟨rfl, rfl, rfl, by decide +kernel, rfl, by decide +kernel, by decide +kernel⟩
theorem okTold {f : Addr} {fd : FuncData} (F : AtD K mg "told" dTold [.non, .non] ["circuit", "wire", "word", "state", "stuck"] f fd) (T : Txt K mg) (CT : CirT K mg C) (DT : DicT K w mg) : FnOk P w K mg base CX0 7 f fd ["circuit", "wire", "word", "state", "stuck"] (spTold K C) := by
  obtain ⟨fC, gC, FC⟩ := T.cCourse
  obtain ⟨fW, gW, FW⟩ := T.cWire
  obtain ⟨fU, gU, FU⟩ := T.course
  have GC : FnOk P w K mg base CX0 6 fC gC ["circuit", "word", "state", "stuck"] (spCourse K C) := okCCourse FC T CT
  have GW : FnOk P w K mg base CX0 6 fW gW ["circuit", "wire"] (spCWire K C) := (okCWire FW T CT).mono (by decide)
  have GU : FnOk P w K mg base CX0 6 fU gU ["circuit", "wires", "word", "state", "stuck"] (spCourseF K C) := okCourse FU T CT DT
  refine F.fn.ok scTold (fun vs H Q E h => ?_) (fun cdv A outer s H vs Q E hr h => ?_)
  · obtain ⟨p, t, x, y, z, c, sr, ws, st, fl, rfl, _⟩ := h
    rfl
  · obtain ⟨p, t, x, y, z, c, sr, ws, st, fl, rfl, ht, sp, k⟩ := h
    have nds := scTold.nd
    refine ⟨_, pss_cons (ps_expr (pe_call GW hr (by rfl) FW.gl FW.fn.kp FW.bi .nil pass0 (pa_cons (pv 0) (pa_cons (pv 1) pa_nil))))
      (pss_cons (ps_expr (pe_call GC hr (by rfl) FC.gl FC.fn.kp FC.bi .nil pass0 (pa_cons (pv 0) (pa_cons (pv 2) (pa_cons (pv 3) (pa_cons (pv 4) pa_nil))))))
      (pss_cons (ps_asg (pe_call GU hr (by rfl) FU.gl FU.fn.kp FU.bi .nil pass0 (pa_cons (pv 0) (pa_cons (pe_lst (pa_cons (pv 1) pa_nil)) (pa_cons (pv 2) (pa_cons (pv 3) (pa_cons (pv 4) pa_nil)))))) (pg_tup rfl (pgs_cons (pg_name (i := 5) nds rfl (Or.inl rfl)) (pgs_cons (pg_name (i := 6) nds rfl (Or.inl rfl)) pgs_nil))))
      (pss_one (ps_ret (pe_lc (own := [("bits", 7)]) (g := gName 7) rfl nds (pi_list (pv 5)) (blkOk_by (own := [("bits", 7)]) (N := nTold) (sc := defScope dTold) (by decide +kernel))
        (fun _ _ _ _ _ => pg_name (i := 7) nds rfl (Or.inl rfl)) (fun _ _ _ _ _ => pts_nil) (fun _ _ _ _ _ => pe_ix ix_tupK (pv 7) pe_int (fun _ _ => rfl))))))), ?_⟩
    refine ⟨_, rfl, _, rfl, p, t, c, rfl, sp.hc, ht, ?_⟩
    refine ⟨_, rfl, _, rfl, _, rfl, _, rfl, p, x, y, z, c, ws, st, fl, rfl, sp.hc, sp.good, sp.hx, sp.okx, sp.lw, sp.hy, sp.oky, sp.hz, sp.okf, fun H1 e1 => ?_⟩
    refine ⟨_, rfl, _, rfl, (by show 1 ≤ sizeLine; decide), fun l nl => ?_⟩
    have e2 : Ex H1 (upd H1 l (.lst [.str t])) := Ex.new nl
    have hl : (upd H1 l (.lst [.str t])) l = some (.lst (([t] : List Str).map V.str)) := upd_same
    generalize upd H1 l (.lst [.str t]) = H2 at e2 hl
    have s2 := (sp.ex e1).ex e2
    refine ⟨_, rfl, _, rfl, _, rfl, p, l, x, y, z, c, sr, [t], ws, st, fl, rfl, s2.hc, s2.good, s2.hrg, SqL.of hl, (fun z h => by rw [List.mem_singleton.mp h]; exact ht), (by show 1 ≤ 100; decide), s2.hx, s2.okx, s2.lw, s2.hy, s2.oky, s2.hz, s2.okf, fun u l1 l2 H3 tw => ?_⟩
    obtain ⟨xs, hxs, dxs⟩ := tw.d1
    have x3 := (e1.trans e2).trans tw.ex
    have lw := sp.lw
    have lxs := dp_len dxs
    refine ⟨u, _, rfl, st_of tw.at_, rfl, _, _, rfl, _, _, rfl, rfl, _, rfl, l1, rfl, ⟨_, SqL.of hxs⟩, fun L nL => ?_⟩
    refine lc_it (walk_list (K := K) (a := l1) (xs := xs)) (fun i Hc => Ex H3 Hc ∧ Hc L = some (.lst (((List.range i).map fun j => hdf c sr fl (begin sr st) ws j t).map V.int))) ⟨Ex.new nL, upd_same⟩ (fun i Hc _ q => SqL.of (q.1 _ _ hxs)) (fun i x Ha Hb hi q yy => ?_) (fun Hc q => ?_)
    · obtain ⟨rfl, ex⟩ := yy
      obtain ⟨e4, hL⟩ := q
      obtain ⟨bs, eb, db⟩ := dp_nth dxs ex
      unfold heard at eb
      rw [List.getElem?_map] at eb
      obtain ⟨j, ej, rfl⟩ := Option.map_eq_some_iff.mp eb
      rw [List.getElem?_range (by unfold heard at lxs; simp at lxs; omega)] at ej
      cases ej
      obtain ⟨v, rfl, hv⟩ := bits_of (dp_ex e4 db)
      refine ⟨rfl, _, rfl, v, _, 0, _, rfl, rfl, hv, rfl, _, hL, ?_, e4.mut nL, ?_⟩
      · simp only [List.length_map, List.length_range]
        unfold heard at lxs
        simp at lxs
        exact Nat.lt_of_le_of_lt (show _ ≤ 1000 by omega) (by decide)
      · rw [upd_same, List.range_succ, List.map_append, List.map_append]
        rfl
    · obtain ⟨e4, hL⟩ := q
      have e5 : xs.length = ws.length := by rw [lxs]; unfold heard; rw [List.length_map, List.length_range]
      rw [e5] at hL
      exact k L Hc (x3.trans e4) (ex_none x3 nL) hL
end
end W

set_option Elab.async false
set_option linter.all false
set_option maxRecDepth 100000
set_option maxHeartbeats 4000000
/-! The end of a law whose promise wants that no repr is under way, with tables of code objects. -/
namespace G
open PySem PySem.Spec PyProof.Rows L2
/-- tracked at first: the tables, and the script where it is not written out -/
def hp0 (ts : List Addr) (a : Addr) (u : Option HO) : Hp := fun b => if b ∈ ts then some (.tbl #[]) else if b = a then u else none
section
variable {ts : List Addr} {a : Addr} {u : Option HO}
theorem hp0_t {b : Addr} (h : b ∈ ts) : hp0 ts a u b = some (.tbl #[]) := if_pos h
theorem hp0_a (h : a ∉ ts) : hp0 ts a u a = u := (if_neg h).trans (if_pos rfl)
theorem hp0_is {b : Addr} {o : HO} (e : hp0 ts a u b = some o) : (b ∈ ts ∧ o = .tbl #[]) ∨ (b = a ∧ b ∉ ts ∧ u = some o) := by
  unfold hp0 at e
  by_cases h : b ∈ ts
  · rw [if_pos h] at e
    exact .inl ⟨h, (Option.some.inj e).symm⟩
  · rw [if_neg h] at e
    by_cases h2 : b = a
    · rw [if_pos h2] at e
      exact .inr ⟨h2, h, e⟩
    · rw [if_neg h2] at e
      cases e
end
theorem end_call {P : Program} {w : World} {K : PySem.W.Frag} {mg mb : Str → Option Value} {n : Nat} {fa a : Addr} {cs : List (Addr × Addr)} {fd : FuncData} {x : Str} {pro : Sp} {s1 : Shared} {vs : List Value} {ns : List Int}
    (KX : K.In s1.heap) (hns : s1.heap.Ns mainGlobals mg) (hb : s1.heap.Ns builtinsNs mb) (hbb : ∀ x : Str, x ≠ "__name__" → mb x = bootBuiltins x) (hlim : s1.heap.NoLimit) (hg : s1.gens = #[])
    (hT : ∀ p ∈ cs, s1.heap.get? p.2 = some { cls := .none, data := .fields #[] }) (nT : ∀ p ∈ cs, K.lookup p.2 = none) (hC : ∀ p ∈ cs, PySem.W.CodeHd s1.heap p.1 p.2)
    (hbm : ∃ (bm : Addr) (ob : Obj), mg "__builtins__" = some (.ref bm) ∧ bm ≠ builtinsNs ∧ s1.heap.get? bm = some ob ∧ ob.cls = .type "module" ∧ ob.dict = some builtinsNs ∧ ob.data = .plain)
    (ha : s1.heap.get? a = some { cls := .type "list", data := .seq vs.toArray }) (hi : IntsAre vs ns) (hl : ns.length ≤ sizeLine) (hr : Room n callerA)
    (F : ∀ ba : Heap, K.In ba → ba.Ns mainGlobals mg → (∀ p ∈ cs, LamX.TabB ba mg p.1 p.2) → Fn P w K mg ba CX0 n fa fd [x] pro) (hbind : ∀ (s : Shared) (u : Value), BindsTo s fd ⟨[u], []⟩ [(x, u)])
    (hpro : ∀ H : Hp, (∀ p ∈ cs, H p.2 = some (.tbl #[])) → SqL K H a (ns.map V.int) → pro [.ref a] H (fun v _ => v = .bl true) fun _ _ _ => False) :
    codeAny (model P w) callerA (.call (.ref fa) ⟨[.ref a], []⟩) (fun r s' => r = .ok (.ret (.bool true)) ∧ OldK s1.heap s'.heap ∧ s'.os = s1.os ∧ AllBare s'.gens) s1 := by
  have rel := vals_ints hi
  have vl := hi.length
  have atT : ∀ {b : Addr}, b ∈ cs.map (·.2) → s1.heap.get? b = some { cls := .none, data := .fields #[] } := fun {b} m => by
    obtain ⟨p, hp, e⟩ := List.mem_map.mp m
    rw [← e]
    exact hT p hp
  have aT : a ∉ cs.map (·.2) := fun m => by
    have q := (atT m).symm.trans ha
    exact nomatch (congrArg Obj.data (Option.some.inj q))
  obtain ⟨u, hu, hKa, hseq⟩ : ∃ u : Option HO, (∀ o, u = some o → ∃ xs, o = .frz { cls := .type "list", data := .seq vs.toArray } (.lst xs) ∧ xs = ns.map V.int) ∧ (u ≠ none → K.lookup a = none) ∧ SqL K (hp0 (cs.map (·.2)) a u) a (ns.map V.int) := by
    cases hk : K.lookup a with
    | some o =>
      have e := (KX a o hk).symm.trans ha
      cases e
      exact ⟨none, (fun o z => nomatch z), (fun z => absurd rfl z), .inr ⟨_, vs.toArray, _, hk, rfl, rfl, rfl, by rw [List.size_toArray, vl]; exact hl, by simpa using rel⟩⟩
    | none => exact ⟨some _, (fun o z => ⟨_, (Option.some.inj z).symm, rfl⟩), (fun _ => rfl), .inl (.inr ⟨_, hp0_a aT⟩)⟩
  generalize hH : hp0 (cs.map (·.2)) a u = H at hseq
  have hHt : ∀ {b : Addr}, b ∈ cs.map (·.2) → H b = some (.tbl #[]) := fun m => by rw [← hH]; exact hp0_t m
  have hHis : ∀ {b : Addr} {o : HO}, H b = some o → (b ∈ cs.map (·.2) ∧ o = .tbl #[]) ∨ (b = a ∧ b ∉ cs.map (·.2) ∧ u = some o) := fun e => hp0_is (by rw [hH]; exact e)
  have hok : HOk P w H s1.heap := fun b o e => by
    rcases hHis e with ⟨m, rfl⟩ | ⟨rfl, _, eu⟩
    · exact atT m
    · obtain ⟨xs, rfl, rfl⟩ := hu o eu
      exact ⟨ha, by rw [List.length_map]; exact hl, vs, _, rel, ha⟩
  have un0 : ∀ {b : Addr} {o : Obj}, s1.heap.get? b = some o → (∀ vs n, o.data ≠ .seq vs n) → o.data ≠ .fields #[] → H b = none := fun {b o} e h1 h2 => by
    cases q : H b with
    | none => rfl
    | some z =>
      rcases hHis q with ⟨m, _⟩ | ⟨eb, _, _⟩
      · have e2 := e.symm.trans (atT m)
        cases e2
        exact absurd rfl h2
      · subst eb
        have e2 := e.symm.trans ha
        cases e2
        exact absurd rfl (h1 _ _)
  have keepB : ∀ {b : Addr} {o : Obj}, s1.heap.get? b = some o → (∀ vs n, o.data ≠ .seq vs n) → o.data ≠ .fields #[] → (hidT s1.heap H).get? b = some o := fun e h1 h2 => hidT_get e (un0 e h1 h2)
  have nsB : ∀ {b : Addr} {m : Str → Option Value}, s1.heap.Ns b m → (hidT s1.heap H).Ns b m := fun {b m} ⟨o, es, ep, e, d, r⟩ => ⟨o, es, ep, keepB e (fun vs n z => by rw [d] at z; cases z) (fun z => by rw [d] at z; cases z), d, r⟩
  have KB : K.In (hidT s1.heap H) := fun b o e => hidT_get (KX b o e) (by
    cases q : H b with
    | none => rfl
    | some z =>
      rcases hHis q with ⟨m, _⟩ | ⟨eb, _, eu⟩
      · obtain ⟨p, hp, ep⟩ := List.mem_map.mp m
        rw [← ep, nT p hp] at e
        cases e
      · subst eb
        rw [hKa (by rw [eu]; simp)] at e
        cases e)
  have md : L2.Mod K mg (hidT s1.heap H) := ⟨KB, nsB hns, ⟨mb, nsB hb, hbb⟩, by
    obtain ⟨mc, h1, h2⟩ := hlim
    exact ⟨mc, nsB h1, h2⟩⟩
  have TB : ∀ p ∈ cs, LamX.TabB (hidT s1.heap H) mg p.1 p.2 := fun p hp => by
    have tp := hT p hp
    refine ⟨?_, ?_, fun z => ?_⟩
    · obtain ⟨o, us, file, tf, flags, tg, inF, text, tt, g1, r1, r2, r3, r⟩ := hC p hp
      refine ⟨o, us, file, tf, flags, tg, inF, text, tt, keepB g1 (fun vs n z => by rw [r2] at z; cases z) (fun z => ?_), r1, r2, r3, r⟩
      rw [r2] at z
      cases z
      simp at r3
    · obtain ⟨bm, ob, b1, b2, b3, b4, b5, b6⟩ := hbm
      refine ⟨bm, ob, b1, b2, fun z => ?_, fun z => ?_, keepB b3 (fun vs n z => by rw [b6] at z; cases z) (fun z => by rw [b6] at z; cases z), b4, b5, b6⟩
      · obtain ⟨o, es, ep, e, d, _⟩ := hns
        rw [z, e] at b3
        cases b3
        rw [d] at b6
        cases b6
      · rw [z, tp] at b3
        cases b3
        cases b6
    · obtain ⟨o, es, ep, e, d, _⟩ := hns
      rw [z, tp] at e
      cases e
      cases d
  have e0 : Env0 P w K mg (hidT s1.heap H) callerA [] s1 H := ⟨rfl, md, fun b o e => of_hidT e, Nat.le_of_eq (hidT_size _ _), trivial, fun b hb => (by cases hb), hok, .of_eq hg⟩
  refine codeAny_mono ((F _ KB (nsB hns) TB).go callerA [] s1 H ⟨[.ref a], []⟩ [.ref a] [.ref a] _ _ ⟨hr, rfl⟩ e0 (hbind s1 (.ref a)) (.cons rfl .nil) (hpro H (fun p hp => hHt (List.mem_map.mpr ⟨p, hp, rfl⟩)) hseq)) fun r s' h => ?_
  cases r with
  | error e => exact (show False from h).elim
  | ok fl =>
    cases fl with
    | next => exact False.elim h
    | brk => exact False.elim h
    | cont => exact False.elim h
    | ret z =>
      obtain ⟨v, H', os, bare, un, hok', rz, q⟩ := h
      have q : v = .bl true := q
      subst q
      obtain rfl : z = Value.bool true := rz
      have more : ∀ {b : Addr}, b ∈ cs.map (·.2) → ∃ ms : Array Value, s'.heap.get? b = some { cls := .none, data := .fields ms } := fun {b} m => by
        obtain ⟨ms, e⟩ := un.tbls b #[] (hHt m)
        exact ⟨_, hok' b _ e⟩
      have old : ∀ {b : Addr} {o : Obj}, b ∉ cs.map (·.2) → s1.heap.get? b = some o → s'.heap.get? b = some o := fun {b o} nm e => by
        cases y : H b with
        | none => exact un.keep b o e y (fun z => by cases z) (fun z => by cases z)
        | some t =>
          rcases hHis y with ⟨m, _⟩ | ⟨_, _, eu⟩
          · exact absurd m nm
          · obtain ⟨xs, rfl, _⟩ := hu t eu
            obtain ⟨g1, _⟩ := hok b _ y
            obtain ⟨g2, _⟩ := hok' b _ (un.frzs b _ _ y)
            have := e.symm.trans g1
            cases this
            exact g2
      refine ⟨rfl, ⟨fun b o e => ?_, fun b o e => ?_⟩, os, bare⟩
      · by_cases m : b ∈ cs.map (·.2)
        · obtain ⟨ms, g2⟩ := more m
          obtain ⟨p, hp, ep⟩ := List.mem_map.mp m
          have e2 := e.symm.trans (atT m)
          cases e2
          refine .inr (.inl ⟨?_, rfl, #[], ms, rfl, by rw [Array.empty_append]; exact g2⟩)
          rw [← ep]
          exact ((hC p hp).tab (hT p hp)).isCodeTable
        · exact .inl (old m e)
      · by_cases m : b ∈ cs.map (·.2)
        · obtain ⟨ms, g2⟩ := more m
          exact ⟨_, g2⟩
        · exact ⟨o, old m e⟩
/-- what the head has told of the law's promise -/
def LawAt (l : PySem.W.OpenLaw) (w : World) (K : PySem.W.Frag) (n most : Nat) (x : Str) (mg : Str → Option Value) (fa : Addr) (h : Heap) : Prop :=
  ∃ (fd : FuncData) (cs : List (Addr × Addr)) (pro : Sp), (∀ p ∈ cs, h.get? p.2 = some { cls := .none, data := .fields #[] }) ∧ (∀ p ∈ cs, K.lookup p.2 = none) ∧ (∀ p ∈ cs, PySem.W.CodeHd h p.1 p.2) ∧ (∀ (s : Shared) (u : Value), BindsTo s fd ⟨[u], []⟩ [(x, u)]) ∧
    (∀ (H : Hp) (a : Addr) (ns : List Int), ns.length ≤ most → (∀ z ∈ ns, Builtin.Int.intBits z ≤ 1048576) → (∀ p ∈ cs, H p.2 = some (.tbl #[])) → SqL K H a (ns.map V.int) → pro [.ref a] H (fun v _ => v = .bl true) fun _ _ _ => False) ∧
    ∀ ba : Heap, K.In ba → ba.Ns mainGlobals mg → (∀ p ∈ cs, LamX.TabB ba mg p.1 p.2) → Fn l.prog w K mg ba CX0 n fa fd [x] pro
theorem walk {l : PySem.W.OpenLaw} {most n : Nat} {q : Program} {loose : List Str} {XP : (Str → Option Value) → Heap → Prop} {YP : World → Heap → Prop} {d : DefRec} {K : Params → PySem.W.Frag} {x : Str}
    (hm : l.most = some most) (hm2 : most ≤ sizeLine) (hdf : d.params.defaults = []) (hr : Room n callerA) (hY : ∀ (w : World) (h : Heap), YP w h → (K w.params).In h)
    (F : ∀ (w : World) (mg : Str → Option Value) (fa : Addr) (h : Heap), YP w h → (K w.params).In h → h.Ns mainGlobals mg → mg d.name = some (.ref fa) → LawAt l w (K w.params) n most x mg fa h) :
    PySem.W.WalkO q loose XP YP l.row.toRowW d [] (fun f vs => PySem.call f vs) := by
  refine Att.attach_callB hm hdf fun w s0 s1 mg mb fa o pm cd doc a vs ns G Y ho hd hcd hmg hobj hints hlen hbits hg => ?_
  have KX := hY w _ Y
  obtain ⟨fd, cs, pro, hT, nT, hC, hb, hpro, hF⟩ := F w mg fa _ Y KX G.T.g hmg
  exact end_call KX G.T.g G.T.b G.T.builtins G.T.nolimit hg hT nT hC G.T.bmain hobj hints (Nat.le_trans hlen hm2) hr hF hb fun H h1 h2 => hpro H a ns hlen hbits h1 h2
end G

set_option Elab.async false
set_option linter.all false
set_option maxRecDepth 100000
set_option maxHeartbeats 16000000
namespace W
open PySem PySem.Spec PyProof.Rows L2 Evl G C
/-- a pot stands at p -/
def Pot (H : Hp) (p : Addr) : Prop := ∃ a b : Int, H p = some (.lst [.int a, .int b]) ∧ 0 ≤ a ∧ 0 ≤ b ∧ b < 4294967296
theorem Pot.ex {H H' : Hp} {p : Addr} (h : Pot H p) (e : Ex H H') : Pot H' p := by
  obtain ⟨a, b, h, r⟩ := h
  exact ⟨a, b, e _ _ h, r⟩
def spPot (K : PySem.W.Frag) : Sp := fun vs H Q _ => ∃ (a : Addr) (ns : List Int), vs = [.ref a, .int 0] ∧ SqL K H a (ns.map V.int) ∧ ns.length ≤ 1000 ∧ ∀ p H', H p = none → Ex H H' → Pot H' p → Q (.ref p) H'
def spDraw : Sp := fun vs H Q _ => ∃ (p : Addr) (m : Int), vs = [.ref p, .int m] ∧ Pot H p ∧ 0 < m ∧ m ≤ 1000 ∧ ∀ (r : Int) (H' : Hp), 0 ≤ r → r < m → ExBut p H H' → Pot H' p → Q (.int r) H'
section
variable {P : Program} {w : World} {K : PySem.W.Frag} {mg : Str → Option Value} {base : Heap}
theorem scPot : FnScope ["_law_script", "_law_k", "_law_cell"] ["_law_script", "_law_k"] (defScope dPot) := ⟨rfl, rfl, rfl, by decide +kernel, rfl, by decide +kernel, by decide +kernel⟩
theorem okPot {f : Addr} {fd : FuncData} (F : At K mg "_law_pot" dPot ["_law_script", "_law_k"] f fd) (T : Txt K mg) : FnOk P w K mg base CX0 1 f fd ["_law_script", "_law_k"] (spPot K) := by
  refine F.fn.ok scPot (fun vs H Q E h => ?_) (fun cdv A outer s H vs Q E hr h => ?_)
  · obtain ⟨x, d, rfl, _⟩ := h
    rfl
  · obtain ⟨a, ns, rfl, hs, hl, k⟩ := h
    have cell : ∀ c : Int, 0 ≤ c → ∀ p, H p = none → Q (.ref p) (upd H p (.lst [.int (if c - 10 ^ (18 : Int).toNat > 0 then c - 10 ^ (18 : Int).toNat else 0), .int ((c % 2147483579 * 40153 + 7621 * 0 + 89) % 2147483629 + 1)])) := by
      intro c hc p hp
      refine k p _ hp (Ex.new hp) ⟨_, _, upd_same, ?_, ?_, ?_⟩
      · by_cases q : c - 10 ^ (18 : Int).toNat > 0
        · rw [if_pos q]; omega
        · rw [if_neg q]; omega
      · have := Int.emod_nonneg (c % 2147483579 * 40153 + 7621 * 0 + 89) (show (2147483629 : Int) ≠ 0 by decide)
        omega
      · have := Int.emod_lt_of_pos (c % 2147483579 * 40153 + 7621 * 0 + 89) (show (0 : Int) < 2147483629 by decide)
        omega
    refine ⟨_, pss_cons (ps_set (i := 2) scPot.nd rfl (Or.inl rfl) (pe_ifExp (pt_cmpR op_lt (pv 1) (pe_callB call_len_seq (by rfl) T.len PySem.boot_len (pa_cons (pv 0) pa_nil)) (nomark _))
        (pe_callB call_abs (by rfl) T.abs (by decide +kernel) (pa_cons (pe_ix ix_list (pv 0) (pv 1) (fun _ _ => rfl)) pa_nil))
        (pe_op op_add (pe_op op_mul pe_int (pv 1)) pe_int)))
      (pss_one (ps_ret (pe_lst (pa_cons (pe_callB (call_max2 rfl) (by rfl) T.max (by decide +kernel) (pa_cons pe_int (pa_cons (pe_op op_sub (pv 2) (pe_op op_pow pe_int pe_int)) pa_nil)))
        (pa_cons (pe_op op_add (pe_op op_mod (pe_callTy call_int1 (by rfl) T.int (by decide +kernel) (pa_cons (pe_op op_add (pe_op op_add (pe_op op_mul (pe_op op_mod (pe_callTy call_int1 (by rfl) T.int (by decide +kernel) (pa_cons (pv 2) pa_nil)) pe_int) pe_int) (pe_op op_mul pe_int (pv 1))) pe_int) pa_nil)) pe_int) pe_int) pa_nil))))), ?_⟩
    cases ns with
    | nil =>
      refine ⟨_, rfl, _, rfl, a, _, rfl, .inl hs, _, _, rfl, rfl, _, rfl, ?_⟩
      refine iteF ⟨_, rfl, _, _, rfl, rfl, .inl ⟨by decide, by decide⟩, _, _, rfl, rfl, ?_⟩
      refine ⟨_, rfl, _, _, rfl, rfl, ⟨by decide, by decide, by decide⟩, _, _, rfl, rfl, _, _, rfl, _, rfl, .inl ⟨_, rfl, _, _, rfl, rfl, (by show (0 : Int) < 2147483579; decide), _, _, rfl, rfl, .inr ⟨by decide, by decide⟩, _, rfl, _, _, rfl, rfl, .inl ⟨by decide, by decide⟩, _, _, rfl, rfl, _, _, rfl, rfl,
        .inl ⟨_, rfl, _, _, rfl, rfl, (by show (0 : Int) < 2147483629; decide), _, _, rfl, rfl, (by show 2 ≤ sizeLine; decide), fun p hp => cell _ ?_ p hp⟩⟩⟩
      decide
    | cons n0 r =>
      refine ⟨_, rfl, _, rfl, a, _, rfl, .inl hs, _, _, rfl, rfl, _, rfl, ?_⟩
      have c1 : decide ((0 : Int) < ((List.map V.int (n0 :: r)).length : Int)) = true := decide_eq_true (by simp only [List.length_map, List.length_cons]; omega)
      show if decide ((0 : Int) < ((List.map V.int (n0 :: r)).length : Int)) = true then _ else _
      rw [c1]
      refine iteT ⟨_, rfl, _, rfl, a, _, _, .int n0, rfl, rfl, hs, atI_nat (j := 0) rfl, n0, rfl, ?_⟩
      refine ⟨_, rfl, _, _, rfl, rfl, ⟨by decide, by decide, by decide⟩, _, _, rfl, rfl, _, _, rfl, _, rfl, .inl ⟨_, rfl, _, _, rfl, rfl, (by show (0 : Int) < 2147483579; decide), _, _, rfl, rfl, .inr ⟨by decide, by decide⟩, _, rfl, _, _, rfl, rfl, .inl ⟨by decide, by decide⟩, _, _, rfl, rfl, _, _, rfl, rfl,
        .inl ⟨_, rfl, _, _, rfl, rfl, (by show (0 : Int) < 2147483629; decide), _, _, rfl, rfl, (by show 2 ≤ sizeLine; decide), fun p hp => cell _ ?_ p hp⟩⟩⟩
      by_cases q : n0 < 0
      · rw [if_pos q]; omega
      · rw [if_neg q]; omega
theorem scDraw : FnScope ["_law_pot_here", "_law_many", "_law_digit"] ["_law_pot_here", "_law_many"] (defScope dDraw) := ⟨rfl, rfl, rfl, by decide +kernel, rfl, by decide +kernel, by decide +kernel⟩
theorem okDraw {f : Addr} {fd : FuncData} (F : At K mg "_law_draw" dDraw ["_law_pot_here", "_law_many"] f fd) (T : Txt K mg) : FnOk P w K mg base CX0 1 f fd ["_law_pot_here", "_law_many"] spDraw := by
  refine F.fn.ok scDraw (fun vs H Q E h => ?_) (fun cdv A outer s H vs Q E hr h => ?_)
  · obtain ⟨x, d, rfl, _⟩ := h
    rfl
  · obtain ⟨p, m, rfl, ⟨a, b, hp, ha, hb, hb2⟩, hm, hm2, k⟩ := h
    refine ⟨_, pss_cons (ps_if (pt_cmpR op_gt (pe_ix ix_list (pv 0) pe_int (fun _ _ => rfl)) pe_int (nomark _))
        (pss_cons (ps_asg (pe_callB call_divmod (by rfl) T.divmod (by decide +kernel) (pa_cons (pe_ix ix_list (pv 0) pe_int (fun _ _ => rfl)) (pa_cons (pv 1) pa_nil)))
            (pg_tup rfl (pgs_cons (pg_sub (pv 0) pe_int set_list) (pgs_cons (pg_name (i := 2) scDraw.nd rfl (.inl rfl)) pgs_nil))))
          (pss_one (ps_ret (pv 2)))) pss_nil)
      (pss_cons (ps_asg (pe_op op_mod (pe_callTy call_int1 (by rfl) T.int (by decide +kernel) (pa_cons (pe_op op_add (pe_op op_mul (pe_ix ix_list (pv 0) pe_int (fun _ _ => rfl)) pe_int) pe_int) pa_nil)) pe_int) (pg_sub (pv 0) pe_int set_list))
      (pss_one (ps_ret (pe_op op_mod (pe_callTy call_int1 (by rfl) T.int (by decide +kernel) (pa_cons (pe_op op_fdiv (pe_op op_mod (pe_callTy call_int1 (by rfl) T.int (by decide +kernel) (pa_cons (pe_op op_mul (pe_ix ix_list (pv 0) pe_int (fun _ _ => rfl)) (pe_ix ix_list (pv 0) pe_int (fun _ _ => rfl))) pa_nil)) pe_int) pe_int) pa_nil)) (pv 1))))), ?_⟩
    have hS : SqL K H p [.int a, .int b] := SqL.of hp
    refine ⟨_, rfl, p, _, _, .int a, rfl, rfl, hS, atI_nat (j := 0) rfl, _, _, rfl, rfl, _, rfl, ?_⟩
    by_cases c : (0 : Int) < a
    · have c1 : decide ((0 : Int) < a) = true := decide_eq_true c
      show if decide ((0 : Int) < a) = true then _ else _
      rw [c1]
      refine iteT ⟨_, rfl, p, _, _, .int a, rfl, rfl, hS, atI_nat (j := 0) rfl, _, rfl, a, m, rfl, ⟨hm, by omega⟩, fun t ht => ?_⟩
      have npt : p ≠ t := ne_of_none hp ht
      have e1 : (upd H t (.tup [.int (a / m), .int (a % m)])) p = some (.lst [.int a, .int b]) := by rw [upd_ne npt]; exact hp
      refine ⟨t, _, rfl, .inl (.inl upd_same), rfl, _, _, rfl, _, rfl, p, _, _, 0, rfl, rfl, e1, rfl, _, _, rfl, rfl, _, rfl, ?_⟩
      refine k (a % m) _ (Int.emod_nonneg _ (by omega)) (Int.emod_lt_of_pos _ hm) (fun x o e n => ?_) ⟨a / m, b, upd_same, ?_, hb, hb2⟩
      · rw [upd_ne n, upd_ne (ne_of_none e ht)]
        exact e
      · exact Int.ediv_nonneg ha (by omega)
    · have c1 : decide ((0 : Int) < a) = false := decide_eq_false c
      show if decide ((0 : Int) < a) = true then _ else _
      rw [c1]
      refine iteF ⟨_, rfl, p, _, _, .int b, rfl, rfl, hS, atI_nat (j := 1) rfl, _, _, rfl, rfl, .inr ⟨by decide, by decide⟩, _, _, rfl, rfl, .inl ⟨_, rfl, _, _, rfl, rfl, (by show (0 : Int) < 2147483629; decide), _, rfl, p, _, _, 1, rfl, rfl, hp, rfl, ?_⟩⟩
      have b0 := Int.emod_nonneg (b * 48271 + 11083) (show (2147483629 : Int) ≠ 0 by decide)
      have b1 := Int.emod_lt_of_pos (b * 48271 + 11083) (show (0 : Int) < 2147483629 by decide)
      have hS2 : SqL K (upd H p (.lst [.int a, .int ((b * 48271 + 11083) % 2147483629)])) p [.int a, .int ((b * 48271 + 11083) % 2147483629)] := SqL.of upd_same
      refine ⟨_, rfl, p, _, _, .int ((b * 48271 + 11083) % 2147483629), rfl, rfl, hS2, atI_nat (j := 1) rfl, _, rfl, p, _, _, .int ((b * 48271 + 11083) % 2147483629), rfl, rfl, hS2, atI_nat (j := 1) rfl, _, _, rfl, rfl, .inl ⟨by omega, by omega⟩,
        .inl ⟨_, rfl, _, _, rfl, rfl, (by show (0 : Int) < 2147483587; decide), _, _, rfl, rfl, ⟨by decide, by decide⟩, .inl ⟨_, rfl, _, rfl, _, _, rfl, rfl, hm, ?_⟩⟩⟩
      exact k _ _ (Int.emod_nonneg _ (by omega)) (Int.emod_lt_of_pos _ hm) ExBut.upd ⟨a, _, upd_same, ha, b0, by omega⟩
end
end W

set_option Elab.async false
set_option linter.all false
set_option maxRecDepth 100000
set_option maxHeartbeats 16000000
namespace W
open PySem PySem.Spec PyProof.Rows L2 Evl G C
def kindsM : List (Key × V) := [(.inr "low", .int 0), (.inr "high", .int 0), (.inr "not", .int 1), (.inr "and", .int 2), (.inr "or", .int 2), (.inr "xor", .int 2), (.inr "pick", .int 3)]
theorem kindsM_hit {k : Str} {n : Nat} (h : kindsL.lookup k = some n) : valV (mergeK [] kindsM) (Sum.inr k) = some (.int (n : Int)) := by
  rcases kinds_cases h with ⟨rfl, rfl⟩ | ⟨rfl, rfl⟩ | ⟨rfl, rfl⟩ | ⟨rfl, rfl⟩ | ⟨rfl, rfl⟩ | ⟨rfl, rfl⟩ | ⟨rfl, rfl⟩ <;> kernel_rfl
def spSize : Sp := fun vs H Q _ => ∃ (k : Str) (n : Nat), vs = [.str k] ∧ kindsL.lookup k = some n ∧ ∀ H', Ex H H' → Q (.int (n : Int)) H'
def spPickL (K : PySem.W.Frag) : Sp := fun vs H Q _ => ∃ (p l : Addr) (xs : List V), vs = [.ref p, .ref l] ∧ Pot H p ∧ SqL K H l xs ∧ l ≠ p ∧ xs ≠ [] ∧ xs.length ≤ 100 ∧ ∀ v H', v ∈ xs → ExBut p H H' → Pot H' p → Q v H'
def spMixed (K : PySem.W.Frag) : Sp := fun vs H Q _ => ∃ (p l : Addr) (xs : List V), vs = [.ref p, .ref l] ∧ Pot H p ∧ SqL K H l xs ∧ l ≠ p ∧ xs.length ≤ 100 ∧ ∀ m ys H', ys.Perm xs → H m = none → ExBut p H H' → Pot H' p → H' m = some (.lst ys) → Q (.ref m) H'
section
variable {P : Program} {w : World} {K : PySem.W.Frag} {mg : Str → Option Value} {base : Heap}
theorem scSize : FnScope ["_law_sort"] ["_law_sort"] (defScope dSize) := ⟨rfl, rfl, rfl, by decide +kernel, rfl, by decide +kernel, by decide +kernel⟩
theorem okSize {f : Addr} {fd : FuncData} (F : At K mg "_law_size" dSize ["_law_sort"] f fd) (T : Txt K mg) : FnOk P w K mg base CX0 1 f fd ["_law_sort"] spSize := by
  refine F.fn.ok scSize (fun vs H Q E h => ?_) (fun cdv A outer s H vs Q E hr h => ?_)
  · obtain ⟨k, n, rfl, _⟩ := h
    rfl
  · obtain ⟨k, n, rfl, hk, q⟩ := h
    have hu := hu_of hr
    refine ⟨_, pss_one (ps_ret (pe_dget hu (pe_disp (pps_cons pe_str pe_int (pps_cons pe_str pe_int (pps_cons pe_str pe_int (pps_cons pe_str pe_int (pps_cons pe_str pe_int (pps_cons pe_str pe_int (pps_cons pe_str pe_int pps_nil))))))) (by rfl) (by rfl) (by simp) (by decide)) (pv 0) (fun _ _ => rfl))), ?_⟩
    refine fun d nd => ⟨upd_same, kindsM, rfl, (by decide), _, rfl, d, _, rfl, ?_, q _ ((Ex.new nd).mut nd)⟩
    have g := DGet.k (H := upd (upd H d (.dK [])) d (.dK (mergeK [] kindsM))) (k := Sum.inr k) upd_same
    rw [kindsM_hit hk] at g
    exact g
theorem scPickL : FnScope ["_law_pot_here", "_law_some"] ["_law_pot_here", "_law_some"] (defScope dPick) := ⟨rfl, rfl, rfl, by decide +kernel, rfl, by decide +kernel, by decide +kernel⟩
theorem but_l {p a : Addr} {H H' : Hp} {xs : List V} (e : ExBut p H H') (n : a ≠ p) (h : SqL K H a xs) : SqL K H' a xs := by
  rcases h with (h | ⟨o, h⟩) | h
  · exact .inl (.inl (e _ _ h n))
  · exact .inl (.inr ⟨o, e _ _ h n⟩)
  · exact .inr h
theorem okPickL {f : Addr} {fd : FuncData} (F : At K mg "_law_pick" dPick ["_law_pot_here", "_law_some"] f fd) (T : Txt K mg) : FnOk P w K mg base CX0 2 f fd ["_law_pot_here", "_law_some"] (spPickL K) := by
  obtain ⟨fB, fdB, FB⟩ := T.draw
  have GB : FnOk P w K mg base CX0 1 fB fdB ["_law_pot_here", "_law_many"] spDraw := okDraw FB T
  refine F.fn.ok scPickL (fun vs H Q E h => ?_) (fun cdv A outer s H vs Q E hr h => ?_)
  · obtain ⟨p, l, xs, rfl, _⟩ := h
    rfl
  · obtain ⟨p, l, xs, rfl, hp, hl, lp, ne, few, k⟩ := h
    refine ⟨_, pss_one (ps_ret (pe_ix ix_list (pv 1) (pe_call GB hr (by rfl) FB.gl FB.fn.kp FB.bi .nil pass0 (pa_cons (pv 0) (pa_cons (pe_callB call_len_seq (by rfl) T.len PySem.boot_len (pa_cons (pv 1) pa_nil)) pa_nil))) (fun _ _ => rfl))), ?_⟩
    have pos : 0 < xs.length := List.length_pos_iff.mpr ne
    refine ⟨_, rfl, _, rfl, _, rfl, l, _, rfl, .inl hl, p, _, rfl, hp, by omega, by omega, fun r H' r0 r1 e hp' => ?_⟩
    obtain ⟨j, rfl⟩ := Int.eq_ofNat_of_zero_le r0
    have hi : j < xs.length := by omega
    exact ⟨l, xs, (j : Int), xs[j], rfl, rfl, but_l e lp hl, atI_nat (by simp [hi]), k _ H' (List.getElem_mem hi) e hp'⟩
abbrev nMixed : List Str := ["_law_pot_here", "_law_some", "_law_left", "_law_found", "_law_turn"]
theorem scMixed : FnScope nMixed ["_law_pot_here", "_law_some"] (defScope dMixed) := ⟨rfl, rfl, rfl, by decide +kernel, rfl, by decide +kernel, by decide +kernel⟩
theorem okMixed {f : Addr} {fd : FuncData} (F : At K mg "_law_mixed" dMixed ["_law_pot_here", "_law_some"] f fd) (T : Txt K mg) : FnOk P w K mg base CX0 2 f fd ["_law_pot_here", "_law_some"] (spMixed K) := by
  obtain ⟨fB, fdB, FB⟩ := T.draw
  have GB : FnOk P w K mg base CX0 1 fB fdB ["_law_pot_here", "_law_many"] spDraw := okDraw FB T
  refine F.fn.ok scMixed (fun vs H Q E h => ?_) (fun cdv A outer s H vs Q E hr h => ?_)
  · obtain ⟨p, l, xs, rfl, _⟩ := h
    rfl
  · obtain ⟨p, l, xs, rfl, hp, hl, lp, few, k⟩ := h
    have nds := scMixed.nd
    refine ⟨_, pss_cons (ps_par (i := 2) (j := 3) rfl nds rfl rfl (by decide) (by rfl) (by rfl) (pa_cons (pe_callTy call_list_of (by rfl) T.list (by decide +kernel) (pa_cons (pv 1) pa_nil)) (pa_cons (pe_lst pa_nil) pa_nil)) (by rfl))
      (pss_cons (ps_for PassesOwn.never rfl (pi_range1 (by rfl) T.range (pa_cons (pe_callB call_len_seq (by rfl) T.len PySem.boot_len (pa_cons (pv 1) pa_nil)) pa_nil)) (pg_name (i := 4) nds rfl (Or.inl rfl))
        (pss_one (ps_expr (pe_bm PySem.F.plainAttrs_list PySem.F.slot_list_append PySem.F.type_list_append mt_append (pv 3) (pa_cons (pe_bm PySem.F.plainAttrs_list PySem.F.slot_list_pop PySem.F.type_list_pop mt_popAt (pv 2) (pa_cons (pe_call GB hr (by rfl) FB.gl FB.fn.kp FB.bi .nil pass0 (pa_cons (pv 0) (pa_cons (pe_callB call_len_seq (by rfl) T.len PySem.boot_len (pa_cons (pv 2) pa_nil)) pa_nil))) pa_nil)) pa_nil)))))
      (pss_one (ps_ret (pv 3)))), ?_⟩
    refine ⟨_, rfl, l, xs, rfl, .inl hl, fun a na => ?_⟩
    have e1 : Ex H (upd H a (.lst xs)) := Ex.new na
    have ha : (upd H a (.lst xs)) a = some (.lst xs) := upd_same
    generalize upd H a (.lst xs) = H1 at e1 ha
    refine ⟨(by show 0 ≤ sizeLine; decide), fun b nb => ?_⟩
    have ba : b ≠ a := fun q => by rw [q, ha] at nb; cases nb
    have e2 : Ex H1 (upd H1 b (.lst [])) := Ex.new nb
    have hb : (upd H1 b (.lst [])) b = some (.lst []) := upd_same
    generalize upd H1 b (.lst []) = H2 at e2 hb
    have pa : a ≠ p := fun q => by
      obtain ⟨x, y, z, _⟩ := hp
      rw [q, z] at na
      cases na
    have pb : b ≠ p := fun q => by
      obtain ⟨x, y, z, _⟩ := hp
      rw [q, e1 _ _ z] at nb
      cases nb
    have hl2 := ex_l (e1.trans e2) hl
    refine ⟨_, _, rfl, _, rfl, l, _, rfl, .inl hl2, _, rfl, by omega, by omega, ?_⟩
    refine for_range (lo := 0) (n := ((xs.length : Nat) : Int).toNat) (fun i σ Hc => (∃ u4, σ = [some (.ref p), some (.ref l), some (.ref a), some (.ref b), u4]) ∧ ExBut p H Hc ∧ Pot Hc p ∧ ∃ ys zs, Hc a = some (.lst ys) ∧ Hc b = some (.lst zs) ∧ (zs ++ ys).Perm xs ∧ zs.length = i)
      ⟨⟨_, rfl⟩, ExBut.of (e1.trans e2), hp.ex (e1.trans e2), xs, [], e2 _ _ ha, hb, .refl _, rfl⟩ (fun i σ Hc hi q => ?_) (fun σ Hc q => ?_)
    · obtain ⟨⟨u4, rfl⟩, e, hpc, ys, zs, hya, hzb, pm, lz⟩ := q
      have lyz := pm.length_eq
      rw [List.length_append] at lyz
      have hi2 : i < xs.length := by simpa using hi
      refine ⟨_, rfl, .inl ⟨rfl, _, SqL.of hzb⟩, _, rfl, .inl ⟨rfl, _, SqL.of hya⟩, _, rfl, _, rfl, a, _, rfl, .inl (SqL.of hya), p, _, rfl, hpc, by omega, by omega, fun r H3 r0 r1 e3 hp3 => ?_⟩
      obtain ⟨j, rfl⟩ := Int.eq_ofNat_of_zero_le r0
      have hr2 : j < ys.length := by omega
      have hya3 := e3 _ _ hya pa
      refine ⟨a, ys, (j : Int), j, ys[j], rfl, rfl, hya3, by omega, by omega, ?_, List.getElem?_eq_getElem hr2, ?_⟩
      · unfold seqIndex?
        simp
        omega
      have hzb4 : (upd H3 a (.lst (ys.eraseIdx j))) b = some (.lst zs) := by
        rw [upd_ne ba]
        exact e3 _ _ hzb pb
      refine ⟨b, zs, ys[j], rfl, rfl, hzb4, Nat.lt_of_le_of_lt (show _ ≤ 1000 by omega) (by decide), ⟨_, rfl⟩, ?_, ?_, ys.eraseIdx j, zs ++ [ys[j]], ?_, upd_same, ?_, by simp [lz]⟩
      · intro c o hc n
        have ca : c ≠ a := fun q => by rw [q, na] at hc; cases hc
        have cb : c ≠ b := fun q => by rw [q, ex_none e1 nb] at hc; cases hc
        rw [upd_ne cb, upd_ne ca]
        exact e3 _ _ (e _ _ hc n) n
      · obtain ⟨x, y, z, w⟩ := hp3
        exact ⟨x, y, by rw [upd_ne (Ne.symm pb), upd_ne (Ne.symm pa)]; exact z, w⟩
      · rw [upd_ne (Ne.symm ba), upd_same]
      · rw [List.append_assoc]
        refine List.Perm.trans (List.Perm.append_left zs ?_) pm
        exact erase_perm ys j _ (List.getElem?_eq_getElem hr2)
    · obtain ⟨⟨u4, rfl⟩, e, hpc, ys, zs, hya, hzb, pm, lz⟩ := q
      have lyz := pm.length_eq
      rw [List.length_append] at lyz
      have e0 : ys = [] := List.length_eq_zero_iff.mp (by simp at lz; omega)
      subst e0
      rw [List.append_nil] at pm
      exact ⟨_, rfl, k b zs Hc pm (ex_none e1 nb) e hpc hzb⟩
end
end W

set_option Elab.async false
set_option linter.all false
set_option maxRecDepth 100000
set_option maxHeartbeats 16000000
namespace W
open PySem PySem.Spec PyProof.Rows L2 Evl G C
/-! ### data that no pot is part of -/
def notI : PyData → Bool | .int _ => false | _ => true
mutual
def npD : PyData → Bool
  | .list ds => ds.all notI && npDs ds
  | .tuple ds => npDs ds
  | _ => true
def npDs : List PyData → Bool
  | [] => true
  | d :: ds => npD d && npDs ds
end
section
variable {K : PySem.W.Frag} {H H' : Hp} {p : Addr}
theorem dpAll_all {q : PyData → Bool} {xs : List V} {ds : List PyData} (h : DpAll K H xs ds) (n : xs.length = 2) (a : ds.all notI = true) (i j : Int) : xs ≠ [.int i, .int j] := by
  rintro rfl
  cases h with
  | cons h1 _ =>
    cases h1
    simp [notI] at a
mutual
theorem p_dp (hp : Pot H p) (e : ExBut p H H') : ∀ {d : PyData} {x : V}, npD d = true → Dp K H x d → Dp K H' x d
  | .none, _, _, h => by cases h; exact .non
  | .bool b, _, _, h => by cases h; exact .bl b
  | .int i, _, _, h => by cases h; exact .int i
  | .str z, _, _, h => by cases h; exact .str z
  | .list ds, _, n, h => by
    cases h with
    | @lst a xs _ hs ha =>
      have n : (ds.all notI && npDs ds) = true := n
      rw [Bool.and_eq_true] at n
      refine .lst ?_ (p_dpAll hp e n.2 ha)
      obtain ⟨i, j, h0, _⟩ := hp
      have ne : ∀ i j : Int, xs ≠ [.int i, .int j] := fun i j q => by
        subst q
        cases ha with
        | cons h1 _ =>
          cases h1
          simp [notI] at n
      rcases hs with (hs | ⟨o, hs⟩) | hs
      · refine .inl (.inl (e _ _ hs fun q => ?_))
        rw [q, h0] at hs
        cases hs
        exact ne i j rfl
      · refine .inl (.inr ⟨o, e _ _ hs fun q => ?_⟩)
        rw [q, h0] at hs
        cases hs
      · exact .inr hs
  | .tuple ds, _, n, h => by
    cases h with
    | @tup a xs _ hs ha =>
      refine .tup ?_ (p_dpAll hp e n ha)
      obtain ⟨i, j, h0, _⟩ := hp
      rcases hs with (hs | ⟨o, hs⟩) | hs
      · refine .inl (.inl (e _ _ hs fun q => ?_))
        rw [q, h0] at hs
        cases hs
      · refine .inl (.inr ⟨o, e _ _ hs fun q => ?_⟩)
        rw [q, h0] at hs
        cases hs
      · exact .inr hs
  | .dict _, _, _, h => by cases h
theorem p_dpAll (hp : Pot H p) (e : ExBut p H H') : ∀ {ds : List PyData} {xs : List V}, npDs ds = true → DpAll K H xs ds → DpAll K H' xs ds
  | [], _, _, h => by cases h; exact .nil
  | d :: ds, _, n, h => by
    have n : (npD d && npDs ds) = true := n
    rw [Bool.and_eq_true] at n
    cases h with
    | cons a b => exact .cons (p_dp hp e n.1 a) (p_dpAll hp e n.2 b)
end
theorem npDs_map {α : Type} {f : α → PyData} (h : ∀ a, npD (f a) = true) : ∀ l : List α, npDs (l.map f) = true
  | [] => rfl
  | a :: l => by
    show (npD (f a) && npDs (l.map f)) = true
    rw [h a, npDs_map h l]
    rfl
theorem all_notI {α : Type} {f : α → PyData} (h : ∀ a, notI (f a) = true) (l : List α) : (l.map f).all notI = true := by
  rw [List.all_map, List.all_eq_true]
  exact fun a _ => h a
theorem np_list {α : Type} {f : α → PyData} (h : ∀ a, notI (f a) = true) (h2 : ∀ a, npD (f a) = true) (l : List α) : npD (.list (l.map f)) = true := by
  show ((l.map f).all notI && npDs (l.map f)) = true
  rw [all_notI h, npDs_map h2]
  rfl
theorem np_txt (zs : List Str) : npD (.list (txtD zs)) = true := np_list (fun _ => rfl) (fun _ => rfl) zs
theorem np_gate (g : Gt) : npD (gateD g) = true := by
  show (npD (.str g.1) && (npD (.str g.2.1) && (npD (.list (txtD g.2.2)) && true))) = true
  rw [np_txt]
  rfl
theorem np_bits (bs : List Int) : npD (bitsD bs) = true := npDs_map (fun _ => rfl) bs
theorem np_flt (fl : Flt) : npD (fltD fl) = true := by cases fl <;> rfl
theorem pot_ne {u : HO} {b : Addr} (hp : Pot H p) (h : H b = some u) (n : ∀ xs, u ≠ .lst xs) : b ≠ p := fun q => by
  obtain ⟨i, j, h0, _⟩ := hp
  rw [q, h0] at h
  exact n _ (Option.some.inj h).symm
end
/-! ### slices of texts -/
theorem cut_nat {zs : List Str} {i j : Nat} (hi : i ≤ j) (hj : j ≤ zs.length) : cutV (zs.map V.str) (some (i : Int)) (some (j : Int)) = ((zs.drop i).take (j - i)).map V.str := by
  unfold cutV HT.sIx
  have h1 : ¬ ((i : Int) < 0) := by omega
  have h2 : ¬ ((j : Int) < 0) := by omega
  simp only [h1, h2, if_false, List.length_map, Int.toNat_natCast]
  simp only [Nat.min_eq_left (show i ≤ zs.length by omega), Nat.min_eq_left hj]
  rw [List.map_take, List.map_drop]
theorem cut_to {zs : List Str} {j : Nat} (hj : j ≤ zs.length) : cutV (zs.map V.str) none (some (j : Int)) = (zs.take j).map V.str := by
  unfold cutV HT.sIx
  have h2 : ¬ ((j : Int) < 0) := by omega
  simp only [h2, if_false, List.length_map, Int.toNat_natCast]
  simp only [Nat.min_eq_left hj, List.map_take, Nat.sub_zero, List.drop_zero]
/-- the sixteen names -/
def TG : List Str := ["a", "b", "c1", "low", "and", "q", "z9", "step", "zz", "m", "x0", "s", "t8", "u", "v", "w"]
theorem tg_nd : TG.Nodup := by decide +kernel
theorem tg_ok : ∀ z ∈ TG, nameOk z := by
  have : TG.all (fun z => nameL z.cps.toList) = true := by decide +kernel
  exact fun z hz => List.all_eq_true.mp this z hz
theorem perm_str {ys : List V} {zs : List Str} (h : ys.Perm (zs.map V.str)) : ∃ ws : List Str, ys = ws.map V.str ∧ ws.Perm zs := by
  have all : ∀ y ∈ ys, ∃ z, y = V.str z := fun y hy => by
    obtain ⟨z, _, e⟩ := List.mem_map.mp (h.mem_iff.mp hy)
    exact ⟨z, e.symm⟩
  have q : ∃ ws : List Str, ys = ws.map V.str := by
    clear h
    induction ys with
    | nil => exact ⟨[], rfl⟩
    | cons y r ih =>
      obtain ⟨z, rfl⟩ := all y List.mem_cons_self
      obtain ⟨ws, rfl⟩ := ih fun y hy => all y (List.mem_cons_of_mem _ hy)
      exact ⟨z :: ws, rfl⟩
  obtain ⟨ws, rfl⟩ := q
  refine ⟨ws, rfl, ?_⟩
  have h2 := h.map (fun v : V => match v with | .str z => z | _ => "")
  rw [List.map_map, List.map_map] at h2
  have e : ((fun v : V => match v with | .str z => z | _ => "") ∘ V.str) = id := rfl
  rwa [e, List.map_id, List.map_id] at h2
end W

set_option Elab.async false
set_option linter.all false
set_option maxRecDepth 100000
set_option maxHeartbeats 16000000
namespace W
open PySem PySem.Spec PyProof.Rows L2 Evl G C
/-- what a plan draws from the sixteen names -/
structure Drawn (zs : List Str) (i r m : Nat) (gs : List Gt) (rs : List Rg) (os : List Str) : Prop where
  pm : zs.Perm TG
  li : i ≤ 3
  lr : r ≤ 3
  lm : m ≤ 6
  gn : gs.map (fun g => g.1) = (zs.drop (i + r)).take m
  gk : ∀ j g, gs[j]? = some g → kindsL.lookup g.2.1 = some g.2.2.length ∧ ∀ y ∈ g.2.2, y ∈ zs.take (i + r + j)
  rn : rs.map (fun r => r.1) = (zs.drop i).take r
  rk : ∀ x ∈ rs, isBt x.2.1 ∧ x.2.2 ∈ zs.take (i + r + m)
  on : ∀ z ∈ os, z ∈ zs.take (i + r + m)
  lo : os.length ≤ 8
def cirOf (zs : List Str) (i : Nat) (gs : List Gt) (rs : List Rg) (os : List Str) : Cir := ⟨zs.take i, gs, rs, os⟩
theorem take_idx {zs : List Str} {n : Nat} {y : Str} (h : y ∈ zs.take n) : zs.idxOf y < n := by
  induction zs generalizing n with
  | nil => simp at h
  | cons a l ih =>
    cases n with
    | zero => simp at h
    | succ n =>
      rw [List.take_succ_cons] at h
      rw [List.idxOf_cons]
      by_cases e : a = y
      · subst e
        simp
      · have e2 : (a == y) = false := by simpa using e
        rw [e2]
        rcases List.mem_cons.mp h with h | h
        · exact absurd h.symm e
        · have := ih h
          simp only [cond_false]
          omega
theorem idx_at {zs : List Str} (nd : zs.Nodup) {n : Nat} {y : Str} (h : zs[n]? = some y) : zs.idxOf y = n := by
  induction zs generalizing n with
  | nil => simp at h
  | cons a l ih =>
    obtain ⟨n1, n2⟩ := List.nodup_cons.mp nd
    rw [List.idxOf_cons]
    cases n with
    | zero =>
      simp at h
      subst h
      simp
    | succ n =>
      have h : l[n]? = some y := by simpa using h
      have e2 : (a == y) = false := by
        rw [beq_eq_false_iff_ne]
        exact fun e => n1 (e ▸ List.mem_of_getElem? h)
      rw [e2, ih n2 h]
      rfl
section
variable {zs : List Str} {i r m : Nat} {gs : List Gt} {rs : List Rg} {os : List Str}
theorem Drawn.nd (D : Drawn zs i r m gs rs os) : zs.Nodup := D.pm.nodup_iff.mpr tg_nd
theorem Drawn.len (D : Drawn zs i r m gs rs os) : zs.length = 16 := by rw [D.pm.length_eq]; rfl
theorem cut3 (zs : List Str) (i r m : Nat) : zs.take (i + r + m) = zs.take i ++ ((zs.drop i).take r ++ (zs.drop (i + r)).take m) := by
  rw [List.take_add (i := i + r) (j := m), List.take_add (i := i) (j := r), List.append_assoc]
theorem Drawn.names (D : Drawn zs i r m gs rs os) : (C.names (cirOf zs i gs rs os)).Perm (zs.take (i + r + m)) := by
  show (zs.take i ++ (gs.map (fun g => g.1) ++ rs.map (fun r => r.1))).Perm _
  rw [D.gn, D.rn, cut3]
  exact List.Perm.append_left _ List.perm_append_comm
theorem Drawn.glen (D : Drawn zs i r m gs rs os) : gs.length = m := by
  have := congrArg List.length D.gn
  rw [List.length_map, List.length_take, List.length_drop, D.len] at this
  have := D.li
  have := D.lr
  have := D.lm
  omega
theorem Drawn.rlen (D : Drawn zs i r m gs rs os) : rs.length = r := by
  have := congrArg List.length D.rn
  rw [List.length_map, List.length_take, List.length_drop, D.len] at this
  have := D.li
  have := D.lr
  omega
theorem Drawn.ok (D : Drawn zs i r m gs rs os) {z : Str} (h : z ∈ zs.take (i + r + m)) : nameOk z := tg_ok z (D.pm.mem_iff.mp (List.mem_of_mem_take h))
theorem Drawn.sub (D : Drawn zs i r m gs rs os) {j : Nat} {g : Gt} (h : gs[j]? = some g) {y : Str} (hy : y ∈ g.2.2) : y ∈ zs.take (i + r + m) := by
  have q := (D.gk j g h).2 y hy
  have lt := (List.getElem?_eq_some_iff.mp h).1
  rw [D.glen] at lt
  exact List.take_subset_take_left zs (by omega) q
theorem Drawn.at_ (D : Drawn zs i r m gs rs os) {j : Nat} {g : Gt} (h : gs[j]? = some g) : zs[i + r + j]? = some g.1 := by
  have lt := (List.getElem?_eq_some_iff.mp h).1
  rw [D.glen] at lt
  have q : (gs.map fun g => g.1)[j]? = some g.1 := by rw [List.getElem?_map, h]; rfl
  rw [D.gn, List.getElem?_take, if_pos lt, List.getElem?_drop] at q
  exact q
theorem Drawn.good (D : Drawn zs i r m gs rs os) : Good (cirOf zs i gs rs os) := by
  have inn : ∀ {z : Str}, z ∈ zs.take (i + r + m) → z ∈ C.names (cirOf zs i gs rs os) := fun h => D.names.mem_iff.mpr h
  have mem : ∀ {z : Str}, z ∈ C.names (cirOf zs i gs rs os) → z ∈ zs.take (i + r + m) := fun h => D.names.mem_iff.mp h
  refine ⟨D.names.nodup_iff.mpr (D.nd.sublist (List.take_sublist _ _)), ?_, ?_, ?_, ?_, ?_, ?_, ?_, ?_, ?_, ?_, ?_⟩
  · exact fun z hz => D.ok (mem (names_in.mpr (.inl hz)))
  · intro g hg
    obtain ⟨j, hj⟩ := List.mem_iff_getElem?.mp hg
    exact ⟨D.ok (mem (names_in.mpr (.inr (.inl (List.mem_map.mpr ⟨g, hg, rfl⟩))))), (D.gk j g hj).1, fun z hz => D.ok (D.sub hj hz)⟩
  · intro x hx
    exact ⟨D.ok (mem (names_in.mpr (.inr (.inr (List.mem_map.mpr ⟨x, hx, rfl⟩))))), (D.rk x hx).1, D.ok (D.rk x hx).2⟩
  · intro g hg z hz
    obtain ⟨j, hj⟩ := List.mem_iff_getElem?.mp hg
    exact inn (D.sub hj hz)
  · exact fun x hx => inn (D.rk x hx).2
  · exact fun z hz => inn (D.on z hz)
  · refine ⟨zs.idxOf, fun q hq y hy _ => ?_⟩
    obtain ⟨g, hg, rfl⟩ := List.mem_map.mp hq
    obtain ⟨j, hj⟩ := List.mem_iff_getElem?.mp hg
    show zs.idxOf y < zs.idxOf g.1
    rw [idx_at D.nd (D.at_ hj)]
    exact take_idx ((D.gk j g hj).2 y hy)
  · show (zs.take i).length ≤ 8
    rw [List.length_take]
    have := D.li
    omega
  · show gs.length ≤ 40
    rw [D.glen]
    have := D.lm
    omega
  · show rs.length ≤ 8
    rw [D.rlen]
    have := D.lr
    omega
  · exact D.lo
theorem Drawn.plan (D : Drawn zs i r m gs rs os) : PlanOk (cirOf zs i gs rs os) gs := by
  refine ⟨.refl _, fun pre g post e y hy hk => ?_⟩
  have hj : gs[pre.length]? = some g := by rw [e]; simp
  have q := take_idx ((D.gk _ g hj).2 y hy)
  obtain ⟨g', hg', rfl⟩ := gate_at hk
  have hg' : g' ∈ gs := hg'
  obtain ⟨j', hj'⟩ := List.mem_iff_getElem?.mp hg'
  rw [idx_at D.nd (D.at_ hj')] at q
  have lt : j' < pre.length := by omega
  rw [e, List.getElem?_append_left lt] at hj'
  exact List.mem_map.mpr ⟨g', List.mem_of_getElem? hj', rfl⟩
end
def plK (l1 l2 l3 l4 : Addr) : List (Key × V) := [(.inr "ins", .ref l1), (.inr "nodes", .ref l2), (.inr "regs", .ref l3), (.inr "outs", .ref l4)]
/-- three lists of a plan -/
structure Three (K : PySem.W.Frag) (H : Hp) (l1 l2 l3 : Addr) (ins : List Str) (gs : List Gt) (rs : List Rg) : Prop where
  q1 : H l1 = some (.lst (ins.map V.str))
  q2 : ∃ xs, H l2 = some (.lst xs) ∧ DpAll K H xs (gs.map gateD)
  q3 : ∃ xs, H l3 = some (.lst xs) ∧ DpAll K H xs (rs.map regD)
section
variable {K : PySem.W.Frag} {H H' : Hp} {p d l1 l2 l3 : Addr} {ins : List Str} {gs : List Gt} {rs : List Rg}
theorem lst_ne {a : Addr} {xs : List V} {ds : List PyData} (hp : Pot H p) (h : H a = some (.lst xs)) (c : DpAll K H xs ds) (n : ds.all notI = true) : a ≠ p := fun q => by
  obtain ⟨i, j, h0, _⟩ := hp
  rw [q, h0] at h
  obtain rfl := HO.lst.inj (Option.some.inj h)
  cases c with
  | cons h1 _ =>
    cases h1
    simp [notI] at n
theorem strs_ne {a : Addr} {zs : List Str} (hp : Pot H p) (h : H a = some (.lst (zs.map V.str))) : a ≠ p := fun q => by
  obtain ⟨i, j, h0, _⟩ := hp
  rw [q, h0] at h
  have q3 := HO.lst.inj (Option.some.inj h)
  cases zs with
  | nil => cases q3
  | cons a r => cases q3
theorem Three.ex (h : Three K H l1 l2 l3 ins gs rs) (e : Ex H H') : Three K H' l1 l2 l3 ins gs rs := by
  obtain ⟨q1, ⟨x2, q2, d2⟩, ⟨x3, q3, d3⟩⟩ := h
  exact ⟨e _ _ q1, ⟨x2, e _ _ q2, dpAll_ex e d2⟩, ⟨x3, e _ _ q3, dpAll_ex e d3⟩⟩
theorem Three.but (h : Three K H l1 l2 l3 ins gs rs) (hp : Pot H p) (e : ExBut p H H') : Three K H' l1 l2 l3 ins gs rs := by
  obtain ⟨q1, ⟨x2, q2, d2⟩, ⟨x3, q3, d3⟩⟩ := h
  exact ⟨e _ _ q1 (strs_ne hp q1), ⟨x2, e _ _ q2 (lst_ne hp q2 d2 (all_notI (fun _ => rfl) _)), p_dpAll hp e (npDs_map np_gate _) d2⟩, ⟨x3, e _ _ q3 (lst_ne hp q3 d3 (all_notI (fun _ => rfl) _)), p_dpAll hp e (npDs_map (fun _ => rfl) _) d3⟩⟩
theorem Three.dk {kvs : List (Key × V)} (h : Three K H l1 l2 l3 ins gs rs) (e : ExBut d H H') (hd : H d = some (.dK kvs)) : Three K H' l1 l2 l3 ins gs rs := by
  obtain ⟨q1, ⟨x2, q2, d2⟩, ⟨x3, q3, d3⟩⟩ := h
  have ne : ∀ {a : Addr} {xs : List V}, H a = some (.lst xs) → a ≠ d := fun h q => by
    rw [q, hd] at h
    cases h
  exact ⟨e _ _ q1 (ne q1), ⟨x2, e _ _ q2 (ne q2), d_dpAll e hd d2⟩, ⟨x3, e _ _ q3 (ne q3), d_dpAll e hd d3⟩⟩
end
/-- a plan, as it stands -/
def PlanAt (K : PySem.W.Frag) (H : Hp) (d : Addr) (c : Cir) : Prop := ∃ l1 l2 l3 l4, H d = some (.dK (plK l1 l2 l3 l4)) ∧ Three K H l1 l2 l3 c.ins c.gates c.regs ∧ H l4 = some (.lst (c.outs.map V.str))
theorem PlanAt.ex {K : PySem.W.Frag} {H H' : Hp} {d : Addr} {c : Cir} (h : PlanAt K H d c) (e : Ex H H') : PlanAt K H' d c := by
  obtain ⟨l1, l2, l3, l4, h0, h1, h4⟩ := h
  exact ⟨l1, l2, l3, l4, e _ _ h0, h1.ex e, e _ _ h4⟩
theorem PlanAt.but {K : PySem.W.Frag} {H H' : Hp} {d p : Addr} {c : Cir} (h : PlanAt K H d c) (hp : Pot H p) (e : ExBut p H H') : PlanAt K H' d c := by
  obtain ⟨l1, l2, l3, l4, h0, h1, h4⟩ := h
  exact ⟨l1, l2, l3, l4, e _ _ h0 (pot_ne hp h0 fun _ q => by cases q), h1.but hp e, e _ _ h4 (strs_ne hp h4)⟩
theorem PlO.pot {L p : Addr} {H H' : Hp} {ts : List (Addr × Addr)} {gs : List Gt} (h : PlO L H ts gs) (hp : Pot H p) (e : ExBut p H H') : PlO L H' ts gs := Paired.mono (fun t g q => ⟨e _ _ q.1 (pot_ne hp q.1 fun _ z => by cases z), e _ _ q.2.1 (fun z => by
  obtain ⟨i, j, h0, _⟩ := hp
  have q2 := q.2.1
  rw [z, h0] at q2
  have q3 := Option.some.inj q2
  have q4 := HO.lst.inj q3
  cases hg : g.2.2 with
  | nil => rw [hg] at q4; cases q4
  | cons a r => rw [hg] at q4; cases q4), q.2.2.1, q.2.2.2⟩) h
/-- a comprehension that draws -/
theorem lc_draws {te : TE} {σ : L2.St} {j : Nat} {H : Hp} {D p : Addr} {n : Nat} {A : V → Prop} {Qd : Hp → Prop} (hn : n ≤ 1000) (hp : Pot H p) (nD : H D = none)
    (ht : ∀ (i : Nat) (Hx : Hp) (Q : VK), i < n → ExBut p H Hx → Pot Hx p → (∀ v H', A v → ExBut p Hx H' → Pot H' p → Q v H') → te ((wipe σ [j]).set j (some (.int ((0 : Int) + (i : Int))))) Hx Q)
    (hd : ∀ H' vs, ExBut p H H' → Pot H' p → H' D = some (.lst vs) → vs.length = n → (∀ v ∈ vs, A v) → Qd H') : LcG (Itr 0 n) j te σ H D Qd := by
  have pD : D ≠ p := fun q => by
    obtain ⟨x, y, z, _⟩ := hp
    rw [q, z] at nD
    cases nD
  refine lc_it (g := gName j) (tt := tYes) (te := te) (vs := [j]) (σ := σ) walk_range (fun i Hc => ExBut p H Hc ∧ Pot Hc p ∧ ∃ vs, Hc D = some (.lst vs) ∧ vs.length = i ∧ ∀ v ∈ vs, A v) ⟨ExBut.of (Ex.new nD), hp.ex (Ex.new nD), [], upd_same, rfl, fun v h => by cases h⟩ (fun i Hc _ _ => trivial) (fun i x Ha Hb hi q yy => ?_) (fun Hc q => ?_)
  · obtain ⟨rfl, rfl⟩ := yy
    obtain ⟨e, hpc, vs, hD, lv, av⟩ := q
    refine ⟨wipe_set σ j _, ?_⟩
    refine ht i Hb _ hi e hpc fun v H' hv e2 hp2 => ⟨vs, e2 _ _ hD pD, Nat.lt_of_le_of_lt (show _ ≤ 1000 by omega) (by decide), ?_, ?_, vs ++ [v], upd_same, by rw [List.length_append, lv]; rfl, fun y hy => ?_⟩
    · intro b o hb n
      rw [upd_ne (fun q => by rw [q, nD] at hb; cases hb)]
      exact e2 _ _ (e _ _ hb n) n
    · obtain ⟨x, y, z, w⟩ := hp2
      exact ⟨x, y, by rw [upd_ne (Ne.symm pD)]; exact z, w⟩
    · rcases List.mem_append.mp hy with hy | hy
      · exact av y hy
      · rw [List.mem_singleton.mp hy]
        exact hv
  · obtain ⟨e, hpc, vs, hD, lv, av⟩ := q
    exact hd Hc vs e hpc hD lv av
end W

set_option Elab.async false
set_option linter.all false
set_option maxRecDepth 100000
set_option maxHeartbeats 8000000
namespace W
open PySem PySem.Spec PyProof.Rows L2 Evl G C
/-- small data: what is shown of it is short -/
structure Wt (d : PyData) (n e : Nat) : Prop where
  lv : d.leavesShort 8 = true
  wt : d.weight ≤ n
  sh : d.showable = true
  dp : d.depth ≤ e
  cl : d.canLay0 = true
theorem Wt.mono {d : PyData} {n e n' e' : Nat} (h : Wt d n e) (a : n ≤ n') (b : e ≤ e') : Wt d n' e' := ⟨h.lv, Nat.le_trans h.wt a, h.sh, Nat.le_trans h.dp b, h.cl⟩
theorem Wt.len {d : PyData} {n e : Nat} (h : Wt d n e) (a : n ≤ 9000) : d.shown.length ≤ 100000 := by
  have := PyData.shown_le 8 (by decide) d h.lv
  have := h.wt
  omega
theorem Wt.shaped {d : PyData} {n e : Nat} (h : Wt d n e) (b : e ≤ 40) : SeqAt.shaped d = true := by
  unfold SeqAt.shaped
  rw [h.cl, Bool.true_and]
  have := h.dp
  exact decide_eq_true (by omega)
theorem wt_all {n e : Nat} : ∀ {ds : List PyData}, (∀ d ∈ ds, Wt d n e) → PyData.leavesShortAll 8 ds = true ∧ PyData.weightAll ds ≤ ds.length * (n + 1) ∧ PyData.showableAll ds = true ∧ PyData.depthAll ds ≤ e ∧ PyData.canLayAll0 ds = true
  | [], _ => ⟨rfl, Nat.zero_le _, rfl, Nat.zero_le _, rfl⟩
  | d :: ds, h => by
    obtain ⟨a1, a2, a3, a4, a5⟩ := wt_all (ds := ds) fun x hx => h x (List.mem_cons_of_mem _ hx)
    have b := h d List.mem_cons_self
    refine ⟨?_, ?_, ?_, ?_, ?_⟩
    · show (PyData.leavesShort 8 d && PyData.leavesShortAll 8 ds) = true
      rw [b.lv, a1]
      rfl
    · show PyData.weight d + 1 + PyData.weightAll ds ≤ (ds.length + 1) * (n + 1)
      have := b.wt
      rw [Nat.succ_mul]
      omega
    · show (PyData.showable d && PyData.showableAll ds) = true
      rw [b.sh, a3]
      rfl
    · show max (PyData.depth d) (PyData.depthAll ds) ≤ e
      exact Nat.max_le.mpr ⟨b.dp, a4⟩
    · show (PyData.canLay0 d && PyData.canLayAll0 ds) = true
      rw [b.cl, a5]
      rfl
theorem Wt.list {ds : List PyData} {n e m : Nat} (h : ∀ d ∈ ds, Wt d n e) (l : ds.length ≤ m) : Wt (.list ds) (m * (n + 1)) (e + 1) := by
  obtain ⟨a1, a2, a3, a4, a5⟩ := wt_all h
  exact ⟨a1, Nat.le_trans a2 (Nat.mul_le_mul_right _ l), a3, by show PyData.depthAll ds + 1 ≤ e + 1; omega, a5⟩
theorem Wt.tuple {ds : List PyData} {n e m : Nat} (h : ∀ d ∈ ds, Wt d n e) (l : ds.length ≤ m) : Wt (.tuple ds) (m * (n + 1)) (e + 1) := by
  obtain ⟨a1, a2, a3, a4, a5⟩ := wt_all h
  exact ⟨a1, Nat.le_trans a2 (Nat.mul_le_mul_right _ l), a3, by show PyData.depthAll ds + 1 ≤ e + 1; omega, a5⟩
theorem Wt.none : Wt .none 0 0 := ⟨rfl, Nat.zero_le _, rfl, Nat.zero_le _, rfl⟩
theorem Wt.bit {b : Int} (h : isBt b) : Wt (.int b) 1 0 := by
  rcases h with rfl | rfl
  · exact ⟨by decide +kernel, by decide +kernel, by decide +kernel, by decide +kernel, rfl⟩
  · exact ⟨by decide +kernel, by decide +kernel, by decide +kernel, by decide +kernel, rfl⟩
theorem small_128 {c : Nat} (h : (smalls.contains c || digs.contains c) = true) : c < 128 := by
  have : c ∈ smalls ++ digs := by
    rw [Bool.or_eq_true] at h
    rcases h with h | h
    · exact List.mem_append_left _ (List.contains_iff_mem.mp h)
    · exact List.mem_append_right _ (List.contains_iff_mem.mp h)
  have all : ∀ c ∈ smalls ++ digs, c < 128 := by decide
  exact all c this
theorem Wt.str {z : Str} (h : nameOk z) : Wt (.str z) 12 0 := by
  have short := h.short
  have all : ∀ c ∈ z.cps.toList, c < 128 := by
    unfold nameOk nameL at h
    intro c hc
    split at h
    · next e => rw [e] at hc; cases hc
    · next a r e =>
      rw [Bool.and_eq_true, List.all_eq_true] at h
      rw [e] at hc
      exact small_128 (h.2 c hc)
  refine ⟨?_, short, rfl, Nat.le_refl _, ?_⟩
  · show z.cps.toList.all (fun c => decide (c < 16 ^ 8)) = true
    rw [List.all_eq_true]
    exact fun c hc => decide_eq_true (Nat.lt_trans (all c hc) (by decide))
  · show z.cps.all (· < 0x110000) = true
    rw [← Array.all_toList, List.all_eq_true]
    exact fun c hc => decide_eq_true (Nat.lt_trans (all c hc) (by decide))
theorem kind_name {k : Str} {n : Nat} (h : kindsL.lookup k = some n) : nameOk k := by
  rcases kinds_cases h with ⟨rfl, _⟩ | ⟨rfl, _⟩ | ⟨rfl, _⟩ | ⟨rfl, _⟩ | ⟨rfl, _⟩ | ⟨rfl, _⟩ | ⟨rfl, _⟩ <;> (show nameL _ = true; decide +kernel)
theorem Wt.txts {zs : List Str} {m : Nat} (h : ∀ z ∈ zs, nameOk z) (l : zs.length ≤ m) : Wt (.list (txtD zs)) (m * 13) 1 := Wt.list (fun d hd => by
  obtain ⟨z, hz, rfl⟩ := List.mem_map.mp hd
  exact Wt.str (h z hz)) (by rw [txtD, List.length_map]; exact l)
theorem Wt.bits {bs : List Int} {m : Nat} (h : ∀ b ∈ bs, isBt b) (l : bs.length ≤ m) : Wt (bitsD bs) (m * 2) 1 := Wt.tuple (fun d hd => by
  obtain ⟨b, hb, rfl⟩ := List.mem_map.mp hd
  exact Wt.bit (h b hb)) (by rw [List.length_map]; exact l)
theorem Wt.gate {g : Gt} (h : gateOk g) : Wt (gateD g) 120 2 := by
  have l3 := kinds_few h.2.1
  refine Wt.mono (Wt.tuple (n := 39) (e := 1) (m := 3) (fun d hd => ?_) (Nat.le_refl 3)) (by decide) (Nat.le_refl _)
  have e : d = .str g.1 ∨ d = .str g.2.1 ∨ d = .list (txtD g.2.2) := by simpa using hd
  rcases e with rfl | rfl | rfl
  · exact (Wt.str h.1).mono (by decide) (by decide)
  · exact (Wt.str (kind_name h.2.1)).mono (by decide) (by decide)
  · exact (Wt.txts (m := 3) h.2.2 l3).mono (by decide) (by decide)
theorem Wt.reg {r : Rg} (h : regOk r) : Wt (regD r) 39 1 := by
  refine Wt.mono (Wt.tuple (n := 12) (e := 0) (m := 3) (fun d hd => ?_) (Nat.le_refl 3)) (by decide) (Nat.le_refl _)
  have e : d = .str r.1 ∨ d = .int r.2.1 ∨ d = .str r.2.2 := by simpa using hd
  rcases e with rfl | rfl | rfl
  · exact Wt.str h.1
  · exact (Wt.bit h.2.1).mono (by decide) (by decide)
  · exact Wt.str h.2.2
theorem eqv_txt_nil (zs : List Str) : PyData.eqv (.list (txtD zs)) (.list (txtD [])) = zs.isEmpty := by
  cases zs with
  | nil => rfl
  | cons a r => rfl
end W

set_option Elab.async false
set_option linter.all false
set_option maxRecDepth 100000
set_option maxHeartbeats 16000000
namespace W
open PySem PySem.Spec PyProof.Rows L2 Evl G C
section
variable {P : Program} {w : World} {K : PySem.W.Frag} {mg : Str → Option Value} {base : Heap}
def spPlan (K : PySem.W.Frag) : Sp := fun vs H Q _ => ∃ p : Addr, vs = [.ref p, .int 6] ∧ Pot H p ∧ ∀ d c H', Good c → (∀ z ∈ names c, z ∈ TG) → PlanOk c c.gates → c.gates.length ≤ 6 → c.ins.length ≤ 3 → c.regs.length ≤ 3 → H d = none → ExBut p H H' → Pot H' p → PlanAt K H' d c → Q (.ref d) H'
abbrev nPlan : List Str := ["_law_pot_here", "_law_most", "_law_tags_here", "_law_ins", "_law_regs", "_law_many", "_law_found", "_law_known", "_law_tag", "_law_sorts", "_law_sort", "_law_turn"]
theorem scPlan : FnScope nPlan ["_law_pot_here", "_law_most"] (defScope dPlan) := ⟨rfl, rfl, rfl, by decide +kernel, rfl, by decide +kernel, by decide +kernel⟩
/-- a test of names against the empty list, and what hangs on it -/
theorem rd_ifNil {σ : L2.St} {H : Hp} {Q : VK} {i : Nat} {a : Addr} {ks : List Str} {ta tb : TE} (h : σ[i]? = some (some (.ref a))) (hl : H a = some (.lst (ks.map V.str))) (ok : ∀ z ∈ ks, nameOk z) (few : ks.length ≤ 100)
    (k : ∀ H', Ex H H' → if ks ≠ [] then ta σ H' Q else tb σ H' Q) : tIf (tTest (tOp (rNeD K) (tVar i) (tLst tNil))) ta tb σ H Q := by
  refine ⟨_, h, (by show 0 ≤ sizeLine; decide), fun q nq => ?_⟩
  have e1 : Ex H (upd H q (.lst [])) := Ex.new nq
  refine ⟨.list (txtD ks), .list (txtD []), dp_txl (SqL.of (e1 _ _ hl)), dp_txl (SqL.of upd_same), (Wt.txts (m := 100) ok few).shaped (by decide), (Wt.txts (m := 0) (zs := []) (fun z h => by cases h) (by decide)).shaped (by decide), _, rfl, ?_⟩
  rw [eqv_txt_nil]
  have kk := k _ e1
  cases ks with
  | nil =>
    rw [if_neg (by simp)] at kk
    exact iteF kk
  | cons a r =>
    rw [if_pos (by simp)] at kk
    exact iteT kk
def sorts8 : List Str := ["not", "and", "or", "xor", "pick", "pick", "low", "high"]
def sorts2 : List Str := ["low", "high"]
theorem sorts8_ok : ∀ s ∈ sorts8, ∃ n, kindsL.lookup s = some n := by
  have : sorts8.all (fun s => (kindsL.lookup s).isSome) = true := by decide +kernel
  exact fun s hs => Option.isSome_iff_exists.mp (List.all_eq_true.mp this s hs)
theorem sorts2_ok : ∀ s ∈ sorts2, kindsL.lookup s = some 0 := by
  have : sorts2.all (fun s => decide (kindsL.lookup s = some 0)) = true := by decide +kernel
  exact fun s hs => of_decide_eq_true (List.all_eq_true.mp this s hs)
theorem rd_strs {σ : L2.St} {H : Hp} {Q : VK} {ta : TA} {ss : List Str} (h : ∀ R : List V → Hp → Prop, R (ss.map V.str) H → ta σ H R) (few : ss.length ≤ 100) (k : ∀ q H', Ex H H' → H q = none → H' q = some (.lst (ss.map V.str)) → Q (.ref q) H') : tLst ta σ H Q :=
  h _ ⟨by rw [List.length_map]; exact Nat.le_trans few (by decide), fun q nq => k q _ (Ex.new nq) nq upd_same⟩
theorem rd_sorts {σ : L2.St} {H : Hp} {Q : VK} {i : Nat} {a : Addr} {ks : List Str} {ta tb : TA} (h : σ[i]? = some (some (.ref a))) (hl : H a = some (.lst (ks.map V.str))) (ok : ∀ z ∈ ks, nameOk z) (few : ks.length ≤ 100)
    (h8 : ∀ (H : Hp) (R : List V → Hp → Prop), R (sorts8.map V.str) H → ta σ H R) (h2 : ∀ (H : Hp) (R : List V → Hp → Prop), R (sorts2.map V.str) H → tb σ H R)
    (k : ∀ ss q Hs, Ex H Hs → H q = none → Hs q = some (.lst (ss.map V.str)) → (∀ s ∈ ss, ∃ n, kindsL.lookup s = some n ∧ (ks ≠ [] ∨ n = 0)) → ss ≠ [] → ss.length ≤ 8 → Q (.ref q) Hs) : tIf (tTest (tOp (rNeD K) (tVar i) (tLst tNil))) (tLst ta) (tLst tb) σ H Q := by
  refine rd_ifNil h hl ok few fun H' e => ?_
  by_cases c : ks ≠ []
  · rw [if_pos c]
    exact rd_strs (h8 H') (by decide) fun q H2 e2 nq hq => k sorts8 q H2 (e.trans e2) (ex_none e nq) hq (fun s hs => (sorts8_ok s hs).imp fun n hn => ⟨hn, .inl c⟩) (by decide) (by decide)
  · rw [if_neg c]
    exact rd_strs (h2 H') (by decide) fun q H2 e2 nq hq => k sorts2 q H2 (e.trans e2) (ex_none e nq) hq (fun s hs => ⟨0, sorts2_ok s hs, .inr rfl⟩) (by decide) (by decide)
theorem pot_new {H : Hp} {p a : Addr} (hp : Pot H p) (n : H a = none) : a ≠ p := fun q => by
  obtain ⟨x, y, z, _⟩ := hp
  rw [q, z] at n
  cases n
theorem Pot.upd {H : Hp} {p a : Addr} {o : HO} (hp : Pot H p) (n : a ≠ p) : Pot (upd H a o) p := by
  obtain ⟨x, y, z, w⟩ := hp
  exact ⟨x, y, by rw [upd_ne (Ne.symm n)]; exact z, w⟩
theorem strs_of {A : Str → Prop} : ∀ {vs : List V}, (∀ v ∈ vs, ∃ y, A y ∧ v = V.str y) → ∃ ws : List Str, vs = ws.map V.str ∧ ∀ y ∈ ws, A y
  | [], _ => ⟨[], rfl, fun y h => by cases h⟩
  | v :: vs, h => by
    obtain ⟨y, hy, rfl⟩ := h v List.mem_cons_self
    obtain ⟨ws, rfl, hw⟩ := strs_of (vs := vs) fun v hv => h v (List.mem_cons_of_mem _ hv)
    exact ⟨y :: ws, rfl, fun x hx => (List.mem_cons.mp hx).elim (fun e => e ▸ hy) (hw x)⟩
theorem take_ne {zs : List Str} {n : Nat} (h : n ≤ zs.length) (p : 0 < n) : zs.take n ≠ [] := fun q => by
  have := congrArg List.length q
  rw [List.length_take, List.length_nil, Nat.min_eq_left h] at this
  omega
theorem okPlan {f : Addr} {fd : FuncData} (F : At K mg "_law_plan" dPlan ["_law_pot_here", "_law_most"] f fd) (T : Txt K mg) : FnOk P w K mg base CX0 3 f fd ["_law_pot_here", "_law_most"] (spPlan K) := by
  obtain ⟨fM, gM, FM⟩ := T.mixed
  obtain ⟨fD, gD, FD⟩ := T.draw
  obtain ⟨fK, gK, FK⟩ := T.pick
  obtain ⟨fZ, gZ, FZ⟩ := T.size
  have GM : FnOk P w K mg base CX0 2 fM gM ["_law_pot_here", "_law_some"] (spMixed K) := okMixed FM T
  have GD : FnOk P w K mg base CX0 2 fD gD ["_law_pot_here", "_law_many"] spDraw := (okDraw FD T).mono (by decide)
  have GP : FnOk P w K mg base CX0 2 fK gK ["_law_pot_here", "_law_some"] (spPickL K) := okPickL FK T
  have GZ : FnOk P w K mg base CX0 2 fZ gZ ["_law_sort"] spSize := (okSize FZ T).mono (by decide)
  refine F.fn.ok scPlan (fun vs H Q E h => ?_) (fun cdv A outer s H vs Q E hr h => ?_)
  · obtain ⟨p, rfl, _⟩ := h
    rfl
  · obtain ⟨p, rfl, hp, k⟩ := h
    have hu := hu_of hr
    have hu64 : (cxOf CX0 P w K mg base nPlan "_law_plan" (defScope dPlan) f cdv A outer s H E).nox.A.units + 64 < cLine := by have := hr.units; show (A.deeper _).units + 64 < cLine; omega
    have nds := scPlan.nd
    refine ⟨_, (pss_cons (ps_set (i := 2) nds rfl (Or.inl rfl) (pe_call GM hr (by rfl) FM.gl FM.fn.kp FM.bi .nil pass0 (pa_cons (pv 0) (pa_cons (pe_lst (pa_cons pe_str (pa_cons pe_str (pa_cons pe_str (pa_cons pe_str (pa_cons pe_str (pa_cons pe_str (pa_cons pe_str (pa_cons pe_str (pa_cons pe_str (pa_cons pe_str (pa_cons pe_str (pa_cons pe_str (pa_cons pe_str (pa_cons pe_str (pa_cons pe_str (pa_cons pe_str pa_nil))))))))))))))))) pa_nil))))
      (pss_cons (ps_par3 (i := 3) (j := 4) (l := 5) rfl nds rfl rfl rfl (by decide) (by decide) (by decide) (by rfl) (by rfl) (by rfl) (pa_cons (pe_call GD hr (by rfl) FD.gl FD.fn.kp FD.bi .nil pass0 (pa_cons (pv 0) (pa_cons pe_int pa_nil))) (pa_cons (pe_call GD hr (by rfl) FD.gl FD.fn.kp FD.bi .nil pass0 (pa_cons (pv 0) (pa_cons pe_int pa_nil))) (pa_cons (pe_call GD hr (by rfl) FD.gl FD.fn.kp FD.bi .nil pass0 (pa_cons (pv 0) (pa_cons (pe_op op_add (pv 1) pe_int) pa_nil))) pa_nil))) (by rfl))
      (pss_cons (ps_set (i := 6) nds rfl (Or.inl rfl) (pe_disp (pps_cons pe_str (pe_slice sl_list (pv 2) po_none (po_some (pv 3))) (pps_cons pe_str (pe_lst pa_nil) (pps_cons pe_str (pe_lst pa_nil) (pps_cons pe_str (pe_lst pa_nil) pps_nil)))) (by rfl) (by rfl) (by simp) (by decide)))
      (pss_cons (ps_set (i := 7) nds rfl (Or.inr rfl) (pe_slice sl_list (pv 2) po_none (po_some (pe_op op_add (pv 3) (pv 4)))))
      (pss_cons (ps_for PassesOwn.never rfl (pi_list (pe_slice sl_list (pv 2) (po_some (pe_op op_add (pv 3) (pv 4))) (po_some (pe_op op_add (pe_op op_add (pv 3) (pv 4)) (pv 5))))) (pg_name (i := 8) nds rfl (Or.inl rfl)) (pss_cons (ps_set (i := 9) nds rfl (Or.inl rfl) (pe_ifExp (pt_cmpR (op_neD hu64) (pv 7) (pe_lst pa_nil) (nomark _)) (pe_lst (pa_cons pe_str (pa_cons pe_str (pa_cons pe_str (pa_cons pe_str (pa_cons pe_str (pa_cons pe_str (pa_cons pe_str (pa_cons pe_str pa_nil))))))))) (pe_lst (pa_cons pe_str (pa_cons pe_str pa_nil)))))
      (pss_cons (ps_set (i := 10) nds rfl (Or.inl rfl) (pe_call GP hr (by rfl) FK.gl FK.fn.kp FK.bi .nil pass0 (pa_cons (pv 0) (pa_cons (pv 9) pa_nil))))
      (pss_cons (ps_expr (pe_bm PySem.F.plainAttrs_list PySem.F.slot_list_append PySem.F.type_list_append mt_append (pe_dget hu (pv 6) pe_str (fun _ _ => rfl)) (pa_cons (pe_tup (pa_cons (pv 8) (pa_cons (pv 10) (pa_cons (pe_lc (own := [("_law_turn", 11)]) (g := gName 11) rfl nds (pi_range1 (by rfl) T.range (pa_cons (pe_call GZ hr (by rfl) FZ.gl FZ.fn.kp FZ.bi .nil pass0 (pa_cons (pv 10) pa_nil)) pa_nil)) (blkOk_by (own := [("_law_turn", 11)]) (N := nPlan) (sc := defScope dPlan) (by decide +kernel)) (fun _ _ _ _ _ => pg_name (i := 11) nds rfl (Or.inl rfl)) (fun _ _ _ _ _ => pts_nil) (fun _ _ _ _ _ => (pe_call GP hr (by rfl) FK.gl FK.fn.kp FK.bi .nil pass0 (pa_cons (pv 0) (pa_cons (pv 7) pa_nil))))) pa_nil)))) pa_nil)))
      (pss_one (ps_set (i := 7) nds rfl (Or.inr rfl) (pe_op op_cat (pv 7) (pe_lst (pa_cons (pv 8) pa_nil)))))))))
      (pss_cons (ps_dput hu (pv 6) pe_str (pe_lc (own := [("_law_tag", 8)]) (g := gName 8) rfl nds (pi_list (pe_slice sl_list (pv 2) (po_some (pv 3)) (po_some (pe_op op_add (pv 3) (pv 4))))) (blkOk_by (own := [("_law_tag", 8)]) (N := nPlan) (sc := defScope dPlan) (by decide +kernel)) (fun _ _ _ _ _ => pg_name (i := 8) nds rfl (Or.inl rfl)) (fun _ _ _ _ _ => pts_nil) (fun _ _ _ _ _ => (pe_tup (pa_cons (pv 8) (pa_cons (pe_call GD hr (by rfl) FD.gl FD.fn.kp FD.bi .nil pass0 (pa_cons (pv 0) (pa_cons pe_int pa_nil))) (pa_cons (pe_call GP hr (by rfl) FK.gl FK.fn.kp FK.bi .nil pass0 (pa_cons (pv 0) (pa_cons (pv 7) pa_nil))) pa_nil)))))) rfl)
      (pss_cons (ps_dput hu (pv 6) pe_str (pe_ifExp (pt_cmpR (op_neD hu64) (pv 7) (pe_lst pa_nil) (nomark _)) (pe_lc (own := [("_law_turn", 11)]) (g := gName 11) rfl nds (pi_range1 (by rfl) T.range (pa_cons (pe_call GD hr (by rfl) FD.gl FD.fn.kp FD.bi .nil pass0 (pa_cons (pv 0) (pa_cons pe_int pa_nil))) pa_nil)) (blkOk_by (own := [("_law_turn", 11)]) (N := nPlan) (sc := defScope dPlan) (by decide +kernel)) (fun _ _ _ _ _ => pg_name (i := 11) nds rfl (Or.inl rfl)) (fun _ _ _ _ _ => pts_nil) (fun _ _ _ _ _ => (pe_call GP hr (by rfl) FK.gl FK.fn.kp FK.bi .nil pass0 (pa_cons (pv 0) (pa_cons (pv 7) pa_nil))))) (pe_lst pa_nil)) rfl)
      (pss_one (ps_ret (pv 6)))))))))), ?_⟩
    refine ⟨_, rfl, (by show 16 ≤ sizeLine; decide), fun t0 n0 => ?_⟩
    have e1 : Ex H (upd H t0 (.lst (TG.map V.str))) := Ex.new n0
    have t0p : t0 ≠ p := fun q => by
      obtain ⟨x, y, z, _⟩ := hp
      rw [q, z] at n0
      cases n0
    refine ⟨p, t0, TG.map V.str, rfl, hp.ex e1, SqL.of upd_same, t0p, by decide, fun tg ys H2 pm ng e2' hp2 htg => ?_⟩
    obtain ⟨zs, rfl, pmz⟩ := perm_str pm
    have e2 : ExBut p H H2 := (ExBut.of e1).trans e2'
    have ngH : H tg = none := ex_none e1 ng
    have tgp : tg ≠ p := fun q => by
      obtain ⟨x, y, z, _⟩ := hp
      rw [q, z] at ngH
      cases ngH
    have lz : zs.length = 16 := by rw [pmz.length_eq]; rfl
    clear pm ng e2' e1
    refine ⟨_, rfl, p, 4, rfl, hp2, by decide, by decide, fun r1 H3 a0 a1 e3 hp3 => ⟨_, rfl, p, 4, rfl, hp3, by decide, by decide, fun r2 H4 b0 b1 e4 hp4 => ⟨_, rfl, _, rfl, _, _, rfl, rfl, p, 7, rfl, hp4, by decide, by decide, fun r3 H5 c0 c1 e5 hp5 => ⟨_, _, _, rfl, ?_⟩⟩⟩⟩
    obtain ⟨i, rfl⟩ := Int.eq_ofNat_of_zero_le a0
    obtain ⟨r, rfl⟩ := Int.eq_ofNat_of_zero_le b0
    obtain ⟨m, rfl⟩ := Int.eq_ofNat_of_zero_le c0
    have li : i ≤ 3 := by omega
    have lr : r ≤ 3 := by omega
    have lm : m ≤ 6 := by omega
    have x5 : ExBut p H H5 := ((e2.trans e3).trans e4).trans e5
    have htg5 : H5 tg = some (.lst (zs.map V.str)) := e5 _ _ (e4 _ _ (e3 _ _ htg tgp) tgp) tgp
    clear e2 e3 e4 e5 hp2 hp3 hp4 htg a0 a1 b0 b1 c0 c1
    refine fun d nd => ?_
    have f1 : Ex H5 (upd H5 d (.dK [])) := Ex.new nd
    have hd6 : (upd H5 d (.dK [])) d = some (.dK []) := upd_same
    generalize upd H5 d (.dK []) = H6 at f1 hd6
    refine ⟨_, rfl, _, rfl, _, rfl, tg, _, rfl, SqL.of (f1 _ _ htg5), fun l1 n1 => ?_⟩
    rw [cut_to (show i ≤ zs.length by omega)]
    have f2 : Ex H6 (upd H6 l1 (.lst ((zs.take i).map V.str))) := Ex.new n1
    have hl1 : (upd H6 l1 (.lst ((zs.take i).map V.str))) l1 = some (.lst ((zs.take i).map V.str)) := upd_same
    generalize upd H6 l1 (.lst ((zs.take i).map V.str)) = H7 at f2 hl1
    refine ⟨(by show 0 ≤ sizeLine; decide), fun l2 n2 => ?_⟩
    have f3 : Ex H7 (upd H7 l2 (.lst [])) := Ex.new n2
    have hl2 : (upd H7 l2 (.lst [])) l2 = some (.lst []) := upd_same
    generalize upd H7 l2 (.lst []) = H8 at f3 hl2
    refine ⟨(by show 0 ≤ sizeLine; decide), fun l3 n3 => ?_⟩
    have f4 : Ex H8 (upd H8 l3 (.lst [])) := Ex.new n3
    have hl3 : (upd H8 l3 (.lst [])) l3 = some (.lst []) := upd_same
    generalize upd H8 l3 (.lst []) = H9 at f4 hl3
    refine ⟨(by show 0 ≤ sizeLine; decide), fun l4 n4 => ?_⟩
    have f5 : Ex H9 (upd H9 l4 (.lst [])) := Ex.new n4
    have hl4 : (upd H9 l4 (.lst [])) l4 = some (.lst []) := upd_same
    generalize upd H9 l4 (.lst []) = H10 at f5 hl4
    refine ⟨f5 _ _ (f4 _ _ (f3 _ _ (f2 _ _ hd6))), plK l1 l2 l3 l4, rfl, (by show 4 ≤ 15; decide), ?_⟩
    have mg0 : mergeK [] (plK l1 l2 l3 l4) = plK l1 l2 l3 l4 := by rfl
    rw [mg0]
    have x510 : Ex H5 H10 := (((f1.trans f2).trans f3).trans f4).trans f5
    have l1d : l1 ≠ d := fun q => by rw [q, hd6] at n1; cases n1
    have l2d : l2 ≠ d := fun q => by rw [q, f2 _ _ hd6] at n2; cases n2
    have l21 : l2 ≠ l1 := fun q => by rw [q, hl1] at n2; cases n2
    have x11 : Ex H5 (upd H10 d (.dK (plK l1 l2 l3 l4))) := x510.mut nd
    have hd11 : (upd H10 d (.dK (plK l1 l2 l3 l4))) d = some (.dK (plK l1 l2 l3 l4)) := upd_same
    have hl1b : (upd H10 d (.dK (plK l1 l2 l3 l4))) l1 = some (.lst ((zs.take i).map V.str)) := by rw [upd_ne l1d]; exact f5 _ _ (f4 _ _ (f3 _ _ hl1))
    have hl2b : (upd H10 d (.dK (plK l1 l2 l3 l4))) l2 = some (.lst []) := by rw [upd_ne l2d]; exact f5 _ _ (f4 _ _ hl2)
    have nl1 : H5 l1 = none := ex_none f1 n1
    have nl2 : H5 l2 = none := ex_none (f1.trans f2) n2
    clear n1 n2 n3 n4 hl1 hl2 hl3 hl4 hd6 f1 f2 f3 f4 f5 x510
    generalize upd H10 d (.dK (plK l1 l2 l3 l4)) = H11 at x11 hd11 hl1b hl2b
    -- what is new is no pot
    have np : ∀ {a : Addr}, H5 a = none → a ≠ p := fun {a} n q => by
      obtain ⟨x, y, z, _⟩ := hp5
      rw [q, z] at n
      cases n
    have dp := np nd
    have l1p := np nl1
    have l2p := np nl2
    have eir : (i : Int) + (r : Int) = ((i + r : Nat) : Int) := by omega
    have eirm : ((i + r : Nat) : Int) + (m : Int) = ((i + r + m : Nat) : Int) := by omega
    refine ⟨_, rfl, _, rfl, _, rfl, _, _, rfl, rfl, _, rfl, tg, _, rfl, SqL.of (x11 _ _ htg5), fun kn nkn => ?_⟩
    rw [eir, cut_to (show i + r ≤ zs.length by omega)]
    have e12 : Ex H11 (upd H11 kn (.lst ((zs.take (i + r)).map V.str))) := Ex.new nkn
    have hkn : (upd H11 kn (.lst ((zs.take (i + r)).map V.str))) kn = some (.lst ((zs.take (i + r)).map V.str)) := upd_same
    have knl2 : kn ≠ l2 := fun q => by rw [q, hl2b] at nkn; cases nkn
    have knd : kn ≠ d := fun q => by rw [q, hd11] at nkn; cases nkn
    have knp := np (ex_none x11 nkn)
    generalize upd H11 kn (.lst ((zs.take (i + r)).map V.str)) = H12 at e12 hkn
    have x12 := x11.trans e12
    refine ⟨_, rfl, _, rfl, _, rfl, _, _, rfl, rfl, _, rfl, _, rfl, _, rfl, _, _, rfl, rfl, _, rfl, _, _, rfl, rfl, _, rfl, tg, _, rfl, SqL.of (x12 _ _ htg5), fun tl ntl => ?_⟩
    rw [eir, eirm, cut_nat (show i + r ≤ i + r + m by omega) (show i + r + m ≤ zs.length by omega), show i + r + m - (i + r) = m by omega]
    have e13 : Ex H12 (upd H12 tl (.lst (((zs.drop (i + r)).take m).map V.str))) := Ex.new ntl
    have htl : (upd H12 tl (.lst (((zs.drop (i + r)).take m).map V.str))) tl = some (.lst (((zs.drop (i + r)).take m).map V.str)) := upd_same
    have tll2 : tl ≠ l2 := fun q => by rw [q, e12 _ _ hl2b] at ntl; cases ntl
    have tlp := np (ex_none x12 ntl)
    generalize upd H12 tl (.lst (((zs.drop (i + r)).take m).map V.str)) = H13 at e13 htl
    have x13 := x12.trans e13
    have tok : ∀ {n : Nat}, ∀ z ∈ zs.take n, nameOk z := fun z hz => tg_ok z (pmz.mem_iff.mp (List.mem_of_mem_take hz))
    refine ⟨tl, rfl, ⟨_, SqL.of htl⟩, ?_⟩
    refine for_list (K := K) (a := tl) (xs := ((zs.drop (i + r)).take m).map V.str) (fun k σ Hc => (∃ kn u8 u9 u10, σ = [some (.ref p), some (.int 6), some (.ref tg), some (.int (i : Int)), some (.int (r : Int)), some (.int (m : Int)), some (.ref d), some (.ref kn), u8, u9, u10, none] ∧ Hc kn = some (.lst ((zs.take (i + r + k)).map V.str)) ∧ kn ≠ p ∧ kn ≠ l2 ∧ kn ≠ d) ∧
        (∀ b o, H13 b = some o → b ≠ p → b ≠ l2 → Hc b = some o) ∧ Pot Hc p ∧ ∃ gs ts, gs.length = k ∧ Hc l2 = some (.lst (ts.map fun t => V.ref t.1)) ∧ PlO l2 Hc ts gs ∧ gs.map (fun g => g.1) = (zs.drop (i + r)).take k ∧
        (∀ j g, gs[j]? = some g → kindsL.lookup g.2.1 = some g.2.2.length ∧ ∀ y ∈ g.2.2, y ∈ zs.take (i + r + j)))
      ⟨⟨kn, _, _, _, rfl, e13 _ _ hkn, knp, knl2, knd⟩, fun b o h _ _ => h, hp5.ex x13, [], [], rfl, e13 _ _ (e12 _ _ hl2b), .nil, by simp, fun j g h => by simp at h⟩ (fun k σ Hc _ q => SqL.of (q.2.1 _ _ htl tlp tll2)) (fun k x σ Hc hx q => ?_) (fun σ Hc q => ?_)
    · obtain ⟨⟨kn, u8, u9, u10, rfl, hkn, knp, knl2, knd⟩, e, hpc, gs, ts, lg, h2, hts, gn, gk⟩ := q
      obtain ⟨z, ez, rfl⟩ := nth_map hx
      have kt : k < m := by
        have := (List.getElem?_eq_some_iff.mp ez).1
        rw [List.length_take] at this
        omega
      have ez2 : zs[i + r + k]? = some z := by
        rw [List.getElem?_take, if_pos kt, List.getElem?_drop] at ez
        exact ez
      have e1H : ∀ {a : Addr} {o : HO}, H5 a = some o → a ≠ p → Hc a = some o := fun {a o} h n => e _ _ (x13 _ _ h) n (fun q => by rw [q, nl2] at h; cases h)
      have hdc : Hc d = some (.dK (plK l1 l2 l3 l4)) := e _ _ (e13 _ _ (e12 _ _ hd11)) dp (Ne.symm l2d)
      refine rd_sorts (i := 7) rfl hkn tok (by rw [List.length_take]; omega) (fun _ _ h => h) (fun _ _ h => h) fun ss sl Hs es nsl hsl sok sne slen => ?_
      have slp := pot_new hpc nsl
      refine ⟨_, rfl, _, rfl, p, sl, _, rfl, hpc.ex es, SqL.of hsl, slp, by simpa using sne, by rw [List.length_map]; omega, fun v H3 hv e3 hp3 => ?_⟩
      obtain ⟨kd, hkd, rfl⟩ := List.mem_map.mp hv
      obtain ⟨n, hn, nn⟩ := sok kd hkd
      have n3 := kinds_few hn
      have keep3 : ∀ {a : Addr} {o : HO}, Hc a = some o → a ≠ p → H3 a = some o := fun h n => e3 _ _ (es _ _ h) n
      have ts3 : PlO l2 H3 ts gs := (hts.mono (ExBut.of es)).pot (hpc.ex es) e3
      refine ⟨_, rfl, d, .ref l2, rfl, DGet.k (k := Sum.inr "nodes") (keep3 hdc dp), .inl ⟨rfl, _, SqL.of (keep3 h2 l2p)⟩, ?_⟩
      refine ⟨_, rfl, _, rfl, _, rfl, kd, n, rfl, hn, fun H4 e4 => ⟨(n : Int), rfl, by omega, by omega, fun L nL => ?_⟩⟩
      have hp4 := hp3.ex e4
      have hkn4 := e4 _ _ (keep3 hkn knp)
      refine lc_draws (A := fun v => ∃ y, y ∈ zs.take (i + r + k) ∧ v = V.str y) (by omega) hp4 nL (fun i' Hx Q' hi ex hpx kk => ⟨_, rfl, _, rfl, p, kn, _, rfl, hpx, SqL.of (ex _ _ hkn4 knp), knp, ?_, by rw [List.length_map, List.length_take]; omega, fun v H' hv e hp' => kk v H' ?_ e hp'⟩) (fun H5' vs e5 hp5' hL lv av => ?_)
      · rcases nn with c | c
        · simpa using c
        · omega
      · obtain ⟨y, hy, rfl⟩ := List.mem_map.mp hv
        exact ⟨y, hy, rfl⟩
      obtain ⟨ws, rfl, hws⟩ := strs_of av
      rw [List.length_map] at lv
      have lws : n = ws.length := by omega
      refine ⟨(by show 3 ≤ sizeLine; decide), fun t nt => ?_⟩
      have e6 : Ex H5' (upd H5' t (.tup [.str z, .str kd, .ref L])) := Ex.new nt
      have ht6 : (upd H5' t (.tup [.str z, .str kd, .ref L])) t = some (.tup [.str z, .str kd, .ref L]) := upd_same
      have h25 : H5' l2 = some (.lst (ts.map fun t => V.ref t.1)) := e5 _ _ (e4 _ _ (keep3 h2 l2p)) l2p
      have tl2' : t ≠ l2 := fun q => by rw [q, h25] at nt; cases nt
      have Ll2 : L ≠ l2 := fun q => by rw [q, e4 _ _ (keep3 h2 l2p)] at nL; cases nL
      generalize upd H5' t (.tup [.str z, .str kd, .ref L]) = H6' at e6 ht6
      have keep6 : ∀ {a : Addr} {o : HO}, Hc a = some o → a ≠ p → H6' a = some o := fun h n => e6 _ _ (e5 _ _ (e4 _ _ (keep3 h n)) n)
      have ts6 : PlO l2 H6' ts gs := ((ts3.mono (ExBut.of e4)).pot hp4 e5).mono (ExBut.of e6)
      have h26 := e6 _ _ h25
      have lts := Paired.length hts
      refine ⟨l2, _, .ref t, rfl, rfl, h26, by rw [List.length_map]; exact Nat.lt_of_le_of_lt (show _ ≤ 1000 by omega) (by decide), ?_⟩
      have h27 : (upd H6' l2 (.lst ((ts.map fun t => V.ref t.1) ++ [.ref t]))) l2 = some (.lst ((ts ++ [(t, L)]).map fun t => V.ref t.1)) := by rw [upd_same, List.map_append]; rfl
      have ts7 : PlO l2 (upd H6' l2 (.lst ((ts.map fun t => V.ref t.1) ++ [.ref t]))) (ts ++ [(t, L)]) (gs ++ [(z, kd, ws)]) := Paired.snoc (ts6.mono ExBut.upd) ⟨by rw [upd_ne tl2']; exact ht6, by rw [upd_ne Ll2]; exact e6 _ _ hL, tl2', Ll2⟩
      have keep7 : ∀ {a : Addr} {o : HO}, Hc a = some o → a ≠ p → a ≠ l2 → (upd H6' l2 (.lst ((ts.map fun t => V.ref t.1) ++ [.ref t]))) a = some o := fun h n n2 => by rw [upd_ne n2]; exact keep6 h n
      have hp7 : Pot (upd H6' l2 (.lst ((ts.map fun t => V.ref t.1) ++ [.ref t]))) p := (hp5'.ex e6).upd l2p
      generalize upd H6' l2 (.lst ((ts.map fun t => V.ref t.1) ++ [.ref t])) = H7' at h27 ts7 keep7 hp7
      refine ⟨_, rfl, _, rfl, (by show 1 ≤ sizeLine; decide), fun q nq => ?_⟩
      have e8 : Ex H7' (upd H7' q (.lst [.str z])) := Ex.new nq
      have hq8 : (upd H7' q (.lst [.str z])) q = some (.lst [.str z]) := upd_same
      generalize upd H7' q (.lst [.str z]) = H8' at e8 hq8
      have hkn8 := e8 _ _ (keep7 hkn knp knl2)
      refine ⟨kn, q, _, _, rfl, rfl, hkn8, hq8, by rw [List.length_map, List.length_take]; exact Nat.le_trans (show _ ≤ 1000 by simp; omega) (by decide), fun kn2 nk2 => ?_⟩
      have e9 : Ex H8' (upd H8' kn2 (.lst (((zs.take (i + r + k)).map V.str) ++ [.str z]))) := Ex.new nk2
      have hk9 : (upd H8' kn2 (.lst (((zs.take (i + r + k)).map V.str) ++ [.str z]))) kn2 = some (.lst ((zs.take (i + r + (k + 1))).map V.str)) := by
        rw [upd_same, ← Nat.add_assoc, take_more ez2, List.map_append]
        rfl
      generalize upd H8' kn2 (.lst (((zs.take (i + r + k)).map V.str) ++ [.str z])) = H9' at e9 hk9
      have e79 := e8.trans e9
      refine ⟨⟨kn2, _, _, _, rfl, hk9, pot_new (hp7.ex e8) nk2, (fun q => by rw [q, e8 _ _ h27] at nk2; cases nk2), (fun q => by rw [q, e8 _ _ (keep7 hdc dp (Ne.symm l2d))] at nk2; cases nk2)⟩, fun b o h n1 n2 => e79 _ _ (keep7 (e _ _ h n1 n2) n1 n2), hp7.ex e79, gs ++ [(z, kd, ws)], ts ++ [(t, L)], by rw [List.length_append, lg]; rfl, e79 _ _ h27, ts7.mono (ExBut.of e79), ?_, ?_⟩
      · rw [List.map_append, gn]
        have q : (zs.drop (i + r))[k]? = some z := by rw [List.getElem?_drop]; exact ez2
        rw [take_more q]
        rfl
      · intro j g hj
        rcases Nat.lt_or_ge j gs.length with c | c
        · rw [List.getElem?_append_left c] at hj
          exact gk j g hj
        · rw [List.getElem?_append_right c] at hj
          have j0 : j - gs.length = 0 := by
            have := (List.getElem?_eq_some_iff.mp hj).1
            simp at this
            omega
          rw [j0] at hj
          simp at hj
          subst hj
          have jk : j = k := by omega
          rw [jk]
          exact ⟨by rw [hn, lws], hws⟩
    · obtain ⟨⟨kn, u8, u9, u10, rfl, hkn, knp, knl2, knd⟩, e, hpc, gs, ts, lg, h2, hts, gn, gk⟩ := q
      rw [List.length_map, List.length_take, List.length_drop, lz, Nat.min_eq_left (show m ≤ 16 - (i + r) by omega)] at lg gn hkn
      have hdc : Hc d = some (.dK (plK l1 l2 l3 l4)) := e _ _ (e13 _ _ (e12 _ _ hd11)) dp (Ne.symm l2d)
      have htc : Hc tg = some (.lst (zs.map V.str)) := e _ _ (x13 _ _ htg5) tgp (fun q => by rw [q, nl2] at htg5; cases htg5)
      have h1c : Hc l1 = some (.lst ((zs.take i).map V.str)) := e _ _ (e13 _ _ (e12 _ _ hl1b)) l1p (Ne.symm l21)
      have xc : ExBut p H Hc := fun b o h n => e _ _ (x13 _ _ (x5 _ _ h n)) n (fun q => by rw [q] at h; have := x5 _ _ h l2p; rw [nl2] at this; cases this)
      have ndH : H d = none := by
        cases q : H d with
        | none => rfl
        | some o =>
          have := x5 _ _ q dp
          rw [nd] at this
          cases this
      refine ⟨_, rfl, _, rfl, _, rfl, _, rfl, _, rfl, _, _, rfl, rfl, _, rfl, tg, _, rfl, SqL.of htc, fun tl2 ntl2 => ?_⟩
      rw [eir, cut_nat (show i ≤ i + r by omega) (show i + r ≤ zs.length by omega), show i + r - i = r by omega]
      have f1 : Ex Hc (upd Hc tl2 (.lst (((zs.drop i).take r).map V.str))) := Ex.new ntl2
      have htl2 : (upd Hc tl2 (.lst (((zs.drop i).take r).map V.str))) tl2 = some (.lst (((zs.drop i).take r).map V.str)) := upd_same
      have tl2p := pot_new hpc ntl2
      generalize upd Hc tl2 (.lst (((zs.drop i).take r).map V.str)) = H14 at f1 htl2
      have hp14 := hpc.ex f1
      have rr : r ≤ (zs.drop i).length := by rw [List.length_drop]; omega
      refine ⟨tl2, rfl, ⟨_, SqL.of htl2⟩, fun L3 nL3 => ?_⟩
      have L3p := pot_new hp14 nL3
      refine lc_it (walk_list (K := K) (a := tl2) (xs := ((zs.drop i).take r).map V.str)) (fun j Hx => ExBut p H14 Hx ∧ Pot Hx p ∧ ∃ rs acc, Hx L3 = some (.lst acc) ∧ DpAll K Hx acc (rs.map regD) ∧ rs.map (fun r => r.1) = ((zs.drop i).take r).take j ∧ ∀ x ∈ rs, isBt x.2.1 ∧ x.2.2 ∈ zs.take (i + r + m))
        ⟨ExBut.of (Ex.new nL3), hp14.ex (Ex.new nL3), [], [], upd_same, .nil, by simp, fun x h => by cases h⟩ (fun j Hx _ q => SqL.of (q.1 _ _ htl2 tl2p)) (fun j x Ha Hb hj q yy => ?_) (fun Hx q => ?_)
      · obtain ⟨rfl, ex⟩ := yy
        obtain ⟨e2, hpx, rs, acc, hL, dacc, rn, rk⟩ := q
        obtain ⟨z, ez, rfl⟩ := nth_map ex
        have jr : j < r := by
          have := (List.getElem?_eq_some_iff.mp ez).1
          rw [List.length_take] at this
          omega
        refine ⟨rfl, ?_⟩
        refine ⟨_, rfl, _, rfl, p, 2, rfl, hpx, by decide, by decide, fun b H15 b0 b1 e3 hp15 => ?_⟩
        have hkn15 := e3 _ _ (e2 _ _ (f1 _ _ hkn) knp) knp
        have kne : zs.take (i + r + m) ≠ [] := take_ne (by omega) (by omega)
        refine ⟨_, rfl, _, rfl, p, kn, _, rfl, hp15, SqL.of hkn15, knp, by simpa using kne, by rw [List.length_map, List.length_take]; omega, fun v H16 hv e4 hp16 => ⟨(by show 3 ≤ sizeLine; decide), fun t nt => ?_⟩⟩
        obtain ⟨y, hy, rfl⟩ := List.mem_map.mp hv
        have bb : isBt b := by
          show b = 0 ∨ b = 1
          omega
        have e5 : Ex H16 (upd H16 t (.tup [.str z, .int b, .str y])) := Ex.new nt
        have dt : Dp K (upd H16 t (.tup [.str z, .int b, .str y])) (.ref t) (regD (z, b, y)) := .tup (st_of upd_same) (.cons (.str _) (.cons (.int _) (.cons (.str _) .nil)))
        generalize upd H16 t (.tup [.str z, .int b, .str y]) = H17 at e5 dt
        have hL17 := e5 _ _ (e4 _ _ (e3 _ _ hL L3p) L3p)
        have dacc17 := dpAll_ex e5 (p_dpAll hp15 e4 (npDs_map (fun _ => rfl) _) (p_dpAll hpx e3 (npDs_map (fun _ => rfl) _) dacc))
        have lacc := dp_len dacc
        have lrs := congrArg List.length rn
        rw [List.length_map, List.length_take] at lrs
        refine ⟨acc, hL17, Nat.lt_of_le_of_lt (show _ ≤ 1000 by omega) (by decide), ?_, (hp16.ex e5).upd L3p, rs ++ [(z, b, y)], acc ++ [.ref t], upd_same, ?_, ?_, ?_⟩
        · intro c o hc n
          rw [upd_ne (fun q => by rw [q, nL3] at hc; cases hc)]
          exact e5 _ _ (e4 _ _ (e3 _ _ (e2 _ _ hc n) n) n)
        · rw [List.map_append]
          exact dpAll_snoc (t_dpAll (ExT.upd hL17) (noLs_map noL_reg _) dacc17) (t_dp (ExT.upd hL17) (noL_reg _) dt)
        · rw [List.map_append, rn, take_more ez]
          rfl
        · intro x hx
          rcases List.mem_append.mp hx with hx | hx
          · exact rk x hx
          · rw [List.mem_singleton.mp hx]
            exact ⟨bb, hy⟩
      · obtain ⟨e2, hpx, rs, acc, hL, dacc, rn, rk⟩ := q
        rw [List.length_map, List.length_take, Nat.min_eq_left rr, List.take_take, Nat.min_self] at rn
        have L3d : L3 ≠ d := fun q => by rw [q, f1 _ _ hdc] at nL3; cases nL3
        have hdx := e2 _ _ (f1 _ _ hdc) dp
        refine ⟨_, rfl, d, _, rfl, DPut.k (k := Sum.inr "regs") hdx (by show 4 < sizeLine; decide), ?_⟩
        rw [show putK (plK l1 l2 l3 l4) (Sum.inr "regs") (.ref L3) = plK l1 l2 L3 l4 from rfl]
        have t18 : Three K (upd Hx d (.dK (plK l1 l2 L3 l4))) l1 l2 L3 (zs.take i) gs rs := by
          have q2 : ∃ xs, Hx l2 = some (.lst xs) ∧ DpAll K Hx xs (gs.map gateD) := ⟨_, e2 _ _ (f1 _ _ h2) l2p, p_dpAll hp14 e2 (npDs_map np_gate _) (dpAll_ex f1 hts.dp)⟩
          exact Three.dk ⟨e2 _ _ (f1 _ _ h1c) l1p, q2, ⟨acc, hL, dacc⟩⟩ ExBut.upd hdx
        have hd18 : (upd Hx d (.dK (plK l1 l2 L3 l4))) d = some (.dK (plK l1 l2 L3 l4)) := upd_same
        have hkn18 : (upd Hx d (.dK (plK l1 l2 L3 l4))) kn = some (.lst ((zs.take (i + r + m)).map V.str)) := by rw [upd_ne knd]; exact e2 _ _ (f1 _ _ hkn) knp
        have hp18 : Pot (upd Hx d (.dK (plK l1 l2 L3 l4))) p := hpx.upd dp
        have x18 : ExBut p H (upd Hx d (.dK (plK l1 l2 L3 l4))) := fun b o h n => by
          rw [upd_ne (fun q => by rw [q, ndH] at h; cases h)]
          exact e2 _ _ (f1 _ _ (xc _ _ h n)) n
        generalize upd Hx d (.dK (plK l1 l2 L3 l4)) = H18 at t18 hd18 hkn18 hp18 x18
        have fin : ∀ (os : List Str) (L4 : Addr) (H19 : Hp), ExBut p H18 H19 → Pot H19 p → H19 L4 = some (.lst (os.map V.str)) → L4 ≠ d → (∀ z ∈ os, z ∈ zs.take (i + r + m)) → os.length ≤ 8 → Q (.ref d) (upd H19 d (.dK (plK l1 l2 L3 L4))) := by
          intro os L4 H19 e19 hp19 h4 n4 om ol
          have D : Drawn zs i r m gs rs os := ⟨pmz, li, lr, lm, gn, gk, rn, rk, om, ol⟩
          have hd19 := e19 _ _ hd18 dp
          refine k d (cirOf zs i gs rs os) _ D.good (fun z hz => D.pm.mem_iff.mp (List.mem_of_mem_take (D.names.mem_iff.mp hz))) D.plan (by show gs.length ≤ 6; omega) (by show (zs.take i).length ≤ 3; rw [List.length_take]; have := D.li; omega) (by show rs.length ≤ 3; have := D.rlen; have := D.lr; omega) ndH (fun b o h n => ?_) (hp19.upd dp) ⟨l1, l2, L3, L4, upd_same, (t18.but hp18 e19).dk ExBut.upd hd19, by rw [upd_ne n4]; exact h4⟩
          rw [upd_ne (fun q => by rw [q, ndH] at h; cases h)]
          exact e19 _ _ (x18 _ _ h n) n
        refine rd_ifNil (i := 7) rfl hkn18 tok (by rw [List.length_take]; omega) fun H19 e19 => ?_
        have hp19 := hp18.ex e19
        by_cases c : zs.take (i + r + m) ≠ []
        · rw [if_pos c]
          refine ⟨_, rfl, p, 4, rfl, hp19, by decide, by decide, fun n H20 n0 n1 e20 hp20 => ⟨n, rfl, by omega, by omega, fun L4 nL4 => ?_⟩⟩
          have hkn20 := e20 _ _ (e19 _ _ hkn18) knp
          refine lc_draws (A := fun v => ∃ y, y ∈ zs.take (i + r + m) ∧ v = V.str y) (by omega) hp20 nL4 (fun i' Hy Q' hi ex hpy kk => ⟨_, rfl, _, rfl, p, kn, _, rfl, hpy, SqL.of (ex _ _ hkn20 knp), knp, by simpa using c, by rw [List.length_map, List.length_take]; omega, fun v H' hv e hp' => kk v H' ?_ e hp'⟩) (fun H21 vs e21 hp21 hL4 lv av => ?_)
          · obtain ⟨y, hy, rfl⟩ := List.mem_map.mp hv
            exact ⟨y, hy, rfl⟩
          obtain ⟨os, rfl, hos⟩ := strs_of av
          rw [List.length_map] at lv
          have L4d : L4 ≠ d := fun q => by rw [q, e20 _ _ (e19 _ _ hd18) dp] at nL4; cases nL4
          have e1821 : ExBut p H18 H21 := ((ExBut.of e19).trans e20).trans e21
          exact ⟨_, rfl, d, _, rfl, DPut.k (k := Sum.inr "outs") (e1821 _ _ hd18 dp) (by show 4 < sizeLine; decide), _, rfl, fin os L4 H21 e1821 hp21 hL4 L4d hos (by omega)⟩
        · rw [if_neg c]
          refine ⟨(by show 0 ≤ sizeLine; decide), fun L4 nL4 => ?_⟩
          have e20 : Ex H19 (upd H19 L4 (.lst [])) := Ex.new nL4
          have hL4 : (upd H19 L4 (.lst [])) L4 = some (.lst (([] : List Str).map V.str)) := upd_same
          have L4d : L4 ≠ d := fun q => by rw [q, e19 _ _ hd18] at nL4; cases nL4
          generalize upd H19 L4 (.lst []) = H20 at e20 hL4
          have e1820 : ExBut p H18 H20 := ExBut.of (e19.trans e20)
          exact ⟨_, rfl, d, _, rfl, DPut.k (k := Sum.inr "outs") (e1820 _ _ hd18 dp) (by show 4 < sizeLine; decide), _, rfl, fin [] L4 H20 e1820 (hp19.ex e20) hL4 L4d (fun z h => by cases h) (by decide)⟩
end
end W

set_option Elab.async false
set_option linter.all false
set_option maxRecDepth 100000
set_option maxHeartbeats 16000000
namespace W
open PySem PySem.Spec PyProof.Rows L2 Evl G C
/-- the same circuit, its gates and registers in another sequence -/
structure SameC (c c' : Cir) : Prop where
  ins : c'.ins = c.ins
  gates : c'.gates.Perm c.gates
  regs : c'.regs.Perm c.regs
  outs : c'.outs = c.outs
theorem SameC.names {c c' : Cir} (h : SameC c c') : (C.names c').Perm (C.names c) := by
  unfold C.names gn rn
  rw [h.ins]
  exact List.Perm.append_left _ (List.Perm.append (h.gates.map _) (h.regs.map _))
theorem SameC.good {c c' : Cir} (h : SameC c c') (g : Good c) : Good c' := by
  have inn : ∀ {z : Str}, z ∈ C.names c → z ∈ C.names c' := fun q => h.names.mem_iff.mpr q
  refine ⟨h.names.nodup_iff.mpr g.nd, by rw [h.ins]; exact g.inm, fun x hx => g.gts x (h.gates.mem_iff.mp hx), fun x hx => g.rgs x (h.regs.mem_iff.mp hx), fun x hx z hz => inn (g.src x (h.gates.mem_iff.mp hx) z hz), fun x hx => inn (g.rsrc x (h.regs.mem_iff.mp hx)), by rw [h.outs]; exact fun z hz => inn (g.out z hz), ?_, by rw [h.ins]; exact g.li, by rw [h.gates.length_eq]; exact g.lg, by rw [h.regs.length_eq]; exact g.lr, by rw [h.outs]; exact g.lo⟩
  obtain ⟨f, hf⟩ := g.rank
  have pb : (bet' c'.gates).Perm (bet' c.gates) := h.gates.map _
  exact ⟨f, fun q hq y hy hk => hf q (pb.mem_iff.mp hq) y hy ((pb.map Prod.fst).mem_iff.mp hk)⟩
theorem SameC.rg {c c' : Cir} (h : SameC c c') {sr : List Rg} : RgOf c' sr ↔ RgOf c sr := ⟨fun q => ⟨q.1.trans h.regs, q.2⟩, fun q => ⟨q.1.trans h.regs.symm, q.2⟩⟩
theorem SameC.val {c c' : Cir} (h : SameC c c') : val c' = val c := by
  funext sr st le fl
  have e : Says c' sr st le fl = Says c sr st le fl := by
    funext f
    refine propext ⟨fun q => ⟨q.held, ?_, fun g hg => q.gate g (h.gates.mem_iff.mpr hg)⟩, fun q => ⟨q.held, ?_, fun g hg => q.gate g (h.gates.mem_iff.mp hg)⟩⟩
    · have b := q.base
      unfold base0 at b ⊢
      rwa [h.ins] at b
    · have b := q.base
      unfold base0 at b ⊢
      rwa [h.ins]
  unfold W.val
  rw [e]
theorem SameC.step {c c' : Cir} (h : SameC c c') : step1 c' = step1 c := by
  unfold step1
  rw [h.val]
theorem SameC.sta {c c' : Cir} (h : SameC c c') : sta c' = sta c := by
  unfold W.sta
  rw [h.step]
theorem SameC.hdf {c c' : Cir} (h : SameC c c') : hdf c' = hdf c := by
  unfold W.hdf
  rw [h.sta, h.val]
theorem SameC.states {c c' : Cir} (h : SameC c c') : states c' = states c := by
  unfold W.states
  rw [h.sta]
theorem SameC.heard {c c' : Cir} (h : SameC c c') : heard c' = heard c := by
  unfold W.heard
  rw [h.hdf]
theorem SameC.line {c c' : Cir} (h : SameC c c') : line c' = line c := by
  unfold W.line
  rw [h.hdf]
theorem SameC.flt {c c' : Cir} (h : SameC c c') {fl : Flt} (f : FltOk c fl) : FltOk c' fl := fun q e => ⟨h.names.mem_iff.mpr (f q e).1, (f q e).2⟩
section
variable {K : PySem.W.Frag} {H H' : Hp} {p : Addr}
theorem dp_perm {α : Type} {f : α → PyData} : ∀ {ys xs : List V}, ys.Perm xs → ∀ {gs : List α}, DpAll K H xs (gs.map f) → ∃ gs' : List α, gs'.Perm gs ∧ DpAll K H ys (gs'.map f) := by
  intro ys xs h
  induction h with
  | nil =>
    intro gs h
    cases gs with
    | nil => exact ⟨[], .refl _, .nil⟩
    | cons a r => cases h
  | cons x _ ih =>
    intro gs h
    cases gs with
    | nil => cases h
    | cons a r =>
      cases h with
      | cons h1 h2 =>
        obtain ⟨gs', pm, d⟩ := ih h2
        exact ⟨a :: gs', pm.cons a, .cons h1 d⟩
  | swap x y l =>
    intro gs h
    cases gs with
    | nil => cases h
    | cons a r =>
      cases r with
      | nil =>
        cases h with
        | cons h1 h2 => cases h2
      | cons b r =>
        cases h with
        | cons h1 h2 =>
          cases h2 with
          | cons h2 h3 => exact ⟨b :: a :: r, List.Perm.swap _ _ _, .cons h2 (.cons h1 h3)⟩
  | trans _ _ ih1 ih2 =>
    intro gs h
    obtain ⟨g1, p1, d1⟩ := ih2 h
    obtain ⟨g2, p2, d2⟩ := ih1 d1
    exact ⟨g2, p2.trans p1, d2⟩
theorem p_st {a : Addr} {xs : List V} (hp : Pot H p) (e : ExBut p H H') (h : SqT K H a xs) : SqT K H' a xs := by
  rcases h with (h | ⟨o, h⟩) | h
  · exact .inl (.inl (e _ _ h (pot_ne hp h fun _ q => by cases q)))
  · exact .inl (.inr ⟨o, e _ _ h (pot_ne hp h fun _ q => by cases q)⟩)
  · exact .inr h
theorem CirAt.pot {C q : Addr} {c : Cir} (h : CirAt K C H q c) (hp : Pot H p) (e : ExBut p H H') : CirAt K C H' q c := by
  obtain ⟨dx, a1, a2, a3, a4, D5, D6, L7, sg, sr, seq, h1, h2, ⟨h3, h4, h5⟩, ⟨h6, h7, h8⟩, h9, ⟨kvs, ps, h10, hk⟩, h11, h12, h13⟩ := h
  refine ⟨dx, a1, a2, a3, a4, D5, D6, L7, sg, sr, seq, e _ _ h1 (pot_ne hp h1 fun _ z => by cases z), p_dp hp e (npDs_map (fun _ => rfl) _) h2, ⟨p_dp hp e (npDs_map (fun g => ?_) _) h3, h4, h5⟩, ⟨p_dp hp e (npDs_map (fun _ => rfl) _) h6, h7, h8⟩, p_dp hp e (npDs_map (fun _ => rfl) _) h9, ⟨kvs, ps, e _ _ h10 (pot_ne hp h10 fun _ z => by cases z), hk.fst, hk.kv, fun q hq => p_st hp e (hk.each q hq)⟩, e _ _ h11 (pot_ne hp h11 fun _ z => by cases z), ?_, h13⟩
  · show (npD (.str g.1) && (npD (.str g.2.1) && (npD (.tuple (txtD g.2.2)) && true))) = true
    rw [show npD (.tuple (txtD g.2.2)) = true from npDs_map (fun _ => rfl) _]
    rfl
  · refine e _ _ h12 fun q => ?_
    obtain ⟨i, j, h0, _⟩ := hp
    rw [q, h0] at h12
    have q3 := HO.lst.inj (Option.some.inj h12)
    cases seq with
    | nil => cases q3
    | cons a r => cases q3
end
section
variable {P : Program} {w : World} {K : PySem.W.Frag} {mg : Str → Option Value} {base : Heap} {C : Addr}
def spCirc (K : PySem.W.Frag) (C : Addr) : Sp := fun vs H Q _ => ∃ (p d : Addr) (c : Cir), vs = [.ref p, .ref d] ∧ Pot H p ∧ PlanAt K H d c ∧ Good c ∧ ∀ q c' H', SameC c c' → Good c' → H q = none → CirAt K C H' q c' → ExBut p H H' → Pot H' p → Q (.ref q) H'
theorem scCirc : FnScope ["_law_pot_here", "_law_plan_here"] ["_law_pot_here", "_law_plan_here"] (defScope dCircuit) := ⟨rfl, rfl, rfl, by decide +kernel, rfl, by decide +kernel, by decide +kernel⟩
theorem okCirc {f : Addr} {fd : FuncData} (F : At K mg "_law_circuit" dCircuit ["_law_pot_here", "_law_plan_here"] f fd) (T : Txt K mg) (DT : DicT K w mg) (CT : CirT K mg C) : FnOk P w K mg base CX0 8 f fd ["_law_pot_here", "_law_plan_here"] (spCirc K C) := by
  obtain ⟨fM, gM, FM⟩ := T.mixed
  obtain ⟨fI, gI, dvs, FI, hI1, hI2, bI⟩ := CT.init
  have GM : FnOk P w K mg base CX0 7 fM gM ["_law_pot_here", "_law_some"] (spMixed K) := (okMixed FM T).mono (by decide)
  have GI : FnOk P w K mg base CX0 6 fI gI ["self", "inputs", "gates", "registers", "outputs"] (spInit K C) := (okInit FI T DT CT).mono (by decide)
  refine F.fn.ok scCirc (fun vs H Q E h => ?_) (fun cdv A outer s H vs Q E hr h => ?_)
  · obtain ⟨p, d, c, rfl, _⟩ := h
    rfl
  · obtain ⟨p, d, c, rfl, hp, hd, good, k⟩ := h
    have hu := hu_of hr
    refine ⟨_, pss_one (ps_ret (pe_make ⟨CT.makes, hI1, hI2, CT.kp⟩ GI hr (by rfl) CT.gl bI .nil pass0 (pa_cons (pe_dget hu (pv 1) pe_str (fun _ _ => rfl)) (pa_cons (pe_call GM hr (by rfl) FM.gl FM.fn.kp FM.bi .nil pass0 (pa_cons (pv 0) (pa_cons (pe_dget hu (pv 1) pe_str (fun _ _ => rfl)) pa_nil))) (pa_cons (pe_call GM hr (by rfl) FM.gl FM.fn.kp FM.bi .nil pass0 (pa_cons (pv 0) (pa_cons (pe_dget hu (pv 1) pe_str (fun _ _ => rfl)) pa_nil))) (pa_cons (pe_dget hu (pv 1) pe_str (fun _ _ => rfl)) pa_nil)))))), ?_⟩
    obtain ⟨l1, l2, l3, l4, h0, ⟨h1, ⟨xs2, hs2, hx2⟩, ⟨xs3, hs3, hx3⟩⟩, h4⟩ := hd
    have dp := pot_ne hp h0 fun _ z => by cases z
    refine ⟨_, rfl, d, _, rfl, DGet.k (k := Sum.inr "ins") h0, ?_⟩
    have n2 := dp_len hx2
    have n3 := dp_len hx3
    have lg := good.lg
    have lr := good.lr
    have ne2 : l2 ≠ p := lst_ne hp hs2 hx2 (all_notI (fun _ => rfl) _)
    have ne3 : l3 ≠ p := lst_ne hp hs3 hx3 (all_notI (fun _ => rfl) _)
    have ne1 : l1 ≠ p := strs_ne hp h1
    have ne4 : l4 ≠ p := strs_ne hp h4
    refine ⟨_, rfl, _, rfl, d, _, rfl, DGet.k (k := Sum.inr "nodes") h0, p, l2, xs2, rfl, hp, SqL.of hs2, ne2, by omega, fun m ys H1 pm nm e1 hp1 hm => ?_⟩
    have h01 := e1 _ _ h0 dp
    refine ⟨_, rfl, _, rfl, d, _, rfl, DGet.k (k := Sum.inr "regs") h01, p, l3, xs3, rfl, hp1, SqL.of (e1 _ _ hs3 ne3), ne3, by omega, fun m2 ys2 H2 pm2 nm2 e2 hp2 hm2 => ?_⟩
    have e12 := e1.trans e2
    refine ⟨_, rfl, d, _, rfl, DGet.k (k := Sum.inr "outs") (e2 _ _ h01 dp), ?_⟩
    obtain ⟨gs', gp, dg⟩ := dp_perm pm hx2
    obtain ⟨rs', rp, dr⟩ := dp_perm pm2 hx3
    have sm : SameC c ⟨c.ins, gs', rs', c.outs⟩ := ⟨rfl, gp, rp, rfl⟩
    refine fun q dx nq ndx dq => ?_
    have mp := pot_new hp nm
    have x3 : Ex H2 (upd (upd H2 dx (.own q)) q (.ins C dx [])) := by
      intro b o hb
      rw [upd_ne (fun z => by rw [z, nq] at hb; cases hb), upd_ne (fun z => by rw [z, ndx] at hb; cases hb)]
      exact hb
    refine ⟨q, dx, _, _, _, _, ⟨c.ins, gs', rs', c.outs⟩, rfl, sm.good good, upd_same, dp_txl (SqL.of (x3 _ _ (e12 _ _ h1 ne1))), ?_, ?_, dp_txl (SqL.of (x3 _ _ (e12 _ _ h4 ne4))), fun H3 e3 hc => ⟨rfl, ?_⟩⟩
    · exact dp_ex x3 (p_dp hp1 e2 (np_list (fun _ => rfl) np_gate _) (.lst (SqL.of hm) (p_dpAll hp e1 (npDs_map np_gate _) dg)))
    · exact dp_ex x3 (.lst (SqL.of hm2) (p_dpAll hp e12 (npDs_map (fun _ => rfl) _) dr))
    · have nqH : H q = none := by
        cases z : H q with
        | none => rfl
        | some o =>
          by_cases qp : q = p
          · obtain ⟨x, y, w, _⟩ := hp2
            rw [qp, w] at nq
            cases nq
          · rw [e12 _ _ z qp] at nq
            cases nq
      refine k q _ H3 sm (sm.good good) nqH hc (fun b o hb n => e3 _ _ (x3 _ _ (e12 _ _ hb n)) (fun z => by rw [z, nqH] at hb; cases hb)) ?_
      obtain ⟨x, y, w, r⟩ := hp2
      refine ⟨x, y, e3 _ _ (x3 _ _ w) (fun z => ?_), r⟩
      rw [z, nq] at w
      cases w
end
end W

set_option Elab.async false
set_option linter.all false
set_option maxRecDepth 100000
set_option maxHeartbeats 16000000
namespace W
open PySem PySem.Spec PyProof.Rows L2 Evl G C
theorem call_len_seqK {X : Cx} {K : PySem.W.Frag} (h : X.K = K := by rfl) : CallR X (.builtin "len") (fun xs H Q => ∃ p ys, xs = [V.ref p] ∧ (SqL K H p ys ∨ SqT K H p ys) ∧ Q (V.int (ys.length : Nat)) H) := by
  subst h
  exact call_len_seq
section
variable {P : Program} {w : World} {K : PySem.W.Frag} {mg : Str → Option Value} {base : Heap} {C : Addr}
def spTags (K : PySem.W.Frag) : Sp := fun vs H Q _ => ∃ (d : Addr) (c : Cir), vs = [.ref d] ∧ PlanAt K H d c ∧ Good c ∧ ∀ l H', Ex H H' → H l = none → H' l = some (.lst ((names c).map V.str)) → Q (.ref l) H'
abbrev nTags : List Str := ["_law_plan_here", "_law_node", "_law_line"]
theorem scTags : FnScope nTags ["_law_plan_here"] (defScope dTags) := ⟨rfl, rfl, rfl, by decide +kernel, rfl, by decide +kernel, by decide +kernel⟩
theorem okTags {f : Addr} {fd : FuncData} (F : At K mg "_law_tags" dTags ["_law_plan_here"] f fd) (T : Txt K mg) : FnOk P w K mg base CX0 1 f fd ["_law_plan_here"] (spTags K) := by
  refine F.fn.ok scTags (fun vs H Q E h => ?_) (fun cdv A outer s H vs Q E hr h => ?_)
  · obtain ⟨d, c, rfl, _⟩ := h
    rfl
  · obtain ⟨d, c, rfl, hd, good, k⟩ := h
    have hu := hu_of hr
    have nds := scTags.nd
    refine ⟨_, (pss_one (ps_ret (pe_op op_cat (pe_op op_cat (pe_dget hu (pv 0) pe_str (fun _ _ => rfl)) (pe_lc (own := [("_law_node", 1)]) (g := gName 1) rfl nds (pi_list (pe_dget hu (pv 0) pe_str (fun _ _ => rfl))) (blkOk_by (own := [("_law_node", 1)]) (N := nTags) (sc := defScope dTags) (by decide +kernel)) (fun _ _ _ _ _ => pg_name (i := 1) nds rfl (Or.inl rfl)) (fun _ _ _ _ _ => pts_nil) (fun _ _ _ _ _ => (pe_ix ix_tupK (pv 1) pe_int (fun _ _ => rfl))))) (pe_lc (own := [("_law_line", 2)]) (g := gName 2) rfl nds (pi_list (pe_dget hu (pv 0) pe_str (fun _ _ => rfl))) (blkOk_by (own := [("_law_line", 2)]) (N := nTags) (sc := defScope dTags) (by decide +kernel)) (fun _ _ _ _ _ => pg_name (i := 2) nds rfl (Or.inl rfl)) (fun _ _ _ _ _ => pts_nil) (fun _ _ _ _ _ => (pe_ix ix_tupK (pv 2) pe_int (fun _ _ => rfl))))))), ?_⟩
    have li := good.li
    have lg := good.lg
    have lr := good.lr
    obtain ⟨l1, l2, l3, l4, h0, ⟨h1, ⟨xs2, hs2, hx2⟩, ⟨xs3, hs3, hx3⟩⟩, h4⟩ := hd
    have n2 := dp_len hx2
    have n3 := dp_len hx3
    refine ⟨_, rfl, d, _, rfl, DGet.k (k := Sum.inr "ins") h0, _, rfl, d, _, rfl, DGet.k (k := Sum.inr "nodes") h0, l2, rfl, ⟨_, SqL.of hs2⟩, fun L nL => ?_⟩
    refine lc_it (walk_list (K := K) (a := l2) (xs := xs2)) (fun i Hc => Ex H Hc ∧ Hc L = some (.lst (((c.gates.take i).map fun r => r.1).map V.str))) ⟨Ex.new nL, upd_same⟩ (fun i Hc _ q => SqL.of (q.1 _ _ hs2)) (fun i x Ha Hb hi q yy => ?_) (fun H1 q => ?_)
    · obtain ⟨rfl, ex⟩ := yy
      obtain ⟨e2, hL⟩ := q
      obtain ⟨g, er, dr⟩ := dp_nth hx2 ex
      obtain ⟨t, l, rfl, ht, _⟩ := gate_of (dp_ex e2 dr)
      refine ⟨rfl, _, rfl, t, _, 0, .str g.1, rfl, rfl, ht, rfl, _, hL, ?_, e2.mut nL, ?_⟩
      · simp only [List.length_map, List.length_take]
        exact Nat.lt_of_le_of_lt (show _ ≤ 1000 by omega) (by decide)
      · rw [upd_same, take_more er]
        simp
    obtain ⟨e1, hL⟩ := q
    rw [n2, List.take_length] at hL
    refine ⟨l1, L, _, _, rfl, rfl, e1 _ _ h1, hL, by rw [List.length_map, List.length_map, List.length_map]; exact Nat.le_trans (show _ ≤ 1000 by omega) (by decide), fun q nq => ?_⟩
    have e2 : Ex H1 (upd H1 q (.lst (c.ins.map V.str ++ (c.gates.map fun r => r.1).map V.str))) := Ex.new nq
    have hq : (upd H1 q (.lst (c.ins.map V.str ++ (c.gates.map fun r => r.1).map V.str))) q = some (.lst (c.ins.map V.str ++ (c.gates.map fun r => r.1).map V.str)) := upd_same
    generalize upd H1 q (.lst (c.ins.map V.str ++ (c.gates.map fun r => r.1).map V.str)) = H2 at e2 hq
    have x2 := e1.trans e2
    refine ⟨_, rfl, d, _, rfl, DGet.k (k := Sum.inr "regs") (x2 _ _ h0), l3, rfl, ⟨_, SqL.of (x2 _ _ hs3)⟩, fun L2 nL2 => ?_⟩
    refine lc_it (walk_list (K := K) (a := l3) (xs := xs3)) (fun i Hc => Ex H2 Hc ∧ Hc L2 = some (.lst (((c.regs.take i).map fun r => r.1).map V.str))) ⟨Ex.new nL2, upd_same⟩ (fun i Hc _ q => SqL.of (q.1 _ _ (x2 _ _ hs3))) (fun i x Ha Hb hi q yy => ?_) (fun H3 q => ?_)
    · obtain ⟨rfl, ex⟩ := yy
      obtain ⟨e3, hL2⟩ := q
      obtain ⟨g, er, dr⟩ := dp_nth hx3 ex
      obtain ⟨t, rfl, ht⟩ := reg_of (dp_ex (x2.trans e3) dr)
      refine ⟨rfl, _, rfl, t, _, 0, .str g.1, rfl, rfl, ht, rfl, _, hL2, ?_, e3.mut nL2, ?_⟩
      · simp only [List.length_map, List.length_take]
        exact Nat.lt_of_le_of_lt (show _ ≤ 1000 by omega) (by decide)
      · rw [upd_same, take_more er]
        simp
    obtain ⟨e3, hL2⟩ := q
    rw [n3, List.take_length] at hL2
    refine ⟨q, L2, _, _, rfl, rfl, e3 _ _ hq, hL2, by rw [List.length_append, List.length_map, List.length_map, List.length_map, List.length_map, List.length_map]; exact Nat.le_trans (show _ ≤ 1000 by omega) (by decide), fun m nm => k m _ ((x2.trans e3).trans (Ex.new nm)) (ex_none (x2.trans e3) nm) ?_⟩
    rw [upd_same, names, List.map_append, List.map_append, List.append_assoc]
    rfl
end
end W

set_option Elab.async false
set_option linter.all false
set_option maxRecDepth 100000
set_option maxHeartbeats 4000000
/-! repr of a dict whose values are data without dicts. -/
namespace G
open PySem PySem.Spec PyProof.Rows L2
inductive KdP (K : PySem.W.Frag) (H : Hp) : List (Key × V) → List (PyData × PyData) → Prop
  | nil : KdP K H [] []
  | cons {k : Key} {v : V} {d : PyData} {r : List (Key × V)} {ds : List (PyData × PyData)} : Dp K H v d → KdP K H r ds → KdP K H ((k, v) :: r) ((keyD k, d) :: ds)
theorem KdP.noD {K : PySem.W.Frag} {H : Hp} {kvs : List (Key × V)} {ds : List (PyData × PyData)} (h : KdP K H kvs ds) : PyData.hasDictAll (ds.map (·.1)) = false ∧ PyData.hasDictAll (ds.map (·.2)) = false := by
  induction h with
  | nil => exact ⟨rfl, rfl⟩
  | @cons k v d r ds a b ih =>
    refine ⟨?_, ?_⟩
    · show (PyData.hasDict (keyD k) || PyData.hasDictAll (ds.map (·.1))) = false
      rw [ih.1]
      cases k <;> rfl
    · show (PyData.hasDict d || PyData.hasDictAll (ds.map (·.2))) = false
      rw [ih.2, Dp.noD a]
      rfl
theorem KdP.reads {X : Cx} {pins : List (Addr × Obj)} {σ : L2.St} {H : Hp} {s : Shared} (I : Inv X pins σ H s) : ∀ {kvs : List (Key × V)} {ds : List (PyData × PyData)} {vs : List (Key × Value)} {es : List DictEntry}, KdP X.K H kvs ds → KV kvs vs → Pairs (mixKind X.prog X.w) es vs →
    ReadsAll s.heap (es.map (·.key)) (ds.map (·.1)) [] ∧ ∃ bs, ReadsAll s.heap (es.map (·.val)) (ds.map (·.2)) bs
  | _, _, _, _, .nil, r, p => by
    cases r
    cases p
    exact ⟨.nil, _, .nil⟩
  | _, _, _, _, .cons e k, r, p => by
    cases r with
    | cons r1 r2 =>
      cases p with
      | cons p1 p2 p3 =>
        obtain ⟨a, bs, b⟩ := KdP.reads I k r2 p3
        have r0 : RelV _ _ := r1.2
        refine ⟨?_, ?_⟩
        · have q : keyIs _ _ = true := p1
          rw [← r1.1] at q
          exact ReadsAll.cons (as := []) (bs := []) (keyD_reads q) a
        · rw [← p2] at r0
          obtain ⟨as, q⟩ := Dp.reads I _ _ _ e r0
          exact ⟨_, ReadsAll.cons q b⟩
/-- how such a dict shows itself -/
theorem shows_dict {prog : Program} {w : World} {h₀ : Heap} {a : Addr} {o : Obj} {es : Array DictEntry} {n : Nat} {ds : List (PyData × PyData)} {as bs : List Addr} (q1 : h₀.get? a = some o) (q2 : o.cls = .type "dict") (q3 : o.data = .dict es n)
    (q4 : ReadsAll h₀ (es.toList.map (·.key)) (ds.map (·.1)) as) (q5 : ReadsAll h₀ (es.toList.map (·.val)) (ds.map (·.2)) bs) (no : PyData.hasDictAll (ds.map (·.1)) = false ∧ PyData.hasDictAll (ds.map (·.2)) = false) (sys : (a == sysModules) = false)
    (sh : (PyData.dict ds).showable = true) (sz : (PyData.dict ds).shown.length ≤ sizeLine) : ShowsBy prog w h₀ a (.dict ds) "dict" "dict.__repr__" := by
  have sz2 : (dictText (PyData.shownKv ds)).length ≤ sizeLine := by simpa only [PyData.shown] using sz
  obtain ⟨v1, v2⟩ := PyData.showableKv_split ds (by simpa [PyData.showable] using sh)
  obtain ⟨b1, m1, k1⟩ := ReprAllK.of_readsAll (prog := prog) (w := w) q4 v1 (fun z => by rw [no.1] at z; cases z) fun t ht => by
    obtain ⟨p, hp, hl⟩ := PyData.shownKv_key_le ds t ht
    exact Nat.le_trans hl (Nat.le_trans (dictText_mem_le hp) sz2)
  obtain ⟨b2, m2, k2⟩ := ReprAllK.of_readsAll (prog := prog) (w := w) q5 v2 (fun z => by rw [no.2] at z; cases z) fun t ht => by
    obtain ⟨p, hp, hl⟩ := PyData.shownKv_val_le ds t ht
    exact Nat.le_trans hl (Nat.le_trans (dictText_mem_le hp) sz2)
  have most := (m1.mono (PyData.depthAll_keys_le ds)).append (m2.mono (PyData.depthAll_vals_le ds))
  have out : a ∉ b1 ++ b2 := not_mem_of_deeper (.dict q1 q2 q3 q4 q5) (by simp only [PyData.depth]; omega) most
  refine ⟨PySem.F.slot_dict_repr, PySem.F.slot_dict_str, PySem.F.slot_dict_format, fun s hk => ⟨o, hk _ _ q1, q2⟩, fun A E s Q hg hu hk hQ => ?_⟩
  simp only [PyData.depth] at hu
  simp only [PyData.shown, PyData.shownKv_eq] at hQ
  have two := ReprEntriesK.of_two es.toList _ _ (k1.more_le (fun b hb => List.mem_append_left b2 hb) (PyData.depthAll_keys_le ds)) (k2.more_le (fun b hb => List.mem_append_right b1 hb) (PyData.depthAll_vals_le ds))
  exact call_dict_reprK q1 q2 q3 sys out two hg (fun b _ => Clear.nil b) hu hk hQ (by rw [← PyData.shownKv_eq]; exact sz2)
def rRpM (K : PySem.W.Frag) : List V → Hp → VK → Prop := fun xs H Q => ∃ a kvs ds, xs = [.ref a] ∧ H a = some (.dK kvs) ∧ KdP K H kvs ds ∧ (PyData.dict ds).showable = true ∧ (PyData.dict ds).depth ≤ 40 ∧ (PyData.dict ds).shown.length ≤ 100000 ∧ Q (.str (PyData.dict ds).shown) H
theorem call_rpM {X : Cx} {n : Nat} (q : Rm n X.A) : CallR X (.builtin "repr") (rRpM X.K) := by
  intro pins s σ H xs us Q I r h
  obtain ⟨a, kvs, ds, rfl, hd, hk, h1, h3, h4, k⟩ := h
  obtain ⟨u, rfl, rx⟩ : ∃ u, us = [u] ∧ RelV (.ref a) u := by
    cases r with
    | cons a b => cases b; exact ⟨_, rfl, a⟩
  have hz := showsz h4
  have hu := q.rm.units
  cases (show u = Value.ref a from rx)
  obtain ⟨_, hs, vs, rv, o, es, ep, e1, e2, e3, _, e5, _⟩ := (show ObjOk X.prog X.w H s.heap a (.dK kvs) from I.hok a _ hd)
  obtain ⟨r1, bs, r2⟩ := KdP.reads I hk rv e5
  have S := shows_dict (prog := X.prog) (w := X.w) e1 e2.1 e3 r1 r2 hk.noD hs h1 hz
  exact call_repr_slot (by omega) (S.typeIs s fun _ _ e => e) S.slotRepr (S.call X.A.in1 X.xe s _ q.gd (by show X.A.units + 1 + _ < cLine; omega) (fun _ _ e => e) fun h' u tk kp => ⟨_, _, rfl, ⟨.str _, H, I.kept kp, ⟨_, rfl⟩, k⟩⟩)
end G

set_option Elab.async false
set_option linter.all false
set_option maxRecDepth 100000
set_option maxHeartbeats 4000000
/-! repr in a suite; repr of a list among whose elements dicts may be. -/
namespace G
open PySem PySem.Spec PyProof.Rows L2 Evl
section
variable {X : Cx}
theorem rp_in (hU : X.A.units + 200 < cLine) (hG : X.A.guards = some []) : CallR X (.builtin "repr") (rRp X.K) := by
  intro pins s σ H xs us Q I r h
  obtain ⟨x, d, rfl, hd, sh, noD, dp, sz, k⟩ := h
  obtain ⟨u, rfl, rx⟩ : ∃ u, us = [u] ∧ RelV x u := by
    cases r with
    | cons a b => cases b; exact ⟨_, rfl, a⟩
  have big := showsz sz
  have un := hU
  cases hd with
  | non =>
    cases (show u = Value.none from rx)
    exact P.repr_of_none ⟨.str _, H, I.tok _, ⟨_, rfl⟩, k⟩
  | bl b =>
    cases (show u = Value.bool b from rx)
    refine P.repr_of_bool ⟨.str _, H, I.tok _, ⟨_, rfl⟩, ?_⟩
    cases b <;> exact k
  | int i =>
    obtain ⟨t, rfl⟩ := (show ∃ t, u = Value.int i t from rx)
    exact P.repr_of_int (by simpa [PyData.showable] using sh) ⟨.str _, H, I.tok _, ⟨_, rfl⟩, k⟩
  | str z =>
    obtain ⟨t, rfl⟩ := (show ∃ t, u = Value.str z t from rx)
    exact P.repr_of_str ⟨.str _, H, I.tok _, ⟨_, rfl⟩, k⟩ big
  | @lst a ys ds hs ha =>
    cases (show u = Value.ref a from rx)
    obtain ⟨as, rd⟩ := Dp.reads I (.list ds) (.ref a) (.ref a) (.lst hs ha) rfl
    exact repr_of_reads' rd sh (PyData.noDict_hsm noD) hG (by omega) (fun _ _ e => e) (fun h' w tk kp => ⟨.str _, H, I.kept kp, ⟨_, rfl⟩, k⟩) big
  | @tup a ys ds hs ha =>
    cases (show u = Value.ref a from rx)
    obtain ⟨as, rd⟩ := Dp.reads I (.tuple ds) (.ref a) (.ref a) (.tup hs ha) rfl
    exact repr_of_reads' rd sh (PyData.noDict_hsm noD) hG (by omega) (fun _ _ e => e) (fun h' w tk kp => ⟨.str _, H, I.kept kp, ⟨_, rfl⟩, k⟩) big
/-- how a dict of scalars is read -/
theorem dk_read {pins : List (Addr × Obj)} {σ : L2.St} {H : Hp} {s : Shared} (I : Inv X pins σ H s) {a : Addr} {kvs : List (Key × V)} {ds : List (PyData × PyData)} (hd : H a = some (.dK kvs)) (hk : Kd kvs ds) :
    Reads s.heap (.ref a) (.dict ds) (a :: [] ++ []) ∧ ((PyData.dict ds).hasDict = true → sysModules ∉ a :: [] ++ []) := by
  obtain ⟨_, hs, vs, rv, o, es, ep, e1, e2, e3, _, e5, _⟩ := (show ObjOk X.prog X.w H s.heap a (.dK kvs) from I.hok a _ hd)
  obtain ⟨r1, r2⟩ := Kd.reads (h := s.heap) hk rv e5
  refine ⟨.dict e1 e2.1 e3 r1 r2, fun _ z => ?_⟩
  have e : sysModules = a := by simpa using z
  rw [← e] at hs
  simp at hs
/-- repr(x), x a datum or a dict of scalars -/
theorem rx_in (hU : X.A.units + 200 < cLine) (hG : X.A.guards = some []) : CallR X (.builtin "repr") (rRx X.K) := by
  intro pins s σ H xs us Q I r h
  obtain ⟨x, d, rfl, hd, sh, k⟩ := h
  obtain ⟨h1, h3, h4⟩ := id sh
  cases hd with
  | dp e => exact rp_in hU hG pins s σ H _ us Q I r ⟨x, d, rfl, e, h1, Dp.noD e, h3, h4, k⟩
  | @dk a kvs ds e kd =>
    obtain ⟨u, rfl, rx⟩ : ∃ u, us = [u] ∧ RelV (.ref a) u := by
      cases r with
      | cons a b => cases b; exact ⟨_, rfl, a⟩
    have un := hU
    cases (show u = Value.ref a from rx)
    obtain ⟨rd, nsm⟩ := dk_read I e kd
    exact repr_of_reads' rd h1 nsm hG (by omega) (fun _ _ e => e) (fun h' w tk kp => ⟨.str _, H, I.kept kp, ⟨_, rfl⟩, k⟩) (showsz h4)
/-- data, or a list of them -/
inductive Dw (K : PySem.W.Frag) (H : Hp) : V → PyData → Prop
  | dd {x : V} {d : PyData} (h : Dd K H x d) : Dw K H x d
  | ls {a : Addr} {xs : List V} {ds : List PyData} (h : H a = some (.lst xs)) (k : DdAll K H xs ds) : Dw K H (.ref a) (.list ds)
/-- what is read of such data -/
theorem dd_read {pins : List (Addr × Obj)} {σ : L2.St} {H : Hp} {s : Shared} (I : Inv X pins σ H s) {x : V} {d : PyData} (h : Dd X.K H x d) {u : Value} (r : RelV x u) : ∃ as, Reads s.heap u d as ∧ (d.hasDict = true → sysModules ∉ as) := by
  cases h with
  | dp e =>
    obtain ⟨as, rd⟩ := Dp.reads I _ _ _ e r
    exact ⟨as, rd, PyData.noDict_hsm (Dp.noD e)⟩
  | dk e kd =>
    cases (show u = Value.ref _ from r)
    exact ⟨_, dk_read I e kd⟩
theorem ddAll_reads {pins : List (Addr × Obj)} {σ : L2.St} {H : Hp} {s : Shared} (I : Inv X pins σ H s) {xs : List V} {ds : List PyData} (h : DdAll X.K H xs ds) : ∀ {us : List Value}, Vals xs us → PyData.showableAll ds = true → (∀ t ∈ PyData.shownAll ds, t.length ≤ sizeLine) →
    (∃ as, ReadsAll s.heap us ds as) ∧ ∃ bs, ReadAtMost s.heap (PyData.depthAll ds) bs ∧ ReprAllK X.prog X.w bs s.heap (PyData.depthAll ds) us (PyData.shownAll ds) := by
  induction h with
  | nil =>
    intro us r _ _
    cases r
    exact ⟨⟨_, .nil⟩, [], (fun _ h => nomatch h), by simp only [PyData.shownAll]; exact .nil⟩
  | @cons x d xs ds hd _ ih =>
    intro us r sh sz
    cases r with
    | cons r1 r2 =>
      have sh2 : d.showable = true ∧ PyData.showableAll ds = true := by simpa [PyData.showableAll] using sh
      obtain ⟨⟨as2, rs⟩, b2, m2, k2⟩ := ih r2 sh2.2 fun t ht => sz t (by simp only [PyData.shownAll]; exact List.mem_cons_of_mem _ ht)
      obtain ⟨as1, rd, nsm⟩ := dd_read I hd r1
      obtain ⟨b1, m1, k1⟩ := ReprK.of_reads (prog := X.prog) (w := X.w) rd sh2.1 nsm (sz _ (by simp only [PyData.shownAll]; exact List.mem_cons_self ..))
      refine ⟨⟨_, .cons rd rs⟩, b1 ++ b2, ?_, ?_⟩
      · exact ((m1.mono (m := PyData.depthAll (d :: ds)) (Nat.le_max_left _ _)).append (m2.mono (Nat.le_max_right _ _)))
      · show ReprAllK X.prog X.w (b1 ++ b2) s.heap (max d.depth (PyData.depthAll ds)) _ (d.shown :: PyData.shownAll ds)
        exact .cons ((k1.more fun b hb => List.mem_append_left _ hb).level_le (Nat.le_max_left _ _)) (k2.more_le (fun b hb => List.mem_append_right _ hb) (Nat.le_max_right _ _))
/-- how a list shows itself -/
theorem shows_lst {prog : Program} {w : World} {h₀ : Heap} {a : Addr} {o : Obj} {l : List Value} {n : Nat} {ds : List PyData} {as bs : List Addr} (q1 : h₀.get? a = some o) (q2 : o.cls = .type "list") (q3 : o.data = .seq l.toArray n)
    (q4 : ReadsAll h₀ l ds as) (most : ReadAtMost h₀ (PyData.depthAll ds) bs) (k : ReprAllK prog w bs h₀ (PyData.depthAll ds) l (PyData.shownAll ds)) (sz : (PyData.list ds).shown.length ≤ sizeLine) : ShowsBy prog w h₀ a (.list ds) "list" "list.__repr__" := by
  have sz2 : (listText (PyData.shownAll ds)).length ≤ sizeLine := by simpa only [PyData.shown] using sz
  have out : a ∉ bs := not_mem_of_deeper (.list q1 q2 q3 q4) (by simp only [PyData.depth]; omega) most
  refine ⟨PySem.F.slot_list_repr.toG, PySem.F.slot_list_str, PySem.F.slot_list_format, fun s hk => ⟨o, hk _ _ q1, q2⟩, fun A E s Q hg hu hk hQ => ?_⟩
  simp only [PyData.depth] at hu
  simp only [PyData.shown] at hQ
  cases l with
  | nil =>
    cases q4
    simp only [PyData.shownAll, listText_nil] at hQ
    exact call_list_repr_empty ⟨o, hk _ _ q1, q2⟩ (hk _ _ q1) q3 (hQ s.heap _ _ fun _ _ e => e)
  | cons x l => exact call_list_reprK q1 q2 q3 out (by simpa using k.length_eq) (fun i y e => k.item i y (by simpa using e)) hg (fun b _ => Clear.nil b) hu hk hQ sz2
def rRw (K : PySem.W.Frag) : List V → Hp → VK → Prop := fun xs H Q => ∃ x d, xs = [x] ∧ Dw K H x d ∧ Showy d ∧ Q (.str d.shown) H
theorem rw_in (hU : X.A.units + 200 < cLine) (hG : X.A.guards = some []) : CallR X (.builtin "repr") (rRw X.K) := by
  intro pins s σ H xs us Q I r h
  obtain ⟨x, d, rfl, hd, sh, k⟩ := h
  obtain ⟨h1, h3, h4⟩ := id sh
  cases hd with
  | dd e => exact rx_in hU hG pins s σ H _ us Q I r ⟨x, d, rfl, e, sh, k⟩
  | @ls a xs ds e ka =>
    obtain ⟨u, rfl, rx⟩ : ∃ u, us = [u] ∧ RelV (.ref a) u := by
      cases r with
      | cons a b => cases b; exact ⟨_, rfl, a⟩
    have un := hU
    cases (show u = Value.ref a from rx)
    obtain ⟨_, its, n, rv, e1⟩ := (show ObjOk X.prog X.w H s.heap a (.lst xs) from I.hok a _ e)
    have sz2 : (listText (PyData.shownAll ds)).length ≤ sizeLine := by simpa only [PyData.shown] using showsz h4
    obtain ⟨⟨as, rs⟩, bs, m, kk⟩ := ddAll_reads I ka rv (by simpa [PyData.showable] using h1) fun t ht => Nat.le_trans (listText_mem_le ht) sz2
    have S := shows_lst (prog := X.prog) (w := X.w) e1 rfl rfl rs m kk (showsz h4)
    exact call_repr_slot (by omega) (S.typeIs s fun _ _ e => e) S.slotRepr (S.call X.A.in1 X.xe s _ hG (by show X.A.units + 1 + _ < cLine; omega) (fun _ _ e => e) fun h' u tk kp => ⟨_, _, rfl, ⟨.str _, H, I.kept kp, ⟨_, rfl⟩, k⟩⟩)
theorem rw_rm {n : Nat} (q : Rm n X.A) : CallR X (.builtin "repr") (rRw X.K) := rw_in (by have := q.rm.un; omega) q.gd
end
/-- isinstance(e, c), e the exception that the suite holds, of the class D, with a dict of its own -/
def rIsE (K : PySem.W.Frag) (D a : Addr) (cls : Value) (d : Option Addr) : List V → Hp → VK → Prop := fun xs H Q => cls = .ref D ∧ ∃ (c : V) (cv : Value) (b : Bool) (dd : Addr) (fs : List (Str × V)), xs = [.ref a, c] ∧ d = some dd ∧ H dd = some (.xd fs) ∧ (∀ u, RelV c u → u = cv) ∧ PySem.W.kitOne K (.ref D) cv = some b ∧ Q (.bl b) H
theorem call_isE {X : Cx} {a D : Addr} {oe : Obj} {cls : Value} {d : Option Addr} {pn : List (Addr × Obj)} (C : ExcC X.K D) (hz : Zc cls d oe) (hf : ∃ vs, oe.data = .fields vs) : CallR (X.suite a ((a, oe) :: pn)) (.builtin "isinstance") (rIsE X.K D a cls d) := by
  intro pins s σ H xs us Q I r h
  obtain ⟨same, c, cv, b, dd, fs, rfl, rfl, hdd, hcv, e, q⟩ := h
  subst same
  cases r with
  | cons rx rr =>
    cases rr with
    | cons rt rr =>
      cases rr
      cases rx
      have ec := hcv _ rt
      subst ec
      obtain ⟨hget, _⟩ := I.pin (a, oe) (List.mem_append.mpr (.inl List.mem_cons_self))
      obtain ⟨vs, hv⟩ := hf
      have hx : ObjOk X.prog X.w H s.heap dd (.xd fs) := I.hok dd _ hdd
      obtain ⟨mA, hns, hr⟩ := hx
      obtain ⟨od, ho, hl⟩ := lookIn_ns hns
      have J : PySem.W.InstAt s.heap a oe D (some od) := ⟨hget, hz.1, by unfold PySem.W.notCls; rw [hv] <;> rfl, by rw [hz.2]; exact ho⟩
      have hcl : (PySem.W.clsIn X.K D).isSome = true := by obtain ⟨cd, hc, _⟩ := PySem.W.any_some C.hd; rw [hc]; rfl
      exact PySem.W.kia_one (PySem.W.kitx_exc hcl C.hg C.hk C.hs C.ha C.hn C.ht C.hm) I.kIn J e (fun z => nomatch z) fun tk => ⟨.bl b, H, I.kept (t' := tk) fun _ _ z => z, rfl, q⟩
/-- a heard lambda leaves all but the tables of code objects -/
theorem takes_lenN {X : Cx} {W : WX} (t : Takes X W) : Takes X (fun c d σ H => σ.length = X.N.length → W c d σ H) := fun u s' ⟨a, B, sI, pins, σ, H, cls, d, e, I, nb, up, sky, na, os, ag, w⟩ =>
  t u s' ⟨a, B, sI, pins, σ, H, cls, d, e, I, nb, up, sky, na, os, ag, w I.len⟩
end G

set_option Elab.async false
set_option linter.all false
set_option maxRecDepth 100000
set_option maxHeartbeats 4000000
/-! An own class over LookupError whose __init__ is read as a def. -/
namespace G
open PySem PySem.Spec PyProof.Rows L2 Evl
abbrev leTail : List Value := [.type "LookupError", .type "Exception", .type "BaseException", .type "object"]
/-- own classes, behind them what LookupError has -/
def OverLE (l : List Value) : Prop := ∃ cs : List Addr, l = cs.map Value.ref ++ leTail
theorem OverLE.cons {l : List Value} (C : Addr) (h : OverLE l) : OverLE (.ref C :: l) := by
  obtain ⟨cs, rfl⟩ := h
  exact ⟨C :: cs, rfl⟩
theorem OverLE.pass {l : List Value} (h : OverLE l) (self : Value) : PySem.refuseLoop self "__setattr__" l = pure () := by
  obtain ⟨cs, rfl⟩ := h
  induction cs with
  | nil => exact PySem.F.store_LookupError.passes self
  | cons c r ih => rw [List.map_cons, List.cons_append, PySem.refuseLoop_ref]; exact ih
theorem OverLE.has {l : List Value} (h : OverLE l) (T : String) : l.contains (.type T) = leTail.contains (.type T) := by
  obtain ⟨cs, rfl⟩ := h
  induction cs with
  | nil => rfl
  | cons c r ih => rw [List.map_cons, List.cons_append, List.contains_cons, ih]; rfl
theorem OverLE.some {l : List Value} (h : OverLE l) : l.isEmpty = false := by
  obtain ⟨cs, rfl⟩ := h
  cases cs <;> rfl
section
open PySem.Builtin PySem.Builtin.ObjectAttr
variable {pr : Program} {wo : World} {B : Around} {err : Value → Shared → Prop} {back : Result → Shared → Prop} {hh : Heap} {ge : Array GenState} {dr : Drawn} {tn : Nat} {oz : OsState}
/-- its first field -/
theorem le_osa {K : PySem.W.Frag} {fld : Str} {ft : Tok} {u : Value} {e C : Addr} {us : Array Value} {cl : ClassData} (KI : K.In hh) (at_ : hh.get? e = some { cls := .ref C, data := .fields us }) (cd : PySem.W.clsIn K C = some cl) (ov : OverLE cl.mro) (dd : cl.hasDict = true)
    (no : PySem.W.findIn K (.ref C) fld = some none)
    (fin : ∀ h2 t2 q, (∀ b o, b ≠ e → hh.get? b = some o → h2.get? b = some o) → hh.objs.size ≤ q → q ≠ e → h2.get? e = some { cls := .ref C, dict := some q, data := .fields us } → h2.Ns1 q (fun y => if y = fld then some u else none) → back (.ok (.ret .none)) ⟨h2, ge, dr, t2, oz⟩) :
    codeAny (model pr wo) B (.call (.builtin "object.__setattr__") ⟨[.ref e, .str fld ft, u], []⟩) back ⟨hh, ge, dr, tn, oz⟩ := by
  have at1 : PySem.W.InstAt hh e { cls := .ref C, data := .fields us } C none := ⟨at_, rfl, rfl, trivial⟩
  have st := PySem.F.store_object
  have full := ov.some
  have obj : cl.mro.contains (.type "object") = true := (ov.has "object").trans (by decide +kernel)
  have new : e ≠ hh.objs.size := Nat.ne_of_lt (Heap.lt_size at_)
  have kind : PySem.W.Looks (model pr wo) hh (isInstance (.ref e) (.type "object")) true := at1.type.andThen (PySem.W.looks_mroIn KI (by unfold PySem.W.mroIn; rw [cd, Option.bind_some, if_neg (by rw [full]; decide), obj]))
  refine codeAny_call_builtin st.slot.plain st.entry (@PySem.W.check_slot (model pr wo) _ _ ⟨hh, ge, dr, tn, oz⟩ "object.__setattr__" "object" "__setattr__" (.ref e) [.str fld ft, u] [] _ st.kind st.split kind (st.args (.ref e) (.str fld ft) u) ?_)
  have l1 : PySem.W.Looks (model pr wo) hh (mroOf (.ref C)) cl.mro := (PySem.W.looks_clsIn KI cd).andThen .now
  have l2 : PySem.W.Looks (model pr wo) hh (storeTaker? none) none := .now
  have l3 : PySem.W.Looks (model pr wo) hh (classData C) cl := PySem.W.looks_clsIn KI cd
  rw [PySem.W.osa_eq, PySem.refuse_eq]
  refine wpAny_bind (wpAny_bind (at1.type.at (wpAny_bind (l1.at ?_))))
  rw [ov.pass]
  refine wpAny_pure (wpAny_bind (at1.type.at (wpAny_bind ((PySem.W.looks_findIn KI no).at (wpAny_bind (l2.at ?_))))))
  show wpAny _ _ (storeInOwnDict (.ref e) (.ref C) (.str fld ft) fld u false) _ _ _
  obtain ⟨n1, n2, n3, n4, n5, n6, n7, n8, n9, n10, n11⟩ := cl
  dsimp only at dd
  subst dd
  unfold storeInOwnDict ownDictForStores
  repeat (first | with_reducible refine l3.at ?_ | with_reducible refine PySem.HandSPX.store_in_new ?_ ?_ | with_reducible refine wpAny_loadPart_at at_ ?_ | wp_step)
  · exact ⟨_, #[], _, (Heap.get?_update_ne _ _ _ _ new.symm).trans (Heap.get?_push_at rfl rfl), rfl, fun z hz => absurd hz (by simp), fun _ => rfl⟩
  · intro h2 t2 q1 q2
    have at2 : (hh.push { cls := .type "dict", data := .dict #[] }).get? e = some { cls := .ref C, data := .fields us } := Heap.get?_push_of_some _ at_
    refine fin h2 t2 hh.objs.size (fun b o ne ho => ?_) (Nat.le_refl _) new.symm ((q2.2 e new).trans (Heap.get?_update_self _ at2 rfl)) q1
    exact (q2.2 b (Nat.ne_of_lt (Heap.lt_size ho))).trans ((Heap.get?_update_ne _ _ _ _ ne).trans (Heap.get?_push_of_some _ ho))
end
/-- what the written part says of such a class -/
structure OexL (K : PySem.W.Frag) (C : Addr) : Prop where
  cls : ∃ nm q N bs bm sn sub ab col dd k0 k1 k2 k3 k5, K.lookup C = some (excClassObj nm q C N bs bm true sn sub ab col dd k0 k1 k2 k3 k5 "LookupError.__new__") ∧ OverLE bm
  sa : PySem.W.findIn K (.ref C) "__setattr__" = some (some (.builtin "object.__setattr__"))
  exc : PySem.W.subIn K (.ref C) (.type "BaseException") = some true
  ty : PySem.W.typeIn K (.ref C) = some (.type "type")
  kp : PySem.W.keepIn K (.ref C) = true
section
variable {X : Cx} {pins : List (Addr × Obj)} {σ : L2.St} {H : Hp} {s : Shared} {a C : Addr} {f : Str} {y : V} {u : Value} {Q : Unit → Shared → Prop} {E : Value → Shared → Prop} {A : Around} {o e : Expr} {es : List Expr} {to te : TE} {ta : TA} {p p' pos : Pos}
theorem ost_newL (T : OexL X.K C) (I : Inv X pins σ H s) (ea : H a = some (exo a C none)) (no : PySem.W.findIn X.K (.ref C) f = some none) (ry : RelV y u)
    (k : ∀ dx s', H dx = none → dx ≠ a → Inv X pins σ (upd (upd H dx (exd dx [(f, y)])) a (exo a C (some dx))) s' → Q () s') : wpAny (model X.prog X.w) A (setAttr (.ref a) f u) Q E s := by
  obtain ⟨nm, q, N, bs, bm, sn, sub, ab, col, dd, k0, k1, k2, k3, k5, hC, hbm⟩ := T.cls
  have cd : PySem.W.clsIn X.K C = some ({ name := nm, bases := bs, mro := .ref C :: bm, ns := N, qualname := q, hasDict := true, slotNames := sn, subclasses := sub, abstract := ab, collection := col, hasDel := false } : ClassData) := by
    unfold PySem.W.clsIn
    rw [hC] <;> rfl
  obtain ⟨t1, at_⟩ := exo_at I.hok ea
  obtain ⟨hp, g, d, t, os⟩ := s
  refine PySem.W.set_plain I.kIn (ox := { cls := .ref C, dict := none, data := .fields #[.ref t1, .none, .none, .none, .bool false, .none] }) (od := none) ⟨at_, rfl, rfl, trivial⟩ T.sa ?_
  refine le_osa I.kIn at_ cd (hbm.cons C) rfl no fun h' tk' dx kk dn dne hx hn => ?_
  have hnd : H dx = none := I.hok.fresh dn
  have old : ∀ {b : Addr} {o : Obj}, hp.get? b = some o → b ≠ dx := fun {b o} z => Nat.ne_of_lt (Nat.lt_of_lt_of_le (Heap.lt_size z) dn)
  have na : ∀ {b : Addr}, H b = none → b ≠ a := fun {b} n z => by rw [z, ea] at n; cases n
  have un : Un X.fs [] H (upd (upd H dx (exd dx [(f, y)])) a (exo a C (some dx))) hp h' :=
    ⟨fun b o z n _ _ => kk b o (na n) z, fun b o z n _ _ => ⟨o.slots, kk b o (na n) z⟩, fun b o z n _ => by rw [upd_ne (na n), upd_ne (old z)]; exact n,
      fun b o z _ => if hb : b = a then ⟨_, hb ▸ hx⟩ else ⟨o, kk b o hb z⟩, fun b xs z => by rw [upd_ne (at_ne ea z exo_tup), upd_ne (ne_of_none z hnd)]; exact z,
      fun b o v z => by rw [upd_ne (at_ne ea z exo_frz), upd_ne (ne_of_none z hnd)]; exact z, fun b ps z => ⟨#[], by rw [upd_ne (at_ne ea z exo_tbl), upd_ne (ne_of_none z hnd), z]; simp⟩⟩
  refine k dx _ hnd dne (I.un (t' := tk') un fun b o z => ?_)
  by_cases hb : b = a
  · subst hb
    rw [upd_same] at z
    cases z
    exact exo_ok hx
  rw [upd_ne hb] at z
  by_cases hd : b = dx
  · subst hd
    rw [upd_same] at z
    cases z
    exact exd_ok hn (relO_put (fs := []) ry fun g => True.intro)
  rw [upd_ne hd] at z
  refine (I.hok b o z).stay (fun c v hc y => kk c v (hc.elim (fun w => by rw [w]; exact hb) fun w => at_ne ea w exo_own) y) (fun c hc => ?_) fun c xs hc => ?_
  · rw [upd_ne (at_ne ea hc exo_own), upd_ne (ne_of_none hc hnd)]; exact hc
  · rw [upd_ne (at_ne ea hc exo_tup), upd_ne (ne_of_none hc hnd)]; exact hc
/-- self.f = e, the first one -/
def tOstL (K : PySem.W.Frag) (f : Str) (to te : TE) : TS := fun D σ H => te σ H fun y H1 => to σ H1 fun x H2 => ∃ a C : Addr, x = .ref a ∧ OexL K C ∧ PySem.W.findIn K (.ref C) f = some none ∧ H2 a = some (exo a C none) ∧ ∀ dx, H2 dx = none → dx ≠ a → D.nx σ (upd (upd H2 dx (exd dx [(f, y)])) a (exo a C (some dx)))
theorem ps_ostL (ho : PE X o to) (he : PE X e te) (hs : swapsWith e (some (.Attribute o f p')) pos.line X.env = pure false := by rfl) : PS X (.Assign [.Attribute o f p'] e pos) (tOstL X.K f to te) := by
  refine ⟨fun pins s σ H D I h => plainObj_wpAny_Assign_Attribute (thn (he.run pins s σ H _ I h) fun v s1 ⟨y, H1, I1, r1, q1⟩ => thn (ho.run pins s1 σ H1 _ I1 q1) fun u s2 w => ?_) hs⟩
  obtain ⟨x, H2, I2, r2, a, C, rfl, T, no, ea, q⟩ := w
  obtain rfl : u = Value.ref a := r2
  exact ost_newL T I2 ea no r1 fun dx s' n ne J => ⟨σ, _, J, q dx n ne⟩
/-- C(e, ..) -/
theorem pmk_oexL {CC : CXT} {x : Str} {C fI : Addr} {k : Nat} {fd : FuncData} {ps : List Str} {sp : Sp} {du : List Value} {dv : List V} (T : OexL X.K C) (iC : PySem.W.findIn X.K (.ref C) "__init__" = some (some (.ref fI))) (tI : PySem.W.typeIn X.K (.ref fI) = some (.type "function"))
    (F1 : FnOk X.prog X.w X.K X.mg X.base CC k fI fd ps sp) (hr : Room (k + 1) X.A) (hb : Binds X.K fd ps du) (hd : Vals dv du) (hx : Passes CC X (fun _ _ _ => False)) (hg : Gl X x) (hm : X.mg x = some (.ref C)) (ha : PA X (e :: es) ta)
    (hdb : (x == ("__debug__" : Str)) = false := by decide) (he : starEach (e :: es) X.env = (false, eval e X.env) :: starEach es X.env := by rfl) (hpl : (backTo pos (starEach es X.env)).any (·.1) = false := by rfl) :
    PMk X (.Call (.Name x p) (e :: es) [] pos) (tMkO C sp dv ta) := by
  intro pins s σ H Q I h
  obtain ⟨nm, q, N, bs, bm, sn, sub, ab, col, dd, k0, k1, k2, k3, k5, hC, hbm⟩ := T.cls
  refine wpAny_Call_Name_kw (ld_glob I hg hm (PySem.W.callWith_K (h₀ := X.base) I.ok.mod.kin T.kp (thn (ha.run pos pins s σ H _ I h) fun us s1 w => ?_) he hpl) hdb)
  obtain ⟨vs, H1, I1, r1, hz, q1⟩ := w
  refine ⟨I1.kIn, ?_⟩
  show wpAny _ _ (call (.ref C) us) _ _ _
  obtain ⟨hp, g, dr, tk, os⟩ := s1
  generalize hN : hp.objs.size + 1 = n
  have sz : hp.objs.size ≤ n := by omega
  have fresh : H1 n = none := I1.hok.fresh sz
  have go := q1 n fresh
  have kk : ∀ b o, hp.get? b = some o → ((hp.push (PySem.W.kdv_tup us)).push (PySem.HandSPX.excO C hp.objs.size)).get? b = some o := fun b o z => Heap.get?_push_of_some _ (Heap.get?_push_of_some _ z)
  have there : ((hp.push (PySem.W.kdv_tup us)).push (PySem.HandSPX.excO C hp.objs.size)).get? n = some (PySem.HandSPX.excO C hp.objs.size) := by
    rw [← hN]
    heap_get
  have I2 : Inv X pins σ (upd H1 n (exo n C none)) ⟨(hp.push (PySem.W.kdv_tup us)).push (PySem.HandSPX.excO C hp.objs.size), g, dr, tk, os⟩ :=
    I1.laid (t' := tk) (a := n) (o := exo n C none) (h' := (hp.push (PySem.W.kdv_tup us)).push (PySem.HandSPX.excO C hp.objs.size)) kk sz (exo_ok there)
  have both : Vals (V.ref n :: (vs ++ dv)) (Value.ref n :: (us ++ du)) := .cons rfl (r1.append hd)
  have many : (Value.ref n :: us ++ du).length = ps.length := by
    have z := both.length
    rw [F1.len _ _ _ _ go] at z
    exact z.symm
  have few : us.length ≤ sizeLine := by
    rw [← Paired.length r1, sizeLine_eq]
    omega
  have run := F1.run _ X.stack _ _ ⟨Value.ref n :: us, []⟩ (Value.ref n :: (us ++ du)) _ _ (fun _ _ _ => False) (hr.make C us []) (I2.env0.make C us []) (hb _ (Value.ref n :: us) I2.kIn many) both go
  subst hN
  refine wpAny_call (PySem.HandSPX.call_own PySem.F.excBase_LookupError (fun Y => hbm.has Y) (I1.kIn _ _ hC) (PySem.W.looks_findIn I1.kIn iC) (fun self => PySem.W.bind_fn I1.kIn self tI) few (codeAny_mono run fun r s' w => ?_))
  match r, w with
  | .error er, w => exact hx pins σ _ _ er s' I2 w
  | .ok (.ret u), w =>
    obtain ⟨v, H2, os2, bare2, un2, hok2, rv, ev, d, fs, ea, ed, hd1, q2⟩ := w
    subst ev
    obtain ⟨h2, g2, d2, t2, os'⟩ := s'
    exact ⟨rv, mk_end (raises_own T.exc T.ty) I1 sz kk un2 hok2 os2 bare2 ea ed hd1 q2⟩
  | .ok .next, w => exact False.elim w
  | .ok .brk, w => exact False.elim w
  | .ok .cont, w => exact False.elim w
end
end G

set_option Elab.async false
set_option linter.all false
set_option maxRecDepth 100000
set_option maxHeartbeats 8000000
/-! What is refused: letters, words, faults, wires. -/
namespace W
open PySem PySem.Spec PyProof.Rows L2 Evl G C
/-- an error class of the text with its __init__(self, value): self.value = value -/
structure ExcT (K : PySem.W.Frag) (mg : Str → Option Value) (x qual : Str) (i : Nat) (C fI : Addr) (fd : FuncData) : Prop where
  xf : XfC K C
  gl : mg x = some (.ref C)
  ini : PySem.W.findIn K (.ref C) "__init__" = some (some (.ref fI))
  tyI : PySem.W.typeIn K (.ref fI) = some (.type "function")
  fn : Fun K "__init__" qual (inClass (top i) 0) fI fd
  bi : Binds K fd ["self", "value"] []
  noV : PySem.W.findIn K (.ref C) "value" = some none
/-- what __init__ of such a class does -/
def spIni (C : Addr) : Sp := fun vs H Q _ => ∃ (a : Addr) (v : V), vs = [.ref a, v] ∧ H a = some (exo a C none) ∧ ∀ dx, H dx = none → dx ≠ a → Q .non (upd (upd H dx (exd dx [("value", v)])) a (exo a C (some dx)))
/-- an error of the class at C that tells v, made behind H -/
def Err (E : XK) (H : Hp) (C : Addr) (v : V) : Prop := ∀ H1 dd, Ex H H1 → H1 dd = none → E (.ref C) (some dd) (upd H1 dd (.xd [("value", v)]))
theorem Err.ex {E : XK} {H H' : Hp} {C : Addr} {v : V} (h : Err E H C v) (e : Ex H H') : Err E H' C v := fun H1 dd e1 n => h H1 dd (e.trans e1) n
def wordB (d : PyData) (n : Nat) : Bool := isWord d n
def contB (c : Cir) : PyData → Bool
  | .str z => nIn c z
  | _ => false
def fltB (c : Cir) : PyData → Bool
  | .tuple [a, b] => contB c a && isBit b
  | _ => false
section
variable {P : Program} {w : World} {K : PySem.W.Frag} {mg : Str → Option Value} {base : Heap} {C CE fI : Addr} {fdI : FuncData}
theorem scIni (i : Nat) (h : FnScope ["self", "value"] ["self", "value"] (defScope (inClass (top i) 0))) : FnScope ["self", "value"] ["self", "value"] (defScope (inClass (top i) 0)) := h
theorem ok_ini {x qual : Str} {i : Nat} {fd : FuncData} (T : ExcT K mg x qual i CE fI fd) (OX : OexC K CE) (S : FnScope ["self", "value"] ["self", "value"] (defScope (inClass (top i) 0)))
    (hb : ∃ p1 p2 p3 p4 : Pos, defBody (inClass (top i) 0) = [.Assign [.Attribute (.Name "self" p1) "value" p2] (.Name "value" p3) p4] ∧ p2.endLine = p2.endLine)
    (v0 : Vis (defScope (inClass (top i) 0)) "self") (v1 : Vis (defScope (inClass (top i) 0)) "value") : FnOk P w K mg base CX0 1 fI fd ["self", "value"] (spIni CE) := by
  obtain ⟨p1, p2, p3, p4, hb, _⟩ := hb
  refine T.fn.ok S (fun vs H Q E h => ?_) (fun cdv A outer s H vs Q E hr h => ?_)
  · obtain ⟨a, v, rfl, _⟩ := h
    rfl
  · obtain ⟨a, v, rfl, ha, k⟩ := h
    rw [hb]
    refine ⟨_, pss_one (ps_ost (pv 0 rfl v0) (pv 1 rfl v1)), ?_⟩
    exact ⟨_, rfl, _, rfl, a, CE, rfl, OX, T.noV, .inl ⟨ha, fun dx n ne => k dx n ne⟩⟩
theorem ok_iniL {x qual : Str} {i : Nat} {fd : FuncData} (T : ExcT K mg x qual i CE fI fd) (OX : OexL K CE) (S : FnScope ["self", "value"] ["self", "value"] (defScope (inClass (top i) 0)))
    (hb : ∃ p1 p2 p3 p4 : Pos, defBody (inClass (top i) 0) = [.Assign [.Attribute (.Name "self" p1) "value" p2] (.Name "value" p3) p4] ∧ p2.endLine = p2.endLine)
    (v0 : Vis (defScope (inClass (top i) 0)) "self") (v1 : Vis (defScope (inClass (top i) 0)) "value") : FnOk P w K mg base CX0 1 fI fd ["self", "value"] (spIni CE) := by
  obtain ⟨p1, p2, p3, p4, hb, _⟩ := hb
  refine T.fn.ok S (fun vs H Q E h => ?_) (fun cdv A outer s H vs Q E hr h => ?_)
  · obtain ⟨a, v, rfl, _⟩ := h
    rfl
  · obtain ⟨a, v, rfl, ha, k⟩ := h
    rw [hb]
    refine ⟨_, pss_one (ps_ostL (pv 0 rfl v0) (pv 1 rfl v1)), ?_⟩
    exact ⟨_, rfl, _, rfl, a, CE, rfl, OX, T.noV, ha, fun dx n ne => k dx n ne⟩
theorem rd_err {E : XK} {H : Hp} {v : V} (h : Err E H CE v) {H1 : Hp} (e : Ex H H1) : ∀ a, H1 a = none → spIni CE (.ref a :: ([v] ++ [])) (upd H1 a (exo a CE none))
    (fun u H2 => u = .non ∧ ∃ (d : Addr) (fs : List (Str × V)), H2 a = some (exo a CE (some d)) ∧ H2 d = some (exd d fs) ∧ H1 d = none ∧ E (.ref CE) (some d) (upd (del H2 a) d (.xd fs))) (fun _ _ _ => False) := fun a na => by
  refine ⟨a, v, rfl, upd_same, fun dx nd ne => ⟨rfl, dx, [("value", v)], upd_same, by rw [upd_ne ne, upd_same], by rw [upd_ne ne] at nd; exact nd, ?_⟩⟩
  have nd1 : H1 dx = none := by rw [upd_ne ne] at nd; exact nd
  have eq : upd (del (upd (upd (upd H1 a (exo a CE none)) dx (exd dx [("value", v)])) a (exo a CE (some dx))) a) dx (.xd [("value", v)]) = upd H1 dx (.xd [("value", v)]) := by
    funext b
    by_cases h1 : b = dx
    · subst h1
      rw [upd_same, upd_same]
    · rw [upd_ne h1, upd_ne h1]
      by_cases h2 : b = a
      · subst h2
        rw [del_same, na]
      · rw [del_ne h2, upd_ne h2, upd_ne h1, upd_ne h2]
  rw [eq]
  exact h H1 dx e nd1
theorem scI10 : FnScope ["self", "value"] ["self", "value"] (defScope (inClass (top 10) 0)) := ⟨rfl, rfl, rfl, by decide +kernel, rfl, by decide +kernel, by decide +kernel⟩
theorem scI11 : FnScope ["self", "value"] ["self", "value"] (defScope (inClass (top 11) 0)) := ⟨rfl, rfl, rfl, by decide +kernel, rfl, by decide +kernel, by decide +kernel⟩
theorem scI12 : FnScope ["self", "value"] ["self", "value"] (defScope (inClass (top 12) 0)) := ⟨rfl, rfl, rfl, by decide +kernel, rfl, by decide +kernel, by decide +kernel⟩
theorem scI13 : FnScope ["self", "value"] ["self", "value"] (defScope (inClass (top 13) 0)) := ⟨rfl, rfl, rfl, by decide +kernel, rfl, by decide +kernel, by decide +kernel⟩
theorem scI15 : FnScope ["self", "value"] ["self", "value"] (defScope (inClass (top 15) 0)) := ⟨rfl, rfl, rfl, by decide +kernel, rfl, by decide +kernel, by decide +kernel⟩
/-! ### bits -/
def spBadBits (K : PySem.W.Frag) (C CE : Addr) (n : Cir → Nat) : Sp := fun vs H Q E => ∃ (p : Addr) (x : V) (c : Cir) (d : PyData), vs = [.ref p, x] ∧ CirAt K C H p c ∧ Good c ∧ Dd K H x d ∧ isLetter d (n c) = false ∧ Err E H CE x
theorem okCStateX {f : Addr} {fd : FuncData} (F : At K mg "check_state" dCState ["circuit", "state"] f fd) (T : Txt K mg) (CT : CirT K mg C) (TE : ExcT K mg "InvalidState" "InvalidState.__init__" 12 CE fI fdI) (OX : OexC K CE) : FnOk P w K mg base (L2.CX P w) 4 f fd ["circuit", "state"] (spBadBits K C CE (fun c => c.regs.length)) := by
  obtain ⟨fF, gF, FF⟩ := CT.first
  obtain ⟨fL, gL, FL⟩ := T.letter
  have GF : FnOk P w K mg base CX0 3 fF gF ["self"] (spM (α := Nat) K C (newFst K)) := (okFirst FF T CT).mono (by decide)
  have GL : FnOk P w K mg base CX0 3 fL gL ["value", "width"] (spW K isLetter) := okLetter FL T
  have GI : FnOk P w K mg base CX0 2 fI fdI ["self", "value"] (spIni CE) := (ok_ini TE OX scI12 ⟨_, _, _, _, rfl, rfl⟩ (.inl rfl) (.inl rfl)).mono (by decide)
  refine F.fn.okX scCState (fun vs H Q E h => ?_) (fun cdv A outer s H vs Q E hr h => ?_)
  · obtain ⟨p, x, c, bs, rfl, _⟩ := h
    rfl
  · obtain ⟨p, x, c, d, rfl, hc, good, hx, bad, k⟩ := h
    refine ⟨_, pss_one (ps_if (pt_not (pt_val (pe_call GL hr (by rfl) FL.gl FL.fn.kp FL.bi .nil pass0 (pa_cons (pv 1) (pa_cons (pe_callB call_len_seq (by rfl) T.len PySem.boot_len (pa_cons (pe_meth0 (pv 0) CT.cl FF.me GF hr FF.bi .nil pass0) pa_nil)) pa_nil)))))
      (pss_one (ps_raise rfl (takes_of rfl rfl rfl rfl) (pmk_oex OX TE.ini TE.tyI GI hr TE.bi .nil pass0 (by rfl) TE.gl (pa_cons (pv 1) pa_nil)))) pss_nil), ?_⟩
    obtain ⟨dx, a1, a2, a3, a4, D5, D6, L7, sg, sr, seq, h1, _, _, ⟨_, h7, h8⟩, _⟩ := id hc
    refine ⟨_, rfl, _, rfl, p, dx, _, rfl, h1, rfl, p, c, rfl, hc, good, fun sr' hs' t H1 e1 nt ht => ?_⟩
    refine ⟨t, _, rfl, .inr (st_of ht), x, d, c.regs.length, ?_, dd_ex e1 hx, by have := good.lr; omega, fun H2 e2 => ⟨_, rfl, ?_⟩⟩
    · simp [firstOf, hs'.1.length_eq]
    · rw [bad]
      exact iteT ⟨_, rfl, (by show 1 ≤ 1000; decide), rd_err k (e1.trans e2)⟩
theorem okCLetterX {f : Addr} {fd : FuncData} (F : At K mg "check_letter" dCLetter ["circuit", "letter"] f fd) (T : Txt K mg) (CT : CirT K mg C) (TE : ExcT K mg "InvalidLetter" "InvalidLetter.__init__" 10 CE fI fdI) (OX : OexC K CE) : FnOk P w K mg base (L2.CX P w) 4 f fd ["circuit", "letter"] (spBadBits K C CE (fun c => c.ins.length)) := by
  obtain ⟨fF, gF, FF⟩ := CT.inputs
  obtain ⟨fL, gL, FL⟩ := T.letter
  have GF : FnOk P w K mg base CX0 3 fF gF ["self"] (spM (α := Nat) K C (newTx Cir.ins)) := (okInputs FF T CT).mono (by decide)
  have GL : FnOk P w K mg base CX0 3 fL gL ["value", "width"] (spW K isLetter) := okLetter FL T
  have GI : FnOk P w K mg base CX0 2 fI fdI ["self", "value"] (spIni CE) := (ok_ini TE OX scI10 ⟨_, _, _, _, rfl, rfl⟩ (.inl rfl) (.inl rfl)).mono (by decide)
  refine F.fn.okX scCLetter (fun vs H Q E h => ?_) (fun cdv A outer s H vs Q E hr h => ?_)
  · obtain ⟨p, x, c, bs, rfl, _⟩ := h
    rfl
  · obtain ⟨p, x, c, d, rfl, hc, good, hx, bad, k⟩ := h
    refine ⟨_, pss_one (ps_if (pt_not (pt_val (pe_call GL hr (by rfl) FL.gl FL.fn.kp FL.bi .nil pass0 (pa_cons (pv 1) (pa_cons (pe_callB call_len_seq (by rfl) T.len PySem.boot_len (pa_cons (pe_meth0 (pv 0) CT.cl FF.me GF hr FF.bi .nil pass0) pa_nil)) pa_nil)))))
      (pss_one (ps_raise rfl (takes_of rfl rfl rfl rfl) (pmk_oex OX TE.ini TE.tyI GI hr TE.bi .nil pass0 (by rfl) TE.gl (pa_cons (pv 1) pa_nil)))) pss_nil), ?_⟩
    obtain ⟨dx, a1, a2, a3, a4, D5, D6, L7, sg, sr, seq, h1, _⟩ := id hc
    refine ⟨_, rfl, _, rfl, p, dx, _, rfl, h1, rfl, p, c, rfl, hc, good, fun l H1 e1 nl hl => ?_⟩
    refine ⟨l, _, rfl, .inl (SqL.of hl), x, d, c.ins.length, by simp, dd_ex e1 hx, by have := good.li; omega, fun H2 e2 => ⟨_, rfl, ?_⟩⟩
    rw [bad]
    exact iteT ⟨_, rfl, (by show 1 ≤ 1000; decide), rd_err k (e1.trans e2)⟩
/-! ### words -/
/-- two promises of one def -/
theorem either {CC : CXT} {k : Nat} {f : Addr} {fd : FuncData} {ps : List Str} {sp sp2 : Sp} (F : FnOk P w K mg base CC k f fd ps sp) (G : FnOk P w K mg base CC k f fd ps sp2) : FnOk P w K mg base CC k f fd ps (fun vs H Q E => sp vs H Q E ∨ sp2 vs H Q E) :=
  ⟨fun vs H Q E h => h.elim (F.len vs H Q E) (G.len vs H Q E), fun A outer s H args us vs Q E hr he hb hv hs => hs.elim (F.run A outer s H args us vs Q E hr he hb hv) (G.run A outer s H args us vs Q E hr he hb hv)⟩
def spWsD (K : PySem.W.Frag) (g : PyData → Nat → Bool) : Sp := fun vs H Q _ => ∃ (x : V) (d : PyData) (n : Nat), vs = [x, .int (n : Int)] ∧ Dw K H x d ∧ n ≤ 100 ∧ szD d ≤ 1000 ∧ ∀ H', Ex H H' → Q (.bl (g d n)) H'
/-- is_list of a list, whatever is in it -/
theorem okListL {f : Addr} {fd : FuncData} (F : At K mg "is_list" dList ["value"] f fd) (T : Txt K mg) : FnOk P w K mg base CX0 1 f fd ["value"] (fun vs H Q _ => ∃ (a : Addr) (xs : List V), vs = [.ref a] ∧ H a = some (.lst xs) ∧ ∀ H', Ex H H' → Q (.bl true) H') := by
  refine F.fn.ok scList (fun vs H Q E h => ?_) (fun cdv A outer s H vs Q E hr h => ?_)
  · obtain ⟨a, xs, rfl, _⟩ := h
    rfl
  · obtain ⟨a, xs, rfl, hd, k⟩ := h
    refine ⟨_, pss_one (ps_ret (pe_callB call_isiT (by rfl) T.isinstance (by decide +kernel) (pa_cons (pv 0) (pa_cons (pe_tup (pa_cons (pTy "list" (by rfl) T.list (by decide +kernel)) (pa_cons (pTy "tuple" (by rfl) T.tuple (by decide +kernel)) pa_nil))) pa_nil)))), ?_⟩
    refine ⟨_, rfl, (by show 2 ≤ sizeLine; decide), fun p hp => ?_⟩
    have e1 : Ex H (upd H p (.tup [.ty "list", .ty "tuple"])) := Ex.new hp
    refine ⟨.ref a, p, _, _, [.type "list", .type "tuple"], true, rfl, upd_same, .cons (.ty _) (.cons (.ty _) .nil), .base (.lst (e1 _ _ hd)), ?_, k _ e1⟩
    refine kitAny_cons (kit_ty (kit_L (.list []))) (fun e => ?_) (fun e => rfl)
    cases e
/-- what a list's elements are asked, one by one -/
theorem lc_dd {J : It} {xs : List V} {ds : List PyData} {Gd : Hp → Prop} (W : Walk J xs.length Gd (YAt xs)) {te : TE} {σ : L2.St} {j : Nat} {H : Hp} {D : Addr} {Qd : Hp → Prop} (t : PyData → Bool) (hn : xs.length ≤ 100000)
    (hG : ∀ H', Ex H H' → Gd H') (hx : DdAll K H xs ds) (he : ∀ x d, Dd K H x d → Ev te ((wipe σ [j]).set j (some x)) H (.bl (t d)))
    (new : H D = none) (hd : ∀ H', Ex H H' → H' D = some (.lst ((ds.map t).map V.bl)) → Qd H') : LcG J j te σ H D Qd := by
  have hl := hx.len
  refine lc_pure W (fun i => .bl (t (ds.getD i .none))) hn hG (fun i x => xs[i]? = some x) (fun i Ha x Hb _ _ y => ⟨y.1, y.2⟩) (fun i x hi e => ?_) new (fun H' e q => hd H' e ?_)
  · obtain ⟨d, e1, e2⟩ := hx.at e
    have e3 : ds.getD i .none = d := by rw [List.getD_eq_getElem?_getD, e1]; rfl
    rw [e3]
    exact he x d e2
  · rw [q, hl, List.map_map]
    congr 2
    exact range_map ds _ _ fun i d e => by
      show V.bl (t (ds.getD i .none)) = V.bl (t d)
      rw [List.getD_eq_getElem?_getD, e]
      rfl
theorem okWordL {f : Addr} {fd : FuncData} (F : At K mg "is_word" dWord ["value", "width"] f fd) (T : Txt K mg) : FnOk P w K mg base CX0 4 f fd ["value", "width"] (spWsD K isWord) := by
  have GW : FnOk P w K mg base CX0 4 f fd ["value", "width"] (spWs K isWord) := okWord F T
  obtain ⟨fL, fdL, FL⟩ := T.lst
  obtain ⟨fB, fdB, FB⟩ := T.letter
  have GL := okListL (P := P) (w := w) (base := base) FL T
  have GB : FnOk P w K mg base CX0 3 fB fdB ["value", "width"] (spW K isLetter) := okLetter FB T
  have G2 : FnOk P w K mg base CX0 4 f fd ["value", "width"] (fun vs H Q _ => ∃ (a : Addr) (xs : List V) (ds : List PyData) (n : Nat), vs = [.ref a, .int (n : Int)] ∧ H a = some (.lst xs) ∧ DdAll K H xs ds ∧ n ≤ 100 ∧ ds.length ≤ 1000 ∧ ∀ H', Ex H H' → Q (.bl (isWord (.list ds) n)) H') := by
    refine F.fn.ok scWord (fun vs H Q E h => ?_) (fun cdv A outer s H vs Q E hr h => ?_)
    · obtain ⟨a, xs, ds, n, rfl, _⟩ := h
      rfl
    · obtain ⟨a, xs, ds, n, rfl, ha, hd, hn, hz, k⟩ := h
      have hr1 : Room 1 _ := hr.mono (by decide)
      refine ⟨_, pss_one (ps_ret (pe_and (pe_call GL hr1 (by rfl) FL.gl FL.fn.kp FL.bi .nil pass0 (pa_cons (pv 0) pa_nil))
        (pe_one (pe_callB (cr_all rfl) (by rfl) T.all (by decide +kernel) (pa_cons (pe_lc (own := [("letter", 2)]) (g := gName 2) (by rfl) scWord.nd (pi_list (pv 0)) (blkOk_by (own := [("letter", 2)]) (N := ["value", "width", "letter"]) (sc := defScope dWord) (by decide +kernel))
          (fun _ _ _ _ _ => pg_name (i := 2) scWord.nd rfl (Or.inl rfl)) (fun _ _ _ _ _ => pts_nil) (fun _ _ _ _ _ => pe_call GB hr (by rfl) FB.gl FB.fn.kp FB.bi .nil pass0 (pa_cons (pv 2) (pa_cons (pv 1) pa_nil)))) pa_nil))))), ?_⟩
      refine ⟨_, rfl, a, xs, rfl, ha, fun H1 e1 => ⟨true, rfl, iteT ?_⟩⟩
      have hl := hd.len
      refine ⟨_, rfl, a, rfl, ⟨_, SqL.of (e1 _ _ ha)⟩, fun D new => ?_⟩
      refine lc_dd (K := K) (ds := ds) walk_list (fun d => isLetter d n) (by omega) (fun H' e => SqL.of (e _ _ (e1 _ _ ha))) (hd.ex e1) (fun x d hx => ?_) new (fun H' e q => ?_)
      · intro H2 e2 Q1 q1
        exact rd_w (i := 2) (j := 1) rfl rfl (dd_ex e2 hx) hn q1
      · refine ⟨D, ds.map (fun d => isLetter d n), rfl, .inl (.inl q), ?_⟩
        have kk := k H' (e1.trans e)
        have e5 : (ds.map (fun d => isLetter d n)).all id = ds.all (fun d => isLetter d n) := by rw [List.all_map]; rfl
        rw [e5]
        exact kk
  refine (either GW G2).imp fun vs H Q E h => ?_
  obtain ⟨x, d, n, rfl, hd, hn, hz, k⟩ := h
  cases hd with
  | dd h => exact .inl ⟨x, d, n, rfl, h, hn, hz, k⟩
  | ls h ha => exact .inr ⟨_, _, _, n, rfl, h, ha, hn, hz, k⟩
end
end W

set_option Elab.async false
set_option linter.all false
set_option maxRecDepth 100000
set_option maxHeartbeats 8000000
namespace W
open PySem PySem.Spec PyProof.Rows L2 Evl G C
section
variable {P : Program} {w : World} {K : PySem.W.Frag} {mg : Str → Option Value} {base : Heap} {C CE fI : Addr} {fdI : FuncData}
def spBadWord (K : PySem.W.Frag) (C CE : Addr) : Sp := fun vs H Q E => ∃ (p : Addr) (x : V) (c : Cir) (d : PyData), vs = [.ref p, x] ∧ CirAt K C H p c ∧ Good c ∧ Dw K H x d ∧ szD d ≤ 1000 ∧ isWord d c.ins.length = false ∧ Err E H CE x
theorem dw_ex {H H' : Hp} {x : V} {d : PyData} (e : Ex H H') (h : Dw K H x d) : Dw K H' x d := by
  cases h with
  | dd h => exact .dd (dd_ex e h)
  | ls h k => exact .ls (e _ _ h) (k.ex e)
theorem okCWordX {f : Addr} {fd : FuncData} (F : At K mg "check_word" dCWord ["circuit", "word"] f fd) (T : Txt K mg) (CT : CirT K mg C) (TE : ExcT K mg "InvalidWord" "InvalidWord.__init__" 11 CE fI fdI) (OX : OexC K CE) : FnOk P w K mg base (L2.CX P w) 5 f fd ["circuit", "word"] (spBadWord K C CE) := by
  obtain ⟨fF, gF, FF⟩ := CT.inputs
  obtain ⟨fL, gL, FL⟩ := T.word
  have GF : FnOk P w K mg base CX0 4 fF gF ["self"] (spM (α := Nat) K C (newTx Cir.ins)) := (okInputs FF T CT).mono (by decide)
  have GL : FnOk P w K mg base CX0 4 fL gL ["value", "width"] (spWsD K isWord) := okWordL FL T
  have GI : FnOk P w K mg base CX0 3 fI fdI ["self", "value"] (spIni CE) := (ok_ini TE OX scI11 ⟨_, _, _, _, rfl, rfl⟩ (.inl rfl) (.inl rfl)).mono (by decide)
  refine F.fn.okX scCWord (fun vs H Q E h => ?_) (fun cdv A outer s H vs Q E hr h => ?_)
  · obtain ⟨p, x, c, bs, rfl, _⟩ := h
    rfl
  · obtain ⟨p, x, c, d, rfl, hc, good, hx, sz, bad, k⟩ := h
    refine ⟨_, pss_one (ps_if (pt_not (pt_val (pe_call GL hr (by rfl) FL.gl FL.fn.kp FL.bi .nil pass0 (pa_cons (pv 1) (pa_cons (pe_callB call_len_seq (by rfl) T.len PySem.boot_len (pa_cons (pe_meth0 (pv 0) CT.cl FF.me GF hr FF.bi .nil pass0) pa_nil)) pa_nil)))))
      (pss_one (ps_raise rfl (takes_of rfl rfl rfl rfl) (pmk_oex OX TE.ini TE.tyI GI hr TE.bi .nil pass0 (by rfl) TE.gl (pa_cons (pv 1) pa_nil)))) pss_nil), ?_⟩
    obtain ⟨dx, a1, a2, a3, a4, D5, D6, L7, sg, sr, seq, h1, _⟩ := id hc
    refine ⟨_, rfl, _, rfl, p, dx, _, rfl, h1, rfl, p, c, rfl, hc, good, fun l H1 e1 nl hl => ?_⟩
    refine ⟨l, _, rfl, .inl (SqL.of hl), x, d, c.ins.length, by simp, dw_ex e1 hx, by have := good.li; omega, sz, fun H2 e2 => ⟨_, rfl, ?_⟩⟩
    rw [bad]
    exact iteT ⟨_, rfl, (by show 1 ≤ 1000; decide), rd_err k (e1.trans e2)⟩
/-! ### faults, wires -/
def spContD (K : PySem.W.Frag) (C : Addr) : Sp := fun vs H Q _ => ∃ (p : Addr) (x : V) (c : Cir) (d : PyData), vs = [.ref p, x] ∧ CirAt K C H p c ∧ Dd K H x d ∧ Q (.bl (contB c d)) H
theorem okContX {f : Addr} {fd : FuncData} (F : MthT K C "__contains__" "Circuit.__contains__" (dM 13) ["self", "value"] f fd) (T : Txt K mg) (CT : CirT K mg C) : FnOk P w K mg base CX0 1 f fd ["self", "value"] (spContD K C) := by
  refine F.fn.ok scCont (fun vs H Q E h => ?_) (fun cdv A outer s H vs Q E hr h => ?_)
  · obtain ⟨p, z, c, d, rfl, _⟩ := h
    rfl
  · obtain ⟨p, x, c, d, rfl, hc, hx, k⟩ := h
    have hu := hu_of hr
    refine ⟨_, pss_one (ps_ret (pe_and (pe_callB call_isi (by rfl) T.isinstance (by decide +kernel) (pa_cons (pv 1) (pa_cons (pTy "str" (by rfl) T.str (by decide +kernel)) pa_nil))) (pe_one (pe_cmp (pc_din hu (pv 1) (pe_fld (pv 0) rfl)) rfl)))), ?_⟩
    refine rd_isi (K := K) (i := 1) (T := "str") rfl hx (kit_S d) ⟨_, rfl, ?_⟩
    cases e : isS d with
    | false =>
      have q : contB c d = false := by cases d <;> first | rfl | cases e
      rw [q] at k
      exact iteF k
    | true =>
      obtain ⟨z, rfl⟩ : ∃ z, d = .str z := by cases d <;> first | exact ⟨_, rfl⟩ | cases e
      cases hx with
      | dp q =>
        cases q
        refine iteT ?_
        obtain ⟨dx, a1, a2, a3, a4, D5, D6, L7, sg, sr, seq, h1, h2, _, _, h9, h10, h11, h12, h13⟩ := hc
        refine ⟨_, rfl, _, rfl, p, C, dx, _, _, rfl, h1, CT.cl, CT.n_kinds, (flds_in a1 a2 a3 a4 D5 D6 L7).2.2.2.2.2.1, D6, _, rfl, DGet.k (k := Sum.inr z) h11, ?_⟩
        rw [kinds_isSome]
        exact k
def spFaultD (K : PySem.W.Frag) (C : Addr) : Sp := fun vs H Q _ => ∃ (p : Addr) (x : V) (c : Cir) (d : PyData), vs = [.ref p, x] ∧ CirAt K C H p c ∧ Dd K H x d ∧ ∀ H', Ex H H' → Q (.bl (fltB c d)) H'
theorem okIsFaultX {f : Addr} {fd : FuncData} (F : At K mg "is_fault" dIsFault ["circuit", "value"] f fd) (T : Txt K mg) (CT : CirT K mg C) : FnOk P w K mg base CX0 3 f fd ["circuit", "value"] (spFaultD K C) := by
  obtain ⟨fI, gI, FI⟩ := CT.cont
  obtain ⟨fB, gB, FB⟩ := T.bit
  have GI : FnOk P w K mg base CX0 2 fI gI ["self", "value"] (spContD K C) := (okContX FI T CT).mono (by decide)
  have GB : FnOk P w K mg base CX0 2 fB gB ["value"] (spT K isBit) := okBit FB T
  refine F.fn.ok scIsFault (fun vs H Q E h => ?_) (fun cdv A outer s H vs Q E hr h => ?_)
  · obtain ⟨p, x, c, q, rfl, _⟩ := h
    rfl
  · obtain ⟨p, x, c, d, rfl, hc, hx, k⟩ := h
    refine ⟨_, pss_cons (ps_if (PW.pt (pw_or (pt_not (pt_val (pe_callB call_isi (by rfl) T.isinstance (by decide +kernel) (pa_cons (pv 1) (pa_cons (pTy "tuple" (by rfl) T.tuple (by decide +kernel)) pa_nil)))))
        (pw_or1 (pt_cmpR op_ne (pe_callB call_len_seq (by rfl) T.len PySem.boot_len (pa_cons (pv 1) pa_nil)) pe_int (nomark _))))) (pss_one (ps_ret pe_bl)) pss_nil)
      (pss_one (ps_ret (pe_and (pe_cmpR (op_inOwn GI hr FI.me.at_ FI.me.fn FI.bi pass0) (pe_ix ix_tup (pv 1) pe_int (fun _ _ => rfl)) (pv 0) (by rfl)) (pe_one (pe_call GB hr (by rfl) FB.gl FB.fn.kp FB.bi .nil pass0 (pa_cons (pe_ix ix_tup (pv 1) pe_int (fun _ _ => rfl)) pa_nil)))))), ?_⟩
    have kk := k H (Ex.refl H)
    obtain ⟨dx, a1, a2, a3, a4, D5, D6, L7, sg, sr, seq, h1, _⟩ := id hc
    refine rd_isi (K := K) (i := 1) (T := "tuple") rfl hx (kit_T d) ⟨_, rfl, ?_⟩
    cases e : isT d with
    | false =>
      have q : fltB c d = false := by cases d <;> first | rfl | cases e
      rw [q] at kk
      exact iteT (iteT kk)
    | true =>
      obtain ⟨ds, rfl⟩ : ∃ ds, d = .tuple ds := by cases d <;> first | exact ⟨_, rfl⟩ | cases e
      refine iteF ?_
      cases hx with
      | dp q =>
        cases q with
        | @tup t xs _ hs ha =>
          have hl := dpAll_len ha
          refine ⟨_, rfl, t, xs, rfl, .inr hs, rfl, _, rfl, ?_⟩
          by_cases z : ds.length = 2
          · obtain ⟨d0, d1, rfl⟩ : ∃ d0 d1, ds = [d0, d1] := by
              rcases ds with _ | ⟨a, _ | ⟨b, _ | ⟨e, r⟩⟩⟩
              · cases z
              · cases z
              · exact ⟨a, b, rfl⟩
              · simp at z
            cases ha with
            | @cons x0 _ _ _ b0 r =>
              cases r with
              | @cons x1 _ _ _ b1 r2 =>
                cases r2
                refine iteF ?_
                refine ⟨_, rfl, t, _, 0, x0, rfl, rfl, hs, rfl, _, rfl, p, dx, _, rfl, h1, p, x0, c, d0, rfl, hc, .dp b0, _, rfl, _, rfl, ?_⟩
                have u : fltB c (.tuple [d0, d1]) = (contB c d0 && isBit d1) := rfl
                cases e0 : contB c d0 with
                | false =>
                  rw [u, e0] at kk
                  exact iteF kk
                | true =>
                  refine iteT ⟨_, rfl, t, _, 1, x1, rfl, rfl, hs, rfl, x1, d1, rfl, .dp b1, fun H' e => ?_⟩
                  have k2 := k H' e
                  rw [u, e0] at k2
                  exact k2
          · have q : fltB c (.tuple ds) = false := by
              rcases ds with _ | ⟨a, _ | ⟨b, _ | ⟨e, r⟩⟩⟩
              · rfl
              · rfl
              · exact absurd rfl z
              · rfl
            rw [q] at kk
            have n2 : (V.int (xs.length : Nat) : V) ≠ V.int 2 := fun y => z (by have := V.int.inj y; omega)
            show if (!decide (V.int (xs.length : Nat) = V.int 2)) = true then _ else _
            rw [decide_eq_false n2]
            exact iteT kk
end
end W

set_option Elab.async false
set_option linter.all false
set_option maxRecDepth 100000
set_option maxHeartbeats 8000000
namespace W
open PySem PySem.Spec PyProof.Rows L2 Evl G C
section
variable {P : Program} {w : World} {K : PySem.W.Frag} {mg : Str → Option Value} {base : Heap} {C CE fI : Addr} {fdI : FuncData}
def spBadFault (K : PySem.W.Frag) (C CE : Addr) : Sp := fun vs H Q E => ∃ (p : Addr) (x : V) (c : Cir) (d : PyData), vs = [.ref p, x] ∧ CirAt K C H p c ∧ Dd K H x d ∧ d ≠ .none ∧ fltB c d = false ∧ Err E H CE x
theorem okCStuckX {f : Addr} {fd : FuncData} (F : At K mg "check_stuck" dCStuck ["circuit", "stuck"] f fd) (T : Txt K mg) (CT : CirT K mg C) (TE : ExcT K mg "InvalidFault" "InvalidFault.__init__" 13 CE fI fdI) (OX : OexC K CE) : FnOk P w K mg base (L2.CX P w) 4 f fd ["circuit", "stuck"] (spBadFault K C CE) := by
  obtain ⟨fF, gF, FF⟩ := T.isFault
  have GF : FnOk P w K mg base CX0 3 fF gF ["circuit", "value"] (spFaultD K C) := okIsFaultX FF T CT
  have GI : FnOk P w K mg base CX0 2 fI fdI ["self", "value"] (spIni CE) := (ok_ini TE OX scI13 ⟨_, _, _, _, rfl, rfl⟩ (.inl rfl) (.inl rfl)).mono (by decide)
  refine F.fn.okX scCStuck (fun vs H Q E h => ?_) (fun cdv A outer s H vs Q E hr h => ?_)
  · obtain ⟨p, x, c, q, rfl, _⟩ := h
    rfl
  · obtain ⟨p, x, c, d, rfl, hc, hx, nn, bad, k⟩ := h
    refine ⟨_, pss_one (ps_if (PW.pt (pw_and (pt_cmp (pc_notN (pv 1))) (pw_and1 (pt_not (pt_val (pe_call GF hr (by rfl) FF.gl FF.fn.kp FF.bi .nil pass0 (pa_cons (pv 0) (pa_cons (pv 1) pa_nil))))))))
      (pss_one (ps_raise rfl (takes_of rfl rfl rfl rfl) (pmk_oex OX TE.ini TE.tyI GI hr TE.bi .nil pass0 (by rfl) TE.gl (pa_cons (pv 1) pa_nil)))) pss_nil), ?_⟩
    have nx : x ≠ V.non := by
      rintro rfl
      cases hx with
      | dp q =>
        cases q
        exact nn rfl
    have e : (!decide (x = V.non)) = true := by
      rw [decide_eq_false nx]
      rfl
    refine ⟨_, rfl, _, rfl, ?_⟩
    rw [e]
    refine iteT ⟨_, rfl, _, rfl, p, x, c, d, rfl, hc, hx, fun H1 e1 => ⟨_, rfl, ?_⟩⟩
    rw [bad]
    exact iteT ⟨_, rfl, (by show 1 ≤ 1000; decide), rd_err k e1⟩
def spBadWire (K : PySem.W.Frag) (C CE : Addr) : Sp := fun vs H Q E => ∃ (p : Addr) (x : V) (c : Cir) (d : PyData), vs = [.ref p, x] ∧ CirAt K C H p c ∧ Dd K H x d ∧ contB c d = false ∧ Err E H CE x
theorem okCWireX {f : Addr} {fd : FuncData} (F : At K mg "check_wire" dCWire ["circuit", "wire"] f fd) (T : Txt K mg) (CT : CirT K mg C) (TE : ExcT K mg "UnknownWire" "UnknownWire.__init__" 15 CE fI fdI) (OX : OexL K CE) : FnOk P w K mg base (L2.CX P w) 3 f fd ["circuit", "wire"] (spBadWire K C CE) := by
  obtain ⟨fF, gF, FF⟩ := CT.cont
  have GF : FnOk P w K mg base CX0 2 fF gF ["self", "value"] (spContD K C) := (okContX FF T CT).mono (by decide)
  have GI : FnOk P w K mg base CX0 1 fI fdI ["self", "value"] (spIni CE) := ok_iniL TE OX scI15 ⟨_, _, _, _, rfl, rfl⟩ (.inl rfl) (.inl rfl)
  refine F.fn.okX scCWire (fun vs H Q E h => ?_) (fun cdv A outer s H vs Q E hr h => ?_)
  · obtain ⟨p, z, c, d, rfl, _⟩ := h
    rfl
  · obtain ⟨p, x, c, d, rfl, hc, hx, bad, k⟩ := h
    refine ⟨_, pss_one (ps_if (pt_cmpR (op_ninOwn GF hr FF.me.at_ FF.me.fn FF.bi pass0) (pv 1) (pv 0) (by rfl))
      (pss_one (ps_raise rfl (takes_of rfl rfl rfl rfl) (pmk_oexL OX TE.ini TE.tyI GI hr TE.bi .nil pass0 (by rfl) TE.gl (pa_cons (pv 1) pa_nil)))) pss_nil), ?_⟩
    obtain ⟨dx, a1, a2, a3, a4, D5, D6, L7, sg, sr, seq, h1, hrest⟩ := id hc
    refine ⟨_, rfl, _, rfl, p, dx, _, rfl, h1, p, x, c, d, rfl, hc, hx, _, rfl, _, rfl, ?_⟩
    rw [bad]
    exact iteT ⟨_, rfl, (by show 1 ≤ 1000; decide), rd_err k (Ex.refl H)⟩
end
end W

set_option Elab.async false
set_option linter.all false
set_option maxRecDepth 100000
set_option maxHeartbeats 8000000
namespace W
open PySem PySem.Spec PyProof.Rows L2 Evl G C
/-- the error classes that runs raise -/
structure Errs (K : PySem.W.Frag) (mg : Str → Option Value) (CS CL CF CW CU iS iL iF iW iU : Addr) (dS dL dF dW dU : FuncData) : Prop where
  s : ExcT K mg "InvalidState" "InvalidState.__init__" 12 CS iS dS
  l : ExcT K mg "InvalidLetter" "InvalidLetter.__init__" 10 CL iL dL
  f : ExcT K mg "InvalidFault" "InvalidFault.__init__" 13 CF iF dF
  w : ExcT K mg "InvalidWord" "InvalidWord.__init__" 11 CW iW dW
  u : ExcT K mg "UnknownWire" "UnknownWire.__init__" 15 CU iU dU
  os : OexC K CS
  ol : OexC K CL
  of : OexC K CF
  ow : OexC K CW
  ou : OexL K CU
section
variable {P : Program} {w : World} {K : PySem.W.Frag} {mg : Str → Option Value} {base : Heap} {C CS CL CF CW CU iS iL iF iW iU : Addr} {dS dL dF dW dU : FuncData}
/-- one of a step's arguments is refused -/
def BadStep (K : PySem.W.Frag) (CS CL CF : Addr) (H : Hp) (E : XK) (x y z : V) (c : Cir) : Prop :=
  (∃ d, Dd K H x d ∧ isLetter d c.regs.length = false ∧ Err E H CS x) ∨
  (∃ bs d, Dp K H x (bitsD bs) ∧ BitsOk c.regs.length bs ∧ Dd K H y d ∧ isLetter d c.ins.length = false ∧ Err E H CL y) ∨
  (∃ bs ls d, Dp K H x (bitsD bs) ∧ BitsOk c.regs.length bs ∧ Dp K H y (bitsD ls) ∧ BitsOk c.ins.length ls ∧ Dd K H z d ∧ d ≠ .none ∧ fltB c d = false ∧ Err E H CF z)
def spStepX (K : PySem.W.Frag) (C CS CL CF : Addr) : Sp := fun vs H Q E => ∃ (p : Addr) (x y z : V) (c : Cir), vs = [.ref p, x, y, z] ∧ CirAt K C H p c ∧ Good c ∧ BadStep K CS CL CF H E x y z c
theorem okCStepX {f : Addr} {fd : FuncData} (F : At K mg "check_step" dCStep ["circuit", "state", "letter", "stuck"] f fd) (T : Txt K mg) (CT : CirT K mg C) (TE : Errs K mg CS CL CF CW CU iS iL iF iW iU dS dL dF dW dU) : FnOk P w K mg base (L2.CX P w) 5 f fd ["circuit", "state", "letter", "stuck"] (spStepX K C CS CL CF) := by
  obtain ⟨f1, g1, F1⟩ := T.cState
  obtain ⟨f2, g2, F2⟩ := T.cLetter
  obtain ⟨f3, g3, F3⟩ := T.cStuck
  have G1 : FnOk P w K mg base CX0 4 f1 g1 ["circuit", "state"] (spBits K C (fun c => c.regs.length)) := okCState F1 T CT
  have G2 : FnOk P w K mg base CX0 4 f2 g2 ["circuit", "letter"] (spBits K C (fun c => c.ins.length)) := okCLetter F2 T CT
  have X1 : FnOk P w K mg base (L2.CX P w) 4 f1 g1 ["circuit", "state"] (spBadBits K C CS (fun c => c.regs.length)) := okCStateX F1 T CT TE.s TE.os
  have X2 : FnOk P w K mg base (L2.CX P w) 4 f2 g2 ["circuit", "letter"] (spBadBits K C CL (fun c => c.ins.length)) := okCLetterX F2 T CT TE.l TE.ol
  have X3 : FnOk P w K mg base (L2.CX P w) 4 f3 g3 ["circuit", "stuck"] (spBadFault K C CF) := okCStuckX F3 T CT TE.f TE.of
  refine F.fn.okX scCStep (fun vs H Q E h => ?_) (fun cdv A outer s H vs Q E hr h => ?_)
  · obtain ⟨p, x, y, z, c, rfl, _⟩ := h
    rfl
  · obtain ⟨p, x, y, z, c, rfl, hc, good, h⟩ := h
    rcases h with ⟨d, hd, bad, k⟩ | ⟨bs, d, hx, ok, hd, bad, k⟩ | ⟨bs, ls, d, hx, ok, hy, ok2, hd, nn, bad, k⟩
    · refine ⟨_, pss_cons (ps_expr (pe_call X1 hr (by rfl) F1.gl F1.fn.kp F1.bi .nil (passes_call (takes_of rfl rfl rfl rfl) fun _ _ _ _ h => h) (pa_cons (pv 0) (pa_cons (pv 1) pa_nil)))) pss_never, ?_⟩
      exact ⟨_, rfl, _, rfl, p, x, c, d, rfl, hc, good, hd, bad, k⟩
    · refine ⟨_, pss_cons (ps_expr (pe_call G1 hr (by rfl) F1.gl F1.fn.kp F1.bi .nil pass0 (pa_cons (pv 0) (pa_cons (pv 1) pa_nil))))
        (pss_cons (ps_expr (pe_call X2 hr (by rfl) F2.gl F2.fn.kp F2.bi .nil (passes_call (takes_of rfl rfl rfl rfl) fun _ _ _ _ h => h) (pa_cons (pv 0) (pa_cons (pv 2) pa_nil)))) pss_never), ?_⟩
      exact ⟨_, rfl, _, rfl, p, x, c, bs, rfl, hc, good, hx, ok, fun H1 e1 => ⟨_, rfl, _, rfl, p, y, c, d, rfl, hc.ex e1, good, dd_ex e1 hd, bad, k.ex e1⟩⟩
    · refine ⟨_, pss_cons (ps_expr (pe_call G1 hr (by rfl) F1.gl F1.fn.kp F1.bi .nil pass0 (pa_cons (pv 0) (pa_cons (pv 1) pa_nil))))
        (pss_cons (ps_expr (pe_call G2 hr (by rfl) F2.gl F2.fn.kp F2.bi .nil pass0 (pa_cons (pv 0) (pa_cons (pv 2) pa_nil))))
        (pss_one (ps_expr (pe_call X3 hr (by rfl) F3.gl F3.fn.kp F3.bi .nil (passes_call (takes_of rfl rfl rfl rfl) fun _ _ _ _ h => h) (pa_cons (pv 0) (pa_cons (pv 3) pa_nil)))))), ?_⟩
      exact ⟨_, rfl, _, rfl, p, x, c, bs, rfl, hc, good, hx, ok, fun H1 e1 => ⟨_, rfl, _, rfl, p, y, c, ls, rfl, hc.ex e1, good, dp_ex e1 hy, ok2, fun H2 e2 => ⟨_, rfl, _, rfl, p, z, c, d, rfl, hc.ex (e1.trans e2), dd_ex (e1.trans e2) hd, nn, bad, k.ex (e1.trans e2)⟩⟩⟩
theorem okValuesX {f : Addr} {fd : FuncData} (F : AtD K mg "values" dValues [.non] ["circuit", "state", "letter", "stuck"] f fd) (T : Txt K mg) (CT : CirT K mg C) (TE : Errs K mg CS CL CF CW CU iS iL iF iW iU dS dL dF dW dU) : FnOk P w K mg base (L2.CX P w) 6 f fd ["circuit", "state", "letter", "stuck"] (spStepX K C CS CL CF) := by
  obtain ⟨f1, g1, F1⟩ := T.cStep
  have X1 : FnOk P w K mg base (L2.CX P w) 5 f1 g1 ["circuit", "state", "letter", "stuck"] (spStepX K C CS CL CF) := okCStepX F1 T CT TE
  refine F.fn.ok scValues (fun vs H Q E h => ?_) (fun cdv A outer s H vs Q E hr h => ?_)
  · obtain ⟨p, x, y, z, c, rfl, _⟩ := h
    rfl
  · obtain ⟨p, x, y, z, c, rfl, hc, good, h⟩ := h
    refine ⟨_, pss_cons (ps_expr (pe_call X1 hr (by rfl) F1.gl F1.fn.kp F1.bi .nil (passes_call (takes_of rfl rfl rfl rfl) fun _ _ _ _ h => h) (pa_cons (pv 0) (pa_cons (pv 1) (pa_cons (pv 2) (pa_cons (pv 3) pa_nil)))))) pss_never, ?_⟩
    exact ⟨_, rfl, _, rfl, _, rfl, _, rfl, p, x, y, z, c, rfl, hc, good, h⟩
theorem okStepX {f : Addr} {fd : FuncData} (F : AtD K mg "step" dStep [.non] ["circuit", "state", "letter", "stuck"] f fd) (T : Txt K mg) (CT : CirT K mg C) (TE : Errs K mg CS CL CF CW CU iS iL iF iW iU dS dL dF dW dU) : FnOk P w K mg base (L2.CX P w) 6 f fd ["circuit", "state", "letter", "stuck"] (spStepX K C CS CL CF) := by
  obtain ⟨f1, g1, F1⟩ := T.cStep
  have X1 : FnOk P w K mg base (L2.CX P w) 5 f1 g1 ["circuit", "state", "letter", "stuck"] (spStepX K C CS CL CF) := okCStepX F1 T CT TE
  refine F.fn.ok scStepF (fun vs H Q E h => ?_) (fun cdv A outer s H vs Q E hr h => ?_)
  · obtain ⟨p, x, y, z, c, rfl, _⟩ := h
    rfl
  · obtain ⟨p, x, y, z, c, rfl, hc, good, h⟩ := h
    refine ⟨_, pss_cons (ps_expr (pe_call X1 hr (by rfl) F1.gl F1.fn.kp F1.bi .nil (passes_call (takes_of rfl rfl rfl rfl) fun _ _ _ _ h => h) (pa_cons (pv 0) (pa_cons (pv 1) (pa_cons (pv 2) (pa_cons (pv 3) pa_nil)))))) pss_never, ?_⟩
    exact ⟨_, rfl, _, rfl, _, rfl, _, rfl, p, x, y, z, c, rfl, hc, good, h⟩
/-- a word as it should be -/
def GoodW (K : PySem.W.Frag) (H : Hp) (x : V) (c : Cir) : Prop := ∃ ws, (Dp K H x (wordL ws) ∨ Dp K H x (wordT ws)) ∧ (∀ w ∈ ws, BitsOk c.ins.length w) ∧ ws.length ≤ 500
/-- one of a run's arguments is refused -/
def BadRun (K : PySem.W.Frag) (CW CS CF : Addr) (H : Hp) (E : XK) (x y z : V) (c : Cir) : Prop :=
  (∃ d, Dw K H x d ∧ szD d ≤ 1000 ∧ isWord d c.ins.length = false ∧ Err E H CW x) ∨
  (GoodW K H x c ∧ ∃ d, Dd K H y d ∧ d ≠ .none ∧ isLetter d c.regs.length = false ∧ Err E H CS y) ∨
  (GoodW K H x c ∧ ∃ st d, Dp K H y (stD st) ∧ (∀ bs, st = some bs → BitsOk c.regs.length bs) ∧ Dd K H z d ∧ d ≠ .none ∧ fltB c d = false ∧ Err E H CF z)
def spRunX (K : PySem.W.Frag) (C CW CS CF : Addr) : Sp := fun vs H Q E => ∃ (p : Addr) (x y z : V) (c : Cir), vs = [.ref p, x, y, z] ∧ CirAt K C H p c ∧ Good c ∧ BadRun K CW CS CF H E x y z c
theorem not_non {H : Hp} {x : V} {d : PyData} (hx : Dd K H x d) (nn : d ≠ .none) : (!decide (x = V.non)) = true := by
  have nx : x ≠ V.non := by
    rintro rfl
    cases hx with
    | dp q =>
      cases q
      exact nn rfl
  rw [decide_eq_false nx]
  rfl
theorem okCCourseX {f : Addr} {fd : FuncData} (F : At K mg "check_course" dCCourse ["circuit", "word", "state", "stuck"] f fd) (T : Txt K mg) (CT : CirT K mg C) (TE : Errs K mg CS CL CF CW CU iS iL iF iW iU dS dL dF dW dU) : FnOk P w K mg base (L2.CX P w) 6 f fd ["circuit", "word", "state", "stuck"] (spRunX K C CW CS CF) := by
  obtain ⟨f1, g1, F1⟩ := T.cWord
  obtain ⟨f2, g2, F2⟩ := T.cState
  obtain ⟨f3, g3, F3⟩ := T.cStuck
  have G1 : FnOk P w K mg base CX0 5 f1 g1 ["circuit", "word"] (spWord K C) := okCWord F1 T CT
  have G2 : FnOk P w K mg base CX0 5 f2 g2 ["circuit", "state"] (spBits K C (fun c => c.regs.length)) := (okCState F2 T CT).mono (by decide)
  have X1 : FnOk P w K mg base (L2.CX P w) 5 f1 g1 ["circuit", "word"] (spBadWord K C CW) := okCWordX F1 T CT TE.w TE.ow
  have X2 : FnOk P w K mg base (L2.CX P w) 5 f2 g2 ["circuit", "state"] (spBadBits K C CS (fun c => c.regs.length)) := (okCStateX F2 T CT TE.s TE.os).mono (by decide)
  have X3 : FnOk P w K mg base (L2.CX P w) 5 f3 g3 ["circuit", "stuck"] (spBadFault K C CF) := (okCStuckX F3 T CT TE.f TE.of).mono (by decide)
  refine F.fn.okX scCCourse (fun vs H Q E h => ?_) (fun cdv A outer s H vs Q E hr h => ?_)
  · obtain ⟨p, x, y, z, c, rfl, _⟩ := h
    rfl
  · obtain ⟨p, x, y, z, c, rfl, hc, good, h⟩ := h
    rcases h with ⟨d, hd, sz, bad, k⟩ | ⟨⟨ws, hx, okw, lw⟩, d, hd, nn, bad, k⟩ | ⟨⟨ws, hx, okw, lw⟩, st, d, hy, oks, hd, nn, bad, k⟩
    · refine ⟨_, pss_cons (ps_expr (pe_call X1 hr (by rfl) F1.gl F1.fn.kp F1.bi .nil (passes_call (takes_of rfl rfl rfl rfl) fun _ _ _ _ h => h) (pa_cons (pv 0) (pa_cons (pv 1) pa_nil)))) pss_never, ?_⟩
      exact ⟨_, rfl, _, rfl, p, x, c, d, rfl, hc, good, hd, sz, bad, k⟩
    · refine ⟨_, pss_cons (ps_expr (pe_call G1 hr (by rfl) F1.gl F1.fn.kp F1.bi .nil pass0 (pa_cons (pv 0) (pa_cons (pv 1) pa_nil))))
        (pss_cons (ps_if (pt_cmp (pc_notN (pv 2))) (pss_one (ps_expr (pe_call X2 hr (by rfl) F2.gl F2.fn.kp F2.bi .nil (passes_call (takes_of rfl rfl rfl rfl) fun _ _ _ _ h => h) (pa_cons (pv 0) (pa_cons (pv 2) pa_nil))))) pss_nil) pss_never), ?_⟩
      refine ⟨_, rfl, _, rfl, p, x, c, ws, rfl, hc, good, hx, okw, lw, fun H1 e1 => ⟨_, rfl, _, rfl, ?_⟩⟩
      rw [not_non hd nn]
      exact iteT ⟨_, rfl, _, rfl, p, y, c, d, rfl, hc.ex e1, good, dd_ex e1 hd, bad, k.ex e1⟩
    · refine ⟨_, pss_cons (ps_expr (pe_call G1 hr (by rfl) F1.gl F1.fn.kp F1.bi .nil pass0 (pa_cons (pv 0) (pa_cons (pv 1) pa_nil))))
        (pss_cons (ps_if (pt_cmp (pc_notN (pv 2))) (pss_one (ps_expr (pe_call G2 hr (by rfl) F2.gl F2.fn.kp F2.bi .nil pass0 (pa_cons (pv 0) (pa_cons (pv 2) pa_nil))))) pss_nil)
        (pss_one (ps_expr (pe_call X3 hr (by rfl) F3.gl F3.fn.kp F3.bi .nil (passes_call (takes_of rfl rfl rfl rfl) fun _ _ _ _ h => h) (pa_cons (pv 0) (pa_cons (pv 3) pa_nil)))))), ?_⟩
      refine ⟨_, rfl, _, rfl, p, x, c, ws, rfl, hc, good, hx, okw, lw, fun H1 e1 => ?_⟩
      cases st with
      | none =>
        cases hy
        exact ⟨_, rfl, _, rfl, iteF ⟨_, rfl, _, rfl, p, z, c, d, rfl, hc.ex e1, dd_ex e1 hd, nn, bad, k.ex e1⟩⟩
      | some bs =>
        obtain ⟨t, rfl, ht⟩ := bits_of hy
        exact ⟨_, rfl, _, rfl, iteT ⟨_, rfl, _, rfl, p, .ref t, c, bs, rfl, hc.ex e1, good, dp_ex e1 hy, oks bs rfl, fun H2 e2 => ⟨_, rfl, _, rfl, p, z, c, d, rfl, hc.ex (e1.trans e2), dd_ex (e1.trans e2) hd, nn, bad, k.ex (e1.trans e2)⟩⟩⟩
theorem okAnsX {f : Addr} {fd : FuncData} (F : AtD K mg "answer" dAnswer [.non, .non] ["circuit", "word", "state", "stuck"] f fd) (T : Txt K mg) (CT : CirT K mg C) (TE : Errs K mg CS CL CF CW CU iS iL iF iW iU dS dL dF dW dU) : FnOk P w K mg base (L2.CX P w) 7 f fd ["circuit", "word", "state", "stuck"] (spRunX K C CW CS CF) := by
  obtain ⟨f1, g1, F1⟩ := T.cCourse
  have X1 : FnOk P w K mg base (L2.CX P w) 6 f1 g1 ["circuit", "word", "state", "stuck"] (spRunX K C CW CS CF) := okCCourseX F1 T CT TE
  refine F.fn.ok scAns (fun vs H Q E h => ?_) (fun cdv A outer s H vs Q E hr h => ?_)
  · obtain ⟨p, x, y, z, c, rfl, _⟩ := h
    rfl
  · obtain ⟨p, x, y, z, c, rfl, hc, good, h⟩ := h
    refine ⟨_, pss_cons (ps_expr (pe_call X1 hr (by rfl) F1.gl F1.fn.kp F1.bi .nil (passes_call (takes_of rfl rfl rfl rfl) fun _ _ _ _ h => h) (pa_cons (pv 0) (pa_cons (pv 1) (pa_cons (pv 2) (pa_cons (pv 3) pa_nil)))))) pss_never, ?_⟩
    exact ⟨_, rfl, _, rfl, _, rfl, _, rfl, p, x, y, z, c, rfl, hc, good, h⟩
theorem okStatesAX {f : Addr} {fd : FuncData} (F : AtD K mg "states_along" dStatesA [.non, .non] ["circuit", "word", "state", "stuck"] f fd) (T : Txt K mg) (CT : CirT K mg C) (TE : Errs K mg CS CL CF CW CU iS iL iF iW iU dS dL dF dW dU) : FnOk P w K mg base (L2.CX P w) 7 f fd ["circuit", "word", "state", "stuck"] (spRunX K C CW CS CF) := by
  obtain ⟨f1, g1, F1⟩ := T.cCourse
  have X1 : FnOk P w K mg base (L2.CX P w) 6 f1 g1 ["circuit", "word", "state", "stuck"] (spRunX K C CW CS CF) := okCCourseX F1 T CT TE
  refine F.fn.ok scStA (fun vs H Q E h => ?_) (fun cdv A outer s H vs Q E hr h => ?_)
  · obtain ⟨p, x, y, z, c, rfl, _⟩ := h
    rfl
  · obtain ⟨p, x, y, z, c, rfl, hc, good, h⟩ := h
    refine ⟨_, pss_cons (ps_expr (pe_call X1 hr (by rfl) F1.gl F1.fn.kp F1.bi .nil (passes_call (takes_of rfl rfl rfl rfl) fun _ _ _ _ h => h) (pa_cons (pv 0) (pa_cons (pv 1) (pa_cons (pv 2) (pa_cons (pv 3) pa_nil)))))) pss_never, ?_⟩
    exact ⟨_, rfl, _, rfl, _, rfl, _, rfl, p, x, y, z, c, rfl, hc, good, h⟩
def spToldX (K : PySem.W.Frag) (C CU CW CS CF : Addr) : Sp := fun vs H Q E => ∃ (p : Addr) (u x y z : V) (c : Cir), vs = [.ref p, u, x, y, z] ∧ CirAt K C H p c ∧ Good c ∧
  ((∃ d, Dd K H u d ∧ contB c d = false ∧ Err E H CU u) ∨ ((∃ t, u = .str t ∧ t ∈ names c) ∧ BadRun K CW CS CF H E x y z c))
theorem okToldX {f : Addr} {fd : FuncData} (F : AtD K mg "told" dTold [.non, .non] ["circuit", "wire", "word", "state", "stuck"] f fd) (T : Txt K mg) (CT : CirT K mg C) (TE : Errs K mg CS CL CF CW CU iS iL iF iW iU dS dL dF dW dU) : FnOk P w K mg base (L2.CX P w) 7 f fd ["circuit", "wire", "word", "state", "stuck"] (spToldX K C CU CW CS CF) := by
  obtain ⟨f1, g1, F1⟩ := T.cCourse
  obtain ⟨f2, g2, F2⟩ := T.cWire
  have X1 : FnOk P w K mg base (L2.CX P w) 6 f1 g1 ["circuit", "word", "state", "stuck"] (spRunX K C CW CS CF) := okCCourseX F1 T CT TE
  have X2 : FnOk P w K mg base (L2.CX P w) 6 f2 g2 ["circuit", "wire"] (spBadWire K C CU) := (okCWireX F2 T CT TE.u TE.ou).mono (by decide)
  have G2 : FnOk P w K mg base CX0 6 f2 g2 ["circuit", "wire"] (spCWire K C) := (okCWire F2 T CT).mono (by decide)
  refine F.fn.ok scTold (fun vs H Q E h => ?_) (fun cdv A outer s H vs Q E hr h => ?_)
  · obtain ⟨p, u, x, y, z, c, rfl, _⟩ := h
    rfl
  · obtain ⟨p, u, x, y, z, c, rfl, hc, good, h⟩ := h
    rcases h with ⟨d, hd, bad, k⟩ | ⟨⟨t, rfl, ht⟩, h⟩
    · refine ⟨_, pss_cons (ps_expr (pe_call X2 hr (by rfl) F2.gl F2.fn.kp F2.bi .nil (passes_call (takes_of rfl rfl rfl rfl) fun _ _ _ _ h => h) (pa_cons (pv 0) (pa_cons (pv 1) pa_nil)))) pss_never, ?_⟩
      exact ⟨_, rfl, _, rfl, p, u, c, d, rfl, hc, hd, bad, k⟩
    · refine ⟨_, pss_cons (ps_expr (pe_call G2 hr (by rfl) F2.gl F2.fn.kp F2.bi .nil pass0 (pa_cons (pv 0) (pa_cons (pv 1) pa_nil))))
        (pss_cons (ps_expr (pe_call X1 hr (by rfl) F1.gl F1.fn.kp F1.bi .nil (passes_call (takes_of rfl rfl rfl rfl) fun _ _ _ _ h => h) (pa_cons (pv 0) (pa_cons (pv 2) (pa_cons (pv 3) (pa_cons (pv 4) pa_nil)))))) pss_never), ?_⟩
      exact ⟨_, rfl, _, rfl, p, t, c, rfl, hc, ht, _, rfl, _, rfl, _, rfl, _, rfl, p, x, y, z, c, rfl, hc, good, h⟩
end
end W

set_option Elab.async false
set_option linter.all false
set_option maxRecDepth 100000
set_option maxHeartbeats 8000000
/-! A lambda's errors are heard. -/
namespace W
open PySem PySem.Spec PyProof.Rows L2 Evl G C
/-- what must be known of an error class that is heard -/
structure HearC (K : PySem.W.Frag) (mg : Str → Option Value) (x : Str) (C : Addr) : Prop where
  gl : mg x = some (.ref C)
  xf : XfC K C
  exc : ExcC K C
  noV : PySem.W.findIn K (.ref C) "value" = some none
  own : PySem.W.exmOne K (.ref C) (.ref C) = some true
structure HearT (K : PySem.W.Frag) (mg : Str → Option Value) (CS CL CW CF CU CE : Addr) : Prop where
  s : HearC K mg "InvalidState" CS
  l : HearC K mg "InvalidLetter" CL
  w : HearC K mg "InvalidWord" CW
  f : HearC K mg "InvalidFault" CF
  u : HearC K mg "UnknownWire" CU
  ce : mg "WireError" = some (.ref CE)
  sE : PySem.W.kitOne K (.ref CS) (.ref CE) = some true
  sV : PySem.W.kitOne K (.ref CS) (.type "ValueError") = some true
  lE : PySem.W.kitOne K (.ref CL) (.ref CE) = some true
  wE : PySem.W.kitOne K (.ref CW) (.ref CE) = some true
  fE : PySem.W.kitOne K (.ref CF) (.ref CE) = some true
  uL : PySem.W.kitOne K (.ref CU) (.type "LookupError") = some true
  ls : PySem.W.exmOne K (.ref CL) (.ref CS) = some false
  ws : PySem.W.exmOne K (.ref CW) (.ref CS) = some false
  wl : PySem.W.exmOne K (.ref CW) (.ref CL) = some false
  fs : PySem.W.exmOne K (.ref CF) (.ref CS) = some false
  fl : PySem.W.exmOne K (.ref CF) (.ref CL) = some false
  fw : PySem.W.exmOne K (.ref CF) (.ref CW) = some false
  us : PySem.W.exmOne K (.ref CU) (.ref CS) = some false
  ul : PySem.W.exmOne K (.ref CU) (.ref CL) = some false
  uw : PySem.W.exmOne K (.ref CU) (.ref CW) = some false
  uf : PySem.W.exmOne K (.ref CU) (.ref CF) = some false
/-- an error of the class at C is heard: its row -/
def wH (K : PySem.W.Frag) (C : Addr) (tag : Str) (Q : VK) : XK := fun cls d H => cls = .ref C ∧ ∃ (dd : Addr) (v : V) (dv : PyData), d = some dd ∧ H dd = some (.xd [("value", v)]) ∧ Dw K H v dv ∧ Showy dv ∧
  ∀ l H2, H l = none → Ex H H2 → H2 l = some (.lst [.str tag, .str dv.shown, .bl true]) → Q (.ref l) H2
def wHs (K : PySem.W.Frag) (CS CL CW CF CU : Addr) (Q : VK) : XK := fun cls d H => wH K CS "state" Q cls d H ∨ wH K CL "letter" Q cls d H ∨ wH K CW "word" Q cls d H ∨ wH K CF "fault" Q cls d H ∨ wH K CU "wire" Q cls d H
/-- heard(a): what is asked of a's call -/
def TTh (K : PySem.W.Frag) (CS CL CW CF CU : Addr) : (XK → Hp → VK → Prop) → Hp → VK → Prop := fun tl H Q => ∀ l0, H l0 = none → tl (wHs K CS CL CW CF CU Q) (upd H l0 (.lst [.str "let"])) fun _ H' => Q (.ref l0) H'
abbrev nHeard : List Str := ["_law_call", "_law_heard_here", "e"]
theorem scHeard : FnScope nHeard ["_law_call"] (defScope dHeard) := ⟨rfl, rfl, rfl, by decide +kernel, rfl, by decide +kernel, by decide +kernel⟩
/-- a suite's reading -/
abbrev tHear (K : PySem.W.Frag) (C : Addr) (tag : Str) (a : Addr) (cls : Value) (d : Option Addr) (tis : TE) : TS :=
  tAsg (tLst (tCons (tC (.str tag)) (tCons (tCB (rRw K) (tCons (tXf a cls d C "value" (tVar 2)) tNil)) (tCons tis tNil)))) (gName 1)
abbrev tIs (K : PySem.W.Frag) (C a : Addr) (cls : Value) (d : Option Addr) (x : V) : TE := tCB (rIsE K C a cls d) (tCons (tVar 2) (tCons (tC x) tNil))
section
variable {K : PySem.W.Frag} {mg : Str → Option Value}
/-- one clause -/
theorem rd_hear {C : Addr} {tag : Str} {a : Addr} {cls : Value} {d : Option Addr} {σ : L2.St} {H : Hp} {D : Ends} {Q : VK} {tis : TE} (hs : σ[2]? = some (some (.ref a))) (h : wH K C tag Q cls d H)
    (hi : ∀ (dd : Addr) (fs : List (Str × V)) (R : VK), cls = .ref C → d = some dd → H dd = some (.xd fs) → R (.bl true) H → tis σ H R)
    (hD : ∀ l H2, Q (.ref l) H2 → D.nx (σ.set 1 (some (.ref l))) H2) : tHear K C tag a cls d tis D σ H := by
  obtain ⟨rfl, dd, v, dv, rfl, hdd, hv, hsh, k⟩ := h
  refine ⟨_, hs, rfl, rfl, dd, _, v, rfl, hdd, rfl, v, dv, rfl, hv, hsh, ?_⟩
  refine hi dd _ _ rfl rfl hdd ⟨(by show 3 ≤ sizeLine; decide), fun l hl => hD l _ ?_⟩
  exact k l _ hl (Ex.new hl) upd_same
theorem rd_is {C a : Addr} {cls : Value} {d : Option Addr} {σ : L2.St} {H : Hp} {R : VK} {x : V} {cv : Value} {dd : Addr} {fs : List (Str × V)} {b : Bool} (hs : σ[2]? = some (some (.ref a))) (hc : cls = .ref C) (hd : d = some dd) (hdd : H dd = some (.xd fs)) (hx : ∀ u, RelV x u → u = cv)
    (e : PySem.W.kitOne K (.ref C) cv = some b) (q : R (.bl b) H) : tIs K C a cls d x σ H R := by
  subst hc
  subst hd
  exact ⟨_, hs, rfl, _, _, _, dd, _, rfl, rfl, hdd, hx, e, q⟩
end
/-- _law_heard is given a lambda -/
theorem heard_gives {X : Cx} {q : Str} {g : Addr} {cdg : Value} {CS CL CW CF CU CE : Addr} (N : Names X.mg) (T : HearT X.K X.mg CS CL CW CF CU CE) (hr : Rm 1 X.A) :
    LamX.GivesTo X nHeard "_law_heard" (defScope dHeard) g cdg (defBody dHeard) "_law_call" q (TTh X.K CS CL CW CF CU) := by
  intro f c' s H Q tl act hc h
  have hU0 : (X.A.deeper (envOfC "_law_heard" (defScope dHeard) s.heap.objs.size g cdg)).units + 200 < cLine := by
    have := (hr.deeper (n := 0) (envOfC "_law_heard" (defScope dHeard) s.heap.objs.size g cdg)).rm.un
    omega
  have hG0 : (X.A.deeper (envOfC "_law_heard" (defScope dHeard) s.heap.objs.size g cdg)).guards = some [] := hr.gd
  refine ⟨_, pss_cons (ps_set (i := 1) scHeard.nd rfl (Or.inl rfl) (pe_lst (pa_cons pe_str pa_nil)))
    (pss_cons (ps_tries (X := (cxOf C8.CX0 X.prog X.w X.K X.mg X.base nHeard "_law_heard" (defScope dHeard) g cdg X.A X.stack s H C8.E0).nox) (i := 2)
      (tb := fun W D σ H => ∃ Ech : XK, (∀ cls d σ' H', Ech cls d H' → σ'.length = 3 → W cls d σ' H') ∧ σ[0]? = some (some (.ref f)) ∧ H c' = some (LamX.CodeO c' q) ∧ tl Ech H fun _ H' => D.nx σ H')
      (l := [(.ref CS, fun a cls d => tHear X.K CS "state" a cls d (tAndV (tIs X.K CS a cls d (.ref CE)) (tIs X.K CS a cls d (.ty "ValueError")))), (.ref CL, fun a cls d => tHear X.K CL "letter" a cls d (tIs X.K CL a cls d (.ref CE))), (.ref CW, fun a cls d => tHear X.K CW "word" a cls d (tIs X.K CW a cls d (.ref CE))),
        (.ref CF, fun a cls d => tHear X.K CF "fault" a cls d (tIs X.K CF a cls d (.ref CE))), (.ref CU, fun a cls d => tHear X.K CU "wire" a cls d (tIs X.K CU a cls d (.ty "LookupError")))])
      rfl rfl scHeard.nd rfl rfl LamX.takes0 (fun W pn xe tk _ => ?_) (.cons ⟨by rfl, by decide, .inl T.s.gl⟩ ?_ (.cons ⟨by rfl, by decide, .inl T.l.gl⟩ ?_ (.cons ⟨by rfl, by decide, .inl T.w.gl⟩ ?_ (.cons ⟨by rfl, by decide, .inl T.f.gl⟩ ?_ (.cons ⟨by rfl, by decide, .inl T.u.gl⟩ ?_ .nil))))))
    (pss_one (ps_ret (pe_var (i := 1) rfl (.inl rfl))))), ?_⟩
  · refine ⟨fun pins s' σ H' D I h' => ?_⟩
    obtain ⟨Ech, hW, h1, h2, h3⟩ := h'
    exact (pss_one (ps_expr (act (fun c d σ H => σ.length = 3 → W c d σ H) pn xe Ech _ _ (takes_lenN tk) hW))).run pins s' σ H' D I ⟨h1, h2, h3⟩
  · exact fun a oe cls d pn hz hf => pss_one (ps_set (i := 1) scHeard.nd rfl (Or.inl rfl) (pe_lst (pa_cons pe_str (pa_cons (pe_callB (rw_in hU0 hG0) (by rfl) N.repr (by decide +kernel) (pa_cons (pe_xf T.s.xf T.s.noV hz hf (pe_var (i := 2) rfl (.inl rfl))) pa_nil))
      (pa_cons (pe_and (pe_callB (call_isE T.s.exc hz hf) (by rfl) N.isinstance (by decide +kernel) (pa_cons (pe_var (i := 2) rfl (.inl rfl)) (pa_cons (pe_glob (by rfl) T.ce rfl) pa_nil)))
        (pe_one (pe_callB (call_isE T.s.exc hz hf) (by rfl) N.isinstance (by decide +kernel) (pa_cons (pe_var (i := 2) rfl (.inl rfl)) (pa_cons (pTy "ValueError" (by rfl) N.ValueError (by decide +kernel)) pa_nil))))) pa_nil)))))
  · exact fun a oe cls d pn hz hf => pss_one (ps_set (i := 1) scHeard.nd rfl (Or.inl rfl) (pe_lst (pa_cons pe_str (pa_cons (pe_callB (rw_in hU0 hG0) (by rfl) N.repr (by decide +kernel) (pa_cons (pe_xf T.l.xf T.l.noV hz hf (pe_var (i := 2) rfl (.inl rfl))) pa_nil))
      (pa_cons (pe_callB (call_isE T.l.exc hz hf) (by rfl) N.isinstance (by decide +kernel) (pa_cons (pe_var (i := 2) rfl (.inl rfl)) (pa_cons (pe_glob (by rfl) T.ce rfl) pa_nil))) pa_nil)))))
  · exact fun a oe cls d pn hz hf => pss_one (ps_set (i := 1) scHeard.nd rfl (Or.inl rfl) (pe_lst (pa_cons pe_str (pa_cons (pe_callB (rw_in hU0 hG0) (by rfl) N.repr (by decide +kernel) (pa_cons (pe_xf T.w.xf T.w.noV hz hf (pe_var (i := 2) rfl (.inl rfl))) pa_nil))
      (pa_cons (pe_callB (call_isE T.w.exc hz hf) (by rfl) N.isinstance (by decide +kernel) (pa_cons (pe_var (i := 2) rfl (.inl rfl)) (pa_cons (pe_glob (by rfl) T.ce rfl) pa_nil))) pa_nil)))))
  · exact fun a oe cls d pn hz hf => pss_one (ps_set (i := 1) scHeard.nd rfl (Or.inl rfl) (pe_lst (pa_cons pe_str (pa_cons (pe_callB (rw_in hU0 hG0) (by rfl) N.repr (by decide +kernel) (pa_cons (pe_xf T.f.xf T.f.noV hz hf (pe_var (i := 2) rfl (.inl rfl))) pa_nil))
      (pa_cons (pe_callB (call_isE T.f.exc hz hf) (by rfl) N.isinstance (by decide +kernel) (pa_cons (pe_var (i := 2) rfl (.inl rfl)) (pa_cons (pe_glob (by rfl) T.ce rfl) pa_nil))) pa_nil)))))
  · exact fun a oe cls d pn hz hf => pss_one (ps_set (i := 1) scHeard.nd rfl (Or.inl rfl) (pe_lst (pa_cons pe_str (pa_cons (pe_callB (rw_in hU0 hG0) (by rfl) N.repr (by decide +kernel) (pa_cons (pe_xf T.u.xf T.u.noV hz hf (pe_var (i := 2) rfl (.inl rfl))) pa_nil))
      (pa_cons (pe_callB (call_isE T.u.exc hz hf) (by rfl) N.isinstance (by decide +kernel) (pa_cons (pe_var (i := 2) rfl (.inl rfl)) (pa_cons (pTy "LookupError" (by rfl) N.LookupError (by decide +kernel)) pa_nil))) pa_nil)))))
  · refine ⟨(by show 1 ≤ sizeLine; decide), fun l0 hl0 => ?_⟩
    refine ⟨wHs X.K CS CL CW CF CU Q, fun cls d σ' H' w e3 => ?_, rfl, ?_, ?_⟩
    · obtain ⟨a0, a1, a2, rfl⟩ : ∃ a b c, σ' = [a, b, c] := by
        match σ', e3 with
        | [a, b, c], _ => exact ⟨a, b, c, rfl⟩
      rcases w with w | w | w | w | w
      · obtain rfl : cls = .ref CS := w.1
        refine ⟨true, T.s.own, fun _ a _ => ?_, fun z => (by cases z)⟩
        exact rd_hear rfl w (fun dd fs R hc hd hx r => rd_is rfl hc hd hx (fun u r => r) T.sE ⟨true, rfl, iteT (rd_is rfl hc hd hx (fun u r => r) T.sV r)⟩) fun l H2 hq => ⟨_, rfl, hq⟩
      · obtain rfl : cls = .ref CL := w.1
        refine ⟨false, T.ls, fun z => (by cases z), fun _ => ⟨true, T.l.own, fun _ a _ => ?_, fun z => (by cases z)⟩⟩
        exact rd_hear rfl w (fun dd fs R hc hd hx r => rd_is rfl hc hd hx (fun u r => r) T.lE r) fun l H2 hq => ⟨_, rfl, hq⟩
      · obtain rfl : cls = .ref CW := w.1
        refine ⟨false, T.ws, fun z => (by cases z), fun _ => ⟨false, T.wl, fun z => (by cases z), fun _ => ⟨true, T.w.own, fun _ a _ => ?_, fun z => (by cases z)⟩⟩⟩
        exact rd_hear rfl w (fun dd fs R hc hd hx r => rd_is rfl hc hd hx (fun u r => r) T.wE r) fun l H2 hq => ⟨_, rfl, hq⟩
      · obtain rfl : cls = .ref CF := w.1
        refine ⟨false, T.fs, fun z => (by cases z), fun _ => ⟨false, T.fl, fun z => (by cases z), fun _ => ⟨false, T.fw, fun z => (by cases z), fun _ => ⟨true, T.f.own, fun _ a _ => ?_, fun z => (by cases z)⟩⟩⟩⟩
        exact rd_hear rfl w (fun dd fs R hc hd hx r => rd_is rfl hc hd hx (fun u r => r) T.fE r) fun l H2 hq => ⟨_, rfl, hq⟩
      · obtain rfl : cls = .ref CU := w.1
        refine ⟨false, T.us, fun z => (by cases z), fun _ => ⟨false, T.ul, fun z => (by cases z), fun _ => ⟨false, T.uw, fun z => (by cases z), fun _ => ⟨false, T.uf, fun z => (by cases z), fun _ => ⟨true, T.u.own, fun _ a _ => ?_, fun z => (by cases z)⟩⟩⟩⟩⟩
        exact rd_hear rfl w (fun dd fs R hc hd hx r => rd_is rfl hc hd hx (fun u r => r) T.uL r) fun l H2 hq => ⟨_, rfl, hq⟩
    · exact Ex.new hl0 _ _ hc
    · have e : (fun (_ : V) (H' : Hp) => tVar 1 [some (.ref f), some (.ref l0), none] H' Q) = fun _ H' => Q (.ref l0) H' := by
        funext _ H'
        rw [tVar_eq (v := .ref l0) rfl]
      show tl _ _ (fun (_ : V) (H' : Hp) => tVar 1 [some (.ref f), some (.ref l0), none] H' Q)
      rw [e]
      exact h l0 hl0
end W

set_option Elab.async false
set_option linter.all false
set_option maxRecDepth 100000
set_option maxHeartbeats 4000000
/-! What is no letter, no state. -/
namespace W
open PySem PySem.Spec PyProof.Rows L2 Evl G C
/-! ### tuples that come out of expressions -/
theorem rep_flat {α : Type} (n : Nat) (x : α) : (List.replicate n [x]).flatten = List.replicate n x := by
  induction n with
  | zero => rfl
  | succ n ih => rw [List.replicate_succ, List.flatten_cons, ih]; rfl
def EvTu (K : PySem.W.Frag) (te : TE) (σ : L2.St) (H : Hp) (xs : List V) : Prop := ∀ H1, Ex H H1 → ∀ Q : VK, (∀ t H2, Ex H1 H2 → SqT K H2 t xs → Q (.ref t) H2) → te σ H1 Q
section
variable {K : PySem.W.Frag} {σ : L2.St} {H : Hp} {ta tb tl : TE} {xs ys : List V} {x : V}
theorem eu_var {i : Nat} {t : Addr} (hs : σ[i]? = some (some (.ref t))) (h : SqT K H t xs) : EvTu K (tVar i) σ H xs := fun H1 e Q q => ⟨_, hs, q t H1 (Ex.refl H1) (ex_t e h)⟩
theorem eu_new {ts : TA} (ha : EvA ts σ H xs) (hz : xs.length ≤ 1000) : EvTu K (tTup ts) σ H xs := fun H1 e Q q =>
  ha H1 e _ fun H2 e2 => ⟨Nat.le_trans hz (by decide), fun p hp => q p _ (e2.trans (Ex.new hp)) (st_of upd_same)⟩
theorem eu_cat (ha : EvTu K ta σ H xs) (hb : EvTu K tb σ H ys) (hz : xs.length + ys.length ≤ 1000) : EvTu K (tOp (rCatA K) ta tb) σ H (xs ++ ys) := fun H1 e Q q =>
  ha H1 e _ fun t H2 e2 ht => hb H2 (e.trans e2) _ fun u H3 e3 hu => by
    refine ⟨t, u, xs, ys, rfl, rfl, ex_t e3 ht, hu, Nat.le_trans hz (by decide), fun z => ?_, fun _ z => ?_, fun _ _ p hp => ?_⟩
    · subst z
      exact q u H3 (e2.trans e3) hu
    · subst z
      rw [List.append_nil] at q
      exact q t H3 (e2.trans e3) (ex_t e3 ht)
    · exact q p _ ((e2.trans e3).trans (Ex.new hp)) (st_of upd_same)
theorem cut_whole {lo hi : Option Int} (h : HT.sIx xs.length 0 lo = 0 ∧ HT.sIx xs.length xs.length hi = xs.length) : cutV xs lo hi = xs := by
  unfold cutV
  rw [h.1, h.2]
  simp
theorem eu_from {i : Int} (ha : EvTu K ta σ H xs) (hl : Ev tl σ H (.int i)) : EvTu K (tSl (rSlA K) ta (tPart tl) tNoPart) σ H (cutV xs (some i) none) := fun H1 e Q q =>
  ha H1 e _ fun t H2 e2 ht => hl H2 (e.trans e2) _ fun H3 e3 => ⟨i, rfl, t, xs, rfl, ex_t e3 ht, fun z => by
    rw [cut_whole z] at q
    exact q t H3 (e2.trans e3) (ex_t e3 ht), fun _ p hp => q p _ ((e2.trans e3).trans (Ex.new hp)) (st_of upd_same)⟩
theorem eu_to {i : Int} (ha : EvTu K ta σ H xs) (hl : Ev tl σ H (.int i)) : EvTu K (tSl (rSlA K) ta tNoPart (tPart tl)) σ H (cutV xs none (some i)) := fun H1 e Q q =>
  ha H1 e _ fun t H2 e2 ht => hl H2 (e.trans e2) _ fun H3 e3 => ⟨i, rfl, t, xs, rfl, ex_t e3 ht, fun z => by
    rw [cut_whole z] at q
    exact q t H3 (e2.trans e3) (ex_t e3 ht), fun _ p hp => q p _ ((e2.trans e3).trans (Ex.new hp)) (st_of upd_same)⟩
theorem eu_rep {n : Nat} (ha : EvTu K ta σ H [x]) (hl : Ev tl σ H (.int (n : Int))) (hn : n ≤ 100) : EvTu K (tOp (rRepA K) ta tl) σ H (List.replicate n x) := fun H1 e Q q =>
  ha H1 e _ fun t H2 e2 ht => hl H2 (e.trans e2) _ fun H3 e3 => by
    refine ⟨t, (n : Int), [x], rfl, rfl, ex_t e3 ht, by simp, by omega, by omega, by simp, fun z => ?_, fun _ p hp => ?_⟩
    · obtain rfl : n = 1 := by omega
      exact q t H3 (e2.trans e3) (ex_t e3 ht)
    · rw [show ((n : Int)).toNat = n by omega, rep_flat]
      exact q p _ ((e2.trans e3).trans (Ex.new hp)) (st_of upd_same)
end
/-! ### "0" * n -/
def zS : Nat → Str
  | 0 => ""
  | 1 => "0"
  | 2 => "00"
  | _ => "000"
def rRepZ : R2 := fun x y H Q => ∃ n : Nat, x = .str "0" ∧ y = .int (n : Int) ∧ n ≤ 3 ∧ Q (.str (zS n)) H
theorem op_repZ {X : Cx} : OpR X (binaryOp .Mult) rRepZ := by
  intro pins s σ H x y v u Q I rx ry h
  obtain ⟨n, rfl, rfl, hn, k⟩ := h
  obtain ⟨t, rfl⟩ := rx
  obtain ⟨t2, rfl⟩ := ry
  obtain rfl | rfl | rfl | rfl : n = 0 ∨ n = 1 ∨ n = 2 ∨ n = 3 := by omega
  · exact P.mul_str_none (by decide) (by decide) ⟨.str _, H, I.tok _, ⟨_, rfl⟩, k⟩
  · refine P.mul_str (by decide) (fun _ => by decide) (fun _ => by decide) ?_
    exact ⟨.str _, H, I, ⟨_, rfl⟩, k⟩
  · refine P.mul_str (by decide) (fun _ => by decide) (fun _ => by decide) ?_
    exact ⟨by decide, .str _, H, I.tok _, ⟨_, rfl⟩, k⟩
  · refine P.mul_str (by decide) (fun _ => by decide) (fun _ => by decide) ?_
    exact ⟨by decide, .str _, H, I.tok _, ⟨_, rfl⟩, k⟩
end W

set_option Elab.async false
set_option linter.all false
set_option maxRecDepth 100000
set_option maxHeartbeats 8000000
namespace W
open PySem PySem.Spec PyProof.Rows L2 Evl G C
abbrev zL (n : Nat) : List V := List.replicate n (V.int 0)
abbrev zD (n : Nat) : List PyData := List.replicate n (PyData.int 0)
def nonL (n : Nat) : List V := if n = 0 then [.non] else List.replicate n .non
def nonD (n : Nat) : List PyData := if n = 0 then [.none] else List.replicate n .none
def midD (n a : Nat) (d : PyData) : PyData := .tuple (zD a ++ [d] ++ zD (n - a - 1))
/-- what is no tuple of n bits -/
def oddB (n a : Nat) : List PyData := [.int 0, .bool true, .str "", .str (zS n), .list (zD n), .tuple (zD n ++ [.int 0]), .dict [], .tuple [.str "0"], .tuple (nonD n)] ++ (if n = 0 then [] else [.tuple (zD (n - 1)), midD n a (.int 2), midD n a (.bool true), midD n a (.int (-1))])
theorem op_catK {Y : Cx} {K : PySem.W.Frag} (h : Y.K = K := by rfl) : OpR Y (binaryOp .Add) (rCatA K) := by
  subst h
  exact op_catA
def showyB (d : PyData) : Bool := d.showable && decide (d.depth ≤ 40) && decide (d.shown.length ≤ 100000)
theorem showy_of {d : PyData} (h : showyB d = true) : Showy d := by
  obtain ⟨h, h3⟩ := Bool.and_eq_true_iff.mp h
  obtain ⟨h1, h2⟩ := Bool.and_eq_true_iff.mp h
  exact ⟨h1, of_decide_eq_true h2, of_decide_eq_true h3⟩
def notNone : PyData → Bool
  | .none => false
  | _ => true
def oddOk (n : Nat) (d : PyData) : Bool := showyB d && PyData.strOk d.shown && !isLetter d n && notNone d
theorem oddB_ok {n a : Nat} (hn : n ≤ 3) (ha : a < n ∨ n = 0) : ∀ d ∈ oddB n a, Showy d ∧ PyData.strOk d.shown = true ∧ isLetter d n = false ∧ d ≠ .none := by
  have q : (oddB n a).all (oddOk n) = true := by
    obtain ⟨rfl, rfl⟩ | ⟨rfl, rfl⟩ | ⟨rfl, rfl⟩ | ⟨rfl, rfl⟩ | ⟨rfl, rfl⟩ | ⟨rfl, rfl⟩ | rfl : (n = 1 ∧ a = 0) ∨ (n = 2 ∧ a = 0) ∨ (n = 2 ∧ a = 1) ∨ (n = 3 ∧ a = 0) ∨ (n = 3 ∧ a = 1) ∨ (n = 3 ∧ a = 2) ∨ n = 0 := by omega
    · decide +kernel
    · decide +kernel
    · decide +kernel
    · decide +kernel
    · decide +kernel
    · decide +kernel
    · show (oddB 0 0).all (oddOk 0) = true
      decide +kernel
  intro d hd
  have z : oddOk n d = true := List.all_eq_true.mp q d hd
  obtain ⟨z, z4⟩ := Bool.and_eq_true_iff.mp z
  obtain ⟨z, z3⟩ := Bool.and_eq_true_iff.mp z
  obtain ⟨z1, z2⟩ := Bool.and_eq_true_iff.mp z
  refine ⟨showy_of z1, z2, by simpa using z3, fun e => ?_⟩
  subst e
  cases z4
theorem cut_a {n a : Nat} (hn : n ≤ 3) (ha : a < n) : cutV (zL n) none (some (a : Int)) = zL a := by
  obtain ⟨rfl, rfl⟩ | ⟨rfl, rfl⟩ | ⟨rfl, rfl⟩ | ⟨rfl, rfl⟩ | ⟨rfl, rfl⟩ | ⟨rfl, rfl⟩ : (n = 1 ∧ a = 0) ∨ (n = 2 ∧ a = 0) ∨ (n = 2 ∧ a = 1) ∨ (n = 3 ∧ a = 0) ∨ (n = 3 ∧ a = 1) ∨ (n = 3 ∧ a = 2) := by omega
  all_goals decide
theorem cut_b {n a : Nat} (hn : n ≤ 3) (ha : a < n) : cutV (zL n) (some ((a : Int) + 1)) none = zL (n - a - 1) := by
  obtain ⟨rfl, rfl⟩ | ⟨rfl, rfl⟩ | ⟨rfl, rfl⟩ | ⟨rfl, rfl⟩ | ⟨rfl, rfl⟩ | ⟨rfl, rfl⟩ : (n = 1 ∧ a = 0) ∨ (n = 2 ∧ a = 0) ∨ (n = 2 ∧ a = 1) ∨ (n = 3 ∧ a = 0) ∨ (n = 3 ∧ a = 1) ∨ (n = 3 ∧ a = 2) := by omega
  all_goals decide
theorem cut_c {n : Nat} (hn : n ≤ 3) (h : 0 < n) : cutV (zL n) (some 1) none = zL (n - 1) := by
  obtain rfl | rfl | rfl : n = 1 ∨ n = 2 ∨ n = 3 := by omega
  all_goals decide
section
variable {K : PySem.W.Frag} {H : Hp}
theorem dp_same {x : V} {d : PyData} (h : Dp K H x d) : ∀ n : Nat, DpAll K H (List.replicate n x) (List.replicate n d)
  | 0 => .nil
  | n + 1 => .cons h (dp_same h n)
theorem dp_add : ∀ {xs : List V} {ds : List PyData} {ys : List V} {es : List PyData}, DpAll K H xs ds → DpAll K H ys es → DpAll K H (xs ++ ys) (ds ++ es)
  | _, _, _, _, .nil, q => q
  | _, _, _, _, .cons a b, q => .cons a (dp_add b q)
theorem dp_mid {n a : Nat} {x : V} {d : PyData} {t : Addr} (h : SqT K H t (zL a ++ [x] ++ zL (n - a - 1))) (q : Dp K H x d) : Dp K H (.ref t) (midD n a d) := .tup h (dp_add (dp_add (dp_same (.int 0) a) (.cons q .nil)) (dp_same (.int 0) (n - a - 1)))
end
section
variable {K : PySem.W.Frag} {H : Hp}
theorem st_hid {p b : Addr} {H : Hp} {xs ys : List V} (hp : H p = some (.lst ys)) (h : SqT K H b xs) : SqT K (hid p H) b xs :=
  t_st (fun c o e no => hid_some.mpr ⟨fun q => by
    rw [q, hp] at e
    cases e
    exact no _ rfl, e⟩) h
theorem rd_nons {n : Nat} {ta tb : TE} {σ : L2.St} {Q : VK} (h1 : EvTu K ta σ H (List.replicate n .non)) (h2 : EvTu K tb σ H [.non]) (k : ∀ t H', Ex H H' → SqT K H' t (nonL n) → Q (.ref t) H') : if decide ((0 : Int) < (n : Int)) = true then ta σ H Q else tb σ H Q := by
  unfold nonL at k
  by_cases z : n = 0
  · subst z
    exact iteF (h2 H (Ex.refl H) Q k)
  · rw [decide_eq_true (show (0 : Int) < (n : Int) by omega)]
    rw [if_neg z] at k
    exact iteT (h1 H (Ex.refl H) Q k)
end
section
variable {P : Program} {w : World} {K : PySem.W.Frag} {mg : Str → Option Value} {base : Heap}
def spNoBits (K : PySem.W.Frag) : Sp := fun vs H Q _ => ∃ (p : Addr) (n : Nat), vs = [.ref p, .int (n : Int)] ∧ Pot H p ∧ n ≤ 3 ∧ ∀ (a : Nat) (l : Addr) (xs : List V) (H' : Hp), (a < n ∨ n = 0) → ExBut p H H' → Pot H' p → H l = none → H' l = some (.lst xs) → DdAll K (hid p H') xs (oddB n a) → Q (.ref l) H'
abbrev nNoBits : List Str := ["_law_pot_here", "_law_many", "_law_good", "_law_found", "_law_at"]
theorem scNoBits : FnScope nNoBits ["_law_pot_here", "_law_many"] (defScope dNoBits) := ⟨rfl, rfl, rfl, by decide +kernel, rfl, by decide +kernel, by decide +kernel⟩
theorem okNoBits {f : Addr} {fd : FuncData} (F : At K mg "_law_no_bits" dNoBits ["_law_pot_here", "_law_many"] f fd) (T : Txt K mg) : FnOk P w K mg base CX0 2 f fd ["_law_pot_here", "_law_many"] (spNoBits K) := by
  obtain ⟨fD, gD, FD⟩ := T.draw
  have GD : FnOk P w K mg base CX0 1 fD gD ["_law_pot_here", "_law_many"] spDraw := (okDraw FD T).mono (by decide)
  refine F.fn.ok scNoBits (fun vs H Q E h => ?_) (fun cdv A outer s H vs Q E hr h => ?_)
  · obtain ⟨p, n, rfl, _⟩ := h
    rfl
  · obtain ⟨p, n, rfl, hp, hn, k⟩ := h
    have nds := scNoBits.nd
    refine ⟨_, pss_cons (ps_set (i := 2) nds rfl (Or.inl rfl) (pe_op (op_repA) (pe_tup (pa_cons pe_int pa_nil)) (pv 1)))
      (pss_cons (ps_set (i := 3) nds rfl (Or.inl rfl) (pe_lst (pa_cons pe_int (pa_cons pe_bl (pa_cons pe_str (pa_cons (pe_op op_repZ pe_str (pv 1)) (pa_cons (pe_callTy call_list_of (by rfl) T.list (by decide +kernel) (pa_cons (pv 2) pa_nil))
        (pa_cons (pe_op (op_catK (K := K)) (pv 2) (pe_tup (pa_cons pe_int pa_nil))) (pa_cons pe_dnewK (pa_cons (pe_tup (pa_cons pe_str pa_nil)) (pa_cons (pe_ifExp (pt_cmpR op_gt (pv 1) pe_int (nomark _)) (pe_op (op_repA) (pe_tup (pa_cons pe_non pa_nil)) (pv 1)) (pe_tup (pa_cons pe_non pa_nil))) pa_nil)))))))))))
      (pss_cons (ps_if (pt_cmpR op_gt (pv 1) pe_int (nomark _))
        (pss_cons (ps_set (i := 4) nds rfl (Or.inl rfl) (pe_call GD hr (by rfl) FD.gl FD.fn.kp FD.bi .nil pass0 (pa_cons (pv 0) (pa_cons (pv 1) pa_nil))))
        (pss_cons (ps_set (i := 3) nds rfl (Or.inl rfl) (pe_op op_cat (pv 3) (pe_lst (pa_cons (pe_slice sl_tupA (pv 2) (po_some pe_int) po_none)
          (pa_cons (pe_op (op_catK (K := K)) (pe_op (op_catK (K := K)) (pe_slice sl_tupA (pv 2) po_none (po_some (pv 4))) (pe_tup (pa_cons pe_int pa_nil))) (pe_slice sl_tupA (pv 2) (po_some (pe_op op_add (pv 4) pe_int)) po_none))
          (pa_cons (pe_op (op_catK (K := K)) (pe_op (op_catK (K := K)) (pe_slice sl_tupA (pv 2) po_none (po_some (pv 4))) (pe_tup (pa_cons pe_bl pa_nil))) (pe_slice sl_tupA (pv 2) (po_some (pe_op op_add (pv 4) pe_int)) po_none)) pa_nil))))))
        (pss_one (ps_expr (pe_bm PySem.F.plainAttrs_list PySem.F.slot_list_append PySem.F.type_list_append mt_append (pv 3) (pa_cons (pe_op (op_catK (K := K)) (pe_op (op_catK (K := K)) (pe_slice sl_tupA (pv 2) po_none (po_some (pv 4))) (pe_tup (pa_cons (pe_un un_neg pe_int) pa_nil))) (pe_slice sl_tupA (pv 2) (po_some (pe_op op_add (pv 4) pe_int)) po_none)) pa_nil))))))
        pss_nil)
      (pss_one (ps_ret (pv 3))))), ?_⟩
    refine (eu_rep (K := K) (n := n) (x := .int 0) (eu_new (ea_cons ev_c ea_nil) (by decide)) (ev_var rfl) (by omega)) H (Ex.refl H) _ fun t H1 e1 ht => ?_
    refine ⟨_, rfl, n, rfl, rfl, hn, _, rfl, t, zL n, rfl, .inr ht, fun L nL => ?_⟩
    have e2 : Ex H1 (upd H1 L (.lst (zL n))) := Ex.new nL
    have hL : (upd H1 L (.lst (zL n))) L = some (.lst (zL n)) := upd_same
    have nL0 := ex_none e1 nL
    generalize upd H1 L (.lst (zL n)) = H2 at e2 hL
    refine (eu_cat (K := K) (eu_var rfl (ex_t e2 ht)) (eu_new (ea_cons ev_c ea_nil) (by decide)) (by simp; omega)) H2 (Ex.refl H2) _ fun t1 H3 e3 ht1 => ?_
    intro D nD
    have e4 : Ex H3 (upd H3 D (.dK [])) := Ex.new nD
    have hD : (upd H3 D (.dK [])) D = some (.dK []) := upd_same
    generalize upd H3 D (.dK []) = H4 at e4 hD
    refine ⟨by decide, fun t2 n2 => ?_⟩
    have e5 : Ex H4 (upd H4 t2 (.tup [.str "0"])) := Ex.new n2
    have ht2 : (upd H4 t2 (.tup [.str "0"])) t2 = some (.tup [.str "0"]) := upd_same
    generalize upd H4 t2 (.tup [.str "0"]) = H5 at e5 ht2
    refine ⟨_, rfl, _, _, rfl, rfl, _, rfl, ?_⟩
    show if decide ((0 : Int) < (n : Int)) = true then _ else _
    refine rd_nons (K := K) (eu_rep (K := K) (n := n) (x := .non) (eu_new (ea_cons ev_c ea_nil) (by decide)) (ev_var rfl) (by omega)) (eu_new (ea_cons ev_c ea_nil) (by decide)) fun t3 H6 e6 ht3 => ?_
    refine ⟨by show 9 ≤ sizeLine; decide, fun l nl => ?_⟩
    have e7 : Ex H6 (upd H6 l (.lst [.int 0, .bl true, .str "", .str (zS n), .ref L, .ref t1, .ref D, .ref t2, .ref t3])) := Ex.new nl
    have hl : (upd H6 l (.lst [.int 0, .bl true, .str "", .str (zS n), .ref L, .ref t1, .ref D, .ref t2, .ref t3])) l = some (.lst [.int 0, .bl true, .str "", .str (zS n), .ref L, .ref t1, .ref D, .ref t2, .ref t3]) := upd_same
    generalize upd H6 l (.lst [.int 0, .bl true, .str "", .str (zS n), .ref L, .ref t1, .ref D, .ref t2, .ref t3]) = H7 at e7 hl
    have x27 : Ex H2 H7 := (e3.trans e4).trans ((e5.trans e6).trans e7)
    have x7 : Ex H H7 := (e1.trans e2).trans x27
    have nl0 : H l = none := ex_none ((e1.trans e2).trans ((e3.trans e4).trans (e5.trans e6))) nl
    have hp7 := hp.ex x7
    obtain ⟨pa, pb, hpp, _⟩ := id hp
    have notp : ∀ {b : Addr}, H b = none → b ≠ p := fun n e => by rw [e, hpp] at n; cases n
    have nD0 : H D = none := ex_none ((e1.trans e2).trans e3) nD
    have first : ∀ {H' : Hp}, (∀ {b : Addr} {xs : List V}, SqT K H7 b xs → SqT K H' b xs) → H' L = some (.lst (zL n)) → H' D = some (.dK []) → DdAll K H' [.int 0, .bl true, .str "", .str (zS n), .ref L, .ref t1, .ref D, .ref t2, .ref t3] [.int 0, .bool true, .str "", .str (zS n), .list (zD n), .tuple (zD n ++ [.int 0]), .dict [], .tuple [.str "0"], .tuple (nonD n)] := fun st hL' hD' => by
      have a1 := st (ex_t ((e4.trans e5).trans (e6.trans e7)) ht1)
      have a2 := st (ex_t (e6.trans e7) (st_of ht2))
      have a3 := st (ex_t e7 ht3)
      refine .cons (.dp (.int 0)) (.cons (.dp (.bl true)) (.cons (.dp (.str _)) (.cons (.dp (.str _)) (.cons (.dp (.lst (SqL.of hL') (dp_same (.int 0) n))) (.cons (.dp (.tup a1 (dp_add (dp_same (.int 0) n) (.cons (.int 0) .nil)))) (.cons (.dk hD' .nil) (.cons (.dp (.tup a2 (.cons (.str _) .nil))) (.cons (.dp (.tup a3 ?_)) .nil))))))))
      unfold nonL nonD
      by_cases z : n = 0
      · rw [if_pos z, if_pos z]
        exact .cons .non .nil
      · rw [if_neg z, if_neg z]
        exact dp_same .non n
    have hL7 := x27 _ _ hL
    have hD7 := ((e5.trans e6).trans e7) _ _ hD
    refine ⟨_, rfl, _, _, rfl, rfl, _, rfl, ?_⟩
    show if decide ((0 : Int) < (n : Int)) = true then _ else _
    by_cases z : n = 0
    · subst z
      refine iteF ⟨_, rfl, k 0 l _ H7 (.inr rfl) (.of x7) hp7 nl0 hl ?_⟩
      exact first (fun h => st_hid (x7 _ _ hpp) h) (hid_some.mpr ⟨notp nL0, hL7⟩) (hid_some.mpr ⟨notp nD0, hD7⟩)
    · rw [decide_eq_true (show (0 : Int) < (n : Int) by omega)]
      refine iteT ⟨_, rfl, _, rfl, p, (n : Int), rfl, hp7, by omega, by omega, fun r H8 r0 r1 e8 hp8 => ?_⟩
      obtain ⟨a, rfl⟩ := Int.eq_ofNat_of_zero_le r0
      have la : a < n := by omega
      have eT : ExT H7 H8 := fun b o h no => e8 b o h fun e => by
        rw [e, x7 _ _ hpp] at h
        cases h
        exact no _ rfl
      have hl8 := e8 _ _ hl (notp nl0)
      have hL8 := e8 _ _ hL7 (notp nL0)
      have hD8 : H8 D = some (.dK []) := eT _ _ hD7 fun xs q => by cases q
      have ht8 : SqT K H8 t (zL n) := t_st eT (ex_t (e2.trans x27) ht)
      have hb : ∀ {σ : L2.St} {x : V} {tx : TE} {H' : Hp}, σ[2]? = some (some (.ref t)) → σ[4]? = some (some (.int (a : Int))) → Ev tx σ H' x → SqT K H' t (zL n) → EvTu K (tOp (rCatA K) (tOp (rCatA K) (tSl (rSlA K) (tVar 2) tNoPart (tPart (tVar 4))) (tTup (tCons tx tNil))) (tSl (rSlA K) (tVar 2) (tPart (tOp (rI0 fun i j => V.int (i + j)) (tVar 4) (tC (V.int 1)))) tNoPart))
          σ H' (zL a ++ [x] ++ zL (n - a - 1)) := fun {σ x tx H'} s2 s4 hx h => by
        have c1 := eu_to (K := K) (i := (a : Int)) (tl := tVar 4) (eu_var s2 h) (ev_var s4)
        have c2 := eu_from (K := K) (i := (a : Int) + 1) (tl := tOp (rI0 fun i j => V.int (i + j)) (tVar 4) (tC (V.int 1))) (eu_var s2 h) (ev_op (ev_var s4) ev_c fun H1 e Q q => ⟨_, _, rfl, rfl, q H1 (Ex.refl H1)⟩)
        rw [cut_a hn la] at c1
        rw [cut_b hn la] at c2
        exact eu_cat (eu_cat c1 (eu_new (ea_cons hx ea_nil) (by simp)) (by simp; omega)) c2 (by simp; omega)
      refine ⟨_, rfl, ?_⟩
      have f1 := eu_from (K := K) (i := 1) (tl := tC (.int 1)) (eu_var (σ := [some (.ref p), some (.int (n : Int)), some (.ref t), some (.ref l), some (.int (a : Int))]) (i := 2) rfl ht8) ev_c
      rw [cut_c hn (by omega)] at f1
      refine f1 H8 (Ex.refl H8) _ fun u1 H9 e9 hu1 => ?_
      refine hb rfl rfl ev_c (ex_t e9 ht8) H9 (Ex.refl H9) _ fun u2 H10 e10 hu2 => ?_
      refine hb rfl rfl ev_c (ex_t (e9.trans e10) ht8) H10 (Ex.refl H10) _ fun u3 H11 e11 hu3 => ?_
      refine ⟨by show 3 ≤ sizeLine; decide, fun m nm => ?_⟩
      have e12 : Ex H11 (upd H11 m (.lst [.ref u1, .ref u2, .ref u3])) := Ex.new nm
      have hm : (upd H11 m (.lst [.ref u1, .ref u2, .ref u3])) m = some (.lst [.ref u1, .ref u2, .ref u3]) := upd_same
      generalize upd H11 m (.lst [.ref u1, .ref u2, .ref u3]) = H12 at e12 hm
      have x12 : Ex H8 H12 := (e9.trans e10).trans (e11.trans e12)
      refine ⟨l, m, _, _, rfl, rfl, x12 _ _ hl8, hm, by show 12 ≤ sizeLine; decide, fun q nq => ?_⟩
      have e13 : Ex H12 (upd H12 q (.lst ([.int 0, .bl true, .str "", .str (zS n), .ref L, .ref t1, .ref D, .ref t2, .ref t3] ++ [.ref u1, .ref u2, .ref u3]))) := Ex.new nq
      have hq : (upd H12 q (.lst ([.int 0, .bl true, .str "", .str (zS n), .ref L, .ref t1, .ref D, .ref t2, .ref t3] ++ [.ref u1, .ref u2, .ref u3]))) q = some (.lst ([.int 0, .bl true, .str "", .str (zS n), .ref L, .ref t1, .ref D, .ref t2, .ref t3] ++ [.ref u1, .ref u2, .ref u3])) := upd_same
      generalize upd H12 q (.lst ([.int 0, .bl true, .str "", .str (zS n), .ref L, .ref t1, .ref D, .ref t2, .ref t3] ++ [.ref u1, .ref u2, .ref u3])) = H13 at e13 hq
      have x13 := x12.trans e13
      refine ⟨_, rfl, .inl ⟨rfl, _, SqL.of hq⟩, ?_⟩
      refine hb rfl rfl (ev_un ev_c fun H1 e Q q => ⟨_, rfl, q H1 (Ex.refl H1)⟩) (ex_t x13 ht8) H13 (Ex.refl H13) _ fun u4 H14 e14 hu4 => ?_
      refine ⟨q, _, .ref u4, rfl, rfl, e14 _ _ hq, by show 12 < sizeLine; decide, ?_⟩
      have nq8 : H8 q = none := ex_none x12 nq
      have x15 : Ex H8 (upd H14 q (.lst ([.int 0, .bl true, .str "", .str (zS n), .ref L, .ref t1, .ref D, .ref t2, .ref t3] ++ [.ref u1, .ref u2, .ref u3] ++ [.ref u4]))) := (x13.trans e14).mut nq8
      have hq15 : (upd H14 q (.lst ([.int 0, .bl true, .str "", .str (zS n), .ref L, .ref t1, .ref D, .ref t2, .ref t3] ++ [.ref u1, .ref u2, .ref u3] ++ [.ref u4]))) q = some (.lst ([.int 0, .bl true, .str "", .str (zS n), .ref L, .ref t1, .ref D, .ref t2, .ref t3] ++ [.ref u1, .ref u2, .ref u3] ++ [.ref u4])) := upd_same
      have eT2 : ExT H14 (upd H14 q (.lst ([.int 0, .bl true, .str "", .str (zS n), .ref L, .ref t1, .ref D, .ref t2, .ref t3] ++ [.ref u1, .ref u2, .ref u3] ++ [.ref u4]))) := ExT.upd (e14 _ _ hq)
      generalize upd H14 q (.lst ([.int 0, .bl true, .str "", .str (zS n), .ref L, .ref t1, .ref D, .ref t2, .ref t3] ++ [.ref u1, .ref u2, .ref u3] ++ [.ref u4])) = H15 at x15 hq15 eT2
      have qp : q ≠ p := fun e => by
        obtain ⟨_, _, y, _⟩ := hp8
        rw [e, y] at nq8
        cases nq8
      have nq0 : H q = none := ex_none x7 (e8.fresh nq8 qp)
      obtain ⟨qa, qb, hq8, _⟩ := id hp8
      have hq15p := x15 _ _ hq8
      have v1 := st_hid hq15p <| t_st eT2 (ex_t ((e10.trans e11).trans ((e12.trans e13).trans e14)) hu1)
      have v2 := st_hid hq15p <| t_st eT2 (ex_t (e11.trans ((e12.trans e13).trans e14)) hu2)
      have v3 := st_hid hq15p <| t_st eT2 (ex_t ((e12.trans e13).trans e14) hu3)
      have v4 := st_hid hq15p <| t_st eT2 hu4
      refine ⟨_, rfl, k a q _ H15 (.inl la) (((ExBut.of x7).trans e8).trans (.of x15)) (hp8.ex x15) nq0 hq15 ?_⟩
      unfold oddB
      rw [if_neg z, List.append_assoc]
      refine (first (fun h => st_hid hq15p (ex_t x15 (t_st eT h))) (hid_some.mpr ⟨notp nL0, x15 _ _ hL8⟩) (hid_some.mpr ⟨notp nD0, x15 _ _ hD8⟩)).append ?_
      exact .cons (.dp (.tup v1 (dp_same (.int 0) _))) (.cons (.dp (dp_mid v2 (.int 2))) (.cons (.dp (dp_mid v3 (.bl true))) (.cons (.dp (dp_mid v4 (.int (-1)))) .nil)))
end
end W

set_option Elab.async false
set_option linter.all false
set_option maxRecDepth 100000
set_option maxHeartbeats 8000000
/-! What is no fault. -/
namespace W
open PySem PySem.Spec PyProof.Rows L2 Evl G C
/-! ### data that come out of expressions -/
def EvP (K : PySem.W.Frag) (te : TE) (σ : L2.St) (H : Hp) (d : PyData) : Prop := ∀ H1, Ex H H1 → ∀ Q : VK, (∀ x H2, Ex H1 H2 → Dp K H2 x d → Q x H2) → te σ H1 Q
def EvPs (K : PySem.W.Frag) (ta : TA) (σ : L2.St) (H : Hp) (ds : List PyData) : Prop := ∀ H1, Ex H H1 → ∀ Q : List V → Hp → Prop, (∀ xs H2, Ex H1 H2 → DpAll K H2 xs ds → Q xs H2) → ta σ H1 Q
def EvD (K : PySem.W.Frag) (te : TE) (σ : L2.St) (H : Hp) (d : PyData) : Prop := ∀ H1, Ex H H1 → ∀ Q : VK, (∀ x H2, Ex H1 H2 → Dd K H2 x d → Q x H2) → te σ H1 Q
def EvDs (K : PySem.W.Frag) (ta : TA) (σ : L2.St) (H : Hp) (ds : List PyData) : Prop := ∀ H1, Ex H H1 → ∀ Q : List V → Hp → Prop, (∀ xs H2, Ex H1 H2 → DdAll K H2 xs ds → Q xs H2) → ta σ H1 Q
section
variable {K : PySem.W.Frag} {σ : L2.St} {H : Hp} {te : TE} {ta : TA} {d : PyData} {ds : List PyData} {xs : List V} {x : V}
theorem ep_v (h : Ev te σ H x) (q : ∀ H', Ex H H' → Dp K H' x d) : EvP K te σ H d := fun H1 e Q k => h H1 e Q fun H2 e2 => k x H2 e2 (q H2 (e.trans e2))
theorem ep_int {i : Int} : EvP K (tC (.int i)) σ H (.int i) := ep_v ev_c fun _ _ => .int i
theorem ep_neg {i : Int} {r : V → Hp → VK → Prop} (hr : RU r (.int i) H (.int (-i))) : EvP K (tUn r (tC (.int i))) σ H (.int (-i)) := ep_v (ev_un ev_c hr) fun _ _ => .int _
theorem ep_bl {b : Bool} : EvP K (tC (.bl b)) σ H (.bool b) := ep_v ev_c fun _ _ => .bl b
theorem ep_str {z : Str} : EvP K (tC (.str z)) σ H (.str z) := ep_v ev_c fun _ _ => .str z
theorem ep_non : EvP K (tC .non) σ H .none := ep_v ev_c fun _ _ => .non
theorem ep_var {i : Nat} (hs : σ[i]? = some (some x)) (h : Dp K H x d) : EvP K (tVar i) σ H d := ep_v (ev_var hs) fun _ e => dp_ex e h
theorem eps_nil : EvPs K tNil σ H [] := fun H1 e Q k => k [] H1 (Ex.refl H1) .nil
theorem eps_cons (h : EvP K te σ H d) (r : EvPs K ta σ H ds) : EvPs K (tCons te ta) σ H (d :: ds) := fun H1 e Q k =>
  h H1 e _ fun x H2 e2 hx => r H2 (e.trans e2) _ fun xs H3 e3 hxs => k _ H3 (e2.trans e3) (.cons (dp_ex e3 hx) hxs)
theorem ep_tup (h : EvPs K ta σ H ds) (hz : ds.length ≤ 1000) : EvP K (tTup ta) σ H (.tuple ds) := fun H1 e Q k =>
  h H1 e _ fun xs H2 e2 hxs => ⟨by rw [dpAll_len hxs]; exact Nat.le_trans hz (by decide), fun p hp => k _ _ (e2.trans (Ex.new hp)) (.tup (st_of upd_same) (dpAll_ex (Ex.new hp) hxs))⟩
theorem ep_lst (h : EvPs K ta σ H ds) (hz : ds.length ≤ 1000) : EvP K (tLst ta) σ H (.list ds) := fun H1 e Q k =>
  h H1 e _ fun xs H2 e2 hxs => ⟨by rw [dpAll_len hxs]; exact Nat.le_trans hz (by decide), fun p hp => k _ _ (e2.trans (Ex.new hp)) (.lst (SqL.of upd_same) (dpAll_ex (Ex.new hp) hxs))⟩
theorem ep_eu (h : EvTu K te σ H xs) (q : ∀ H', DpAll K H' xs ds) : EvP K te σ H (.tuple ds) := fun H1 e Q k => h H1 e Q fun t H2 e2 ht => k _ H2 e2 (.tup ht (q H2))
theorem ed_p (h : EvP K te σ H d) : EvD K te σ H d := fun H1 e Q k => h H1 e Q fun x H2 e2 hx => k x H2 e2 (.dp hx)
theorem ed_dk : EvD K tDNewK σ H (.dict []) := fun H1 e Q k p hp => k _ _ (Ex.new hp) (.dk upd_same .nil)
theorem eds_nil : EvDs K tNil σ H [] := fun H1 e Q k => k [] H1 (Ex.refl H1) .nil
theorem eds_cons (h : EvD K te σ H d) (r : EvDs K ta σ H ds) : EvDs K (tCons te ta) σ H (d :: ds) := fun H1 e Q k =>
  h H1 e _ fun x H2 e2 hx => r H2 (e.trans e2) _ fun xs H3 e3 hxs => k _ H3 (e2.trans e3) (.cons (dd_ex e3 hx) hxs)
theorem eds_p (h : EvP K te σ H d) (r : EvDs K ta σ H ds) : EvDs K (tCons te ta) σ H (d :: ds) := eds_cons (ed_p h) r
theorem rd_edl {Q : VK} (h : EvDs K ta σ H ds) (hz : ds.length ≤ 1000) (k : ∀ l xs H', Ex H H' → H l = none → H' l = some (.lst xs) → DdAll K H' xs ds → Q (.ref l) H') : tLst ta σ H Q :=
  h H (Ex.refl H) _ fun xs H2 e2 hxs => ⟨by rw [hxs.len]; exact Nat.le_trans hz (by decide), fun p hp => k p xs _ (e2.trans (Ex.new hp)) (ex_none e2 hp) upd_same (hxs.ex (Ex.new hp))⟩
theorem q_edl {u : TS} {D : Ends} {i : Nat} (h : EvDs K ta σ H ds) (hz : ds.length ≤ 1000) (k : ∀ l xs H', Ex H H' → H l = none → H' l = some (.lst xs) → DdAll K H' xs ds → u D (σ.set i (some (.ref l))) H') : tSeq (tAsg (tLst ta) (gName i)) u D σ H :=
  rd_edl (Q := fun x H1 => gName i x σ H1 (u D)) h hz k
end
end W

set_option Elab.async false
set_option linter.all false
set_option maxRecDepth 100000
set_option maxHeartbeats 8000000
/-! What is no fault. -/
namespace W
open PySem PySem.Spec PyProof.Rows L2 Evl G C
def oddF0 : List PyData := [.int 0, .bool true, .str "", .tuple [], .list [], .dict [], .tuple [.str "nowhere", .int 0], .tuple [.none, .int 0], .tuple [.int 0, .int 0], .tuple [.str "", .int 1]]
def oddF1 (z : Str) : List PyData := [.tuple [.str z], .list [.str z, .int 0], .tuple [.str z, .int 2], .tuple [.str z, .int (-1)], .tuple [.str z, .bool true], .tuple [.str z, .none], .tuple [.str z, .int 0, .int 0], .str z, .tuple [.int 0, .str z]]
/-- what is no fault of wires so named -/
def oddF : List Str → List PyData
  | [] => oddF0
  | z :: _ => oddF0 ++ oddF1 z
def plainB (d : PyData) : Bool := showyB d && PyData.strOk d.shown && notNone d
theorem oddF_ok {c : Cir} (tg : ∀ z ∈ names c, z ∈ TG) : ∀ d ∈ oddF (names c), Showy d ∧ PyData.strOk d.shown = true ∧ fltB c d = false ∧ d ≠ .none := by
  have no : ∀ z : Str, z ∉ TG → nIn c z = false := fun z h => decide_eq_false fun q => h (tg z q)
  have f0 : ∀ d ∈ oddF0, plainB d = true ∧ fltB c d = false := by
    intro d hd
    refine ⟨List.all_eq_true.mp (show oddF0.all plainB = true by decide +kernel) d hd, ?_⟩
    simp only [oddF0, List.mem_cons, List.not_mem_nil, or_false] at hd
    rcases hd with rfl | rfl | rfl | rfl | rfl | rfl | rfl | rfl | rfl | rfl
    · rfl
    · rfl
    · rfl
    · rfl
    · rfl
    · rfl
    · show (nIn c "nowhere" && isBit (.int 0)) = false
      rw [no "nowhere" (by decide +kernel)]
      rfl
    · rfl
    · rfl
    · show (nIn c "" && isBit (.int 1)) = false
      rw [no "" (by decide +kernel)]
      rfl
  have f1 : ∀ z ∈ TG, ∀ d ∈ oddF1 z, plainB d = true ∧ fltB c d = false := by
    intro z hz d hd
    refine ⟨List.all_eq_true.mp (List.all_eq_true.mp (show TG.all (fun z => (oddF1 z).all plainB) = true by decide +kernel) z hz) d hd, ?_⟩
    simp only [oddF1, List.mem_cons, List.not_mem_nil, or_false] at hd
    rcases hd with rfl | rfl | rfl | rfl | rfl | rfl | rfl | rfl | rfl
    · rfl
    · rfl
    · exact Bool.and_false _
    · exact Bool.and_false _
    · exact Bool.and_false _
    · exact Bool.and_false _
    · rfl
    · rfl
    · rfl
  have all : ∀ d ∈ oddF (names c), plainB d = true ∧ fltB c d = false := by
    intro d hd
    cases hn : names c with
    | nil =>
      rw [hn] at hd
      exact f0 d hd
    | cons z r =>
      rw [hn] at hd
      rcases List.mem_append.mp hd with h | h
      · exact f0 d h
      · exact f1 z (tg z (by rw [hn]; exact List.mem_cons_self)) d h
  intro d hd
  obtain ⟨z, hf⟩ := all d hd
  obtain ⟨z, z3⟩ := Bool.and_eq_true_iff.mp z
  obtain ⟨z1, z2⟩ := Bool.and_eq_true_iff.mp z
  refine ⟨showy_of z1, z2, hf, fun e => ?_⟩
  subst e
  cases z3
end W

set_option Elab.async false
set_option linter.all false
set_option maxRecDepth 100000
set_option maxHeartbeats 8000000
/-! What is no fault. -/
namespace W
open PySem PySem.Spec PyProof.Rows L2 Evl G C
section
variable {P : Program} {w : World} {K : PySem.W.Frag} {mg : Str → Option Value} {base : Heap}
def spNoFaults (K : PySem.W.Frag) : Sp := fun vs H Q _ => ∃ (g : Addr) (ts : List Str), vs = [.ref g] ∧ H g = some (.lst (ts.map V.str)) ∧ (∀ z ∈ ts, nameOk z) ∧ ts.length ≤ 100 ∧ ∀ (l : Addr) (xs : List V) (H' : Hp), Ex H H' → H l = none → H' l = some (.lst xs) → DdAll K H' xs (oddF ts) → Q (.ref l) H'
abbrev nNoFaults : List Str := ["_law_tags_here", "_law_found", "_law_tag"]
theorem scNoFaults : FnScope nNoFaults ["_law_tags_here"] (defScope dNoFaults) := ⟨rfl, rfl, rfl, by decide +kernel, rfl, by decide +kernel, by decide +kernel⟩
theorem okNoFaults {f : Addr} {fd : FuncData} (F : At K mg "_law_no_faults" dNoFaults ["_law_tags_here"] f fd) (T : Txt K mg) : FnOk P w K mg base CX0 1 f fd ["_law_tags_here"] (spNoFaults K) := by
  refine F.fn.ok scNoFaults (fun vs H Q E h => ?_) (fun cdv A outer s H vs Q E hr h => ?_)
  · obtain ⟨g, ts, rfl, _⟩ := h
    rfl
  · obtain ⟨g, ts, rfl, hg, ok, few, k⟩ := h
    have nds := scNoFaults.nd
    have hu64 : (cxOf CX0 P w K mg base nNoFaults "_law_no_faults" (defScope dNoFaults) f cdv A outer s H E).nox.A.units + 64 < cLine := by have := hr.units; show (A.deeper _).units + 64 < cLine; omega
    refine ⟨_, pss_cons (ps_set (i := 1) nds rfl (Or.inl rfl) (pe_lst (pa_cons pe_int (pa_cons pe_bl (pa_cons pe_str (pa_cons (pe_tup pa_nil) (pa_cons (pe_lst pa_nil) (pa_cons pe_dnewK (pa_cons (pe_tup (pa_cons pe_str (pa_cons pe_int pa_nil))) (pa_cons (pe_tup (pa_cons pe_non (pa_cons pe_int pa_nil))) (pa_cons (pe_tup (pa_cons pe_int (pa_cons pe_int pa_nil))) (pa_cons (pe_tup (pa_cons pe_str (pa_cons pe_int pa_nil))) pa_nil))))))))))))
      (pss_cons (ps_if (pt_cmpR (op_neD hu64) (pv 0) (pe_lst pa_nil) (nomark _))
        (pss_cons (ps_set (i := 2) nds rfl (Or.inl rfl) (pe_ix ix_list (pv 0) pe_int (fun _ _ => rfl)))
        (pss_one (ps_set (i := 1) nds rfl (Or.inl rfl) (pe_op op_cat (pv 1) (pe_lst (pa_cons (pe_tup (pa_cons (pv 2) pa_nil)) (pa_cons (pe_lst (pa_cons (pv 2) (pa_cons pe_int pa_nil))) (pa_cons (pe_tup (pa_cons (pv 2) (pa_cons pe_int pa_nil))) (pa_cons (pe_tup (pa_cons (pv 2) (pa_cons (pe_un un_neg pe_int) pa_nil)))
          (pa_cons (pe_tup (pa_cons (pv 2) (pa_cons pe_bl pa_nil))) (pa_cons (pe_tup (pa_cons (pv 2) (pa_cons pe_non pa_nil))) (pa_cons (pe_tup (pa_cons (pv 2) (pa_cons pe_int (pa_cons pe_int pa_nil)))) (pa_cons (pv 2) (pa_cons (pe_tup (pa_cons pe_int (pa_cons (pv 2) pa_nil))) pa_nil))))))))))))))
        pss_nil)
      (pss_one (ps_ret (pv 1)))), ?_⟩
    refine q_edl (K := K) (ds := oddF0) (eds_p ep_int (eds_p ep_bl (eds_p ep_str (eds_p (ep_tup eps_nil (by decide)) (eds_p (ep_lst eps_nil (by decide)) (eds_cons ed_dk (eds_p (ep_tup (eps_cons ep_str (eps_cons ep_int eps_nil)) (by decide)) (eds_p (ep_tup (eps_cons ep_non (eps_cons ep_int eps_nil)) (by decide)) (eds_p (ep_tup (eps_cons ep_int (eps_cons ep_int eps_nil)) (by decide)) (eds_p (ep_tup (eps_cons ep_str (eps_cons ep_int eps_nil)) (by decide)) eds_nil)))))))))) (by decide) fun l xs H1 e1 nl hl hx => ?_
    refine ⟨_, rfl, (by show 0 ≤ sizeLine; decide), fun m nm => ?_⟩
    have e2 : Ex H1 (upd H1 m (.lst [])) := Ex.new nm
    have hg1 := e1 _ _ hg
    refine ⟨.list (txtD ts), .list (txtD []), dp_txl (SqL.of (e2 _ _ hg1)), dp_txl (SqL.of upd_same), (Wt.txts (m := 100) ok few).shaped (by decide), (Wt.txts (m := 0) (zs := []) (fun z h => by cases h) (by decide)).shaped (by decide), _, rfl, ?_⟩
    rw [eqv_txt_nil]
    generalize upd H1 m (.lst []) = H2 at e2
    cases ts with
    | nil => exact iteF ⟨_, rfl, k l xs H2 (e1.trans e2) nl (e2 _ _ hl) (hx.ex e2)⟩
    | cons z r =>
      refine iteT ⟨_, rfl, g, _, 0, .str z, rfl, rfl, SqL.of (e2 _ _ hg1), atI_nat (j := 0) rfl, ?_⟩
      have vz : ∀ {H' : Hp}, EvP K (tVar 2) [some (.ref g), some (.ref l), some (.str z)] H' (.str z) := fun {H'} => ep_var rfl (.str z)
      refine ⟨_, rfl, ?_⟩
      refine rd_edl (K := K) (ds := oddF1 z) (eds_p (ep_tup (eps_cons vz eps_nil) (by show 1 ≤ 1000; decide)) (eds_p (ep_lst (eps_cons vz (eps_cons ep_int eps_nil)) (by show 2 ≤ 1000; decide)) (eds_p (ep_tup (eps_cons vz (eps_cons ep_int eps_nil)) (by show 2 ≤ 1000; decide)) (eds_p (ep_tup (eps_cons vz (eps_cons (ep_neg fun H1 e Q q => ⟨_, rfl, q H1 (Ex.refl H1)⟩) eps_nil)) (by show 2 ≤ 1000; decide))
        (eds_p (ep_tup (eps_cons vz (eps_cons ep_bl eps_nil)) (by show 2 ≤ 1000; decide)) (eds_p (ep_tup (eps_cons vz (eps_cons ep_non eps_nil)) (by show 2 ≤ 1000; decide)) (eds_p (ep_tup (eps_cons vz (eps_cons ep_int (eps_cons ep_int eps_nil))) (by show 3 ≤ 1000; decide)) (eds_p vz (eds_p (ep_tup (eps_cons ep_int (eps_cons vz eps_nil)) (by show 2 ≤ 1000; decide)) eds_nil))))))))) (by show 9 ≤ 1000; decide) fun l2 ys H3 e3 nl2 hl2 hy => ?_
      have x2 := e1.trans e2
      have ln := hx.len
      have ln2 := hy.len
      refine ⟨l, l2, _, _, rfl, rfl, (e2.trans e3) _ _ hl, hl2, by rw [ln, ln2]; show 19 ≤ sizeLine; decide, fun q nq => ?_⟩
      have e4 : Ex H3 (upd H3 q (.lst (xs ++ ys))) := Ex.new nq
      refine ⟨_, rfl, k q (xs ++ ys) _ ((x2.trans e3).trans e4) (ex_none (x2.trans e3) nq) upd_same ?_⟩
      exact DdAll.append (hx.ex ((e2.trans e3).trans e4)) (hy.ex e4)
end
end W

set_option Elab.async false
set_option linter.all false
set_option maxRecDepth 100000
set_option maxHeartbeats 8000000
/-! What is no word. -/
namespace W
open PySem PySem.Spec PyProof.Rows L2 Evl G C
/-! ### data beside a list at p -/
def EvHp (K : PySem.W.Frag) (p : Addr) (te : TE) (σ : L2.St) (H : Hp) (d : PyData) : Prop := ∀ H1, Ex H H1 → ∀ Q : VK, (∀ x H2, Ex H1 H2 → Dp K (hid p H2) x d → Q x H2) → te σ H1 Q
def EvHps (K : PySem.W.Frag) (p : Addr) (ta : TA) (σ : L2.St) (H : Hp) (ds : List PyData) : Prop := ∀ H1, Ex H H1 → ∀ Q : List V → Hp → Prop, (∀ xs H2, Ex H1 H2 → DpAll K (hid p H2) xs ds → Q xs H2) → ta σ H1 Q
def EvHd (K : PySem.W.Frag) (p : Addr) (te : TE) (σ : L2.St) (H : Hp) (d : PyData) : Prop := ∀ H1, Ex H H1 → ∀ Q : VK, (∀ x H2, Ex H1 H2 → Dd K (hid p H2) x d → Q x H2) → te σ H1 Q
def EvHds (K : PySem.W.Frag) (p : Addr) (ta : TA) (σ : L2.St) (H : Hp) (ds : List PyData) : Prop := ∀ H1, Ex H H1 → ∀ Q : List V → Hp → Prop, (∀ xs H2, Ex H1 H2 → DdAll K (hid p H2) xs ds → Q xs H2) → ta σ H1 Q
section
variable {K : PySem.W.Frag} {p : Addr} {σ : L2.St} {H : Hp} {te : TE} {ta : TA} {d : PyData} {ds : List PyData} {xs zs : List V} {x : V}
theorem hid_new {q : Addr} {o : HO} {H1 : Hp} (hp : H p = some (.lst zs)) (e : Ex H H1) (nq : H1 q = none) : hid p (upd H1 q o) q = some o := by
  refine hid_some.mpr ⟨fun z => ?_, upd_same⟩
  rw [z, e _ _ hp] at nq
  cases nq
theorem hp_v (h : Ev te σ H x) (q : ∀ H', Dp K H' x d) : EvHp K p te σ H d := fun H1 e Q k => h H1 e Q fun H2 e2 => k x H2 e2 (q _)
theorem hp_int {i : Int} : EvHp K p (tC (.int i)) σ H (.int i) := hp_v ev_c fun _ => .int i
theorem hp_bl {b : Bool} : EvHp K p (tC (.bl b)) σ H (.bool b) := hp_v ev_c fun _ => .bl b
theorem hp_str {z : Str} : EvHp K p (tC (.str z)) σ H (.str z) := hp_v ev_c fun _ => .str z
theorem hp_non : EvHp K p (tC .non) σ H .none := hp_v ev_c fun _ => .non
theorem hps_nil : EvHps K p tNil σ H [] := fun H1 e Q k => k [] H1 (Ex.refl H1) .nil
theorem hps_cons (h : EvHp K p te σ H d) (r : EvHps K p ta σ H ds) : EvHps K p (tCons te ta) σ H (d :: ds) := fun H1 e Q k =>
  h H1 e _ fun x H2 e2 hx => r H2 (e.trans e2) _ fun xs H3 e3 hxs => k _ H3 (e2.trans e3) (.cons (dp_ex (hid_ex e3) hx) hxs)
theorem hp_tup (hp : H p = some (.lst zs)) (h : EvHps K p ta σ H ds) (hz : ds.length ≤ 1000) : EvHp K p (tTup ta) σ H (.tuple ds) := fun H1 e Q k =>
  h H1 e _ fun xs H2 e2 hxs => ⟨by rw [dpAll_len hxs]; exact Nat.le_trans hz (by decide), fun q hq => k _ _ (e2.trans (Ex.new hq)) (.tup (st_of (hid_new hp (e.trans e2) hq)) (dpAll_ex (hid_ex (Ex.new hq)) hxs))⟩
theorem hp_lst (hp : H p = some (.lst zs)) (h : EvHps K p ta σ H ds) (hz : ds.length ≤ 1000) : EvHp K p (tLst ta) σ H (.list ds) := fun H1 e Q k =>
  h H1 e _ fun xs H2 e2 hxs => ⟨by rw [dpAll_len hxs]; exact Nat.le_trans hz (by decide), fun q hq => k _ _ (e2.trans (Ex.new hq)) (.lst (SqL.of (hid_new hp (e.trans e2) hq)) (dpAll_ex (hid_ex (Ex.new hq)) hxs))⟩
theorem hp_eu (hp : H p = some (.lst zs)) (h : EvTu K te σ H xs) (q : ∀ H', DpAll K H' xs ds) : EvHp K p te σ H (.tuple ds) := fun H1 e Q k => h H1 e Q fun t H2 e2 ht => k _ H2 e2 (.tup (st_hid ((e.trans e2) _ _ hp) ht) (q _))
theorem hp_new (hp : H p = some (.lst zs)) (h : ∀ H1, Ex H H1 → ∀ Q : VK, (∀ L, H1 L = none → Q (.ref L) (upd H1 L (.lst xs))) → te σ H1 Q) (q : ∀ H', DpAll K H' xs ds) : EvHp K p te σ H (.list ds) := fun H1 e Q k =>
  h H1 e Q fun L nL => k _ _ (Ex.new nL) (.lst (SqL.of (hid_new hp e nL)) (q _))
theorem hd_p (h : EvHp K p te σ H d) : EvHd K p te σ H d := fun H1 e Q k => h H1 e Q fun x H2 e2 hx => k x H2 e2 (.dp hx)
theorem hd_dk (hp : H p = some (.lst zs)) : EvHd K p tDNewK σ H (.dict []) := fun H1 e Q k q hq => k _ _ (Ex.new hq) (.dk (hid_new hp e hq) .nil)
theorem hds_nil : EvHds K p tNil σ H [] := fun H1 e Q k => k [] H1 (Ex.refl H1) .nil
theorem hds_cons (h : EvHd K p te σ H d) (r : EvHds K p ta σ H ds) : EvHds K p (tCons te ta) σ H (d :: ds) := fun H1 e Q k =>
  h H1 e _ fun x H2 e2 hx => r H2 (e.trans e2) _ fun xs H3 e3 hxs => k _ H3 (e2.trans e3) (.cons (dd_ex (hid_ex e3) hx) hxs)
theorem hds_p (h : EvHp K p te σ H d) (r : EvHds K p ta σ H ds) : EvHds K p (tCons te ta) σ H (d :: ds) := hds_cons (hd_p h) r
theorem q_hds {u : TS} {D : Ends} {i : Nat} (h : EvHds K p ta σ H ds) (hz : ds.length ≤ 1000) (k : ∀ l xs H', Ex H H' → H l = none → H' l = some (.lst xs) → DdAll K (hid p H') xs ds → u D (σ.set i (some (.ref l))) H') : tSeq (tAsg (tLst ta) (gName i)) u D σ H :=
  h H (Ex.refl H) _ fun xs H2 e2 hxs => ⟨by rw [hxs.len]; exact Nat.le_trans hz (by decide), fun q hq => k q xs _ (e2.trans (Ex.new hq)) (ex_none e2 hq) upd_same (hxs.ex (hid_ex (Ex.new hq)))⟩
end
abbrev zT (n : Nat) : PyData := .tuple (zD n)
def oddW0 (n : Nat) : List PyData := [.none, .int 0, .bool true, .str "0", .dict [], .list [.none], .list [zT n, .list (zD n)], .list [zT n, .tuple (zD n ++ [.int 1])], .tuple [zT n, .int 0], if n = 0 then .int 1 else zT n]
def wOdd (n : Nat) (d : PyData) : Bool := showyB d && PyData.strOk d.shown && !isWord d n && decide (szD d ≤ 1000)
theorem oddW0_ok {n : Nat} (hn : n ≤ 3) : ∀ d ∈ oddW0 n, wOdd n d = true := by
  have q : (oddW0 n).all (wOdd n) = true := by
    obtain rfl | rfl | rfl | rfl : n = 0 ∨ n = 1 ∨ n = 2 ∨ n = 3 := by omega
    all_goals decide +kernel
  exact fun d hd => List.all_eq_true.mp q d hd
def wordO (n k : Nat) (d : PyData) : PyData := .list (List.replicate k (zT n) ++ [d])
theorem wordO_ok {n a k : Nat} (hn : n ≤ 3) (ha : a < n ∨ n = 0) (hk : k ≤ 2) : ∀ d ∈ oddB n a, wOdd n (wordO n k d) = true := by
  have q : (oddB n a).all (fun d => wOdd n (wordO n 0 d) && wOdd n (wordO n 1 d) && wOdd n (wordO n 2 d)) = true := by
    obtain ⟨rfl, rfl⟩ | ⟨rfl, rfl⟩ | ⟨rfl, rfl⟩ | ⟨rfl, rfl⟩ | ⟨rfl, rfl⟩ | ⟨rfl, rfl⟩ | rfl : (n = 1 ∧ a = 0) ∨ (n = 2 ∧ a = 0) ∨ (n = 2 ∧ a = 1) ∨ (n = 3 ∧ a = 0) ∨ (n = 3 ∧ a = 1) ∨ (n = 3 ∧ a = 2) ∨ n = 0 := by omega
    · decide +kernel
    · decide +kernel
    · decide +kernel
    · decide +kernel
    · decide +kernel
    · decide +kernel
    · show (oddB 0 0).all _ = true
      decide +kernel
  intro d hd
  have z := List.all_eq_true.mp q d hd
  obtain ⟨z, z3⟩ := Bool.and_eq_true_iff.mp z
  obtain ⟨z1, z2⟩ := Bool.and_eq_true_iff.mp z
  obtain rfl | rfl | rfl : k = 0 ∨ k = 1 ∨ k = 2 := by omega
  · exact z1
  · exact z2
  · exact z3
theorem wOdd_is {n : Nat} {d : PyData} (h : wOdd n d = true) : Showy d ∧ PyData.strOk d.shown = true ∧ isWord d n = false ∧ szD d ≤ 1000 := by
  obtain ⟨h, h4⟩ := Bool.and_eq_true_iff.mp h
  obtain ⟨h, h3⟩ := Bool.and_eq_true_iff.mp h
  obtain ⟨h1, h2⟩ := Bool.and_eq_true_iff.mp h
  exact ⟨showy_of h1, h2, by simpa using h3, of_decide_eq_true h4⟩
end W

set_option Elab.async false
set_option linter.all false
set_option maxRecDepth 100000
set_option maxHeartbeats 8000000
namespace W
open PySem PySem.Spec PyProof.Rows L2 Evl G C
theorem dd_same {K : PySem.W.Frag} {H : Hp} {x : V} {d : PyData} (h : Dd K H x d) : ∀ n : Nat, DdAll K H (List.replicate n x) (List.replicate n d)
  | 0 => .nil
  | n + 1 => .cons h (dd_same h n)
section
variable {P : Program} {w : World} {K : PySem.W.Frag} {mg : Str → Option Value} {base : Heap}
def spNoWords (K : PySem.W.Frag) : Sp := fun vs H Q _ => ∃ (p : Addr) (n : Nat), vs = [.ref p, .int (n : Int)] ∧ Pot H p ∧ n ≤ 3 ∧ ∀ (l : Addr) (xs : List V) (H' : Hp), ExBut p H H' → Pot H' p → H l = none → H' l = some (.lst xs) → xs.length ≤ 100 → (∀ x ∈ xs, ∃ d, wOdd n d = true ∧ Dw K H' x d) → Q (.ref l) H'
abbrev nNoWords : List Str := ["_law_pot_here", "_law_many", "_law_good", "_law_found", "_law_odd"]
theorem scNoWords : FnScope nNoWords ["_law_pot_here", "_law_many"] (defScope dNoWords) := ⟨rfl, rfl, rfl, by decide +kernel, rfl, by decide +kernel, by decide +kernel⟩
theorem okNoWords {f : Addr} {fd : FuncData} (F : At K mg "_law_no_words" dNoWords ["_law_pot_here", "_law_many"] f fd) (T : Txt K mg) : FnOk P w K mg base CX0 3 f fd ["_law_pot_here", "_law_many"] (spNoWords K) := by
  obtain ⟨fD, gD, FD⟩ := T.draw
  obtain ⟨fB, gB, FB⟩ := T.noBits
  have GD : FnOk P w K mg base CX0 2 fD gD ["_law_pot_here", "_law_many"] spDraw := (okDraw FD T).mono (by decide)
  have GB : FnOk P w K mg base CX0 2 fB gB ["_law_pot_here", "_law_many"] (spNoBits K) := okNoBits FB T
  refine F.fn.ok scNoWords (fun vs H Q E h => ?_) (fun cdv A outer s H vs Q E hr h => ?_)
  · obtain ⟨p, n, rfl, _⟩ := h
    rfl
  · obtain ⟨p, n, rfl, hp, hn, k⟩ := h
    have nds := scNoWords.nd
    refine ⟨_, pss_cons (ps_set (i := 2) nds rfl (Or.inr rfl) (pe_op op_repA (pe_tup (pa_cons pe_int pa_nil)) (pv 1)))
      (pss_cons (ps_set (i := 3) nds rfl (Or.inl rfl) (pe_lst (pa_cons pe_non (pa_cons pe_int (pa_cons pe_bl (pa_cons pe_str (pa_cons pe_dnewK (pa_cons (pe_lst (pa_cons pe_non pa_nil)) (pa_cons (pe_lst (pa_cons (pv 2) (pa_cons (pe_callTy call_list_of (by rfl) T.list (by decide +kernel) (pa_cons (pv 2) pa_nil)) pa_nil)))
        (pa_cons (pe_lst (pa_cons (pv 2) (pa_cons (pe_op (op_catK (K := K)) (pv 2) (pe_tup (pa_cons pe_int pa_nil))) pa_nil))) (pa_cons (pe_tup (pa_cons (pv 2) (pa_cons pe_int pa_nil))) (pa_cons (pe_ifExp (pt_cmpR op_gt (pv 1) pe_int (nomark _)) (pv 2) pe_int) pa_nil))))))))))))
      (pss_one (ps_ret (pe_op op_cat (pv 3) (pe_lc (own := [("_law_odd", 4)]) (g := gName 4) rfl nds (pi_list (pe_call GB hr (by rfl) FB.gl FB.fn.kp FB.bi .nil pass0 (pa_cons (pv 0) (pa_cons (pv 1) pa_nil)))) (blkOk_by (own := [("_law_odd", 4)]) (N := nNoWords) (sc := defScope dNoWords) (by decide +kernel))
        (fun _ _ _ _ _ => pg_name (i := 4) nds rfl (Or.inl rfl)) (fun _ _ _ _ _ => pts_nil) (fun _ _ _ _ _ => pe_op op_cat (pe_op op_rep (pe_lst (pa_cons (pv 2) pa_nil)) (pe_call GD hr (by rfl) FD.gl FD.fn.kp FD.bi .nil pass0 (pa_cons (pv 0) (pa_cons pe_int pa_nil)))) (pe_lst (pa_cons (pv 4) pa_nil)))))))), ?_⟩
    obtain ⟨pa, pb, hpp, _⟩ := id hp
    refine (eu_rep (K := K) (n := n) (x := .int 0) (eu_new (ea_cons ev_c ea_nil) (by decide)) (ev_var rfl) (by omega)) H (Ex.refl H) _ fun t H1 e1 ht => ?_
    have hp1 := e1 _ _ hpp
    have gd : EvHp K p (tVar 2) [some (.ref p), some (.int (n : Int)), some (.ref t), none, none] H1 (zT n) := hp_eu hp1 (eu_var rfl ht) fun H' => dp_same (.int 0) n
    refine q_hds (K := K) (p := p) (ds := oddW0 n) (hds_p hp_non (hds_p hp_int (hds_p hp_bl (hds_p hp_str (hds_cons (hd_dk hp1) (hds_p (hp_lst hp1 (hps_cons hp_non hps_nil) (by show 1 ≤ 1000; decide)) (hds_p (hp_lst hp1 (hps_cons gd (hps_cons (hp_new (xs := zL n) hp1 (fun H2 e Q q => ⟨_, rfl, t, zL n, rfl, .inr (ex_t e ht), q⟩) fun H' => dp_same (.int 0) n) hps_nil)) (by show 2 ≤ 1000; decide))
      (hds_p (hp_lst hp1 (hps_cons gd (hps_cons (hp_eu hp1 (eu_cat (eu_var rfl ht) (eu_new (ea_cons ev_c ea_nil) (by decide)) (by simp; omega)) fun H' => dp_add (dp_same (.int 0) n) (.cons (.int 1) .nil)) hps_nil)) (by show 2 ≤ 1000; decide)) (hds_p (hp_tup hp1 (hps_cons gd (hps_cons hp_int hps_nil)) (by show 2 ≤ 1000; decide))
      (hds_p (d := if n = 0 then .int 1 else zT n) (fun H2 e Q q => ?ifz) hds_nil)))))))))) (by show 10 ≤ 1000; decide) fun l xs H2 e2 nl hl hx => ?_
    case ifz =>
      refine ⟨_, rfl, _, _, rfl, rfl, _, rfl, ?_⟩
      show if decide ((0 : Int) < (n : Int)) = true then _ else _
      by_cases z : n = 0
      · subst z
        exact iteF (q _ H2 (Ex.refl H2) (.int 1))
      · rw [decide_eq_true (show (0 : Int) < (n : Int) by omega)]
        rw [if_neg z] at q
        exact iteT (gd H2 e Q q)
    have x2 := e1.trans e2
    have hp2 := hp.ex x2
    have hpp2 := x2 _ _ hpp
    have ht2 := ex_t e2 ht
    have nl0 := ex_none e1 nl
    refine ⟨_, rfl, _, rfl, _, rfl, p, n, rfl, hp2, hn, fun a lB ys H3 ha e3 hp3 nlB hlB hy => ?_⟩
    have notp : ∀ {b : Addr}, H2 b = none → b ≠ p := fun n e => by rw [e, hpp2] at n; cases n
    have lp : l ≠ p := fun e => by rw [e, hpp] at nl0; cases nl0
    have hl3 := e3 _ _ hl lp
    obtain ⟨c3, d3, hq3, _⟩ := id hp3
    have ht3 : SqT K H3 t (zL n) := t_st (fun b o h no => e3 b o h fun e => by
      rw [e, hpp2] at h
      cases h
      exact no _ rfl) ht2
    have lys : ys.length ≤ 13 := by
      rw [hy.len]
      unfold oddB
      split
      · show 9 ≤ 13
        decide
      · exact Nat.le_refl 13
    refine ⟨lB, rfl, ⟨_, SqL.of hlB⟩, fun L nL => ?_⟩
    have Lp : L ≠ p := fun e => by rw [e, hq3] at nL; cases nL
    have lBp := notp nlB
    refine lc_it (g := gName 4) (tt := tYes) (walk_list (K := K) (a := lB) (xs := ys)) (fun i Hc => ExBut p H3 Hc ∧ Pot Hc p ∧ ∃ acc, Hc L = some (.lst acc) ∧ acc.length = i ∧ ∀ x ∈ acc, ∃ d, wOdd n d = true ∧ Dw K (hid L (hid p Hc)) x d) ⟨.of (Ex.new nL), hp3.ex (Ex.new nL), [], upd_same, rfl, fun x h => by cases h⟩ (fun i Hc _ q => SqL.of (q.1 _ _ hlB lBp)) (fun i x Ha Hb hi qq yy => ?_) (fun Hc qq => ?_)
    · obtain ⟨rfl, ex⟩ := yy
      obtain ⟨ea, hpa, acc, hL, la, ok⟩ := qq
      obtain ⟨d, hd1, hd2⟩ := hy.at ex
      obtain ⟨ca, da, hqa, _⟩ := id hpa
      refine ⟨rfl, _, rfl, (by show 1 ≤ sizeLine; decide), fun A1 nA => ?_⟩
      have eA : Ex Hb (upd Hb A1 (.lst [.ref t])) := Ex.new nA
      have hA : (upd Hb A1 (.lst [.ref t])) A1 = some (.lst [.ref t]) := upd_same
      generalize upd Hb A1 (.lst [.ref t]) = H4 at eA hA
      have Ap : A1 ≠ p := fun e => by rw [e, hqa] at nA; cases nA
      refine ⟨_, rfl, p, 3, rfl, hpa.ex eA, by decide, by decide, fun r H5 r0 r1 e5 hp5 => ?_⟩
      obtain ⟨k2, rfl⟩ := Int.eq_ofNat_of_zero_le r0
      have lk : k2 ≤ 2 := by omega
      refine ⟨A1, (k2 : Int), _, rfl, rfl, e5 _ _ hA Ap, by omega, by omega, ?_, fun B1 nB => ?_⟩
      · show 1 * _ ≤ sizeLine
        exact Nat.le_trans (show _ ≤ 2 by omega) (by decide)
      rw [show ((k2 : Int)).toNat = k2 by omega, rep_flat]
      have eB : Ex H5 (upd H5 B1 (.lst (List.replicate k2 (.ref t)))) := Ex.new nB
      have hB : (upd H5 B1 (.lst (List.replicate k2 (.ref t)))) B1 = some (.lst (List.replicate k2 (.ref t))) := upd_same
      generalize upd H5 B1 (.lst (List.replicate k2 (.ref t))) = H6 at eB hB
      refine ⟨_, rfl, (by show 1 ≤ sizeLine; decide), fun C1 nC => ?_⟩
      have eC : Ex H6 (upd H6 C1 (.lst [x])) := Ex.new nC
      have hC : (upd H6 C1 (.lst [x])) C1 = some (.lst [x]) := upd_same
      generalize upd H6 C1 (.lst [x]) = H7 at eC hC
      refine ⟨B1, C1, _, _, rfl, rfl, eC _ _ hB, hC, ?_, fun R nR => ?_⟩
      · rw [List.length_replicate]
        exact Nat.le_trans (show k2 + 1 ≤ 3 by omega) (by decide)
      have eR : Ex H7 (upd H7 R (.lst (List.replicate k2 (.ref t) ++ [x]))) := Ex.new nR
      have hR : (upd H7 R (.lst (List.replicate k2 (.ref t) ++ [x]))) R = some (.lst (List.replicate k2 (.ref t) ++ [x])) := upd_same
      have xb : ExBut p Hb H7 := ((ExBut.of eA).trans e5).trans (.of (eB.trans eC))
      have Rp : R ≠ p := fun e => by
        obtain ⟨u, v, y, _⟩ := hp5
        rw [e, (eB.trans eC) _ _ y] at nR
        cases nR
      have RL : R ≠ L := fun e => by
        rw [e, xb _ _ hL Lp] at nR
        cases nR
      have xr : ExBut p Hb (upd H7 R (.lst (List.replicate k2 (.ref t) ++ [x]))) := xb.trans (.of eR)
      have hpr := hp5.ex ((eB.trans eC).trans eR)
      generalize upd H7 R (.lst (List.replicate k2 (.ref t) ++ [x])) = H8 at eR hR xr hpr
      refine ⟨acc, xr _ _ hL Lp, by rw [la]; exact Nat.lt_of_le_of_lt (show i ≤ 13 by omega) (by decide), ?_⟩
      have up : ∀ b o, hid L (hid p H8) b = some o → hid L (hid p (upd H8 L (.lst (acc ++ [.ref R])))) b = some o := fun b o h => by
        obtain ⟨h1, h2⟩ := hid_some.mp h
        obtain ⟨h3, h4⟩ := hid_some.mp h2
        exact hid_some.mpr ⟨h1, hid_some.mpr ⟨h3, by rw [upd_ne h1]; exact h4⟩⟩
      have ol : Ex (hid L (hid p Hb)) (hid L (hid p H8)) := fun b o h => by
        obtain ⟨h1, h2⟩ := hid_some.mp h
        obtain ⟨h3, h4⟩ := hid_some.mp h2
        exact hid_some.mpr ⟨h1, hid_some.mpr ⟨h3, xr _ _ h4 h3⟩⟩
      have o3 : Ex (hid p H3) (hid L (hid p H8)) := fun b o h => by
        obtain ⟨h3, h4⟩ := hid_some.mp h
        have nb : b ≠ L := fun e => by
          rw [e, nL] at h4
          cases h4
        exact hid_some.mpr ⟨nb, hid_some.mpr ⟨h3, xr _ _ (ea _ _ h4 h3) h3⟩⟩
      have tt : SqT K (hid L (hid p H8)) t (zL n) := ex_t o3 (st_hid hq3 ht3)
      refine ⟨(ea.trans xr).mut nL, ?_, acc ++ [.ref R], upd_same, by rw [List.length_append, la]; rfl, fun y hy2 => ?_⟩
      · obtain ⟨u, v, y, z⟩ := hpr
        exact ⟨u, v, by rw [upd_ne (Ne.symm Lp)]; exact y, z⟩
      · rcases List.mem_append.mp hy2 with h | h
        · obtain ⟨d2, w1, w2⟩ := ok y h
          exact ⟨d2, w1, dw_ex up (dw_ex ol w2)⟩
        · obtain rfl := List.mem_singleton.mp h
          refine ⟨wordO n k2 d, wordO_ok hn ha lk d (List.mem_of_getElem? hd1), dw_ex up (.ls (hid_some.mpr ⟨RL, hid_some.mpr ⟨Rp, hR⟩⟩) ?_)⟩
          refine DdAll.append ?_ (.cons (dd_ex o3 hd2) .nil)
          have one : Dd K (hid L (hid p H8)) (.ref t) (zT n) := .dp (.tup tt (dp_same (.int 0) n))
          exact dd_same one k2
    · obtain ⟨ec, hpc, acc, hL, la, ok⟩ := qq
      have lx := hx.len
      refine ⟨l, L, _, _, rfl, rfl, ec _ _ hl3 lp, hL, ?_, fun R nR => ?_⟩
      · rw [lx, la]
        exact Nat.le_trans (show (oddW0 n).length + ys.length ≤ 23 from Nat.add_le_add (show (oddW0 n).length ≤ 10 from Nat.le_refl 10) lys) (by decide)
      have eR : Ex Hc (upd Hc R (.lst (xs ++ acc))) := Ex.new nR
      have x9 : ExBut p H2 (upd Hc R (.lst (xs ++ acc))) := (e3.trans ec).trans (.of eR)
      have hR : (upd Hc R (.lst (xs ++ acc))) R = some (.lst (xs ++ acc)) := upd_same
      have Rp : R ≠ p := fun e => by
        obtain ⟨u, v, y, _⟩ := hpc
        rw [e, y] at nR
        cases nR
      have nR0 : H R = none := ex_none x2 ((e3.trans ec).fresh nR Rp)
      have hpr := hpc.ex eR
      generalize upd Hc R (.lst (xs ++ acc)) = H9 at eR x9 hR hpr
      refine k R (xs ++ acc) H9 ((ExBut.of x2).trans x9) hpr nR0 hR ?_ fun x hx2 => ?_
      · rw [List.length_append, lx, la]
        exact Nat.le_trans (show (oddW0 n).length + ys.length ≤ 23 from Nat.add_le_add (show (oddW0 n).length ≤ 10 from Nat.le_refl 10) lys) (by decide)
      · rcases List.mem_append.mp hx2 with h | h
        · obtain ⟨i, hi⟩ := List.getElem?_of_mem h
          obtain ⟨d, d1, d2⟩ := hx.at hi
          refine ⟨d, oddW0_ok hn d (List.mem_of_getElem? d1), .dd (dd_ex (fun b o hb => ?_) d2)⟩
          obtain ⟨h1, h2⟩ := hid_some.mp hb
          exact x9 _ _ h2 h1
        · obtain ⟨d, w1, w2⟩ := ok x h
          refine ⟨d, w1, dw_ex (fun b o hb => ?_) w2⟩
          obtain ⟨_, h2⟩ := hid_some.mp hb
          obtain ⟨_, h4⟩ := hid_some.mp h2
          exact eR _ _ h4
end
end W

set_option Elab.async false
set_option linter.all false
set_option maxRecDepth 100000
set_option maxHeartbeats 8000000
/-! What a heard lambda leaves; rows of what was heard. -/
namespace G
open PySem PySem.Spec PyProof.Rows L2 Evl
section
variable {K : PySem.W.Frag} {H H' : Hp}
theorem sl_exN (e : LamX.ExtN H H') {a : Addr} {xs : List V} (h : SqL K H a xs) : SqL K H' a xs := by
  rcases h with (z | ⟨o, z⟩) | z
  · exact .inl (.inl (e _ _ z (fun ps q => by cases q)))
  · exact .inl (.inr ⟨o, e _ _ z (fun ps q => by cases q)⟩)
  · exact .inr z
theorem st_exN (e : LamX.ExtN H H') {a : Addr} {xs : List V} (h : SqT K H a xs) : SqT K H' a xs := by
  rcases h with (z | ⟨o, z⟩) | z
  · exact .inl (.inl (e _ _ z (fun ps q => by cases q)))
  · exact .inl (.inr ⟨o, e _ _ z (fun ps q => by cases q)⟩)
  · exact .inr z
mutual
theorem dp_exN (e : LamX.ExtN H H') : ∀ {d : PyData} {x : V}, Dp K H x d → Dp K H' x d
  | .none, _, h => by cases h; exact .non
  | .bool b, _, h => by cases h; exact .bl b
  | .int i, _, h => by cases h; exact .int i
  | .str z, _, h => by cases h; exact .str z
  | .list ds, _, h => by
    cases h with
    | lst hs a => exact .lst (sl_exN e hs) (dpAll_exN e a)
  | .tuple ds, _, h => by
    cases h with
    | tup hs a => exact .tup (st_exN e hs) (dpAll_exN e a)
  | .dict _, _, h => by cases h
theorem dpAll_exN (e : LamX.ExtN H H') : ∀ {ds : List PyData} {xs : List V}, DpAll K H xs ds → DpAll K H' xs ds
  | [], _, h => by cases h; exact .nil
  | d :: ds, _, h => by
    cases h with
    | cons a b => exact .cons (dp_exN e a) (dpAll_exN e b)
end
theorem dd_exN (e : LamX.ExtN H H') {x : V} {d : PyData} (h : Dd K H x d) : Dd K H' x d := by
  cases h with
  | dp q => exact .dp (dp_exN e q)
  | dk q k => exact .dk (e _ _ q (fun ps z => by cases z)) k
theorem ddAll_exN (e : LamX.ExtN H H') {xs : List V} {ds : List PyData} (h : DdAll K H xs ds) : DdAll K H' xs ds := by
  induction h with
  | nil => exact .nil
  | cons a _ ih => exact .cons (dd_exN e a) ih
theorem exN_fresh (e : LamX.ExtN H H') {b : Addr} (n : H' b = none) : H b = none ∨ ∃ ps, H b = some (.tbl ps) := by
  cases q : H b with
  | none => exact .inl rfl
  | some o =>
    refine .inr ?_
    by_cases z : ∃ ps, o = .tbl ps
    · obtain ⟨ps, rfl⟩ := z
      exact ⟨ps, rfl⟩
    · rw [e b o q fun ps y => z ⟨ps, y⟩] at n
      cases n
end
section
variable {pr : Program} {wo : World} {KK : PySem.W.Frag} {mm : Str → Option Value} {ba : Heap} {CC : CXT} {i n : Nat} {fa : Addr} {fd : FuncData} {pars : List Str} {pro : Sp}
/-- .. its body told the code object that stands in the def -/
theorem okNC {x qual : Str} {de : Stmt} {NN : List Str} (F : Fun KK x qual de fa fd) (S : FnScope NN pars (defScope de)) (ar : ∀ xs HH QQ EE, pro xs HH QQ EE → xs.length = pars.length)
    (body : ∀ (cdv : Value) (B : Around) (out : List Env) (st : Shared) (HH : Hp) (xs : List V) (QQ : VK) (EE : XK), fd.code = cdv → Rm n (B.deeper (envOfC qual (defScope de) st.heap.objs.size fa cdv)) → pro xs HH QQ EE →
      ∃ t, PSs (cxOf CX0 pr wo KK mm ba NN qual (defScope de) fa cdv B out st HH EE).nox (defBody de) t ∧ t { nx := fun _ H' => QQ .non H', rt := QQ } (L2.start NN xs) HH) : Fn pr wo KK mm ba CX0 (n + 1) fa fd pars pro := by
  obtain ⟨oc, od, kV, doc, pm, an, cdv, ct, osl, rfl, look, cdok⟩ := F.ex
  refine ⟨ar, fun B out st HH gs ys xs QQ EE q e0 hb r hp => ?_⟩
  refine LamX.run_ofS look cdok S q.rm e0 hb r (ar _ _ _ _ hp) fun _ => ?_
  obtain ⟨t, a, b⟩ := body cdv B out st HH xs QQ EE rfl (q.deeper _) hp
  exact ⟨t, a.nox, b⟩
end


section
variable {X : Cx} {CC : CXT} {n : Nat} {fa : Addr} {fd : FuncData} {pars : List Str} {pro : Sp} {kw : List Str} {gU : List Value → List Value → List Value} {gW : List V → List V → List V} {EE : XK} {x : Str} {kws : List Keyword} {tk : TA} {p q0 : Pos}
/-- f(k = b, ..), wherever a repr is under way or not -/
theorem pcK0F (F : FnOk X.prog X.w X.K X.mg X.base CC n fa fd pars pro) (hr : Room n X.A) (hg : Gl X x) (hm : X.mg x = some (.ref fa)) (hk : PySem.W.keepIn X.K (.ref fa) = true) (hb : KBinds X.K fd pars kw gU gW) (hx : Passes CC X EE)
    (hkw : PK X kws tk) (h1 : (backToKw q0 (keywordEach kws X.env)).all (·.1.isSome) = true := by rfl) (h2 : (backToKw q0 (keywordEach kws X.env)).filterMap (·.1) = kw := by rfl)
    (hdb : (x == ("__debug__" : Str)) = false := by decide) (h3 : (backToKw q0 (keywordEach kws X.env)).any (·.1.isNone) = false := by rfl) :
    PE X (.Call (.Name x p) [] kws q0) (tCallK pro gW EE tNil tk) := by
  refine ⟨fun pins st σ HH QQ I h => wpAny_Call_Name_kw (ld_glob I hg hm ?_ hdb)⟩
  refine PySem.W.callWith_KW0 (h₀ := X.base) I.ok.mod.kin hk h1 ?_ h3
  refine thn (hkw.run q0 pins st σ HH _ I h) fun zs s2 ⟨ws, H2, I2, r2, w2⟩ => ⟨I2.kIn, ?_⟩
  rw [h2]
  have both := hb.rel .nil r2
  have many : (gU [] zs).length = pars.length := both.length.symm.trans (F.len _ _ _ _ w2)
  refine wpAny_call (codeAny_mono (ended I2 hx (F.run X.A X.stack s2 H2 ⟨[], kw.zip zs⟩ (gU [] zs) (gW [] ws) QQ EE hr I2.env0 (hb.to s2 [] zs I2.kIn many) both w2)) fun r s' w => ?_)
  match r, w with
  | .error e, w => exact w
  | .ok (.ret u), w => exact w
  | .ok .next, w => exact w.elim
  | .ok .brk, w => exact w.elim
  | .ok .cont, w => exact w.elim
end
end G
namespace W
open PySem PySem.Spec PyProof.Rows L2 Evl G C
/-- not there, or a table of code objects -/
def NewN (H : Hp) (l : Addr) : Prop := H l = none ∨ ∃ ps, H l = some (.tbl ps)
theorem exN_upd {H H' : Hp} {l : Addr} {o : HO} (e : LamX.ExtN H H') (n : NewN H l) : LamX.ExtN H (upd H' l o) := fun b u h no => by
  have ne : b ≠ l := fun z => by
    rw [z] at h
    rcases n with n | ⟨ps, n⟩
    · rw [n] at h
      cases h
    · rw [n] at h
      cases h
      exact no _ rfl
  rw [upd_ne ne]
  exact e b u h no
theorem tabs_lst {T : List (Addr × Str)} {H : Hp} {l : Addr} {xs : List V} {o : HO} (t : LamX.Tabs T H) (h : H l = some (.lst xs)) (ho : ∀ q, HO.lst xs ≠ LamX.CodeO l q) : LamX.Tabs T (upd H l o) := fun p hp => by
  obtain ⟨ps, h1, h2, h3⟩ := t p hp
  have ne : p.1 ≠ l := fun z => by
    rw [z, h] at h1
    cases h1
  refine ⟨ps, by rw [upd_ne ne]; exact h1, h2, fun pos cv hc => ?_⟩
  obtain ⟨c, e1, e2⟩ := h3 pos cv hc
  have nc : c ≠ l := fun z => by
    subst z
    rw [h] at e2
    exact ho _ (Option.some.inj e2)
  exact ⟨c, e1, by rw [upd_ne nc]; exact e2⟩
theorem dw_exN {K : PySem.W.Frag} {H H' : Hp} (e : LamX.ExtN H H') {x : V} {d : PyData} (h : Dw K H x d) : Dw K H' x d := by
  cases h with
  | dd h => exact .dd (dd_exN e h)
  | ls h k => exact .ls (e _ _ h fun ps z => by cases z) (ddAll_exN e k)
/-- a list of rows alike -/
def HRows (row : List V) (H : Hp) (L : Addr) (n : Nat) : Prop := ∃ ls : List Addr, H L = some (.lst (ls.map V.ref)) ∧ ls.length = n ∧ ∀ l ∈ ls, H l = some (.lst row)
theorem HRows.exN {row : List V} {H H' : Hp} {L : Addr} {n : Nat} (h : HRows row H L n) (e : LamX.ExtN H H') : HRows row H' L n := by
  obtain ⟨ls, h1, h2, h3⟩ := h
  exact ⟨ls, e _ _ h1 (fun ps z => by cases z), h2, fun l hl => e _ _ (h3 l hl) (fun ps z => by cases z)⟩
/-- one row more -/
theorem HRows.snoc {s : Str} {r : List V} {H : Hp} {L l : Addr} {ls : List Addr} {n : Nat} (h1 : H L = some (.lst (ls.map V.ref))) (h2 : ls.length = n) (h3 : ∀ l ∈ ls, H l = some (.lst (.str s :: r))) (hl : H l = some (.lst (.str s :: r))) :
    HRows (.str s :: r) (upd H L (.lst (ls.map V.ref ++ [.ref l]))) L (n + 1) := by
  have ne : ∀ {b : Addr}, H b = some (.lst (.str s :: r)) → b ≠ L := fun h z => by
    rw [z, h1] at h
    cases ls with
    | nil => cases h
    | cons a b => cases h
  refine ⟨ls ++ [l], by rw [upd_same, List.map_append]; rfl, by rw [List.length_append, h2]; rfl, fun b hb => ?_⟩
  rcases List.mem_append.mp hb with z | z
  · rw [upd_ne (ne (h3 b z))]
    exact h3 b z
  · obtain rfl := List.mem_singleton.mp z
    rw [upd_ne (ne hl)]
    exact hl
section
variable {K : PySem.W.Frag} {CS CL CW CF CU : Addr}
/-- heard(lambda: ..), the call raises the error of the class at C that tells x -/
theorem rd_hrd {T : List (Addr × Str)} {t : XK → TE} {σ : L2.St} {H : Hp} {Q : VK} {x : V} {d : PyData} {C : Addr} {tag : Str} (sel : ∀ Q cls d H, wH K C tag Q cls d H → wHs K CS CL CW CF CU Q cls d H) (hT : LamX.Tabs T H) (hd : Dw K H x d) (sh : Showy d)
    (call : ∀ (E : XK) (Q' : VK) (Ha : Hp), LamX.ExtN H Ha → Err E Ha C x → t E σ Ha Q') (k : ∀ l H', LamX.ExtN H H' → LamX.Tabs T H' → NewN H l → H' l = some (.lst [.str tag, .str d.shown, .bl true]) → Q (.ref l) H') :
    LamX.tLam T (TTh K CS CL CW CF CU) t σ H Q := by
  refine ⟨hT, fun H1 eN hT1 l0 hl0 => ?_⟩
  have x1 : Ex H1 (upd H1 l0 (.lst [.str "let"])) := Ex.new hl0
  refine call _ _ _ (eN.trans (.of x1)) fun H2 dd e2 hdd => sel _ _ _ _ ?_
  have x2 : Ex H1 (upd H2 dd (.xd [("value", x)])) := (x1.trans e2).trans (Ex.new hdd)
  refine ⟨rfl, dd, x, d, rfl, upd_same, dw_exN (eN.trans (.of x2)) hd, sh, fun l H3 hl e3 hl3 => ?_⟩
  have x3 : Ex H1 H3 := x2.trans e3
  exact k l H3 (eN.trans (.of x3)) (hT1.ext x3) (exN_fresh eN (ex_none x2 hl)) hl3
/-- heard(lambda: ..), the call is let -/
theorem rd_let {T : List (Addr × Str)} {t : XK → TE} {σ : L2.St} {H : Hp} {Q : VK} (hT : LamX.Tabs T H)
    (call : ∀ (E : XK) (Q' : VK) (Ha : Hp), LamX.ExtN H Ha → (∀ u H', Ex Ha H' → Q' u H') → t E σ Ha Q') (k : ∀ l H', LamX.ExtN H H' → LamX.Tabs T H' → NewN H l → H' l = some (.lst [.str "let"]) → Q (.ref l) H') :
    LamX.tLam T (TTh K CS CL CW CF CU) t σ H Q := by
  refine ⟨hT, fun H1 eN hT1 l0 hl0 => ?_⟩
  have x1 : Ex H1 (upd H1 l0 (.lst [.str "let"])) := Ex.new hl0
  refine call _ _ _ (eN.trans (.of x1)) fun u H2 e2 => ?_
  exact k l0 H2 (eN.trans (.of (x1.trans e2))) (hT1.ext (x1.trans e2)) (exN_fresh eN hl0) (e2 _ _ upd_same)
end
end W

set_option Elab.async false
set_option linter.all false
set_option maxRecDepth 100000
set_option maxHeartbeats 8000000
namespace W
open PySem PySem.Spec PyProof.Rows L2 Evl G C
section
variable {K : PySem.W.Frag} {CS CL CW CF CU : Addr} {T : List (Addr × Str)}
/-- heard(lambda: ..) gives a new row -/
def Hears (K : PySem.W.Frag) (CS CL CW CF CU : Addr) (T : List (Addr × Str)) (t : XK → TE) (σ : L2.St) (H : Hp) (row : List V) : Prop :=
  ∀ Q : VK, (∀ l H', LamX.ExtN H H' → LamX.Tabs T H' → NewN H l → H' l = some (.lst row) → Q (.ref l) H') → LamX.tLam T (TTh K CS CL CW CF CU) t σ H Q
theorem hears_err {t : XK → TE} {σ : L2.St} {H : Hp} {x : V} {d : PyData} {C : Addr} {tag : Str} (sel : ∀ Q cls d H, wH K C tag Q cls d H → wHs K CS CL CW CF CU Q cls d H) (hT : LamX.Tabs T H) (hd : Dw K H x d) (sh : Showy d)
    (call : ∀ (E : XK) (Q' : VK) (Ha : Hp), LamX.ExtN H Ha → Err E Ha C x → t E σ Ha Q') : Hears K CS CL CW CF CU T t σ H [.str tag, .str d.shown, .bl true] := fun _ k => rd_hrd sel hT hd sh call k
theorem hears_let {t : XK → TE} {σ : L2.St} {H : Hp} (hT : LamX.Tabs T H) (call : ∀ (E : XK) (Q' : VK) (Ha : Hp), LamX.ExtN H Ha → (∀ u H', Ex Ha H' → Q' u H') → t E σ Ha Q') : Hears K CS CL CW CF CU T t σ H [.str "let"] := fun _ k => rd_let hT call k
theorem q_first {u : TS} {D : Ends} {i : Nat} {t : XK → TE} {σ : L2.St} {H0 H : Hp} {row : List V} (h : Hears K CS CL CW CF CU T t σ H row) (e0 : LamX.ExtN H0 H) (k : ∀ L H', LamX.ExtN H0 H' → LamX.Tabs T H' → NewN H0 L → HRows row H' L 1 → u D (σ.set i (some (.ref L))) H') :
    tSeq (tAsg (tLst (tCons (LamX.tLam T (TTh K CS CL CW CF CU) t) tNil)) (gName i)) u D σ H :=
  h _ fun l H1 e1 t1 n1 hl => ⟨(by show 1 ≤ sizeLine; decide), fun L nL => by
    have x : Ex H1 (upd H1 L (.lst [.ref l])) := Ex.new nL
    refine k L _ (e0.trans (e1.trans (.of x))) (t1.ext x) (exN_fresh (e0.trans e1) nL) ⟨[l], upd_same, rfl, fun b hb => ?_⟩
    obtain rfl := List.mem_singleton.mp hb
    exact x _ _ hl⟩
theorem q_app {u : TS} {D : Ends} {i n : Nat} {t : XK → TE} {σ : L2.St} {H0 H : Hp} {s : Str} {r : List V} {L : Addr} (hs : σ[i]? = some (some (.ref L))) (h : Hears K CS CL CW CF CU T t σ H (.str s :: r)) (hR : HRows (.str s :: r) H L n) (hn : n ≤ 10) (e0 : LamX.ExtN H0 H) (nL : NewN H0 L)
    (k : ∀ H', LamX.ExtN H0 H' → LamX.Tabs T H' → HRows (.str s :: r) H' L (n + 1) → u D σ H') :
    tSeq (tDrop (tBM K "list" rAppend (tVar i) (tCons (LamX.tLam T (TTh K CS CL CW CF CU) t) tNil))) u D σ H := by
  obtain ⟨ls, h1, h2, h3⟩ := hR
  refine ⟨_, hs, .inl ⟨rfl, _, SqL.of h1⟩, ?_⟩
  refine h _ fun l H1 e1 t1 n1 hl => ?_
  have hR1 := e1 _ _ h1 (fun ps z => by cases z)
  refine ⟨L, _, .ref l, rfl, rfl, hR1, ?_, ?_⟩
  · rw [List.length_map, h2]
    exact Nat.lt_of_le_of_lt hn (by decide)
  exact k _ (exN_upd (e0.trans e1) nL) (tabs_lst t1 hR1 fun q z => by unfold LamX.CodeO at z; cases z) (HRows.snoc hR1 h2 (fun b hb => e1 _ _ (h3 b hb) (fun ps z => by cases z)) hl)
theorem rowsD_shaped {tag s : Str} (h1 : PyData.strOk tag = true) (h2 : PyData.strOk s = true) {n : Nat} (hn : n ≤ 4) : SeqAt.shaped (.list (List.replicate n (.list [.str tag, .str s, .bool true]))) = true := by
  obtain rfl | rfl | rfl | rfl | rfl : n = 0 ∨ n = 1 ∨ n = 2 ∨ n = 3 ∨ n = 4 := by omega
  all_goals simp [SeqAt.shaped, PyData.canLay0, PyData.canLayAll0, PyData.depth, PyData.depthAll, h1, h2, List.replicate]
theorem HRows.dp {row : List V} {rd : List PyData} {H : Hp} {L : Addr} {n : Nat} (h : HRows row H L n) (q : DpAll K H row rd) : Dp K H (.ref L) (.list (List.replicate n (.list rd))) := by
  obtain ⟨ls, h1, h2, h3⟩ := h
  refine .lst (SqL.of h1) ?_
  clear h1
  induction ls generalizing n with
  | nil =>
    subst h2
    exact .nil
  | cons a r ih =>
    subst h2
    exact .cons (.lst (SqL.of (h3 a List.mem_cons_self)) q) (ih rfl fun l hl => h3 l (List.mem_cons_of_mem _ hl))
theorem q_cmp {A : TS} {D : Ends} {i j n : Nat} {tn : TE} {σ : L2.St} {H : Hp} {tag : Str} {x : V} {d : PyData} {L : Addr} (hs : σ[i]? = some (some (.ref L))) (hj : σ[j]? = some (some x)) (hR : HRows [.str tag, .str d.shown, .bl true] H L n) (hn : n ≤ 4) (h0 : 0 < n) (hd : Dw K H x d) (sh : Showy d) (st : PyData.strOk tag = true) (so : PyData.strOk d.shown = true)
    (hc : Ev tn σ H (.int (n : Int))) (k : ∀ H', Ex H H' → D.nx σ H') :
    tIfS (tTest (tOp (rNeD K) (tVar i) (tOp rRep (tLst (tCons (tLst (tCons (tC (.str tag)) (tCons (tCB (rRw K) (tCons (tVar j) tNil)) (tCons (tC (.bl true)) tNil)))) tNil)) tn))) A tNext D σ H := by
  refine ⟨_, hs, _, hj, x, d, rfl, hd, sh, (by show 3 ≤ sizeLine; decide), fun a na => ?_⟩
  have ea : Ex H (upd H a (.lst [.str tag, .str d.shown, .bl true])) := Ex.new na
  have ha : (upd H a (.lst [.str tag, .str d.shown, .bl true])) a = some (.lst [.str tag, .str d.shown, .bl true]) := upd_same
  generalize upd H a (.lst [.str tag, .str d.shown, .bl true]) = H1 at ea ha
  refine ⟨(by show 1 ≤ sizeLine; decide), fun b nb => ?_⟩
  have eb : Ex H1 (upd H1 b (.lst [.ref a])) := Ex.new nb
  have hb : (upd H1 b (.lst [.ref a])) b = some (.lst [.ref a]) := upd_same
  generalize upd H1 b (.lst [.ref a]) = H2 at eb hb
  refine hc H2 (ea.trans eb) _ fun H3 e3 => ?_
  refine ⟨b, (n : Int), _, rfl, rfl, e3 _ _ hb, by omega, by omega, ?_, fun m nm => ?_⟩
  · show 1 * _ ≤ sizeLine
    exact Nat.le_trans (show _ ≤ 4 by omega) (by decide)
  rw [show ((n : Int)).toNat = n by omega, rep_flat]
  have em : Ex H3 (upd H3 m (.lst (List.replicate n (.ref a)))) := Ex.new nm
  have ra : Dp K (upd H3 m (.lst (List.replicate n (.ref a)))) (.ref a) (.list [.str tag, .str d.shown, .bool true]) := .lst (SqL.of (em _ _ (e3 _ _ (eb _ _ ha)))) (.cons (.str _) (.cons (.str _) (.cons (.bl true) .nil)))
  refine ⟨.list (List.replicate n (.list [.str tag, .str d.shown, .bool true])), .list (List.replicate n (.list [.str tag, .str d.shown, .bool true])), dp_ex ((ea.trans eb).trans (e3.trans em)) (hR.dp (.cons (.str _) (.cons (.str _) (.cons (.bl true) .nil)))), .lst (SqL.of upd_same) (dp_same ra n), rowsD_shaped st so hn, rowsD_shaped st so hn, _, rfl, ?_⟩
  rw [SeqAt.eqv_refl _ (SeqAt.canLay_of_shaped (rowsD_shaped st so hn))]
  exact iteF (k _ ((ea.trans eb).trans (e3.trans em)))
end
end W

set_option Elab.async false
set_option linter.all false
set_option maxRecDepth 100000
set_option maxHeartbeats 8000000
namespace W
open PySem PySem.Spec PyProof.Rows L2 Evl G C
/-! ### calls by names -/
def gk4 {α : Type} : List α → List α → List α → List α
  | [], _, [a, b, c, d] => [d, c, b, a]
  | _, _, _ => []
def gk4b {α : Type} : List α → List α → List α → List α
  | [], _, [a, b, c, d] => [b, c, d, a]
  | _, _, _ => []
def gk3 {α : Type} : List α → List α → List α → List α
  | [], [n], [a, b, c] => [c, b, a, n]
  | _, _, _ => []
theorem gk4_rel {vs ds zs : List V} {us its ws : List Value} (h : Vals vs us) (_ : Vals ds its) (q : Vals zs ws) : Vals (gk4 vs ds zs) (gk4 us its ws) := by
  cases h with
  | cons a b => exact .nil
  | nil =>
    match zs, ws, q with
    | _, _, .nil => exact .nil
    | _, _, .cons a .nil => exact .nil
    | _, _, .cons a (.cons b .nil) => exact .nil
    | _, _, .cons a (.cons b (.cons c .nil)) => exact .nil
    | _, _, .cons a (.cons b (.cons c (.cons d .nil))) => exact .cons d (.cons c (.cons b (.cons a .nil)))
    | _, _, .cons a (.cons b (.cons c (.cons d (.cons e f)))) => exact .nil
theorem gk4b_rel {vs ds zs : List V} {us its ws : List Value} (h : Vals vs us) (_ : Vals ds its) (q : Vals zs ws) : Vals (gk4b vs ds zs) (gk4b us its ws) := by
  cases h with
  | cons a b => exact .nil
  | nil =>
    match zs, ws, q with
    | _, _, .nil => exact .nil
    | _, _, .cons a .nil => exact .nil
    | _, _, .cons a (.cons b .nil) => exact .nil
    | _, _, .cons a (.cons b (.cons c .nil)) => exact .nil
    | _, _, .cons a (.cons b (.cons c (.cons d .nil))) => exact .cons b (.cons c (.cons d (.cons a .nil)))
    | _, _, .cons a (.cons b (.cons c (.cons d (.cons e f)))) => exact .nil
theorem gk3_rel {vs ds zs : List V} {us its ws : List Value} (h : Vals vs us) (r : Vals ds its) (q : Vals zs ws) : Vals (gk3 vs ds zs) (gk3 us its ws) := by
  cases h with
  | cons a b => exact .nil
  | nil =>
    cases r with
    | nil => exact .nil
    | cons r1 r2 =>
      cases r2 with
      | cons _ _ => exact .nil
      | nil =>
        match zs, ws, q with
        | _, _, .nil => exact .nil
        | _, _, .cons a .nil => exact .nil
        | _, _, .cons a (.cons b .nil) => exact .nil
        | _, _, .cons a (.cons b (.cons c .nil)) => exact .cons c (.cons b (.cons a (.cons r1 .nil)))
        | _, _, .cons a (.cons b (.cons c (.cons d e))) => exact .nil
section
variable {K : PySem.W.Frag} {x qual : Str} {de : Stmt} {f : Addr} {fd : FuncData} {dvs : List V} {ps ks : List Str}
theorem kbG (F : FunD K x qual (defArgs de) (defBody de) (defScope de) dvs [] f fd) (hd : dvs ≠ []) (g : {α : Type} → List α → List α → List α → List α)
    (rel : ∀ {vs ds zs : List V} {us its ws : List Value}, Vals vs us → Vals ds its → Vals zs ws → Vals (g vs ds zs) (g us its ws))
    (len : ∀ (us its ws : List Value), (g us its ws).length = ps.length → us.length = 0 ∧ ws.length = ks.length)
    (h : ∀ (T : Addr) (kV doc pm : Value) (an : Option Addr) (cdv ct : Value) (us its ws : List Value), us.length = 0 → its.length = dvs.length → ws.length = ks.length →
      ∃ k, bindArgs (PySem.W.fnOf x qual (defArgs de) (defBody de) (defScope de) (.ref T) kV doc pm an cdv ct) ⟨us, ks.zip ws⟩ = seqItems? (.ref T) >>= k ∧ k (some its.toArray) = pure (ps.zip (g us its ws))) :
    ∃ its : List Value, KBinds K fd ps ks (fun us ws => g us its ws) (fun vs zs => g vs dvs zs) := by
  obtain ⟨its, kb⟩ := FunD.kbindsD (ps := ps) F 0 ks g hd rel h
  refine ⟨its, fun s us ws X hl => ?_, kb.rel⟩
  obtain ⟨l1, l2⟩ := len us its ws hl
  exact kb.to s us ws X l1 l2
end
/-! ### what stays under a heard lambda -/
section
variable {K : PySem.W.Frag} {H H' : Hp} {C q d : Addr} {c c' : Cir}
theorem PlanAt.exN (h : PlanAt K H d c) (e : LamX.ExtN H H') : PlanAt K H' d c := by
  obtain ⟨l1, l2, l3, l4, h0, ⟨h1, ⟨xs2, h2, d2⟩, ⟨xs3, h3, d3⟩⟩, h4⟩ := h
  exact ⟨l1, l2, l3, l4, e _ _ h0 (fun ps z => by cases z), ⟨e _ _ h1 (fun ps z => by cases z), ⟨xs2, e _ _ h2 (fun ps z => by cases z), dpAll_exN e d2⟩, ⟨xs3, e _ _ h3 (fun ps z => by cases z), dpAll_exN e d3⟩⟩, e _ _ h4 (fun ps z => by cases z)⟩
theorem CirAt.exN (h : CirAt K C H q c) (e : LamX.ExtN H H') : CirAt K C H' q c := by
  obtain ⟨dx, a1, a2, a3, a4, D5, D6, L7, sg, sr, seq, h1, h2, ⟨h3, h4, h5⟩, ⟨h6, h7, h8⟩, h9, ⟨kvs, ps, h10, hk⟩, h11, h12, h13⟩ := h
  exact ⟨dx, a1, a2, a3, a4, D5, D6, L7, sg, sr, seq, e _ _ h1 (fun ps z => by cases z), dp_exN e h2, ⟨dp_exN e h3, h4, h5⟩, ⟨dp_exN e h6, h7, h8⟩, dp_exN e h9, ⟨kvs, ps, e _ _ h10 (fun ps z => by cases z), hk.ext fun a xs z => st_exN e z⟩, e _ _ h11 (fun ps z => by cases z), e _ _ h12 (fun ps z => by cases z), h13⟩
theorem Pot.exN {p : Addr} (h : Pot H p) (e : LamX.ExtN H H') : Pot H' p := by
  obtain ⟨a, b, h, r⟩ := h
  exact ⟨a, b, e _ _ h (fun ps z => by cases z), r⟩
theorem fltB_same (s : SameC c c') (d : PyData) : fltB c' d = fltB c d := by
  have n : ∀ z, nIn c' z = nIn c z := fun z => by
    unfold nIn
    exact decide_eq_decide.mpr s.names.mem_iff
  unfold fltB contB
  split
  · split <;> simp [n]
  · rfl
/-- a circuit, its plan, zeros for state and letter, a fault -/
structure StE (K : PySem.W.Frag) (C : Addr) (H : Hp) (q d : Addr) (y x z : V) (c c' : Cir) (fl : Flt) : Prop where
  hc : CirAt K C H q c'
  hd : PlanAt K H d c
  hy : Dp K H y (zT c.regs.length)
  hx : Dp K H x (zT c.ins.length)
  hz : Dp K H z (fltD fl)
theorem StE.exN {y x z : V} {fl : Flt} (h : StE K C H q d y x z c c' fl) (e : LamX.ExtN H H') : StE K C H' q d y x z c c' fl := ⟨h.hc.exN e, h.hd.exN e, dp_exN e h.hy, dp_exN e h.hx, dp_exN e h.hz⟩
end
theorem bits_zT (n : Nat) : bitsD (List.replicate n 0) = zT n := by
  unfold bitsD
  rw [List.map_replicate]
theorem bits_z (n : Nat) : BitsOk n (List.replicate n 0) := ⟨List.length_replicate, fun b hb => .inl (List.eq_of_mem_replicate hb)⟩
def tabs (P1 P2 : Addr) : List (Addr × Str) := [(P1, "_law_steps_right.<locals>.<lambda>"), (P2, "_law_words_right.<locals>.<lambda>")]
end W

set_option Elab.async false
set_option linter.all false
set_option maxRecDepth 100000
set_option maxHeartbeats 16000000
namespace W
open PySem PySem.Spec PyProof.Rows L2 Evl G C
section
variable {P : Program} {w : World} {K : PySem.W.Frag} {mg : Str → Option Value} {base : Heap} {C CS CL CF CW CU CE iS iL iF iW iU : Addr} {dS dL dF dW dU : FuncData}
theorem noLs_rep : ∀ n : Nat, noLs (List.replicate n (.int 0)) = true
  | 0 => rfl
  | n + 1 => noLs_rep n
/-- all but the pot and the tables stays -/
def ExtP (p : Addr) (H H' : Hp) : Prop := ∀ b o, H b = some o → (∀ ps, o ≠ .tbl ps) → b ≠ p → H' b = some o
def spStepsR (K : PySem.W.Frag) (C : Addr) (T : List (Addr × Str)) : Sp := fun vs H Q _ => ∃ (p q d : Addr) (z : V) (c c' : Cir) (fl : Flt), vs = [.ref p, .ref q, .ref d, z] ∧ Pot H p ∧ CirAt K C H q c' ∧ PlanAt K H d c ∧ Good c ∧ SameC c c' ∧ (∀ z ∈ names c, z ∈ TG) ∧ c.ins.length ≤ 3 ∧ c.regs.length ≤ 3 ∧ Dp K H z (fltD fl) ∧ FltOk c fl ∧ LamX.Tabs T H ∧
  ∀ H', ExtP p H H' → Pot H' p → LamX.Tabs T H' → Q (.bl true) H'
theorem ExtP.trans {p : Addr} {H H1 H2 : Hp} (a : ExtP p H H1) (b : ExtP p H1 H2) : ExtP p H H2 := fun c o h n m => b c o (a c o h n m) n m
theorem ExtP.of {p : Addr} {H H1 : Hp} (e : Ex H H1) : ExtP p H H1 := fun b o h _ _ => e b o h
theorem ExtP.but {p : Addr} {H H1 : Hp} (e : ExBut p H H1) : ExtP p H H1 := fun b o h _ m => e b o h m
theorem ExtP.exN {p : Addr} {H H1 : Hp} (e : LamX.ExtN H H1) : ExtP p H H1 := fun b o h n _ => e b o h n
theorem tabs_but {T : List (Addr × Str)} {p : Addr} {H H1 : Hp} (t : LamX.Tabs T H) (hp : Pot H p) (e : ExBut p H H1) : LamX.Tabs T H1 := fun x hx => by
  obtain ⟨ps, h1, h2, h3⟩ := t x hx
  refine ⟨ps, e _ _ h1 (pot_ne hp h1 fun _ z => by cases z), h2, fun pos cv hc => ?_⟩
  obtain ⟨c, e1, e2⟩ := h3 pos cv hc
  exact ⟨c, e1, e _ _ e2 (pot_ne hp e2 fun _ z => by unfold LamX.CodeO at z; cases z)⟩
theorem StE.but {H H' : Hp} {q d p : Addr} {y x z : V} {c c' : Cir} {fl : Flt} (h : StE K C H q d y x z c c' fl) (hp : Pot H p) (e : ExBut p H H') : StE K C H' q d y x z c c' fl := by
  have eT : ExT H H' := fun b o hb no => e b o hb fun q => by
    obtain ⟨u, v, y, _⟩ := hp
    rw [q, y] at hb
    cases hb
    exact no _ rfl
  exact ⟨h.hc.pot hp e, h.hd.but hp e, t_dp eT (noLs_rep _) h.hy, t_dp eT (noLs_rep _) h.hx, p_dp hp e (np_flt _) h.hz⟩
abbrev nStepsR : List Str := ["_law_pot_here", "_law_made", "_law_plan_here", "_law_good", "_law_spot", "_law_sign", "_law_odd", "_law_heard_here"]
theorem scStepsR : FnScope nStepsR ["_law_pot_here", "_law_made", "_law_plan_here", "_law_good"] (defScope dStepsR) := ⟨rfl, rfl, rfl, by decide +kernel, rfl, by decide +kernel, by decide +kernel⟩
theorem okStepsR {f k0 P1 P2 : Addr} {fd : FuncData} (F : At K mg "_law_steps_right" dStepsR ["_law_pot_here", "_law_made", "_law_plan_here", "_law_good"] f fd) (T : Txt K mg) (CT : CirT K mg C) (DT : DicT K w mg) (TE : Errs K mg CS CL CF CW CU iS iL iF iW iU dS dL dF dW dU) (TH : HearT K mg CS CL CW CF CU CE)
    (TB : LamX.TabB base mg k0 P1) (hcode : fd.code = .ref k0) (hP : P1 ≠ P2) : Fn P w K mg base CX0 10 f fd ["_law_pot_here", "_law_made", "_law_plan_here", "_law_good"] (spStepsR K C (tabs P1 P2)) := by
  obtain ⟨fV, gV, FV⟩ := T.values
  obtain ⟨fT, gT, FT⟩ := T.step
  obtain ⟨fB, gB, FB⟩ := T.noBits
  obtain ⟨fF, gF, FF⟩ := T.noFaults
  obtain ⟨fG, gG, FG⟩ := T.tags
  obtain ⟨fH, gH, FH⟩ := T.heard
  have XV : FnOk P w K mg base (L2.CX P w) 7 fV gV ["circuit", "state", "letter", "stuck"] (spStepX K C CS CL CF) := (okValuesX FV T CT TE).mono (by decide)
  have XT : FnOk P w K mg base (L2.CX P w) 7 fT gT ["circuit", "state", "letter", "stuck"] (spStepX K C CS CL CF) := (okStepX FT T CT TE).mono (by decide)
  have GV : FnOk P w K mg base CX0 7 fV gV ["circuit", "state", "letter", "stuck"] (spVals K C) := okValues FV T CT DT
  have GT : FnOk P w K mg base CX0 7 fT gT ["circuit", "state", "letter", "stuck"] (spStepF K C) := okStepF FT T CT DT
  have GB : FnOk P w K mg base CX0 2 fB gB ["_law_pot_here", "_law_many"] (spNoBits K) := okNoBits FB T
  have GF : FnOk P w K mg base CX0 2 fF gF ["_law_tags_here"] (spNoFaults K) := (okNoFaults FF T).mono (by decide)
  have GG : FnOk P w K mg base CX0 2 fG gG ["_law_plan_here"] (spTags K) := (okTags FG T).mono (by decide)
  obtain ⟨iV, kV⟩ := kbG (ps := ["circuit", "state", "letter", "stuck"]) (ks := ["stuck", "letter", "state", "circuit"]) FV.fn (by simp) gk4 gk4_rel (fun us its ws h => by
    unfold gk4 at h
    split at h
    · exact ⟨rfl, rfl⟩
    · simp at h) fun T kV doc pm an cdv ct us its ws l1 l2 l3 => by
    match us, its, ws, l1, l2, l3 with
    | [], [_], [_, _, _, _], _, _, _ => exact ⟨_, rfl, rfl⟩
  obtain ⟨iT4, kT4⟩ := kbG (ps := ["circuit", "state", "letter", "stuck"]) (ks := ["stuck", "circuit", "state", "letter"]) FT.fn (by simp) gk4b gk4b_rel (fun us its ws h => by
    unfold gk4b at h
    split at h
    · exact ⟨rfl, rfl⟩
    · simp at h) fun T kV doc pm an cdv ct us its ws l1 l2 l3 => by
    match us, its, ws, l1, l2, l3 with
    | [], [_], [_, _, _, _], _, _, _ => exact ⟨_, rfl, rfl⟩
  obtain ⟨iT3, kT3⟩ := kbG (ps := ["circuit", "state", "letter", "stuck"]) (ks := ["letter", "state", "circuit"]) FT.fn (by simp) gk3 gk3_rel (fun us its ws h => by
    unfold gk3 at h
    split at h
    · exact ⟨rfl, rfl⟩
    · simp at h) fun T kV doc pm an cdv ct us its ws l1 l2 l3 => by
    match us, its, ws, l1, l2, l3 with
    | [], [_], [_, _, _], _, _, _ => exact ⟨_, rfl, rfl⟩
  obtain ⟨dT, rT, bT⟩ := FT.fn.binds1 (ps := ["circuit", "state", "letter", "stuck"]) 3 0 (by simp) rfl fun T kV doc pm an cdv ct us its h1 h2 => by
    match us, its, h1, h2 with
    | [_, _, _], [_], _, _ => exact ⟨_, rfl, rfl⟩
  have gHb := FH.bi
  have gHg := FH.gl
  have gHk := FH.fn.kp
  obtain ⟨oc, od, kvv, doc, pm, an, cdH, ct, osl, rfl, lkH, hcH⟩ := FH.fn.ex
  refine okNC F.fn scStepsR (fun vs H Q E h => ?_) (fun cdv A outer s H vs Q E hcd hr h => ?_)
  · obtain ⟨p, q, d, z, c, c', fl, rfl, _⟩ := h
    rfl
  · obtain ⟨p, q, d, z, c, c', fl, rfl, hp, hc, hd, good, sm, tg, li, lr, hz, okf, hT, k⟩ := h
    obtain rfl : cdv = .ref k0 := hcd.symm.trans hcode
    have nds := scStepsR.nd
    have hu : (A.deeper (envOfC "_law_steps_right" (defScope dStepsR) s.heap.objs.size f (.ref k0))).units + 64 < cLine := by
      have := hr.rm.un
      omega
    have hr2 : Room 2 (A.deeper (envOfC "_law_steps_right" (defScope dStepsR) s.heap.objs.size f (.ref k0))) := hr.rm.mono (by decide)
    have hud := hu_of hr.rm
    have hu' : ∀ x ∈ tabs P1 P2, x.1 = P1 → x.2 = "_law_steps_right.<locals>.<lambda>" := by
      intro x hx e
      simp only [tabs, List.mem_cons, List.not_mem_nil, or_false] at hx
      rcases hx with rfl | rfl
      · rfl
      · exact absurd e.symm hP
    refine ⟨_, (pss_cons (ps_asg (pe_tup (pa_cons (pe_op op_repA (pe_tup (pa_cons pe_int pa_nil)) (pe_callB call_len_seq (by rfl) T.len PySem.boot_len (pa_cons (pe_dget hud (pv 2) pe_str (fun _ _ => rfl)) pa_nil))) (pa_cons (pe_op op_repA (pe_tup (pa_cons pe_int pa_nil)) (pe_callB call_len_seq (by rfl) T.len PySem.boot_len (pa_cons (pe_dget hud (pv 2) pe_str (fun _ _ => rfl)) pa_nil))) pa_nil))) (pg_tup rfl (pgs_cons (pg_name (i := 4) nds rfl (Or.inr rfl)) (pgs_cons (pg_name (i := 5) nds rfl (Or.inr rfl)) pgs_nil))))
      (pss_cons (ps_for PassesOwn.never rfl (pi_list (pe_op op_cat (pe_call GB hr2 (by rfl) FB.gl FB.fn.kp FB.bi .nil pass0 (pa_cons (pv 0) (pa_cons (pe_callB call_len_seq (by rfl) T.len PySem.boot_len (pa_cons (pe_dget hud (pv 2) pe_str (fun _ _ => rfl)) pa_nil)) pa_nil))) (pe_lst (pa_cons pe_non pa_nil)))) (pg_name (i := 6) nds rfl (Or.inr rfl))
      (pss_cons (ps_set (i := 7) nds rfl (Or.inl rfl) (pe_lst (pa_cons (LamX.pe_lamcall (k := 7) (T := tabs P1 P2) (t := fun E => tCall (spStepX K C CS CL CF) [] E (tCons (tVar 1) (tCons (tVar 6) (tCons (tC .non) (tCons (tC (.int 0)) tNil))))) (by rfl) gHg gHk lkH hcH gHb scHeard rfl (.inl rfl) (heard_gives T.toNames TH (hr.mono (by decide))) TB rfl (by exact List.mem_cons_self) hu' hr.rm (LamX.lamS_by (by show LamX.lamSB (defScope dStepsR) _ = true; decide +kernel)) rfl (fun _ _ _ _ _ => rfl) (fun A' outer' s' H' E' f' c' hr' => pe_call XV hr' (by rfl) FV.gl FV.fn.kp FV.bi .nil (passes_call (takes_of rfl rfl rfl rfl) fun _ _ _ _ h => h) (pa_cons (pv 1) (pa_cons (pv 6) (pa_cons pe_non (pa_cons pe_int pa_nil)))))) pa_nil)))
      (pss_cons (ps_expr (pe_bm PySem.F.plainAttrs_list PySem.F.slot_list_append PySem.F.type_list_append mt_append (pv 7) (pa_cons (LamX.pe_lamcall (k := 7) (T := tabs P1 P2) (t := fun E => tCall (spStepX K C CS CL CF) [] E (tCons (tVar 1) (tCons (tVar 6) (tCons (tC .non) (tCons (tC (.int 0)) tNil))))) (by rfl) gHg gHk lkH hcH gHb scHeard rfl (.inl rfl) (heard_gives T.toNames TH (hr.mono (by decide))) TB rfl (by exact List.mem_cons_self) hu' hr.rm (LamX.lamS_by (by show LamX.lamSB (defScope dStepsR) _ = true; decide +kernel)) rfl (fun _ _ _ _ _ => rfl) (fun A' outer' s' H' E' f' c' hr' => pe_call XT hr' (by rfl) FT.gl FT.fn.kp FT.bi .nil (passes_call (takes_of rfl rfl rfl rfl) fun _ _ _ _ h => h) (pa_cons (pv 1) (pa_cons (pv 6) (pa_cons pe_non (pa_cons pe_int pa_nil)))))) pa_nil)))
      (pss_cons (ps_expr (pe_bm PySem.F.plainAttrs_list PySem.F.slot_list_append PySem.F.type_list_append mt_append (pv 7) (pa_cons (LamX.pe_lamcall (k := 7) (T := tabs P1 P2) (t := fun E => tCallK (spStepX K C CS CL CF) (fun vs zs => gk4 vs [.non] zs) E tNil (tCons (tC .non) (tCons (tVar 5) (tCons (tVar 6) (tCons (tVar 1) tNil))))) (by rfl) gHg gHk lkH hcH gHb scHeard rfl (.inl rfl) (heard_gives T.toNames TH (hr.mono (by decide))) TB rfl (by exact List.mem_cons_self) hu' hr.rm (LamX.lamS_by (by show LamX.lamSB (defScope dStepsR) _ = true; decide +kernel)) rfl (fun _ _ _ _ _ => rfl) (fun A' outer' s' H' E' f' c' hr' => pcK0F XV hr' (by rfl) FV.gl FV.fn.kp kV (passes_call (takes_of rfl rfl rfl rfl) fun _ _ _ _ h => h) (pk_cons pe_non (pk_cons (pv 5) (pk_cons (pv 6) (pk_cons (pv 1) pk_nil)))))) pa_nil)))
      (pss_cons (ps_expr (pe_bm PySem.F.plainAttrs_list PySem.F.slot_list_append PySem.F.type_list_append mt_append (pv 7) (pa_cons (LamX.pe_lamcall (k := 7) (T := tabs P1 P2) (t := fun E => tCall (spStepX K C CS CL CF) [.non] E (tCons (tVar 1) (tCons (tVar 6) (tCons (tVar 5) tNil)))) (by rfl) gHg gHk lkH hcH gHb scHeard rfl (.inl rfl) (heard_gives T.toNames TH (hr.mono (by decide))) TB rfl (by exact List.mem_cons_self) hu' hr.rm (LamX.lamS_by (by show LamX.lamSB (defScope dStepsR) _ = true; decide +kernel)) rfl (fun _ _ _ _ _ => rfl) (fun A' outer' s' H' E' f' c' hr' => pe_call XT hr' (by rfl) FT.gl FT.fn.kp bT rT (passes_call (takes_of rfl rfl rfl rfl) fun _ _ _ _ h => h) (pa_cons (pv 1) (pa_cons (pv 6) (pa_cons (pv 5) pa_nil))))) pa_nil)))
      (pss_one (ps_if (pt_cmpR (op_neD hu) (pv 7) (pe_op op_rep (pe_lst (pa_cons (pe_lst (pa_cons pe_str (pa_cons (pe_callB (rw_rm hr) (by rfl) T.repr (by decide +kernel) (pa_cons (pv 6) pa_nil)) (pa_cons pe_bl pa_nil)))) pa_nil)) pe_int) (nomark _)) (pss_one (ps_ret pe_bl)) pss_nil)))))))
      (pss_cons (ps_for PassesOwn.never rfl (pi_list (pe_op op_cat (pe_call GB hr2 (by rfl) FB.gl FB.fn.kp FB.bi .nil pass0 (pa_cons (pv 0) (pa_cons (pe_callB call_len_seq (by rfl) T.len PySem.boot_len (pa_cons (pe_dget hud (pv 2) pe_str (fun _ _ => rfl)) pa_nil)) pa_nil))) (pe_lst (pa_cons pe_non pa_nil)))) (pg_name (i := 6) nds rfl (Or.inr rfl))
      (pss_cons (ps_set (i := 7) nds rfl (Or.inl rfl) (pe_lst (pa_cons (LamX.pe_lamcall (k := 7) (T := tabs P1 P2) (t := fun E => tCall (spStepX K C CS CL CF) [] E (tCons (tVar 1) (tCons (tVar 4) (tCons (tVar 6) (tCons (tC (.int 0)) tNil))))) (by rfl) gHg gHk lkH hcH gHb scHeard rfl (.inl rfl) (heard_gives T.toNames TH (hr.mono (by decide))) TB rfl (by exact List.mem_cons_self) hu' hr.rm (LamX.lamS_by (by show LamX.lamSB (defScope dStepsR) _ = true; decide +kernel)) rfl (fun _ _ _ _ _ => rfl) (fun A' outer' s' H' E' f' c' hr' => pe_call XV hr' (by rfl) FV.gl FV.fn.kp FV.bi .nil (passes_call (takes_of rfl rfl rfl rfl) fun _ _ _ _ h => h) (pa_cons (pv 1) (pa_cons (pv 4) (pa_cons (pv 6) (pa_cons pe_int pa_nil)))))) pa_nil)))
      (pss_cons (ps_expr (pe_bm PySem.F.plainAttrs_list PySem.F.slot_list_append PySem.F.type_list_append mt_append (pv 7) (pa_cons (LamX.pe_lamcall (k := 7) (T := tabs P1 P2) (t := fun E => tCall (spStepX K C CS CL CF) [] E (tCons (tVar 1) (tCons (tVar 4) (tCons (tVar 6) (tCons (tC (.int 0)) tNil))))) (by rfl) gHg gHk lkH hcH gHb scHeard rfl (.inl rfl) (heard_gives T.toNames TH (hr.mono (by decide))) TB rfl (by exact List.mem_cons_self) hu' hr.rm (LamX.lamS_by (by show LamX.lamSB (defScope dStepsR) _ = true; decide +kernel)) rfl (fun _ _ _ _ _ => rfl) (fun A' outer' s' H' E' f' c' hr' => pe_call XT hr' (by rfl) FT.gl FT.fn.kp FT.bi .nil (passes_call (takes_of rfl rfl rfl rfl) fun _ _ _ _ h => h) (pa_cons (pv 1) (pa_cons (pv 4) (pa_cons (pv 6) (pa_cons pe_int pa_nil)))))) pa_nil)))
      (pss_cons (ps_expr (pe_bm PySem.F.plainAttrs_list PySem.F.slot_list_append PySem.F.type_list_append mt_append (pv 7) (pa_cons (LamX.pe_lamcall (k := 7) (T := tabs P1 P2) (t := fun E => tCallK (spStepX K C CS CL CF) (fun vs zs => gk3 vs [.non] zs) E tNil (tCons (tVar 6) (tCons (tVar 4) (tCons (tVar 1) tNil)))) (by rfl) gHg gHk lkH hcH gHb scHeard rfl (.inl rfl) (heard_gives T.toNames TH (hr.mono (by decide))) TB rfl (by exact List.mem_cons_self) hu' hr.rm (LamX.lamS_by (by show LamX.lamSB (defScope dStepsR) _ = true; decide +kernel)) rfl (fun _ _ _ _ _ => rfl) (fun A' outer' s' H' E' f' c' hr' => pcK0F XT hr' (by rfl) FT.gl FT.fn.kp kT3 (passes_call (takes_of rfl rfl rfl rfl) fun _ _ _ _ h => h) (pk_cons (pv 6) (pk_cons (pv 4) (pk_cons (pv 1) pk_nil))))) pa_nil)))
      (pss_one (ps_if (pt_cmpR (op_neD hu) (pv 7) (pe_op op_rep (pe_lst (pa_cons (pe_lst (pa_cons pe_str (pa_cons (pe_callB (rw_rm hr) (by rfl) T.repr (by decide +kernel) (pa_cons (pv 6) pa_nil)) (pa_cons pe_bl pa_nil)))) pa_nil)) pe_int) (nomark _)) (pss_one (ps_ret pe_bl)) pss_nil))))))
      (pss_cons (ps_for PassesOwn.never rfl (pi_list (pe_call GF hr2 (by rfl) FF.gl FF.fn.kp FF.bi .nil pass0 (pa_cons (pe_call GG hr2 (by rfl) FG.gl FG.fn.kp FG.bi .nil pass0 (pa_cons (pv 2) pa_nil)) pa_nil))) (pg_name (i := 6) nds rfl (Or.inr rfl))
      (pss_cons (ps_set (i := 7) nds rfl (Or.inl rfl) (pe_lst (pa_cons (LamX.pe_lamcall (k := 7) (T := tabs P1 P2) (t := fun E => tCall (spStepX K C CS CL CF) [] E (tCons (tVar 1) (tCons (tVar 4) (tCons (tVar 5) (tCons (tVar 6) tNil))))) (by rfl) gHg gHk lkH hcH gHb scHeard rfl (.inl rfl) (heard_gives T.toNames TH (hr.mono (by decide))) TB rfl (by exact List.mem_cons_self) hu' hr.rm (LamX.lamS_by (by show LamX.lamSB (defScope dStepsR) _ = true; decide +kernel)) rfl (fun _ _ _ _ _ => rfl) (fun A' outer' s' H' E' f' c' hr' => pe_call XV hr' (by rfl) FV.gl FV.fn.kp FV.bi .nil (passes_call (takes_of rfl rfl rfl rfl) fun _ _ _ _ h => h) (pa_cons (pv 1) (pa_cons (pv 4) (pa_cons (pv 5) (pa_cons (pv 6) pa_nil)))))) pa_nil)))
      (pss_cons (ps_expr (pe_bm PySem.F.plainAttrs_list PySem.F.slot_list_append PySem.F.type_list_append mt_append (pv 7) (pa_cons (LamX.pe_lamcall (k := 7) (T := tabs P1 P2) (t := fun E => tCallK (spStepX K C CS CL CF) (fun vs zs => gk4b vs [.non] zs) E tNil (tCons (tVar 6) (tCons (tVar 1) (tCons (tVar 4) (tCons (tVar 5) tNil))))) (by rfl) gHg gHk lkH hcH gHb scHeard rfl (.inl rfl) (heard_gives T.toNames TH (hr.mono (by decide))) TB rfl (by exact List.mem_cons_self) hu' hr.rm (LamX.lamS_by (by show LamX.lamSB (defScope dStepsR) _ = true; decide +kernel)) rfl (fun _ _ _ _ _ => rfl) (fun A' outer' s' H' E' f' c' hr' => pcK0F XT hr' (by rfl) FT.gl FT.fn.kp kT4 (passes_call (takes_of rfl rfl rfl rfl) fun _ _ _ _ h => h) (pk_cons (pv 6) (pk_cons (pv 1) (pk_cons (pv 4) (pk_cons (pv 5) pk_nil)))))) pa_nil)))
      (pss_one (ps_if (pt_cmpR (op_neD hu) (pv 7) (pe_op op_rep (pe_lst (pa_cons (pe_lst (pa_cons pe_str (pa_cons (pe_callB (rw_rm hr) (by rfl) T.repr (by decide +kernel) (pa_cons (pv 6) pa_nil)) (pa_cons pe_bl pa_nil)))) pa_nil)) pe_int) (nomark _)) (pss_one (ps_ret pe_bl)) pss_nil)))))
      (pss_cons (ps_set (i := 7) nds rfl (Or.inl rfl) (pe_lst (pa_cons (LamX.pe_lamcall (k := 7) (T := tabs P1 P2) (t := fun E => tCall (spVals K C) [] E (tCons (tVar 1) (tCons (tVar 4) (tCons (tVar 5) (tCons (tVar 3) tNil))))) (by rfl) gHg gHk lkH hcH gHb scHeard rfl (.inl rfl) (heard_gives T.toNames TH (hr.mono (by decide))) TB rfl (by exact List.mem_cons_self) hu' hr.rm (LamX.lamS_by (by show LamX.lamSB (defScope dStepsR) _ = true; decide +kernel)) rfl (fun _ _ _ _ _ => rfl) (fun A' outer' s' H' E' f' c' hr' => pe_call GV hr' (by rfl) FV.gl FV.fn.kp FV.bi .nil pass0 (pa_cons (pv 1) (pa_cons (pv 4) (pa_cons (pv 5) (pa_cons (pv 3) pa_nil)))))) pa_nil)))
      (pss_cons (ps_expr (pe_bm PySem.F.plainAttrs_list PySem.F.slot_list_append PySem.F.type_list_append mt_append (pv 7) (pa_cons (LamX.pe_lamcall (k := 7) (T := tabs P1 P2) (t := fun E => tCall (spStepF K C) [] E (tCons (tVar 1) (tCons (tVar 4) (tCons (tVar 5) (tCons (tC .non) tNil))))) (by rfl) gHg gHk lkH hcH gHb scHeard rfl (.inl rfl) (heard_gives T.toNames TH (hr.mono (by decide))) TB rfl (by exact List.mem_cons_self) hu' hr.rm (LamX.lamS_by (by show LamX.lamSB (defScope dStepsR) _ = true; decide +kernel)) rfl (fun _ _ _ _ _ => rfl) (fun A' outer' s' H' E' f' c' hr' => pe_call GT hr' (by rfl) FT.gl FT.fn.kp FT.bi .nil pass0 (pa_cons (pv 1) (pa_cons (pv 4) (pa_cons (pv 5) (pa_cons pe_non pa_nil)))))) pa_nil)))
      (pss_one (ps_ret (pe_cmpR (op_eqD hu) (pv 7) (pe_op op_rep (pe_lst (pa_cons (pe_lst (pa_cons pe_str pa_nil)) pa_nil)) pe_int) (nomark _)))))))))), ?_⟩
    have good' := sm.good good
    obtain ⟨l1, l2, l3, l4, h0, ⟨h1, hs2, ⟨xs3, hs3, hx3⟩⟩, h4⟩ := id hd
    have n3 : xs3.length = c.regs.length := dp_len hx3
    have n1 : (c.ins.map V.str).length = c.ins.length := List.length_map _
    refine (eu_rep (K := K) (n := xs3.length) (x := .int 0) (eu_new (ea_cons ev_c ea_nil) (by decide)) (fun H1 e Q q => ⟨_, rfl, d, _, rfl, DGet.k (k := Sum.inr "regs") (e _ _ h0), l3, xs3, rfl, .inl (SqL.of (e _ _ hs3)), q H1 (Ex.refl H1)⟩) (by omega)) H (Ex.refl H) _ fun t1 H1 e1 ht1 => ?_
    refine (eu_rep (K := K) (n := (c.ins.map V.str).length) (x := .int 0) (eu_new (ea_cons ev_c ea_nil) (by decide)) (fun H2 e Q q => ⟨_, rfl, d, _, rfl, DGet.k (k := Sum.inr "ins") (e _ _ (e1 _ _ h0)), l1, _, rfl, .inl (SqL.of (e _ _ (e1 _ _ h1))), q H2 (Ex.refl H2)⟩) (by omega)) H1 (Ex.refl H1) _ fun t2 H2 e2 ht2 => ?_
    rw [n3] at ht1
    rw [n1] at ht2
    refine ⟨(by show 2 ≤ sizeLine; decide), fun t nt => ⟨t, _, rfl, st_of upd_same, rfl, _, _, rfl, _, _, rfl, rfl, ?_⟩⟩
    have e3 : Ex H2 (upd H2 t (.tup [.ref t1, .ref t2])) := Ex.new nt
    generalize upd H2 t (.tup [.ref t1, .ref t2]) = H3 at e3
    have x3 := (e1.trans e2).trans e3
    have se3 : StE K C H3 q d (.ref t1) (.ref t2) z c c' fl := ⟨hc.ex x3, hd.ex x3, .tup (ex_t (e2.trans e3) ht1) (dp_same (.int 0) _), .tup (ex_t e3 ht2) (dp_same (.int 0) _), dp_ex x3 hz⟩
    have hp3 := hp.ex x3
    have hT3 := hT.ext x3
    have lenR : c'.regs.length = c.regs.length := sm.regs.length_eq
    have lenI : c'.ins.length = c.ins.length := by rw [sm.ins]
    refine ⟨_, rfl, _, rfl, d, _, rfl, DGet.k (k := Sum.inr "regs") (x3 _ _ h0), l3, xs3, rfl, .inl (SqL.of (x3 _ _ hs3)), p, xs3.length, rfl, hp3, by omega, fun a lB ys H4 ha e4 hp4 nlB hlB hy => ?_⟩
    rw [n3] at ha hy
    have hy4 : DdAll K H4 ys (oddB c.regs.length a) := hy.ex hid_out
    have se4 := se3.but hp3 e4
    have hT4 := tabs_but hT3 hp3 e4
    refine ⟨(by show 1 ≤ sizeLine; decide), fun m nm => ?_⟩
    have e5 : Ex H4 (upd H4 m (.lst [.non])) := Ex.new nm
    have hm : (upd H4 m (.lst [.non])) m = some (.lst [.non]) := upd_same
    generalize upd H4 m (.lst [.non]) = H5 at e5 hm
    have lys : ys.length ≤ 13 := by
      rw [hy.len]
      unfold oddB
      split
      · show 9 ≤ 13
        decide
      · exact Nat.le_refl 13
    refine ⟨lB, m, _, _, rfl, rfl, e5 _ _ hlB, hm, Nat.le_trans (show ys.length + 1 ≤ 14 by omega) (by decide), fun L nL => ?_⟩
    have e6 : Ex H5 (upd H5 L (.lst (ys ++ [.non]))) := Ex.new nL
    have hL : (upd H5 L (.lst (ys ++ [.non]))) L = some (.lst (ys ++ [.non])) := upd_same
    generalize upd H5 L (.lst (ys ++ [.non])) = H6 at e6 hL
    have hy6 := hy4.ex (e5.trans e6)
    have se6 := se4.exN (.of (e5.trans e6))
    have hT6 := hT4.ext (e5.trans e6)
    have hp6 := hp4.ex (e5.trans e6)
    have x6 : ExtP p H H6 := ((ExtP.of x3).trans (.but e4)).trans (.of (e5.trans e6))
    have odd : ∀ x ∈ ys ++ [V.non], ∃ dd, Dd K H6 x dd ∧ Showy dd ∧ PyData.strOk dd.shown = true ∧ isLetter dd c.regs.length = false := fun x hx => by
      rcases List.mem_append.mp hx with h | h
      · obtain ⟨i, hi⟩ := List.getElem?_of_mem h
        obtain ⟨dd, d1, d2⟩ := hy6.at hi
        obtain ⟨o1, o2, o3, _⟩ := oddB_ok lr ha dd (List.mem_of_getElem? d1)
        exact ⟨dd, d2, o1, o2, o3⟩
      · obtain rfl := List.mem_singleton.mp h
        exact ⟨.none, .dp .non, showy_of (by decide +kernel), by decide +kernel, rfl⟩
    refine ⟨L, rfl, ⟨_, SqL.of hL⟩, for_list (K := K) (a := L) (xs := ys ++ [.non]) (fun i σ Hc => (∃ u6 u7, σ = [some (.ref p), some (.ref q), some (.ref d), some z, some (.ref t1), some (.ref t2), u6, u7]) ∧ LamX.ExtN H6 Hc ∧ LamX.Tabs (tabs P1 P2) Hc) ⟨⟨none, none, rfl⟩, .refl _, hT6⟩ (fun i σ Hc _ inv => sl_exN inv.2.1 (SqL.of hL)) (fun i x σ Hc hi inv => ?_) (fun σ Hc_ inv => ?_)⟩
    · obtain ⟨⟨u6, u7, rfl⟩, eN, hTc⟩ := inv
      obtain ⟨dd, hd2, sh, so, bad⟩ := odd x (List.mem_of_getElem? hi)
      have bad' : isLetter dd c'.regs.length = false := by rw [lenR]; exact bad
      have sc := se6.exN eN
      have dc := dd_exN eN hd2
      refine q_first (K := K) (CS := CS) (CL := CL) (CW := CW) (CF := CF) (CU := CU) (T := tabs P1 P2) (H0 := H6) (row := [.str "state", .str dd.shown, .bl true])
        (hears_err (C := CS) (tag := "state") (x := x) (fun _ _ _ _ h => .inl h) hTc (.dd dc) sh fun E' Q' Ha ea er => ⟨_, rfl, _, rfl, q, x, .non, .int 0, c', rfl, (sc.exN ea).hc, good', .inl ⟨dd, dd_exN ea dc, bad', er⟩⟩) eN fun R1 Hd e7 t7 nR r7 => ?_
      have fin : ∀ {H' : Hp}, LamX.ExtN H6 H' → CirAt K C H' q c' ∧ Dd K H' x dd ∧ Dp K H' (.ref t1) (zT c.regs.length) ∧ Dp K H' (.ref t2) (zT c.ins.length) := fun e => ⟨(se6.exN e).hc, dd_exN e hd2, (se6.exN e).hy, (se6.exN e).hx⟩
      refine q_app (K := K) (CS := CS) (CL := CL) (CW := CW) (CF := CF) (CU := CU) (T := tabs P1 P2) (H0 := H6) (n := 1) rfl
        (hears_err (C := CS) (tag := "state") (x := x) (fun _ _ _ _ h => .inl h) t7 (.dd (fin e7).2.1) sh fun E' Q' Ha ea er => ⟨_, rfl, _, rfl, q, x, .non, .int 0, c', rfl, (fin (e7.trans ea)).1, good', .inl ⟨dd, (fin (e7.trans ea)).2.1, bad', er⟩⟩) r7 (by decide) e7 nR fun He e8 t8 r8 => ?_
      refine q_app (K := K) (CS := CS) (CL := CL) (CW := CW) (CF := CF) (CU := CU) (T := tabs P1 P2) (H0 := H6) (n := 2) rfl
        (hears_err (C := CS) (tag := "state") (x := x) (fun _ _ _ _ h => .inl h) t8 (.dd (fin e8).2.1) sh fun E' Q' Ha ea er => ⟨_, rfl, _, rfl, _, rfl, q, x, .ref t2, .non, c', rfl, (fin (e8.trans ea)).1, good', .inl ⟨dd, (fin (e8.trans ea)).2.1, bad', er⟩⟩) r8 (by decide) e8 nR fun Hf e9 t9 r9 => ?_
      refine q_app (K := K) (CS := CS) (CL := CL) (CW := CW) (CF := CF) (CU := CU) (T := tabs P1 P2) (H0 := H6) (n := 3) rfl
        (hears_err (C := CS) (tag := "state") (x := x) (fun _ _ _ _ h => .inl h) t9 (.dd (fin e9).2.1) sh fun E' Q' Ha ea er => ⟨_, rfl, _, rfl, _, rfl, q, x, .ref t2, .non, c', rfl, (fin (e9.trans ea)).1, good', .inl ⟨dd, (fin (e9.trans ea)).2.1, bad', er⟩⟩) r9 (by decide) e9 nR fun Hg e10 t10 r10 => ?_
      exact q_cmp (K := K) (i := 7) (j := 6) (n := 4) (x := x) (d := dd) (tag := "state") rfl rfl r10 (by decide) (by decide) (.dd (fin e10).2.1) sh (by decide +kernel) so ev_c fun H' e => ⟨⟨_, _, rfl⟩, e10.trans (.of e), t10.ext e⟩
    obtain ⟨⟨u6, u7, rfl⟩, eN7, hT7⟩ := inv
    clear odd
    have x7 : ExtP p H Hc_ := x6.trans (.exN eN7)
    have se7 := se6.exN eN7
    have hp7 := hp6.exN eN7
    obtain ⟨m1, m2, m3, m4, g0, ⟨g1, _, _⟩, g4⟩ := id se7.hd
    clear eN7 e1 e2 e3 e4 e5 e6 hy hy4 hy6 se3 se4 se6 hT3 hT4 hT6 hp3 hp4 hp6 hL hm hlB nL nm nlB x6
    refine ⟨_, rfl, _, rfl, d, _, rfl, DGet.k (k := Sum.inr "ins") g0, m1, _, rfl, .inl (SqL.of g1), p, (c.ins.map V.str).length, rfl, hp7, by omega, fun a2 lB2 ys2 H8 ha2 e8 hp8 nlB2 hlB2 hy2 => ?_⟩
    rw [n1] at ha2 hy2
    have hy8 : DdAll K H8 ys2 (oddB c.ins.length a2) := hy2.ex hid_out
    have se8 := se7.but hp7 e8
    have hT8 := tabs_but hT7 hp7 e8
    refine ⟨(by show 1 ≤ sizeLine; decide), fun mm nmm => ?_⟩
    have e9 : Ex H8 (upd H8 mm (.lst [.non])) := Ex.new nmm
    have hmm : (upd H8 mm (.lst [.non])) mm = some (.lst [.non]) := upd_same
    generalize upd H8 mm (.lst [.non]) = H9 at e9 hmm
    have lys2 : ys2.length ≤ 13 := by
      rw [hy2.len]
      unfold oddB
      split
      · show 9 ≤ 13
        decide
      · exact Nat.le_refl 13
    refine ⟨lB2, mm, _, _, rfl, rfl, e9 _ _ hlB2, hmm, Nat.le_trans (show ys2.length + 1 ≤ 14 by omega) (by decide), fun L2 nL2 => ?_⟩
    have e10 : Ex H9 (upd H9 L2 (.lst (ys2 ++ [.non]))) := Ex.new nL2
    have hL2 : (upd H9 L2 (.lst (ys2 ++ [.non]))) L2 = some (.lst (ys2 ++ [.non])) := upd_same
    generalize upd H9 L2 (.lst (ys2 ++ [.non])) = H10 at e10 hL2
    have hy10 := hy8.ex (e9.trans e10)
    have se10 := se8.exN (.of (e9.trans e10))
    have hT10 := hT8.ext (e9.trans e10)
    have hp10 := hp8.ex (e9.trans e10)
    have x10 : ExtP p H H10 := (x7.trans (.but e8)).trans (.of (e9.trans e10))
    have odd : ∀ x ∈ ys2 ++ [V.non], ∃ dd, Dd K H10 x dd ∧ Showy dd ∧ PyData.strOk dd.shown = true ∧ isLetter dd c.ins.length = false := fun x hx => by
      rcases List.mem_append.mp hx with h | h
      · obtain ⟨i, hi⟩ := List.getElem?_of_mem h
        obtain ⟨dd, d1, d2⟩ := hy10.at hi
        obtain ⟨o1, o2, o3, _⟩ := oddB_ok li ha2 dd (List.mem_of_getElem? d1)
        exact ⟨dd, d2, o1, o2, o3⟩
      · obtain rfl := List.mem_singleton.mp h
        exact ⟨.none, .dp .non, showy_of (by decide +kernel), by decide +kernel, rfl⟩
    have okS : BitsOk c'.regs.length (List.replicate c.regs.length 0) := by rw [lenR]; exact bits_z _
    have okL : BitsOk c'.ins.length (List.replicate c.ins.length 0) := by rw [lenI]; exact bits_z _
    refine ⟨L2, rfl, ⟨_, SqL.of hL2⟩, for_list (K := K) (a := L2) (xs := ys2 ++ [.non]) (fun i σ Hc => (∃ u6 u7, σ = [some (.ref p), some (.ref q), some (.ref d), some z, some (.ref t1), some (.ref t2), u6, u7]) ∧ LamX.ExtN H10 Hc ∧ LamX.Tabs (tabs P1 P2) Hc) ⟨⟨_, _, rfl⟩, .refl _, hT10⟩ (fun i σ Hc _ inv => sl_exN inv.2.1 (SqL.of hL2)) (fun i x σ Hc hi inv => ?_) (fun σ Hd_ inv => ?_)⟩
    · obtain ⟨⟨u6, u7, rfl⟩, eN, hTc⟩ := inv
      obtain ⟨dd, hd2, sh, so, bad⟩ := odd x (List.mem_of_getElem? hi)
      have bad' : isLetter dd c'.ins.length = false := by rw [lenI]; exact bad
      have fin : ∀ {H' : Hp}, LamX.ExtN H10 H' → CirAt K C H' q c' ∧ Dd K H' x dd ∧ Dp K H' (.ref t1) (bitsD (List.replicate c.regs.length 0)) := fun e => ⟨(se10.exN e).hc, dd_exN e hd2, by rw [bits_zT]; exact (se10.exN e).hy⟩
      refine q_first (K := K) (CS := CS) (CL := CL) (CW := CW) (CF := CF) (CU := CU) (T := tabs P1 P2) (H0 := H10) (row := [.str "letter", .str dd.shown, .bl true])
        (hears_err (C := CL) (tag := "letter") (x := x) (fun _ _ _ _ h => .inr (.inl h)) hTc (.dd (fin eN).2.1) sh fun E' Q' Ha ea er => ⟨_, rfl, _, rfl, _, rfl, q, .ref t1, x, .int 0, c', rfl, (fin (eN.trans ea)).1, good', .inr (.inl ⟨_, dd, (fin (eN.trans ea)).2.2, okS, (fin (eN.trans ea)).2.1, bad', er⟩)⟩) eN fun R1 Hd e7 t7 nR r7 => ?_
      refine q_app (K := K) (CS := CS) (CL := CL) (CW := CW) (CF := CF) (CU := CU) (T := tabs P1 P2) (H0 := H10) (n := 1) rfl
        (hears_err (C := CL) (tag := "letter") (x := x) (fun _ _ _ _ h => .inr (.inl h)) t7 (.dd (fin e7).2.1) sh fun E' Q' Ha ea er => ⟨_, rfl, _, rfl, _, rfl, q, .ref t1, x, .int 0, c', rfl, (fin (e7.trans ea)).1, good', .inr (.inl ⟨_, dd, (fin (e7.trans ea)).2.2, okS, (fin (e7.trans ea)).2.1, bad', er⟩)⟩) r7 (by decide) e7 nR fun He e8 t8 r8 => ?_
      refine q_app (K := K) (CS := CS) (CL := CL) (CW := CW) (CF := CF) (CU := CU) (T := tabs P1 P2) (H0 := H10) (n := 2) rfl
        (hears_err (C := CL) (tag := "letter") (x := x) (fun _ _ _ _ h => .inr (.inl h)) t8 (.dd (fin e8).2.1) sh fun E' Q' Ha ea er => ⟨_, rfl, _, rfl, _, rfl, q, .ref t1, x, .non, c', rfl, (fin (e8.trans ea)).1, good', .inr (.inl ⟨_, dd, (fin (e8.trans ea)).2.2, okS, (fin (e8.trans ea)).2.1, bad', er⟩)⟩) r8 (by decide) e8 nR fun Hf e9 t9 r9 => ?_
      exact q_cmp (K := K) (i := 7) (j := 6) (n := 3) (x := x) (d := dd) (tag := "letter") rfl rfl r9 (by decide) (by decide) (.dd (fin e9).2.1) sh (by decide +kernel) so ev_c fun H' e => ⟨⟨_, _, rfl⟩, e9.trans (.of e), t9.ext e⟩
    obtain ⟨⟨v6, v7, rfl⟩, eN11, hT11⟩ := inv
    clear odd
    have x11 : ExtP p H Hd_ := x10.trans (.exN eN11)
    have se11 := se10.exN eN11
    have hp11 := hp10.exN eN11
    clear eN11 e8 e9 e10 hy2 hy8 hy10 se7 se8 se10 hT7 hT8 hT10 hp7 hp8 hp10 hL2 hmm hlB2 nL2 nmm nlB2 x7 x10 g0 g1 g4
    refine ⟨_, rfl, d, c, rfl, se11.hd, good, fun g H12 e12 ng hg => ?_⟩
    have okn : ∀ z ∈ names c, nameOk z := fun z hz => tg_ok z (tg z hz)
    have fewn := names_few good
    refine ⟨g, names c, rfl, hg, okn, by omega, fun L3 xs4 H13 e13 nL3 hL3 hx4 => ?_⟩
    have se13 := se11.exN (.of (e12.trans e13))
    have hT13 := hT11.ext (e12.trans e13)
    have hp13 := hp11.ex (e12.trans e13)
    have x13 : ExtP p H H13 := x11.trans (.of (e12.trans e13))
    have odd : ∀ x ∈ xs4, ∃ dd, Dd K H13 x dd ∧ Showy dd ∧ PyData.strOk dd.shown = true ∧ fltB c' dd = false ∧ dd ≠ .none := fun x hx => by
      obtain ⟨i, hi⟩ := List.getElem?_of_mem hx
      obtain ⟨dd, d1, d2⟩ := hx4.at hi
      obtain ⟨o1, o2, o3, o4⟩ := oddF_ok tg dd (List.mem_of_getElem? d1)
      exact ⟨dd, d2, o1, o2, by rw [fltB_same sm]; exact o3, o4⟩
    refine ⟨L3, rfl, ⟨_, SqL.of hL3⟩, for_list (K := K) (a := L3) (xs := xs4) (fun i σ Hc => (∃ u6 u7, σ = [some (.ref p), some (.ref q), some (.ref d), some z, some (.ref t1), some (.ref t2), u6, u7]) ∧ LamX.ExtN H13 Hc ∧ LamX.Tabs (tabs P1 P2) Hc) ⟨⟨_, _, rfl⟩, .refl _, hT13⟩ (fun i σ Hc _ inv => sl_exN inv.2.1 (SqL.of hL3)) (fun i x σ Hc hi inv => ?_) (fun σ He_ inv => ?_)⟩
    · obtain ⟨⟨u6, u7, rfl⟩, eN, hTc⟩ := inv
      obtain ⟨dd, hd2, sh, so, bad, nn⟩ := odd x (List.mem_of_getElem? hi)
      have fin : ∀ {H' : Hp}, LamX.ExtN H13 H' → CirAt K C H' q c' ∧ Dd K H' x dd ∧ Dp K H' (.ref t1) (bitsD (List.replicate c.regs.length 0)) ∧ Dp K H' (.ref t2) (bitsD (List.replicate c.ins.length 0)) := fun e => ⟨(se13.exN e).hc, dd_exN e hd2, by rw [bits_zT]; exact (se13.exN e).hy, by rw [bits_zT]; exact (se13.exN e).hx⟩
      refine q_first (K := K) (CS := CS) (CL := CL) (CW := CW) (CF := CF) (CU := CU) (T := tabs P1 P2) (H0 := H13) (row := [.str "fault", .str dd.shown, .bl true])
        (hears_err (C := CF) (tag := "fault") (x := x) (fun _ _ _ _ h => .inr (.inr (.inr (.inl h)))) hTc (.dd (fin eN).2.1) sh fun E' Q' Ha ea er => ⟨_, rfl, _, rfl, _, rfl, _, rfl, q, .ref t1, .ref t2, x, c', rfl, (fin (eN.trans ea)).1, good', .inr (.inr ⟨_, _, dd, (fin (eN.trans ea)).2.2.1, okS, (fin (eN.trans ea)).2.2.2, okL, (fin (eN.trans ea)).2.1, nn, bad, er⟩)⟩) eN fun R1 Hd e7 t7 nR r7 => ?_
      refine q_app (K := K) (CS := CS) (CL := CL) (CW := CW) (CF := CF) (CU := CU) (T := tabs P1 P2) (H0 := H13) (n := 1) rfl
        (hears_err (C := CF) (tag := "fault") (x := x) (fun _ _ _ _ h => .inr (.inr (.inr (.inl h)))) t7 (.dd (fin e7).2.1) sh fun E' Q' Ha ea er => ⟨_, rfl, _, rfl, _, rfl, _, rfl, q, .ref t1, .ref t2, x, c', rfl, (fin (e7.trans ea)).1, good', .inr (.inr ⟨_, _, dd, (fin (e7.trans ea)).2.2.1, okS, (fin (e7.trans ea)).2.2.2, okL, (fin (e7.trans ea)).2.1, nn, bad, er⟩)⟩) r7 (by decide) e7 nR fun Hf e9 t9 r9 => ?_
      exact q_cmp (K := K) (i := 7) (j := 6) (n := 2) (x := x) (d := dd) (tag := "fault") rfl rfl r9 (by decide) (by decide) (.dd (fin e9).2.1) sh (by decide +kernel) so ev_c fun H' e => ⟨⟨_, _, rfl⟩, e9.trans (.of e), t9.ext e⟩
    obtain ⟨⟨w6, w7, rfl⟩, eN14, hT14⟩ := inv
    clear odd
    have x14 : ExtP p H He_ := x13.trans (.exN eN14)
    have se14 := se13.exN eN14
    have hp14 := hp13.exN eN14
    clear eN14 e12 e13 hx4 se11 se13 hT11 hT13 hp11 hp13 hL3 x11 x13 hg ng nL3
    obtain ⟨_, _, _, _, _, _, _, _, _, sr, _, _, _, _, ⟨_, hr1, hr2'⟩, _⟩ := id se14.hc
    have spot : ∀ {H' : Hp} {zz : V} {ff : Flt}, LamX.ExtN He_ H' → Dp K H' zz (fltD ff) → FltOk c' ff → Spot K C H' q (.ref t1) (.ref t2) zz c' sr (List.replicate c.regs.length 0) (List.replicate c.ins.length 0) ff := fun {H' zz ff} e hzz off => ⟨(se14.exN e).hc, good', ⟨hr1, hr2'⟩, by rw [bits_zT]; exact (se14.exN e).hy, okS, by rw [bits_zT]; exact (se14.exN e).hx, okL, hzz, off⟩
    refine q_first (K := K) (CS := CS) (CL := CL) (CW := CW) (CF := CF) (CU := CU) (T := tabs P1 P2) (H0 := He_) (row := [.str "let"])
      (hears_let hT14 fun E' Q' Ha ea kk => ⟨_, rfl, _, rfl, _, rfl, _, rfl, q, .ref t1, .ref t2, z, c', sr, _, _, fl, rfl, spot ea (se14.exN ea).hz (sm.flt okf), fun zs _ _ v H' e _ _ => kk _ _ e⟩) (.refl _) fun R1 Hd e7 t7 nR r7 => ?_
    refine q_app (K := K) (CS := CS) (CL := CL) (CW := CW) (CF := CF) (CU := CU) (T := tabs P1 P2) (H0 := He_) (n := 1) (s := "let") (r := []) rfl
      (hears_let t7 fun E' Q' Ha ea kk => ⟨_, rfl, _, rfl, _, rfl, q, .ref t1, .ref t2, .non, c', sr, _, _, none, rfl, spot (e7.trans ea) .non (fun q h => by cases h), fun v H' e _ => kk _ _ e⟩) r7 (by decide) e7 nR fun Hf e9 t9 r9 => ?_
    refine ⟨_, rfl, (by show 1 ≤ sizeLine; decide), fun a3 na3 => ⟨(by show 1 ≤ sizeLine; decide), fun b3 nb3 => ⟨b3, 2, _, rfl, rfl, upd_same, by decide, by decide, (by show 2 ≤ sizeLine; decide), fun m5 nm5 => ?_⟩⟩⟩
    have ea : Ex Hf (upd Hf a3 (.lst [.str "let"])) := Ex.new na3
    have eb : Ex (upd Hf a3 (.lst [.str "let"])) (upd (upd Hf a3 (.lst [.str "let"])) b3 (.lst [.ref a3])) := Ex.new nb3
    have em : Ex (upd (upd Hf a3 (.lst [.str "let"])) b3 (.lst [.ref a3])) (upd (upd (upd Hf a3 (.lst [.str "let"])) b3 (.lst [.ref a3])) m5 (.lst [.ref a3, .ref a3])) := Ex.new nm5
    have la : Dp K (upd (upd (upd Hf a3 (.lst [.str "let"])) b3 (.lst [.ref a3])) m5 (.lst [.ref a3, .ref a3])) (.ref a3) (.list [.str "let"]) := .lst (SqL.of ((eb.trans em) _ _ upd_same)) (.cons (.str _) .nil)
    refine ⟨.list [.list [.str "let"], .list [.str "let"]], .list [.list [.str "let"], .list [.str "let"]], dp_ex ((ea.trans eb).trans em) (r9.dp (.cons (.str _) .nil)), .lst (SqL.of upd_same) (.cons la (.cons la .nil)), by decide +kernel, by decide +kernel, ?_⟩
    have ev : PyData.eqv (.list [.list [.str "let"], .list [.str "let"]]) (.list [.list [.str "let"], .list [.str "let"]]) = true := by decide +kernel
    rw [ev]
    exact k _ (x14.trans (.exN (e9.trans (.of ((ea.trans eb).trans em))))) (hp14.exN (e9.trans (.of ((ea.trans eb).trans em)))) (t9.ext ((ea.trans eb).trans em))
end
end W

set_option Elab.async false
set_option linter.all false
set_option maxRecDepth 100000
set_option maxHeartbeats 8000000
namespace W
open PySem PySem.Spec PyProof.Rows L2 Evl G C
/-! ### calls by names, two defaults -/
def gk2 {α : Type} : List α → List α → List α → List α
  | [], [n1, n2], [a, b] => [b, a, n1, n2]
  | _, _, _ => []
def gk3s {α : Type} : List α → List α → List α → List α
  | [], [_, n2], [a, b, c] => [c, b, a, n2]
  | _, _, _ => []
def gk5 {α : Type} : List α → List α → List α → List α
  | [], [n1, _], [a, b, c, d] => [d, c, b, n1, a]
  | _, _, _ => []
theorem two_of {ds : List V} {its : List Value} (r : Vals ds its) (P : List V → List Value → Prop) (h2 : ∀ {a b : V} {u v : Value}, RelV a u → RelV b v → P [a, b] [u, v]) (h : ∀ ds its, Vals ds its → ds.length ≠ 2 → P ds its) : P ds its := by
  cases r with
  | nil => exact h _ _ .nil (by simp)
  | cons a r =>
    cases r with
    | nil => exact h _ _ (.cons a .nil) (by simp)
    | cons b r =>
      cases r with
      | nil => exact h2 a b
      | cons c r => exact h _ _ (.cons a (.cons b (.cons c r))) (by simp)
theorem gk2_rel {vs ds zs : List V} {us its ws : List Value} (h : Vals vs us) (r : Vals ds its) (q : Vals zs ws) : Vals (gk2 vs ds zs) (gk2 us its ws) := by
  cases h with
  | cons a b => exact .nil
  | nil =>
    cases r with
    | nil => exact .nil
    | cons r1 r =>
      cases r with
      | nil => exact .nil
      | cons r2 r =>
        cases r with
        | cons _ _ => exact .nil
        | nil =>
          cases q with
          | nil => exact .nil
          | cons a q =>
            cases q with
            | nil => exact .nil
            | cons b q =>
              cases q with
              | cons _ _ => exact .nil
              | nil => exact .cons b (.cons a (.cons r1 (.cons r2 .nil)))
theorem gk3s_rel {vs ds zs : List V} {us its ws : List Value} (h : Vals vs us) (r : Vals ds its) (q : Vals zs ws) : Vals (gk3s vs ds zs) (gk3s us its ws) := by
  cases h with
  | cons a b => exact .nil
  | nil =>
    cases r with
    | nil => exact .nil
    | cons r1 r =>
      cases r with
      | nil => exact .nil
      | cons r2 r =>
        cases r with
        | cons _ _ => exact .nil
        | nil =>
          cases q with
          | nil => exact .nil
          | cons a q =>
            cases q with
            | nil => exact .nil
            | cons b q =>
              cases q with
              | nil => exact .nil
              | cons c q =>
                cases q with
                | cons _ _ => exact .nil
                | nil => exact .cons c (.cons b (.cons a (.cons r2 .nil)))
theorem gk5_rel {vs ds zs : List V} {us its ws : List Value} (h : Vals vs us) (r : Vals ds its) (q : Vals zs ws) : Vals (gk5 vs ds zs) (gk5 us its ws) := by
  cases h with
  | cons a b => exact .nil
  | nil =>
    cases r with
    | nil => exact .nil
    | cons r1 r =>
      cases r with
      | nil => exact .nil
      | cons r2 r =>
        cases r with
        | cons _ _ => exact .nil
        | nil =>
          cases q with
          | nil => exact .nil
          | cons a q =>
            cases q with
            | nil => exact .nil
            | cons b q =>
              cases q with
              | nil => exact .nil
              | cons c q =>
                cases q with
                | nil => exact .nil
                | cons e q =>
                  cases q with
                  | cons _ _ => exact .nil
                  | nil => exact .cons e (.cons c (.cons b (.cons r1 (.cons a .nil))))
/-- what is no wire -/
def oddU (z : Str) : List PyData := [.none, .int 0, .str "nowhere", .str "", .tuple [.str z], .list [.str z], .bool true, .dict []]
def plainU (d : PyData) : Bool := showyB d && PyData.strOk d.shown
theorem oddU_ok {c : Cir} (tg : ∀ z ∈ names c, z ∈ TG) {z : Str} (hz : z ∈ ("nowhere" : Str) :: TG) : ∀ d ∈ oddU z, Showy d ∧ PyData.strOk d.shown = true ∧ contB c d = false := by
  have no : ∀ z : Str, z ∉ TG → nIn c z = false := fun z h => decide_eq_false fun q => h (tg z q)
  intro d hd
  have pl : plainU d = true := List.all_eq_true.mp (List.all_eq_true.mp (show (("nowhere" : Str) :: TG).all (fun z => (oddU z).all plainU) = true by decide +kernel) z hz) d hd
  obtain ⟨p1, p2⟩ := Bool.and_eq_true_iff.mp pl
  refine ⟨showy_of p1, p2, ?_⟩
  simp only [oddU, List.mem_cons, List.not_mem_nil, or_false] at hd
  rcases hd with rfl | rfl | rfl | rfl | rfl | rfl | rfl | rfl
  · rfl
  · rfl
  · exact no "nowhere" (by decide +kernel)
  · exact no "" (by decide +kernel)
  · rfl
  · rfl
  · rfl
  · rfl
section
variable {K : PySem.W.Frag} {CS CL CW CF CU : Addr} {T : List (Addr × Str)}
/-- heard(lambda: ..) != [tag, repr(x), True] -/
theorem q_cmp1 {A : TS} {D : Ends} {j : Nat} {t : XK → TE} {σ : L2.St} {H : Hp} {tag : Str} {x : V} {d : PyData} (h : Hears K CS CL CW CF CU T t σ H [.str tag, .str d.shown, .bl true]) (hj : σ[j]? = some (some x)) (hd : Dw K H x d) (sh : Showy d) (st : PyData.strOk tag = true) (so : PyData.strOk d.shown = true)
    (k : ∀ H', LamX.ExtN H H' → LamX.Tabs T H' → D.nx σ H') :
    tIfS (tTest (tOp (rNeD K) (LamX.tLam T (TTh K CS CL CW CF CU) t) (tLst (tCons (tC (.str tag)) (tCons (tCB (rRw K) (tCons (tVar j) tNil)) (tCons (tC (.bl true)) tNil)))))) A tNext D σ H := by
  refine h _ fun l H1 e1 t1 n1 hl => ?_
  refine ⟨_, hj, x, d, rfl, dw_exN e1 hd, sh, (by show 3 ≤ sizeLine; decide), fun a na => ?_⟩
  have ea : Ex H1 (upd H1 a (.lst [.str tag, .str d.shown, .bl true])) := Ex.new na
  have sp : SeqAt.shaped (.list [.str tag, .str d.shown, .bool true]) = true := by simp [SeqAt.shaped, PyData.canLay0, PyData.canLayAll0, PyData.depth, PyData.depthAll, st, so]
  refine ⟨.list [.str tag, .str d.shown, .bool true], .list [.str tag, .str d.shown, .bool true], .lst (SqL.of (ea _ _ hl)) (.cons (.str _) (.cons (.str _) (.cons (.bl true) .nil))), .lst (SqL.of upd_same) (.cons (.str _) (.cons (.str _) (.cons (.bl true) .nil))), sp, sp, _, rfl, ?_⟩
  rw [SeqAt.eqv_refl _ (SeqAt.canLay_of_shaped sp)]
  exact iteF (k _ (e1.trans (.of ea)) (t1.ext ea))
/-- .. * len(heard_here) -/
theorem q_cmpL {A : TS} {D : Ends} {i j n : Nat} {tn : TE} {σ : L2.St} {H : Hp} {tag : Str} {x : V} {d : PyData} {L : Addr} (hs : σ[i]? = some (some (.ref L))) (hj : σ[j]? = some (some x)) (hR : HRows [.str tag, .str d.shown, .bl true] H L n) (hn : n ≤ 4) (h0 : 0 < n) (hd : Dw K H x d) (sh : Showy d) (st : PyData.strOk tag = true) (so : PyData.strOk d.shown = true)
    (hc : ∀ H1 ys (Q : VK), H1 L = some (.lst ys) → Q (.int (ys.length : Nat)) H1 → tn σ H1 Q) (k : ∀ H', Ex H H' → D.nx σ H') :
    tIfS (tTest (tOp (rNeD K) (tVar i) (tOp rRep (tLst (tCons (tLst (tCons (tC (.str tag)) (tCons (tCB (rRw K) (tCons (tVar j) tNil)) (tCons (tC (.bl true)) tNil)))) tNil)) tn))) A tNext D σ H := by
  obtain ⟨ls, h1, h2, h3⟩ := id hR
  refine q_cmp hs hj hR hn h0 hd sh st so (fun H1 e Q q => hc H1 _ Q (e _ _ h1) ?_) k
  rw [List.length_map, h2]
  exact q H1 (Ex.refl H1)
/-- if tags != []: .. -/
theorem q_ifNil {A B : TS} {D : Ends} {i : Nat} {a : Addr} {ks : List Str} {σ : L2.St} {H : Hp} (h : σ[i]? = some (some (.ref a))) (hl : H a = some (.lst (ks.map V.str))) (ok : ∀ z ∈ ks, nameOk z) (few : ks.length ≤ 100)
    (k1 : ks ≠ [] → ∀ H', Ex H H' → A D σ H') (k2 : ks = [] → ∀ H', Ex H H' → B D σ H') : tIfS (tTest (tOp (rNeD K) (tVar i) (tLst tNil))) A B D σ H := by
  refine ⟨_, h, (by show 0 ≤ sizeLine; decide), fun q nq => ?_⟩
  have e1 : Ex H (upd H q (.lst [])) := Ex.new nq
  refine ⟨.list (txtD ks), .list (txtD []), dp_txl (SqL.of (e1 _ _ hl)), dp_txl (SqL.of upd_same), (Wt.txts (m := 100) ok few).shaped (by decide), (Wt.txts (m := 0) (zs := []) (fun z h => by cases h) (by decide)).shaped (by decide), _, rfl, ?_⟩
  rw [eqv_txt_nil]
  cases ks with
  | nil => exact iteF (k2 rfl _ e1)
  | cons a r => exact iteT (k1 (by simp) _ e1)
theorem q_ifApp {A u : TS} {D : Ends} {i : Nat} {a : Addr} {ks : List Str} {σ : L2.St} {H : Hp} (h : σ[i]? = some (some (.ref a))) (hl : H a = some (.lst (ks.map V.str))) (ok : ∀ z ∈ ks, nameOk z) (few : ks.length ≤ 100)
    (k1 : ks ≠ [] → ∀ H', Ex H H' → tSeq A u D σ H') (k2 : ks = [] → ∀ H', Ex H H' → u D σ H') : tSeq (tIfS (tTest (tOp (rNeD K) (tVar i) (tLst tNil))) A tNext) u D σ H := q_ifNil h hl ok few k1 k2
/-- tag = pick(pot, tags) if tags != [] else 'nowhere' -/
theorem q_pick {u : TS} {D : Ends} {p a : Addr} {ks : List Str} {σ : L2.St} {H : Hp} (h0 : σ[0]? = some (some (.ref p))) (h4 : σ[4]? = some (some (.ref a))) (hp : Pot H p) (hl : H a = some (.lst (ks.map V.str))) (ok : ∀ z ∈ ks, nameOk z) (few : ks.length ≤ 100)
    (k : ∀ (tv : Str) H', (ks ≠ [] → tv ∈ ks) → (ks = [] → tv = "nowhere") → ExBut p H H' → Pot H' p → u D (σ.set 6 (some (.str tv))) H') :
    tSeq (tAsg (tIf (tTest (tOp (rNeD K) (tVar 4) (tLst tNil))) (tCall (spPickL K) [] E0 (tCons (tVar 0) (tCons (tVar 4) tNil))) (tC (.str "nowhere"))) (gName 6)) u D σ H := by
  refine rd_ifNil (K := K) (Q := fun x H1 => gName 6 x σ H1 (u D)) h4 hl ok few fun H1 e1 => ?_
  by_cases z : ks = []
  · rw [if_neg (by simpa using z)]
    exact k _ H1 (fun n => absurd z n) (fun _ => rfl) (.of e1) (hp.ex e1)
  · rw [if_pos z]
    refine ⟨_, h0, _, h4, p, a, _, rfl, hp.ex e1, SqL.of (e1 _ _ hl), strs_ne (hp.ex e1) (e1 _ _ hl), by simpa using z, by rw [List.length_map]; exact few, fun v H' hv e2 hp2 => ?_⟩
    obtain ⟨tv, htv, rfl⟩ := List.mem_map.mp hv
    exact k tv H' (fun _ => htv) (fun n => absurd n z) ((ExBut.of e1).trans e2) hp2
/-- for x in [..], what is written out being data -/
theorem q_forE {ta : TA} {ds : List PyData} {σ : L2.St} {H : Hp} {D : Ends} {j : Nat} {tb u : TS} (h : EvDs K ta σ H ds) (hl : ds.length ≤ 1000) (k : ∀ l xs H1, Ex H H1 → H1 l = some (.lst xs) → DdAll K H1 xs ds → ∃ Pv : Nat → L2.St → Hp → Prop, Pv 0 σ H1 ∧ (∀ i σ' H', i ≤ xs.length → Pv i σ' H' → SqL K H' l xs) ∧
      (∀ i x σ' H', xs[i]? = some x → Pv i σ' H' → tb { D with nx := Pv (i + 1), ct := Pv (i + 1), bk := u D } (σ'.set j (some x)) H') ∧ ∀ σ' H', Pv xs.length σ' H' → u D σ' H') :
    tSeq (tFor (iList K (tLst ta)) (gName j) tb) u D σ H := by
  unfold tSeq tFor iList
  refine rd_edl (K := K) h hl fun l xs H1 e n hl d => ?_
  obtain ⟨Pv, p0, p1, p2, p3⟩ := k l xs H1 e hl d
  exact ⟨l, rfl, ⟨xs, SqL.of hl⟩, for_list (K := K) (a := l) (xs := xs) Pv p0 p1 p2 p3⟩
/-- a circuit, its plan, its names, a word of zeros, a fault -/
structure StW (K : PySem.W.Frag) (C : Addr) (H : Hp) (q d g R : Addr) (z : V) (c c' : Cir) (fl : Flt) : Prop where
  hc : CirAt K C H q c'
  hd : PlanAt K H d c
  hg : H g = some (.lst ((names c).map V.str))
  hr : Dp K H (.ref R) (wordL [List.replicate c.ins.length 0])
  hz : Dp K H z (fltD fl)
theorem StW.exN {C q d g R : Addr} {z : V} {c c' : Cir} {fl : Flt} {H H' : Hp} (h : StW K C H q d g R z c c' fl) (e : LamX.ExtN H H') : StW K C H' q d g R z c c' fl := ⟨h.hc.exN e, h.hd.exN e, e _ _ h.hg (fun ps z => by cases z), dp_exN e h.hr, dp_exN e h.hz⟩
theorem StW.but {C q d g R p : Addr} {z : V} {c c' : Cir} {fl : Flt} {H H' : Hp} (h : StW K C H q d g R z c c' fl) (hp : Pot H p) (e : ExBut p H H') : StW K C H' q d g R z c c' fl :=
  ⟨h.hc.pot hp e, h.hd.but hp e, e _ _ h.hg (strs_ne hp h.hg), p_dp hp e (by show (true && (npD (bitsD (List.replicate c.ins.length 0)) && true)) = true; rw [np_bits]; rfl) h.hr, p_dp hp e (np_flt _) h.hz⟩
end
end W

set_option Elab.async false
set_option linter.all false
set_option maxRecDepth 100000
set_option maxHeartbeats 16000000
namespace W
open PySem PySem.Spec PyProof.Rows L2 Evl G C
section
variable {P : Program} {w : World} {K : PySem.W.Frag} {mg : Str → Option Value} {base : Heap} {C CS CL CF CW CU CE iS iL iF iW iU : Addr} {dS dL dF dW dU : FuncData}
abbrev nWordsR : List Str := ["_law_pot_here", "_law_made", "_law_plan_here", "_law_good", "_law_tags_here", "_law_row", "_law_tag", "_law_odd", "_law_heard_here"]
theorem scWordsR : FnScope nWordsR ["_law_pot_here", "_law_made", "_law_plan_here", "_law_good"] (defScope dWordsR) := ⟨rfl, rfl, rfl, by decide +kernel, rfl, by decide +kernel, by decide +kernel⟩
theorem okWordsR {f k0 P1 P2 : Addr} {fd : FuncData} (F : At K mg "_law_words_right" dWordsR ["_law_pot_here", "_law_made", "_law_plan_here", "_law_good"] f fd) (T : Txt K mg) (CT : CirT K mg C) (DT : DicT K w mg) (TE : Errs K mg CS CL CF CW CU iS iL iF iW iU dS dL dF dW dU) (TH : HearT K mg CS CL CW CF CU CE)
    (TB : LamX.TabB base mg k0 P2) (hcode : fd.code = .ref k0) (hP : P1 ≠ P2) : Fn P w K mg base CX0 10 f fd ["_law_pot_here", "_law_made", "_law_plan_here", "_law_good"] (spStepsR K C (tabs P1 P2)) := by
  obtain ⟨fA, gA, FA⟩ := T.answer
  obtain ⟨fS, gS, FS⟩ := T.statesA
  obtain ⟨fD, gD, FD⟩ := T.told
  obtain ⟨fB, gB, FB⟩ := T.noBits
  obtain ⟨fW, gW, FW⟩ := T.noWords
  obtain ⟨fF, gF, FF⟩ := T.noFaults
  obtain ⟨fG, gG, FG⟩ := T.tags
  obtain ⟨fP, gP, FP⟩ := T.pick
  obtain ⟨fH, gH, FH⟩ := T.heard
  have XA : FnOk P w K mg base (L2.CX P w) 7 fA gA ["circuit", "word", "state", "stuck"] (spRunX K C CW CS CF) := okAnsX FA T CT TE
  have XS : FnOk P w K mg base (L2.CX P w) 7 fS gS ["circuit", "word", "state", "stuck"] (spRunX K C CW CS CF) := okStatesAX FS T CT TE
  have XD : FnOk P w K mg base (L2.CX P w) 7 fD gD ["circuit", "wire", "word", "state", "stuck"] (spToldX K C CU CW CS CF) := okToldX FD T CT TE
  have GA : FnOk P w K mg base CX0 7 fA gA ["circuit", "word", "state", "stuck"] (spAns K C) := okAns FA T CT DT
  have GS : FnOk P w K mg base CX0 7 fS gS ["circuit", "word", "state", "stuck"] (spStates K C) := okStatesA FS T CT DT
  have GD : FnOk P w K mg base CX0 7 fD gD ["circuit", "wire", "word", "state", "stuck"] (spTold K C) := okTold FD T CT DT
  have GB : FnOk P w K mg base CX0 2 fB gB ["_law_pot_here", "_law_many"] (spNoBits K) := okNoBits FB T
  have GW : FnOk P w K mg base CX0 3 fW gW ["_law_pot_here", "_law_many"] (spNoWords K) := okNoWords FW T
  have GF : FnOk P w K mg base CX0 2 fF gF ["_law_tags_here"] (spNoFaults K) := (okNoFaults FF T).mono (by decide)
  have GG : FnOk P w K mg base CX0 2 fG gG ["_law_plan_here"] (spTags K) := (okTags FG T).mono (by decide)
  have GP : FnOk P w K mg base CX0 2 fP gP ["_law_pot_here", "_law_some"] (spPickL K) := (okPickL FP T).mono (by decide)
  obtain ⟨iA, kA2⟩ := kbG (ps := ["circuit", "word", "state", "stuck"]) (ks := ["word", "circuit"]) FA.fn (by simp) gk2 gk2_rel (fun us its ws h => by
    unfold gk2 at h
    split at h
    · exact ⟨rfl, rfl⟩
    · simp at h) fun T kV doc pm an cdv ct us its ws l1 l2 l3 => by
    match us, its, ws, l1, l2, l3 with
    | [], [_, _], [_, _], _, _, _ => exact ⟨_, rfl, rfl⟩
  obtain ⟨iS3, kS3⟩ := kbG (ps := ["circuit", "word", "state", "stuck"]) (ks := ["state", "word", "circuit"]) FS.fn (by simp) gk3s gk3s_rel (fun us its ws h => by
    unfold gk3s at h
    split at h
    · exact ⟨rfl, rfl⟩
    · simp at h) fun T kV doc pm an cdv ct us its ws l1 l2 l3 => by
    match us, its, ws, l1, l2, l3 with
    | [], [_, _], [_, _, _], _, _, _ => exact ⟨_, rfl, rfl⟩
  obtain ⟨iD, kD5⟩ := kbG (ps := ["circuit", "wire", "word", "state", "stuck"]) (ks := ["stuck", "word", "wire", "circuit"]) FD.fn (by simp) gk5 gk5_rel (fun us its ws h => by
    unfold gk5 at h
    split at h
    · exact ⟨rfl, rfl⟩
    · simp at h) fun T kV doc pm an cdv ct us its ws l1 l2 l3 => by
    match us, its, ws, l1, l2, l3 with
    | [], [_, _], [_, _, _, _], _, _, _ => exact ⟨_, rfl, rfl⟩
  obtain ⟨dD, rD, bD⟩ := FD.fn.binds1 (ps := ["circuit", "wire", "word", "state", "stuck"]) 3 0 (by simp) rfl fun T kV doc pm an cdv ct us its h1 h2 => by
    match us, its, h1, h2 with
    | [_, _, _], [_, _], _, _ => exact ⟨_, rfl, rfl⟩
  have gHb := FH.bi
  have gHg := FH.gl
  have gHk := FH.fn.kp
  obtain ⟨oc, od, kvv, doc, pm, an, cdH, ct, osl, rfl, lkH, hcH⟩ := FH.fn.ex
  refine okNC F.fn scWordsR (fun vs H Q E h => ?_) (fun cdv A outer s H vs Q E hcd hr h => ?_)
  · obtain ⟨p, q, d, z, c, c', fl, rfl, _⟩ := h
    rfl
  · obtain ⟨p, q, d, z, c, c', fl, rfl, hp, hc, hd, good, sm, tg, li, lr, hz, okf, hT, k⟩ := h
    obtain rfl : cdv = .ref k0 := hcd.symm.trans hcode
    have nds := scWordsR.nd
    have hu : (A.deeper (envOfC "_law_words_right" (defScope dWordsR) s.heap.objs.size f (.ref k0))).units + 64 < cLine := by
      have := hr.rm.un
      omega
    have hr2 : Room 2 (A.deeper (envOfC "_law_words_right" (defScope dWordsR) s.heap.objs.size f (.ref k0))) := hr.rm.mono (by decide)
    have hr3 : Room 3 (A.deeper (envOfC "_law_words_right" (defScope dWordsR) s.heap.objs.size f (.ref k0))) := hr.rm.mono (by decide)
    have hud := hu_of hr.rm
    have hu' : ∀ x ∈ tabs P1 P2, x.1 = P2 → x.2 = "_law_words_right.<locals>.<lambda>" := by
      intro x hx e
      simp only [tabs, List.mem_cons, List.not_mem_nil, or_false] at hx
      rcases hx with rfl | rfl
      · exact absurd e hP
      · rfl
    refine ⟨_, (pss_cons (ps_asg (pe_tup (pa_cons (pe_call GG hr2 (by rfl) FG.gl FG.fn.kp FG.bi .nil pass0 (pa_cons (pv 2) pa_nil)) (pa_cons (pe_lst (pa_cons (pe_op op_repA (pe_tup (pa_cons pe_int pa_nil)) (pe_callB call_len_seq (by rfl) T.len PySem.boot_len (pa_cons (pe_dget hud (pv 2) pe_str (fun _ _ => rfl)) pa_nil))) pa_nil)) pa_nil))) (pg_tup rfl (pgs_cons (pg_name (i := 4) nds rfl (Or.inl rfl)) (pgs_cons (pg_name (i := 5) nds rfl (Or.inr rfl)) pgs_nil))))
      (pss_cons (ps_set (i := 6) nds rfl (Or.inr rfl) (pe_ifExp (pt_cmpR (op_neD hu) (pv 4) (pe_lst pa_nil) (nomark _)) (pe_call GP hr2 (by rfl) FP.gl FP.fn.kp FP.bi .nil pass0 (pa_cons (pv 0) (pa_cons (pv 4) pa_nil))) pe_str))
      (pss_cons (ps_for PassesOwn.never rfl (pi_list (pe_lst (pa_cons pe_non (pa_cons pe_int (pa_cons pe_str (pa_cons pe_str (pa_cons (pe_tup (pa_cons (pv 6) pa_nil)) (pa_cons (pe_lst (pa_cons (pv 6) pa_nil)) (pa_cons pe_bl (pa_cons pe_dnewK pa_nil)))))))))) (pg_name (i := 7) nds rfl (Or.inr rfl))
      (pss_one (ps_if (pt_cmpR (op_neD hu) (LamX.pe_lamcall (k := 7) (T := tabs P1 P2) (t := fun E => tCall (spToldX K C CU CW CS CF) [] E (tCons (tVar 1) (tCons (tVar 7) (tCons (tC .non) (tCons (tC (.int 0)) (tCons (tC (.int 0)) tNil)))))) (by rfl) gHg gHk lkH hcH gHb scHeard rfl (.inl rfl) (heard_gives T.toNames TH (hr.mono (by decide))) TB rfl (List.mem_cons_of_mem _ List.mem_cons_self) hu' hr.rm (LamX.lamS_by (by show LamX.lamSB (defScope dWordsR) _ = true; decide +kernel)) rfl (fun _ _ _ _ _ => rfl) (fun A' outer' s' H' E' f' c' hr' => pe_call XD hr' (by rfl) FD.gl FD.fn.kp FD.bi .nil (passes_call (takes_of rfl rfl rfl rfl) fun _ _ _ _ h => h) (pa_cons (pv 1) (pa_cons (pv 7) (pa_cons pe_non (pa_cons pe_int (pa_cons pe_int pa_nil))))))) (pe_lst (pa_cons pe_str (pa_cons (pe_callB (rw_rm hr) (by rfl) T.repr (by decide +kernel) (pa_cons (pv 7) pa_nil)) (pa_cons pe_bl pa_nil)))) (nomark _)) (pss_one (ps_ret pe_bl)) pss_nil)))
      (pss_cons (ps_for PassesOwn.never rfl (pi_list (pe_call GW hr3 (by rfl) FW.gl FW.fn.kp FW.bi .nil pass0 (pa_cons (pv 0) (pa_cons (pe_callB call_len_seq (by rfl) T.len PySem.boot_len (pa_cons (pe_dget hud (pv 2) pe_str (fun _ _ => rfl)) pa_nil)) pa_nil)))) (pg_name (i := 7) nds rfl (Or.inr rfl))
      (pss_cons (ps_set (i := 8) nds rfl (Or.inl rfl) (pe_lst (pa_cons (LamX.pe_lamcall (k := 7) (T := tabs P1 P2) (t := fun E => tCall (spRunX K C CW CS CF) [] E (tCons (tVar 1) (tCons (tVar 7) (tCons (tC (.int 0)) (tCons (tC (.int 0)) tNil))))) (by rfl) gHg gHk lkH hcH gHb scHeard rfl (.inl rfl) (heard_gives T.toNames TH (hr.mono (by decide))) TB rfl (List.mem_cons_of_mem _ List.mem_cons_self) hu' hr.rm (LamX.lamS_by (by show LamX.lamSB (defScope dWordsR) _ = true; decide +kernel)) rfl (fun _ _ _ _ _ => rfl) (fun A' outer' s' H' E' f' c' hr' => pe_call XA hr' (by rfl) FA.gl FA.fn.kp FA.bi .nil (passes_call (takes_of rfl rfl rfl rfl) fun _ _ _ _ h => h) (pa_cons (pv 1) (pa_cons (pv 7) (pa_cons pe_int (pa_cons pe_int pa_nil)))))) pa_nil)))
      (pss_cons (ps_expr (pe_bm PySem.F.plainAttrs_list PySem.F.slot_list_append PySem.F.type_list_append mt_append (pv 8) (pa_cons (LamX.pe_lamcall (k := 7) (T := tabs P1 P2) (t := fun E => tCall (spRunX K C CW CS CF) [] E (tCons (tVar 1) (tCons (tVar 7) (tCons (tC (.int 0)) (tCons (tC (.int 0)) tNil))))) (by rfl) gHg gHk lkH hcH gHb scHeard rfl (.inl rfl) (heard_gives T.toNames TH (hr.mono (by decide))) TB rfl (List.mem_cons_of_mem _ List.mem_cons_self) hu' hr.rm (LamX.lamS_by (by show LamX.lamSB (defScope dWordsR) _ = true; decide +kernel)) rfl (fun _ _ _ _ _ => rfl) (fun A' outer' s' H' E' f' c' hr' => pe_call XS hr' (by rfl) FS.gl FS.fn.kp FS.bi .nil (passes_call (takes_of rfl rfl rfl rfl) fun _ _ _ _ h => h) (pa_cons (pv 1) (pa_cons (pv 7) (pa_cons pe_int (pa_cons pe_int pa_nil)))))) pa_nil)))
      (pss_cons (ps_expr (pe_bm PySem.F.plainAttrs_list PySem.F.slot_list_append PySem.F.type_list_append mt_append (pv 8) (pa_cons (LamX.pe_lamcall (k := 7) (T := tabs P1 P2) (t := fun E => tCallK (spRunX K C CW CS CF) (fun vs zs => gk2 vs [.non, .non] zs) E tNil (tCons (tVar 7) (tCons (tVar 1) tNil))) (by rfl) gHg gHk lkH hcH gHb scHeard rfl (.inl rfl) (heard_gives T.toNames TH (hr.mono (by decide))) TB rfl (List.mem_cons_of_mem _ List.mem_cons_self) hu' hr.rm (LamX.lamS_by (by show LamX.lamSB (defScope dWordsR) _ = true; decide +kernel)) rfl (fun _ _ _ _ _ => rfl) (fun A' outer' s' H' E' f' c' hr' => pcK0F XA hr' (by rfl) FA.gl FA.fn.kp kA2 (passes_call (takes_of rfl rfl rfl rfl) fun _ _ _ _ h => h) (pk_cons (pv 7) (pk_cons (pv 1) pk_nil)))) pa_nil)))
      (pss_cons (ps_if (pt_cmpR (op_neD hu) (pv 4) (pe_lst pa_nil) (nomark _)) (pss_one (ps_expr (pe_bm PySem.F.plainAttrs_list PySem.F.slot_list_append PySem.F.type_list_append mt_append (pv 8) (pa_cons (LamX.pe_lamcall (k := 7) (T := tabs P1 P2) (t := fun E => tCall (spToldX K C CU CW CS CF) [] E (tCons (tVar 1) (tCons (tVar 6) (tCons (tVar 7) (tCons (tC (.int 0)) (tCons (tC (.int 0)) tNil)))))) (by rfl) gHg gHk lkH hcH gHb scHeard rfl (.inl rfl) (heard_gives T.toNames TH (hr.mono (by decide))) TB rfl (List.mem_cons_of_mem _ List.mem_cons_self) hu' hr.rm (LamX.lamS_by (by show LamX.lamSB (defScope dWordsR) _ = true; decide +kernel)) rfl (fun _ _ _ _ _ => rfl) (fun A' outer' s' H' E' f' c' hr' => pe_call XD hr' (by rfl) FD.gl FD.fn.kp FD.bi .nil (passes_call (takes_of rfl rfl rfl rfl) fun _ _ _ _ h => h) (pa_cons (pv 1) (pa_cons (pv 6) (pa_cons (pv 7) (pa_cons pe_int (pa_cons pe_int pa_nil))))))) pa_nil)))) pss_nil)
      (pss_one (ps_if (pt_cmpR (op_neD hu) (pv 8) (pe_op op_rep (pe_lst (pa_cons (pe_lst (pa_cons pe_str (pa_cons (pe_callB (rw_rm hr) (by rfl) T.repr (by decide +kernel) (pa_cons (pv 7) pa_nil)) (pa_cons pe_bl pa_nil)))) pa_nil)) (pe_callB call_len_seq (by rfl) T.len PySem.boot_len (pa_cons (pv 8) pa_nil))) (nomark _)) (pss_one (ps_ret pe_bl)) pss_nil)))))))
      (pss_cons (ps_for PassesOwn.never rfl (pi_list (pe_call GB hr2 (by rfl) FB.gl FB.fn.kp FB.bi .nil pass0 (pa_cons (pv 0) (pa_cons (pe_callB call_len_seq (by rfl) T.len PySem.boot_len (pa_cons (pe_dget hud (pv 2) pe_str (fun _ _ => rfl)) pa_nil)) pa_nil)))) (pg_name (i := 7) nds rfl (Or.inr rfl))
      (pss_cons (ps_set (i := 8) nds rfl (Or.inl rfl) (pe_lst (pa_cons (LamX.pe_lamcall (k := 7) (T := tabs P1 P2) (t := fun E => tCall (spRunX K C CW CS CF) [] E (tCons (tVar 1) (tCons (tVar 5) (tCons (tVar 7) (tCons (tC (.int 0)) tNil))))) (by rfl) gHg gHk lkH hcH gHb scHeard rfl (.inl rfl) (heard_gives T.toNames TH (hr.mono (by decide))) TB rfl (List.mem_cons_of_mem _ List.mem_cons_self) hu' hr.rm (LamX.lamS_by (by show LamX.lamSB (defScope dWordsR) _ = true; decide +kernel)) rfl (fun _ _ _ _ _ => rfl) (fun A' outer' s' H' E' f' c' hr' => pe_call XA hr' (by rfl) FA.gl FA.fn.kp FA.bi .nil (passes_call (takes_of rfl rfl rfl rfl) fun _ _ _ _ h => h) (pa_cons (pv 1) (pa_cons (pv 5) (pa_cons (pv 7) (pa_cons pe_int pa_nil)))))) pa_nil)))
      (pss_cons (ps_expr (pe_bm PySem.F.plainAttrs_list PySem.F.slot_list_append PySem.F.type_list_append mt_append (pv 8) (pa_cons (LamX.pe_lamcall (k := 7) (T := tabs P1 P2) (t := fun E => tCall (spRunX K C CW CS CF) [] E (tCons (tVar 1) (tCons (tVar 5) (tCons (tVar 7) (tCons (tC (.int 0)) tNil))))) (by rfl) gHg gHk lkH hcH gHb scHeard rfl (.inl rfl) (heard_gives T.toNames TH (hr.mono (by decide))) TB rfl (List.mem_cons_of_mem _ List.mem_cons_self) hu' hr.rm (LamX.lamS_by (by show LamX.lamSB (defScope dWordsR) _ = true; decide +kernel)) rfl (fun _ _ _ _ _ => rfl) (fun A' outer' s' H' E' f' c' hr' => pe_call XS hr' (by rfl) FS.gl FS.fn.kp FS.bi .nil (passes_call (takes_of rfl rfl rfl rfl) fun _ _ _ _ h => h) (pa_cons (pv 1) (pa_cons (pv 5) (pa_cons (pv 7) (pa_cons pe_int pa_nil)))))) pa_nil)))
      (pss_cons (ps_expr (pe_bm PySem.F.plainAttrs_list PySem.F.slot_list_append PySem.F.type_list_append mt_append (pv 8) (pa_cons (LamX.pe_lamcall (k := 7) (T := tabs P1 P2) (t := fun E => tCallK (spRunX K C CW CS CF) (fun vs zs => gk3s vs [.non, .non] zs) E tNil (tCons (tVar 7) (tCons (tLst tNil) (tCons (tVar 1) tNil)))) (by rfl) gHg gHk lkH hcH gHb scHeard rfl (.inl rfl) (heard_gives T.toNames TH (hr.mono (by decide))) TB rfl (List.mem_cons_of_mem _ List.mem_cons_self) hu' hr.rm (LamX.lamS_by (by show LamX.lamSB (defScope dWordsR) _ = true; decide +kernel)) rfl (fun _ _ _ _ _ => rfl) (fun A' outer' s' H' E' f' c' hr' => pcK0F XS hr' (by rfl) FS.gl FS.fn.kp kS3 (passes_call (takes_of rfl rfl rfl rfl) fun _ _ _ _ h => h) (pk_cons (pv 7) (pk_cons (pe_lst pa_nil) (pk_cons (pv 1) pk_nil))))) pa_nil)))
      (pss_cons (ps_if (pt_cmpR (op_neD hu) (pv 4) (pe_lst pa_nil) (nomark _)) (pss_one (ps_expr (pe_bm PySem.F.plainAttrs_list PySem.F.slot_list_append PySem.F.type_list_append mt_append (pv 8) (pa_cons (LamX.pe_lamcall (k := 7) (T := tabs P1 P2) (t := fun E => tCall (spToldX K C CU CW CS CF) [] E (tCons (tVar 1) (tCons (tVar 6) (tCons (tVar 5) (tCons (tVar 7) (tCons (tC (.int 0)) tNil)))))) (by rfl) gHg gHk lkH hcH gHb scHeard rfl (.inl rfl) (heard_gives T.toNames TH (hr.mono (by decide))) TB rfl (List.mem_cons_of_mem _ List.mem_cons_self) hu' hr.rm (LamX.lamS_by (by show LamX.lamSB (defScope dWordsR) _ = true; decide +kernel)) rfl (fun _ _ _ _ _ => rfl) (fun A' outer' s' H' E' f' c' hr' => pe_call XD hr' (by rfl) FD.gl FD.fn.kp FD.bi .nil (passes_call (takes_of rfl rfl rfl rfl) fun _ _ _ _ h => h) (pa_cons (pv 1) (pa_cons (pv 6) (pa_cons (pv 5) (pa_cons (pv 7) (pa_cons pe_int pa_nil))))))) pa_nil)))) pss_nil)
      (pss_one (ps_if (pt_cmpR (op_neD hu) (pv 8) (pe_op op_rep (pe_lst (pa_cons (pe_lst (pa_cons pe_str (pa_cons (pe_callB (rw_rm hr) (by rfl) T.repr (by decide +kernel) (pa_cons (pv 7) pa_nil)) (pa_cons pe_bl pa_nil)))) pa_nil)) (pe_callB call_len_seq (by rfl) T.len PySem.boot_len (pa_cons (pv 8) pa_nil))) (nomark _)) (pss_one (ps_ret pe_bl)) pss_nil)))))))
      (pss_cons (ps_for PassesOwn.never rfl (pi_list (pe_call GF hr2 (by rfl) FF.gl FF.fn.kp FF.bi .nil pass0 (pa_cons (pv 4) pa_nil))) (pg_name (i := 7) nds rfl (Or.inr rfl))
      (pss_cons (ps_set (i := 8) nds rfl (Or.inl rfl) (pe_lst (pa_cons (LamX.pe_lamcall (k := 7) (T := tabs P1 P2) (t := fun E => tCall (spRunX K C CW CS CF) [] E (tCons (tVar 1) (tCons (tVar 5) (tCons (tC .non) (tCons (tVar 7) tNil))))) (by rfl) gHg gHk lkH hcH gHb scHeard rfl (.inl rfl) (heard_gives T.toNames TH (hr.mono (by decide))) TB rfl (List.mem_cons_of_mem _ List.mem_cons_self) hu' hr.rm (LamX.lamS_by (by show LamX.lamSB (defScope dWordsR) _ = true; decide +kernel)) rfl (fun _ _ _ _ _ => rfl) (fun A' outer' s' H' E' f' c' hr' => pe_call XA hr' (by rfl) FA.gl FA.fn.kp FA.bi .nil (passes_call (takes_of rfl rfl rfl rfl) fun _ _ _ _ h => h) (pa_cons (pv 1) (pa_cons (pv 5) (pa_cons pe_non (pa_cons (pv 7) pa_nil)))))) pa_nil)))
      (pss_cons (ps_expr (pe_bm PySem.F.plainAttrs_list PySem.F.slot_list_append PySem.F.type_list_append mt_append (pv 8) (pa_cons (LamX.pe_lamcall (k := 7) (T := tabs P1 P2) (t := fun E => tCall (spRunX K C CW CS CF) [] E (tCons (tVar 1) (tCons (tLst tNil) (tCons (tC .non) (tCons (tVar 7) tNil))))) (by rfl) gHg gHk lkH hcH gHb scHeard rfl (.inl rfl) (heard_gives T.toNames TH (hr.mono (by decide))) TB rfl (List.mem_cons_of_mem _ List.mem_cons_self) hu' hr.rm (LamX.lamS_by (by show LamX.lamSB (defScope dWordsR) _ = true; decide +kernel)) rfl (fun _ _ _ _ _ => rfl) (fun A' outer' s' H' E' f' c' hr' => pe_call XS hr' (by rfl) FS.gl FS.fn.kp FS.bi .nil (passes_call (takes_of rfl rfl rfl rfl) fun _ _ _ _ h => h) (pa_cons (pv 1) (pa_cons (pe_lst pa_nil) (pa_cons pe_non (pa_cons (pv 7) pa_nil)))))) pa_nil)))
      (pss_cons (ps_if (pt_cmpR (op_neD hu) (pv 4) (pe_lst pa_nil) (nomark _)) (pss_one (ps_expr (pe_bm PySem.F.plainAttrs_list PySem.F.slot_list_append PySem.F.type_list_append mt_append (pv 8) (pa_cons (LamX.pe_lamcall (k := 7) (T := tabs P1 P2) (t := fun E => tCallK (spToldX K C CU CW CS CF) (fun vs zs => gk5 vs [.non, .non] zs) E tNil (tCons (tVar 7) (tCons (tVar 5) (tCons (tVar 6) (tCons (tVar 1) tNil))))) (by rfl) gHg gHk lkH hcH gHb scHeard rfl (.inl rfl) (heard_gives T.toNames TH (hr.mono (by decide))) TB rfl (List.mem_cons_of_mem _ List.mem_cons_self) hu' hr.rm (LamX.lamS_by (by show LamX.lamSB (defScope dWordsR) _ = true; decide +kernel)) rfl (fun _ _ _ _ _ => rfl) (fun A' outer' s' H' E' f' c' hr' => pcK0F XD hr' (by rfl) FD.gl FD.fn.kp kD5 (passes_call (takes_of rfl rfl rfl rfl) fun _ _ _ _ h => h) (pk_cons (pv 7) (pk_cons (pv 5) (pk_cons (pv 6) (pk_cons (pv 1) pk_nil)))))) pa_nil)))) pss_nil)
      (pss_one (ps_if (pt_cmpR (op_neD hu) (pv 8) (pe_op op_rep (pe_lst (pa_cons (pe_lst (pa_cons pe_str (pa_cons (pe_callB (rw_rm hr) (by rfl) T.repr (by decide +kernel) (pa_cons (pv 7) pa_nil)) (pa_cons pe_bl pa_nil)))) pa_nil)) (pe_callB call_len_seq (by rfl) T.len PySem.boot_len (pa_cons (pv 8) pa_nil))) (nomark _)) (pss_one (ps_ret pe_bl)) pss_nil))))))
      (pss_cons (ps_set (i := 8) nds rfl (Or.inl rfl) (pe_lst (pa_cons (LamX.pe_lamcall (k := 7) (T := tabs P1 P2) (t := fun E => tCall (spAns K C) [] E (tCons (tVar 1) (tCons (tCB (rTup K) (tCons (tVar 5) tNil)) (tCons (tC .non) (tCons (tVar 3) tNil))))) (by rfl) gHg gHk lkH hcH gHb scHeard rfl (.inl rfl) (heard_gives T.toNames TH (hr.mono (by decide))) TB rfl (List.mem_cons_of_mem _ List.mem_cons_self) hu' hr.rm (LamX.lamS_by (by show LamX.lamSB (defScope dWordsR) _ = true; decide +kernel)) rfl (fun _ _ _ _ _ => rfl) (fun A' outer' s' H' E' f' c' hr' => pe_call GA hr' (by rfl) FA.gl FA.fn.kp FA.bi .nil pass0 (pa_cons (pv 1) (pa_cons (pe_callTy (call_tup (by rfl)) (by rfl) T.tuple (by decide +kernel) (pa_cons (pv 5) pa_nil)) (pa_cons pe_non (pa_cons (pv 3) pa_nil)))))) pa_nil)))
      (pss_cons (ps_expr (pe_bm PySem.F.plainAttrs_list PySem.F.slot_list_append PySem.F.type_list_append mt_append (pv 8) (pa_cons (LamX.pe_lamcall (k := 7) (T := tabs P1 P2) (t := fun E => tCall (spStates K C) [] E (tCons (tVar 1) (tCons (tLst tNil) (tCons (tC .non) (tCons (tC .non) tNil))))) (by rfl) gHg gHk lkH hcH gHb scHeard rfl (.inl rfl) (heard_gives T.toNames TH (hr.mono (by decide))) TB rfl (List.mem_cons_of_mem _ List.mem_cons_self) hu' hr.rm (LamX.lamS_by (by show LamX.lamSB (defScope dWordsR) _ = true; decide +kernel)) rfl (fun _ _ _ _ _ => rfl) (fun A' outer' s' H' E' f' c' hr' => pe_call GS hr' (by rfl) FS.gl FS.fn.kp FS.bi .nil pass0 (pa_cons (pv 1) (pa_cons (pe_lst pa_nil) (pa_cons pe_non (pa_cons pe_non pa_nil)))))) pa_nil)))
      (pss_one (ps_ret (pe_and (pe_cmpR (op_eqD hu) (pv 8) (pe_op op_rep (pe_lst (pa_cons (pe_lst (pa_cons pe_str pa_nil)) pa_nil)) pe_int) (nomark _)) (pe_one (pe_or (pe_cmpR (op_eqD hu) (pv 4) (pe_lst pa_nil) (nomark _)) (pe_one (pe_cmpR (op_eqD hu) (LamX.pe_lamcall (k := 7) (T := tabs P1 P2) (t := fun E => tCall (spTold K C) [.non, .non] E (tCons (tVar 1) (tCons (tVar 6) (tCons (tLst tNil) tNil)))) (by rfl) gHg gHk lkH hcH gHb scHeard rfl (.inl rfl) (heard_gives T.toNames TH (hr.mono (by decide))) TB rfl (List.mem_cons_of_mem _ List.mem_cons_self) hu' hr.rm (LamX.lamS_by (by show LamX.lamSB (defScope dWordsR) _ = true; decide +kernel)) rfl (fun _ _ _ _ _ => rfl) (fun A' outer' s' H' E' f' c' hr' => pe_call GD hr' (by rfl) FD.gl FD.fn.kp bD rD pass0 (pa_cons (pv 1) (pa_cons (pv 6) (pa_cons (pe_lst pa_nil) pa_nil))))) (pe_lst (pa_cons pe_str pa_nil)) (nomark _)))))))))))))))), ?_⟩
    have good' := sm.good good
    have okn : ∀ z ∈ names c, nameOk z := fun z hz => tg_ok z (tg z hz)
    have fewn := names_few good
    have lenR : c'.regs.length = c.regs.length := sm.regs.length_eq
    have lenI : c'.ins.length = c.ins.length := by rw [sm.ins]
    have inn : ∀ {z : Str}, z ∈ names c → z ∈ names c' := fun h => sm.names.mem_iff.mpr h
    have tg' : ∀ z ∈ names c', z ∈ TG := fun z h => tg z (sm.names.mem_iff.mp h)
    have n1 : (c.ins.map V.str).length = c.ins.length := List.length_map _
    refine ⟨_, rfl, d, c, rfl, hd, good, fun g H1 e1 ng hg => ?_⟩
    obtain ⟨l1, l2, l3, l4, h0, ⟨h1, hs2, ⟨xs3, hs3, hx3⟩⟩, h4⟩ := id hd
    refine (eu_rep (K := K) (n := (c.ins.map V.str).length) (x := .int 0) (eu_new (ea_cons ev_c ea_nil) (by decide)) (fun H2 e Q q => ⟨_, rfl, d, _, rfl, DGet.k (k := Sum.inr "ins") (e _ _ (e1 _ _ h0)), l1, _, rfl, .inl (SqL.of (e _ _ (e1 _ _ h1))), q H2 (Ex.refl H2)⟩) (by omega)) H1 (Ex.refl H1) _ fun t2 H2 e2 ht2 => ?_
    rw [n1] at ht2
    refine ⟨(by show 1 ≤ sizeLine; decide), fun R nR => ?_⟩
    have e3 : Ex H2 (upd H2 R (.lst [.ref t2])) := Ex.new nR
    have hR : (upd H2 R (.lst [.ref t2])) R = some (.lst [.ref t2]) := upd_same
    generalize upd H2 R (.lst [.ref t2]) = H3 at e3 hR
    refine ⟨(by show 2 ≤ sizeLine; decide), fun t nt => ⟨t, _, rfl, st_of upd_same, rfl, _, _, rfl, _, _, rfl, rfl, ?_⟩⟩
    have e4 : Ex H3 (upd H3 t (.tup [.ref g, .ref R])) := Ex.new nt
    generalize upd H3 t (.tup [.ref g, .ref R]) = H4 at e4
    have x4 : Ex H H4 := (e1.trans e2).trans (e3.trans e4)
    have sw4 : StW K C H4 q d g R z c c' fl := ⟨hc.ex x4, hd.ex x4, (e2.trans (e3.trans e4)) _ _ hg, .lst (SqL.of (e4 _ _ hR)) (.cons (by rw [bits_zT]; exact .tup (ex_t (e3.trans e4) ht2) (dp_same (.int 0) _)) .nil), dp_ex x4 hz⟩
    have hp4 := hp.ex x4
    have hT4 := hT.ext x4
    clear e1 e2 e3 e4 ht2 hR hg nR nt ng
    refine q_pick (K := K) (ks := names c) rfl rfl hp4 sw4.hg okn (by omega) fun tv H5 in1 in2 e5 hp5 => ?_
    have sw5 := sw4.but hp4 e5
    have hT5 := tabs_but hT4 hp4 e5
    have x5 : ExtP p H H5 := (ExtP.of x4).trans (.but e5)
    have tvT : tv ∈ ("nowhere" : Str) :: TG := by
      by_cases e : names c = []
      · rw [in2 e]
        exact List.mem_cons_self
      · exact List.mem_cons_of_mem _ (tg tv (in1 e))
    have vz : ∀ {H' : Hp}, EvP K (tVar 6) [some (.ref p), some (.ref q), some (.ref d), some z, some (.ref g), some (.ref R), some (.str tv), none, none] H' (.str tv) := fun {H'} => ep_var rfl (.str tv)
    refine q_forE (K := K) (ds := oddU tv) (eds_p ep_non (eds_p ep_int (eds_p ep_str (eds_p ep_str (eds_p (ep_tup (eps_cons vz eps_nil) (by show 1 ≤ 1000; decide)) (eds_p (ep_lst (eps_cons vz eps_nil) (by show 1 ≤ 1000; decide)) (eds_p ep_bl (eds_cons ed_dk eds_nil)))))))) (by show 8 ≤ 1000; decide) fun L xs H6 e6 hL hx => ?_
    have sw6 := sw5.exN (.of e6)
    have hT6 := hT5.ext e6
    have hp6 := hp5.ex e6
    have x6 : ExtP p H H6 := x5.trans (.of e6)
    refine ⟨fun i σ Hc => (∃ u7, σ = [some (.ref p), some (.ref q), some (.ref d), some z, some (.ref g), some (.ref R), some (.str tv), u7, none]) ∧ LamX.ExtN H6 Hc ∧ LamX.Tabs (tabs P1 P2) Hc, ⟨⟨none, rfl⟩, .refl _, hT6⟩, fun i σ Hc _ inv => sl_exN inv.2.1 (SqL.of hL), fun i x σ Hc hi inv => ?_, fun σ Ha_ inv => ?_⟩
    · obtain ⟨⟨u7, rfl⟩, eN, hTc⟩ := inv
      obtain ⟨dd, d1, hd2⟩ := hx.at hi
      obtain ⟨sh, so, bad⟩ := oddU_ok tg' tvT dd (List.mem_of_getElem? d1)
      have fin : ∀ {H' : Hp}, LamX.ExtN H6 H' → CirAt K C H' q c' ∧ Dd K H' x dd := fun e => ⟨(sw6.exN e).hc, dd_exN e hd2⟩
      exact q_cmp1 (K := K) (CS := CS) (CL := CL) (CW := CW) (CF := CF) (CU := CU) (T := tabs P1 P2) (j := 7) (x := x) (d := dd) (tag := "wire")
        (hears_err (C := CU) (tag := "wire") (x := x) (fun _ _ _ _ h => .inr (.inr (.inr (.inr h)))) hTc (.dd (fin eN).2) sh fun E' Q' Ha ea er => ⟨_, rfl, _, rfl, q, x, .non, .int 0, .int 0, c', rfl, (fin (eN.trans ea)).1, good', .inl ⟨dd, (fin (eN.trans ea)).2, bad, er⟩⟩) rfl (.dd (fin eN).2) sh (by decide +kernel) so fun H' e t => ⟨⟨_, rfl⟩, eN.trans e, t⟩
    obtain ⟨⟨u7, rfl⟩, eN7, hT7⟩ := inv
    have sw7 := sw6.exN eN7
    have hp7 := hp6.exN eN7
    have x7 : ExtP p H Ha_ := x6.trans (.exN eN7)
    clear eN7 e5 e6 hx hL sw4 sw5 sw6 hT4 hT5 hT6 hp4 hp5 hp6 x4 x5 x6 vz
    -- the words
    obtain ⟨m1, m2, m3, m4, g0, ⟨g1, _, _⟩, g4⟩ := id sw7.hd
    refine ⟨_, rfl, _, rfl, d, _, rfl, DGet.k (k := Sum.inr "ins") g0, m1, _, rfl, .inl (SqL.of g1), p, (c.ins.map V.str).length, rfl, hp7, by omega, fun LW ys H8 e8 hp8 nLW hLW lys hy => ?_⟩
    rw [n1] at hy
    have sw8 := sw7.but hp7 e8
    have hT8 := tabs_but hT7 hp7 e8
    have x8 : ExtP p H H8 := x7.trans (.but e8)
    have tvin : names c ≠ [] → tv ∈ names c' := fun n => inn (in1 n)
    refine ⟨LW, rfl, ⟨_, SqL.of hLW⟩, for_list (K := K) (a := LW) (xs := ys) (fun i σ Hc => (∃ u7 u8, σ = [some (.ref p), some (.ref q), some (.ref d), some z, some (.ref g), some (.ref R), some (.str tv), u7, u8]) ∧ LamX.ExtN H8 Hc ∧ LamX.Tabs (tabs P1 P2) Hc) ⟨⟨_, _, rfl⟩, .refl _, hT8⟩ (fun i σ Hc _ inv => sl_exN inv.2.1 (SqL.of hLW)) (fun i x σ Hc hi inv => ?_) (fun σ Hb_ inv => ?_)⟩
    · obtain ⟨⟨u7, u8, rfl⟩, eN, hTc⟩ := inv
      obtain ⟨dd, wo, hd2⟩ := hy x (List.mem_of_getElem? hi)
      obtain ⟨sh, so, bad, sz⟩ := wOdd_is wo
      have bad' : isWord dd c'.ins.length = false := by rw [lenI]; exact bad
      have fin : ∀ {H' : Hp}, LamX.ExtN H8 H' → CirAt K C H' q c' ∧ Dw K H' x dd ∧ H' g = some (.lst ((names c).map V.str)) := fun e => ⟨(sw8.exN e).hc, dw_exN e hd2, (sw8.exN e).hg⟩
      refine q_first (K := K) (CS := CS) (CL := CL) (CW := CW) (CF := CF) (CU := CU) (T := tabs P1 P2) (H0 := H8) (row := [.str "word", .str dd.shown, .bl true])
        (hears_err (C := CW) (tag := "word") (x := x) (fun _ _ _ _ h => .inr (.inr (.inl h))) hTc (fin eN).2.1 sh fun E' Q' Ha ea er => ⟨_, rfl, _, rfl, q, x, .int 0, .int 0, c', rfl, (fin (eN.trans ea)).1, good', .inl ⟨dd, (fin (eN.trans ea)).2.1, sz, bad', er⟩⟩) eN fun R1 Hd e7 t7 nR r7 => ?_
      refine q_app (K := K) (CS := CS) (CL := CL) (CW := CW) (CF := CF) (CU := CU) (T := tabs P1 P2) (H0 := H8) (n := 1) rfl
        (hears_err (C := CW) (tag := "word") (x := x) (fun _ _ _ _ h => .inr (.inr (.inl h))) t7 (fin e7).2.1 sh fun E' Q' Ha ea er => ⟨_, rfl, _, rfl, q, x, .int 0, .int 0, c', rfl, (fin (e7.trans ea)).1, good', .inl ⟨dd, (fin (e7.trans ea)).2.1, sz, bad', er⟩⟩) r7 (by decide) e7 nR fun He e9 t9 r9 => ?_
      refine q_app (K := K) (CS := CS) (CL := CL) (CW := CW) (CF := CF) (CU := CU) (T := tabs P1 P2) (H0 := H8) (n := 2) rfl
        (hears_err (C := CW) (tag := "word") (x := x) (fun _ _ _ _ h => .inr (.inr (.inl h))) t9 (fin e9).2.1 sh fun E' Q' Ha ea er => ⟨_, rfl, _, rfl, q, x, .non, .non, c', rfl, (fin (e9.trans ea)).1, good', .inl ⟨dd, (fin (e9.trans ea)).2.1, sz, bad', er⟩⟩) r9 (by decide) e9 nR fun Hf e10 t10 r10 => ?_
      refine q_ifApp (K := K) (i := 4) (ks := names c) rfl (fin e10).2.2 okn (by omega) (fun ne Hg eg => ?_) (fun ne Hg eg => ?_)
      · have eg' := e10.trans (.of eg)
        refine q_app (K := K) (CS := CS) (CL := CL) (CW := CW) (CF := CF) (CU := CU) (T := tabs P1 P2) (H0 := H8) (n := 3) rfl
          (hears_err (C := CW) (tag := "word") (x := x) (fun _ _ _ _ h => .inr (.inr (.inl h))) (t10.ext eg) (fin eg').2.1 sh fun E' Q' Ha ea er => ⟨_, rfl, _, rfl, _, rfl, q, .str tv, x, .int 0, .int 0, c', rfl, (fin (eg'.trans ea)).1, good', .inr ⟨⟨tv, rfl, tvin ne⟩, .inl ⟨dd, (fin (eg'.trans ea)).2.1, sz, bad', er⟩⟩⟩) (r10.exN (.of eg)) (by decide) eg' nR fun Hh e11 t11 r11 => ?_
        exact q_cmpL (K := K) (i := 8) (j := 7) (n := 4) (x := x) (d := dd) (tag := "word") rfl rfl r11 (by decide) (by decide) (fin e11).2.1 sh (by decide +kernel) so (fun H1 ys Q hL q => ⟨_, rfl, R1, ys, rfl, .inl (SqL.of hL), q⟩) fun H' e => ⟨⟨_, _, rfl⟩, e11.trans (.of e), t11.ext e⟩
      · have eg' := e10.trans (.of eg)
        exact q_cmpL (K := K) (i := 8) (j := 7) (n := 3) (x := x) (d := dd) (tag := "word") rfl rfl (r10.exN (.of eg)) (by decide) (by decide) (fin eg').2.1 sh (by decide +kernel) so (fun H1 ys Q hL q => ⟨_, rfl, R1, ys, rfl, .inl (SqL.of hL), q⟩) fun H' e => ⟨⟨_, _, rfl⟩, eg'.trans (.of e), (t10.ext eg).ext e⟩
    obtain ⟨⟨u7, u8, rfl⟩, eN9, hT9⟩ := inv
    have sw9 := sw8.exN eN9
    have hp9 := hp8.exN eN9
    have x9 : ExtP p H Hb_ := x8.trans (.exN eN9)
    clear eN9 e8 hy hLW sw7 sw8 hT7 hT8 hp7 hp8 x7 x8 g0 g1 g4 nLW lys
    -- the states
    obtain ⟨m1, m2, m3, m4, g0, ⟨g1, _, ⟨xs3', g3, gx3⟩⟩, g4⟩ := id sw9.hd
    have n3 : xs3'.length = c.regs.length := dp_len gx3
    refine ⟨_, rfl, _, rfl, d, _, rfl, DGet.k (k := Sum.inr "regs") g0, m3, xs3', rfl, .inl (SqL.of g3), p, xs3'.length, rfl, hp9, by omega, fun a LB ys H10 ha e10 hp10 nLB hLB hy => ?_⟩
    rw [n3] at ha hy
    have hy10 : DdAll K H10 ys (oddB c.regs.length a) := hy.ex hid_out
    have sw10 := sw9.but hp9 e10
    have hT10 := tabs_but hT9 hp9 e10
    have x10 : ExtP p H H10 := x9.trans (.but e10)
    have gw : ∀ {H' : Hp}, Dp K H' (.ref R) (wordL [List.replicate c.ins.length 0]) → GoodW K H' (.ref R) c' := fun h => ⟨_, .inl h, fun w hw => by rw [List.mem_singleton.mp hw, lenI]; exact bits_z _, by show 1 ≤ 500; decide⟩
    have ge : ∀ {H' : Hp} {l : Addr}, H' l = some (.lst []) → GoodW K H' (.ref l) c' := fun h => ⟨[], .inl (.lst (SqL.of h) .nil), fun w hw => (by cases hw), (by show 0 ≤ 500; decide)⟩
    refine ⟨LB, rfl, ⟨_, SqL.of hLB⟩, for_list (K := K) (a := LB) (xs := ys) (fun i σ Hc => (∃ u7 u8, σ = [some (.ref p), some (.ref q), some (.ref d), some z, some (.ref g), some (.ref R), some (.str tv), u7, u8]) ∧ LamX.ExtN H10 Hc ∧ LamX.Tabs (tabs P1 P2) Hc) ⟨⟨_, _, rfl⟩, .refl _, hT10⟩ (fun i σ Hc _ inv => sl_exN inv.2.1 (SqL.of hLB)) (fun i x σ Hc hi inv => ?_) (fun σ Hc_ inv => ?_)⟩
    · obtain ⟨⟨u7, u8, rfl⟩, eN, hTc⟩ := inv
      obtain ⟨dd, d1, hd2⟩ := hy10.at hi
      obtain ⟨sh, so, bad, nn⟩ := oddB_ok lr ha dd (List.mem_of_getElem? d1)
      have bad' : isLetter dd c'.regs.length = false := by rw [lenR]; exact bad
      have fin : ∀ {H' : Hp}, LamX.ExtN H10 H' → CirAt K C H' q c' ∧ Dd K H' x dd ∧ H' g = some (.lst ((names c).map V.str)) ∧ GoodW K H' (.ref R) c' := fun e => ⟨(sw10.exN e).hc, dd_exN e hd2, (sw10.exN e).hg, gw (sw10.exN e).hr⟩
      refine q_first (K := K) (CS := CS) (CL := CL) (CW := CW) (CF := CF) (CU := CU) (T := tabs P1 P2) (H0 := H10) (row := [.str "state", .str dd.shown, .bl true])
        (hears_err (C := CS) (tag := "state") (x := x) (fun _ _ _ _ h => .inl h) hTc (.dd (fin eN).2.1) sh fun E' Q' Ha ea er => ⟨_, rfl, _, rfl, _, rfl, q, .ref R, x, .int 0, c', rfl, (fin (eN.trans ea)).1, good', .inr (.inl ⟨(fin (eN.trans ea)).2.2.2, dd, (fin (eN.trans ea)).2.1, nn, bad', er⟩)⟩) eN fun R1 Hd e7 t7 nR r7 => ?_
      refine q_app (K := K) (CS := CS) (CL := CL) (CW := CW) (CF := CF) (CU := CU) (T := tabs P1 P2) (H0 := H10) (n := 1) rfl
        (hears_err (C := CS) (tag := "state") (x := x) (fun _ _ _ _ h => .inl h) t7 (.dd (fin e7).2.1) sh fun E' Q' Ha ea er => ⟨_, rfl, _, rfl, _, rfl, q, .ref R, x, .int 0, c', rfl, (fin (e7.trans ea)).1, good', .inr (.inl ⟨(fin (e7.trans ea)).2.2.2, dd, (fin (e7.trans ea)).2.1, nn, bad', er⟩)⟩) r7 (by decide) e7 nR fun He e9 t9 r9 => ?_
      refine q_app (K := K) (CS := CS) (CL := CL) (CW := CW) (CF := CF) (CU := CU) (T := tabs P1 P2) (H0 := H10) (n := 2) rfl
        (hears_err (C := CS) (tag := "state") (x := x) (fun _ _ _ _ h => .inl h) t9 (.dd (fin e9).2.1) sh fun E' Q' Ha ea er => ⟨_, rfl, (by show 0 ≤ sizeLine; decide), fun ll nll => ⟨_, rfl, q, .ref ll, x, .non, c', rfl, (fin ((e9.trans ea).trans (.of (Ex.new nll)))).1, good', .inr (.inl ⟨ge upd_same, dd, (fin ((e9.trans ea).trans (.of (Ex.new nll)))).2.1, nn, bad', er.ex (Ex.new nll)⟩)⟩⟩) r9 (by decide) e9 nR fun Hf e11 t11 r11 => ?_
      refine q_ifApp (K := K) (i := 4) (ks := names c) rfl (fin e11).2.2.1 okn (by omega) (fun ne Hg eg => ?_) (fun ne Hg eg => ?_)
      · have eg' := e11.trans (.of eg)
        refine q_app (K := K) (CS := CS) (CL := CL) (CW := CW) (CF := CF) (CU := CU) (T := tabs P1 P2) (H0 := H10) (n := 3) rfl
          (hears_err (C := CS) (tag := "state") (x := x) (fun _ _ _ _ h => .inl h) (t11.ext eg) (.dd (fin eg').2.1) sh fun E' Q' Ha ea er => ⟨_, rfl, _, rfl, _, rfl, _, rfl, q, .str tv, .ref R, x, .int 0, c', rfl, (fin (eg'.trans ea)).1, good', .inr ⟨⟨tv, rfl, tvin ne⟩, .inr (.inl ⟨(fin (eg'.trans ea)).2.2.2, dd, (fin (eg'.trans ea)).2.1, nn, bad', er⟩)⟩⟩) (r11.exN (.of eg)) (by decide) eg' nR fun Hh e12 t12 r12 => ?_
        exact q_cmpL (K := K) (i := 8) (j := 7) (n := 4) (x := x) (d := dd) (tag := "state") rfl rfl r12 (by decide) (by decide) (.dd (fin e12).2.1) sh (by decide +kernel) so (fun H1 ys Q hL q => ⟨_, rfl, R1, ys, rfl, .inl (SqL.of hL), q⟩) fun H' e => ⟨⟨_, _, rfl⟩, e12.trans (.of e), t12.ext e⟩
      · have eg' := e11.trans (.of eg)
        exact q_cmpL (K := K) (i := 8) (j := 7) (n := 3) (x := x) (d := dd) (tag := "state") rfl rfl (r11.exN (.of eg)) (by decide) (by decide) (.dd (fin eg').2.1) sh (by decide +kernel) so (fun H1 ys Q hL q => ⟨_, rfl, R1, ys, rfl, .inl (SqL.of hL), q⟩) fun H' e => ⟨⟨_, _, rfl⟩, eg'.trans (.of e), (t11.ext eg).ext e⟩
    obtain ⟨⟨u7, u8, rfl⟩, eN11, hT11⟩ := inv
    have sw11 := sw10.exN eN11
    have hp11 := hp10.exN eN11
    have x11 : ExtP p H Hc_ := x10.trans (.exN eN11)
    clear eN11 e10 hy hy10 hLB sw9 sw10 hT9 hT10 hp9 hp10 x9 x10 g0 g1 g3 g4 gx3 nLB
    -- the faults
    refine ⟨_, rfl, g, names c, rfl, sw11.hg, okn, by omega, fun L3 xs4 H13 e13 nL3 hL3 hx4 => ?_⟩
    have sw13 := sw11.exN (.of e13)
    have hT13 := hT11.ext e13
    have hp13 := hp11.ex e13
    have x13 : ExtP p H H13 := x11.trans (.of e13)
    have odd : ∀ x ∈ xs4, ∃ dd, Dd K H13 x dd ∧ Showy dd ∧ PyData.strOk dd.shown = true ∧ fltB c' dd = false ∧ dd ≠ .none := fun x hx => by
      obtain ⟨i, hi⟩ := List.getElem?_of_mem hx
      obtain ⟨dd, d1, d2⟩ := hx4.at hi
      obtain ⟨o1, o2, o3, o4⟩ := oddF_ok tg dd (List.mem_of_getElem? d1)
      exact ⟨dd, d2, o1, o2, by rw [fltB_same sm]; exact o3, o4⟩
    refine ⟨L3, rfl, ⟨_, SqL.of hL3⟩, for_list (K := K) (a := L3) (xs := xs4) (fun i σ Hc => (∃ u7 u8, σ = [some (.ref p), some (.ref q), some (.ref d), some z, some (.ref g), some (.ref R), some (.str tv), u7, u8]) ∧ LamX.ExtN H13 Hc ∧ LamX.Tabs (tabs P1 P2) Hc) ⟨⟨_, _, rfl⟩, .refl _, hT13⟩ (fun i σ Hc _ inv => sl_exN inv.2.1 (SqL.of hL3)) (fun i x σ Hc hi inv => ?_) (fun σ Hd_ inv => ?_)⟩
    · obtain ⟨⟨u7, u8, rfl⟩, eN, hTc⟩ := inv
      obtain ⟨dd, hd2, sh, so, bad, nn⟩ := odd x (List.mem_of_getElem? hi)
      have fin : ∀ {H' : Hp}, LamX.ExtN H13 H' → CirAt K C H' q c' ∧ Dd K H' x dd ∧ H' g = some (.lst ((names c).map V.str)) ∧ GoodW K H' (.ref R) c' := fun e => ⟨(sw13.exN e).hc, dd_exN e hd2, (sw13.exN e).hg, gw (sw13.exN e).hr⟩
      have bf : ∀ {H' : Hp} {y : V} {E' : XK}, LamX.ExtN H13 H' → GoodW K H' y c' → Err E' H' CF x → BadRun K CW CS CF H' E' y .non x c' := fun e h er => .inr (.inr ⟨h, none, dd, .non, fun bs h => (by cases h), (fin e).2.1, nn, bad, er⟩)
      refine q_first (K := K) (CS := CS) (CL := CL) (CW := CW) (CF := CF) (CU := CU) (T := tabs P1 P2) (H0 := H13) (row := [.str "fault", .str dd.shown, .bl true])
        (hears_err (C := CF) (tag := "fault") (x := x) (fun _ _ _ _ h => .inr (.inr (.inr (.inl h)))) hTc (.dd (fin eN).2.1) sh fun E' Q' Ha ea er => ⟨_, rfl, _, rfl, _, rfl, q, .ref R, .non, x, c', rfl, (fin (eN.trans ea)).1, good', bf (eN.trans ea) (fin (eN.trans ea)).2.2.2 er⟩) eN fun R1 Hd e7 t7 nR r7 => ?_
      refine q_app (K := K) (CS := CS) (CL := CL) (CW := CW) (CF := CF) (CU := CU) (T := tabs P1 P2) (H0 := H13) (n := 1) rfl
        (hears_err (C := CF) (tag := "fault") (x := x) (fun _ _ _ _ h => .inr (.inr (.inr (.inl h)))) t7 (.dd (fin e7).2.1) sh fun E' Q' Ha ea er => ⟨_, rfl, (by show 0 ≤ sizeLine; decide), fun ll nll => ⟨_, rfl, q, .ref ll, .non, x, c', rfl, (fin ((e7.trans ea).trans (.of (Ex.new nll)))).1, good', bf ((e7.trans ea).trans (.of (Ex.new nll))) (ge upd_same) (er.ex (Ex.new nll))⟩⟩) r7 (by decide) e7 nR fun Hf e11 t11 r11 => ?_
      refine q_ifApp (K := K) (i := 4) (ks := names c) rfl (fin e11).2.2.1 okn (by omega) (fun ne Hg eg => ?_) (fun ne Hg eg => ?_)
      · have eg' := e11.trans (.of eg)
        refine q_app (K := K) (CS := CS) (CL := CL) (CW := CW) (CF := CF) (CU := CU) (T := tabs P1 P2) (H0 := H13) (n := 2) rfl
          (hears_err (C := CF) (tag := "fault") (x := x) (fun _ _ _ _ h => .inr (.inr (.inr (.inl h)))) (t11.ext eg) (.dd (fin eg').2.1) sh fun E' Q' Ha ea er => ⟨_, rfl, _, rfl, _, rfl, _, rfl, q, .str tv, .ref R, .non, x, c', rfl, (fin (eg'.trans ea)).1, good', .inr ⟨⟨tv, rfl, tvin ne⟩, bf (eg'.trans ea) (fin (eg'.trans ea)).2.2.2 er⟩⟩) (r11.exN (.of eg)) (by decide) eg' nR fun Hh e12 t12 r12 => ?_
        exact q_cmpL (K := K) (i := 8) (j := 7) (n := 3) (x := x) (d := dd) (tag := "fault") rfl rfl r12 (by decide) (by decide) (.dd (fin e12).2.1) sh (by decide +kernel) so (fun H1 ys Q hL q => ⟨_, rfl, R1, ys, rfl, .inl (SqL.of hL), q⟩) fun H' e => ⟨⟨_, _, rfl⟩, e12.trans (.of e), t12.ext e⟩
      · have eg' := e11.trans (.of eg)
        exact q_cmpL (K := K) (i := 8) (j := 7) (n := 2) (x := x) (d := dd) (tag := "fault") rfl rfl (r11.exN (.of eg)) (by decide) (by decide) (.dd (fin eg').2.1) sh (by decide +kernel) so (fun H1 ys Q hL q => ⟨_, rfl, R1, ys, rfl, .inl (SqL.of hL), q⟩) fun H' e => ⟨⟨_, _, rfl⟩, eg'.trans (.of e), (t11.ext eg).ext e⟩
    obtain ⟨⟨u7, u8, rfl⟩, eN14, hT14⟩ := inv
    have sw14 := sw13.exN eN14
    have hp14 := hp13.exN eN14
    have x14 : ExtP p H Hd_ := x13.trans (.exN eN14)
    clear odd eN14 e13 hx4 sw11 sw13 hT11 hT13 hp11 hp13 hL3 x11 x13 nL3
    -- what is let
    obtain ⟨_, _, _, _, _, _, _, _, _, sr, _, _, _, _, ⟨_, hr1, hr2'⟩, _⟩ := id sw14.hc
    have run : ∀ {H' : Hp} {y zz : V} {ws : List (List Int)} {ff : Flt}, LamX.ExtN Hd_ H' → (Dp K H' y (wordL ws) ∨ Dp K H' y (wordT ws)) → (∀ w ∈ ws, BitsOk c'.ins.length w) → ws.length ≤ 500 → Dp K H' zz (fltD ff) → FltOk c' ff → Run K C H' q y .non zz c' sr ws none ff :=
      fun e hw ok l hzz off => ⟨(sw14.exN e).hc, good', ⟨hr1, hr2'⟩, hw, ok, l, .non, fun bs h => (by cases h), hzz, off⟩
    have run0 : ∀ {H' : Hp} {l : Addr}, LamX.ExtN Hd_ H' → H' l = some (.lst []) → Run K C H' q (.ref l) .non .non c' sr [] none none := fun e h => run e (.inl (.lst (SqL.of h) .nil)) (fun w hw => (by cases hw)) (by show 0 ≤ 500; decide) .non (fun q h => (by cases h))
    refine q_first (K := K) (CS := CS) (CL := CL) (CW := CW) (CF := CF) (CU := CU) (T := tabs P1 P2) (H0 := Hd_) (row := [.str "let"])
      (hears_let hT14 fun E' Q' Ha ea kk => ?_) (.refl _) fun R1 Hd e7 t7 nR r7 => ?_
    · obtain ⟨ys, hS, hA⟩ : ∃ ys, SqL K Ha R ys ∧ DpAll K Ha ys ([List.replicate c.ins.length 0].map bitsD) := by
        have h := (sw14.exN ea).hr
        unfold wordL at h
        cases h with
        | lst hs ha => exact ⟨_, hs, ha⟩
      refine ⟨_, rfl, _, rfl, R, ys, rfl, .inl ⟨hS, fun tt ntt => ⟨_, rfl, q, .ref tt, .non, z, c', sr, [List.replicate c.ins.length 0], none, fl, rfl, run (ea.trans (.of (Ex.new ntt))) (.inr (.tup (st_of upd_same) (dpAll_ex (Ex.new ntt) hA))) (fun w hw => ?_) (by show 1 ≤ 500; decide) (sw14.exN (ea.trans (.of (Ex.new ntt)))).hz (sm.flt okf), fun l H' nr => kk _ _ ((Ex.new ntt).trans nr.ex)⟩⟩⟩
      rw [List.mem_singleton.mp hw, lenI]
      exact bits_z _
    refine q_app (K := K) (CS := CS) (CL := CL) (CW := CW) (CF := CF) (CU := CU) (T := tabs P1 P2) (H0 := Hd_) (n := 1) (s := "let") (r := []) rfl
      (hears_let t7 fun E' Q' Ha ea kk => ⟨_, rfl, (by show 0 ≤ sizeLine; decide), fun ll nll => ⟨q, .ref ll, .non, .non, c', sr, [], none, none, rfl, run0 ((e7.trans ea).trans (.of (Ex.new nll))) upd_same, fun l H' nr => kk _ _ ((Ex.new nll).trans nr.ex)⟩⟩) r7 (by decide) e7 nR fun Hf e9 t9 r9 => ?_
    refine ⟨_, rfl, (by show 1 ≤ sizeLine; decide), fun a3 na3 => ⟨(by show 1 ≤ sizeLine; decide), fun b3 nb3 => ⟨b3, 2, _, rfl, rfl, upd_same, by decide, by decide, (by show 2 ≤ sizeLine; decide), fun m5 nm5 => ?_⟩⟩⟩
    rw [show (List.replicate (Int.toNat 2) [V.ref a3]).flatten = [V.ref a3, V.ref a3] from rfl]
    have ea : Ex Hf (upd Hf a3 (.lst [.str "let"])) := Ex.new na3
    have eb : Ex (upd Hf a3 (.lst [.str "let"])) (upd (upd Hf a3 (.lst [.str "let"])) b3 (.lst [.ref a3])) := Ex.new nb3
    have em : Ex (upd (upd Hf a3 (.lst [.str "let"])) b3 (.lst [.ref a3])) (upd (upd (upd Hf a3 (.lst [.str "let"])) b3 (.lst [.ref a3])) m5 (.lst [.ref a3, .ref a3])) := Ex.new nm5
    have la : Dp K (upd (upd (upd Hf a3 (.lst [.str "let"])) b3 (.lst [.ref a3])) m5 (.lst [.ref a3, .ref a3])) (.ref a3) (.list [.str "let"]) := .lst (SqL.of ((eb.trans em) _ _ upd_same)) (.cons (.str _) .nil)
    have lm : Dp K (upd (upd (upd Hf a3 (.lst [.str "let"])) b3 (.lst [.ref a3])) m5 (.lst [.ref a3, .ref a3])) (.ref m5) (.list [.list [.str "let"], .list [.str "let"]]) := .lst (SqL.of upd_same) (.cons la (.cons la .nil))
    have ee := (ea.trans eb).trans em
    generalize upd (upd (upd Hf a3 (.lst [.str "let"])) b3 (.lst [.ref a3])) m5 (.lst [.ref a3, .ref a3]) = H15 at ee lm
    have ev : PyData.eqv (.list [.list [.str "let"], .list [.str "let"]]) (.list [.list [.str "let"], .list [.str "let"]]) = true := by decide +kernel
    refine ⟨.list [.list [.str "let"], .list [.str "let"]], .list [.list [.str "let"], .list [.str "let"]], dp_ex ee (r9.dp (.cons (.str _) .nil)), lm, by decide +kernel, by decide +kernel, true, by rw [ev], iteT ?_⟩
    have e15 := e9.trans (.of ee)
    have sw15 := sw14.exN e15
    refine ⟨_, rfl, (by show 0 ≤ sizeLine; decide), fun m6 nm6 => ?_⟩
    have e16 : Ex H15 (upd H15 m6 (.lst [])) := Ex.new nm6
    refine ⟨.list (txtD (names c)), .list (txtD []), dp_txl (SqL.of (e16 _ _ sw15.hg)), dp_txl (SqL.of upd_same), (Wt.txts (m := 100) okn (by omega)).shaped (by decide), (Wt.txts (m := 0) (zs := []) (fun z h => by cases h) (by decide)).shaped (by decide), (names c).isEmpty, by rw [eqv_txt_nil], ?_⟩
    generalize upd H15 m6 (.lst []) = H16 at e16
    have e17 := e15.trans (.of e16)
    have t17 := (t9.ext ee).ext e16
    cases hn : (names c).isEmpty with
    | true => exact iteT (k _ (x14.trans (.exN e17)) (hp14.exN e17) t17)
    | false =>
      have ne : names c ≠ [] := fun z => by rw [z] at hn; cases hn
      refine iteF ?_
      refine hears_let (K := K) (CS := CS) (CL := CL) (CW := CW) (CF := CF) (CU := CU) t17 (fun E' Q' Ha ea kk => ⟨_, rfl, _, rfl, (by show 0 ≤ sizeLine; decide), fun ll nll => ⟨q, tv, .ref ll, .non, .non, c', sr, [], none, none, rfl, tvin ne, run0 ((e17.trans ea).trans (.of (Ex.new nll))) upd_same, fun l H' e _ _ => kk _ _ ((Ex.new nll).trans e)⟩⟩) _ fun l H18 e18 t18 n18 hl18 => ?_
      refine ⟨(by show 1 ≤ sizeLine; decide), fun m7 nm7 => ?_⟩
      have e19 : Ex H18 (upd H18 m7 (.lst [.str "let"])) := Ex.new nm7
      refine ⟨.list [.str "let"], .list [.str "let"], .lst (SqL.of (e19 _ _ hl18)) (.cons (.str _) .nil), .lst (SqL.of upd_same) (.cons (.str _) .nil), by decide +kernel, by decide +kernel, ?_⟩
      have ev2 : PyData.eqv (.list [.str "let"]) (.list [.str "let"]) = true := by decide +kernel
      rw [ev2]
      have e20 := (e17.trans e18).trans (.of e19)
      exact k _ (x14.trans (.exN e20)) (hp14.exN e20) (t18.ext e19)
end
end W

set_option Elab.async false
set_option linter.all false
set_option maxRecDepth 100000
set_option maxHeartbeats 16000000
namespace W
open PySem PySem.Spec PyProof.Rows L2 Evl G C
section
variable {P : Program} {w : World} {K : PySem.W.Frag} {mg : Str → Option Value} {base : Heap} {C CS CL CF CW CU CE iS iL iF iW iU : Addr} {dS dL dF dW dU : FuncData}
theorem PlanAt.extP {H H' : Hp} {d p : Addr} {c : Cir} (h : PlanAt K H d c) (hp : Pot H p) (e : ExtP p H H') : PlanAt K H' d c := by
  obtain ⟨l1, l2, l3, l4, h0, ⟨h1, ⟨xs2, h2, d2⟩, ⟨xs3, h3, d3⟩⟩, h4⟩ := h
  have x : LamX.ExtN (hid p H) H' := fun b o hb no => e b o (hid_some.mp hb).2 no (hid_some.mp hb).1
  have hh : PlanAt K (hid p H) d c := by
    have b : ExBut p H (hid p H) := fun b o hb n => hid_some.mpr ⟨n, hb⟩
    exact PlanAt.but ⟨l1, l2, l3, l4, h0, ⟨h1, ⟨xs2, h2, d2⟩, ⟨xs3, h3, d3⟩⟩, h4⟩ hp b
  exact hh.exN x
theorem CirAt.extP {H H' : Hp} {q p : Addr} {c : Cir} (h : CirAt K C H q c) (hp : Pot H p) (e : ExtP p H H') : CirAt K C H' q c := by
  have x : LamX.ExtN (hid p H) H' := fun b o hb no => e b o (hid_some.mp hb).2 no (hid_some.mp hb).1
  have b : ExBut p H (hid p H) := fun b o hb n => hid_some.mpr ⟨n, hb⟩
  exact (h.pot hp b).exN x
theorem flt_extP {H H' : Hp} {p : Addr} {z : V} {fl : Flt} (h : Dp K H z (fltD fl)) (hp : Pot H p) (e : ExtP p H H') : Dp K H' z (fltD fl) := by
  have x : LamX.ExtN (hid p H) H' := fun b o hb no => e b o (hid_some.mp hb).2 no (hid_some.mp hb).1
  have b : ExBut p H (hid p H) := fun b o hb n => hid_some.mpr ⟨n, hb⟩
  exact dp_exN x (p_dp hp b (np_flt _) h)
theorem q_good {u : TS} {D : Ends} {p a : Addr} {ks : List Str} {σ : L2.St} {H : Hp} (h0 : σ[0]? = some (some (.ref p))) (h3 : σ[3]? = some (some (.ref a))) (hp : Pot H p) (hl : H a = some (.lst (ks.map V.str))) (ok : ∀ z ∈ ks, nameOk z) (few : ks.length ≤ 100)
    (k : ∀ (z : V) (fl : Flt) H', Dp K H' z (fltD fl) → (∀ q, fl = some q → q.1 ∈ ks ∧ (q.2 = 0 ∨ q.2 = 1)) → ExBut p H H' → Pot H' p → u D (σ.set 4 (some z)) H') :
    tSeq (tAsg (tIf (tTest (tOp (rNeD K) (tVar 3) (tLst tNil))) (tTup (tCons (tCall (spPickL K) [] E0 (tCons (tVar 0) (tCons (tVar 3) tNil))) (tCons (tCall spDraw [] E0 (tCons (tVar 0) (tCons (tC (.int 2)) tNil))) tNil))) (tC .non)) (gName 4)) u D σ H := by
  refine rd_ifNil (K := K) (Q := fun x H1 => gName 4 x σ H1 (u D)) h3 hl ok few fun H1 e1 => ?_
  by_cases z : ks = []
  · rw [if_neg (by simpa using z)]
    exact k .non none H1 .non (fun q h => by cases h) (.of e1) (hp.ex e1)
  · rw [if_pos z]
    refine ⟨_, h0, _, h3, p, a, _, rfl, hp.ex e1, SqL.of (e1 _ _ hl), strs_ne (hp.ex e1) (e1 _ _ hl), by simpa using z, by rw [List.length_map]; exact few, fun v H2 hv e2 hp2 => ?_⟩
    obtain ⟨tv, htv, rfl⟩ := List.mem_map.mp hv
    refine ⟨_, h0, p, 2, rfl, hp2, by decide, by decide, fun r H3 r0 r1 e3 hp3 => ⟨(by show 2 ≤ sizeLine; decide), fun t nt => ?_⟩⟩
    exact k (.ref t) (some (tv, r)) _ (.tup (st_of upd_same) (.cons (.str _) (.cons (.int _) .nil))) (fun q h => by cases h; exact ⟨htv, by show r = 0 ∨ r = 1; omega⟩) (((ExBut.of e1).trans (e2.trans e3)).trans (.of (Ex.new nt))) (hp3.ex (Ex.new nt))
def spRight (T : List (Addr × Str)) : Sp := fun vs H Q _ => ∃ p : Addr, vs = [.ref p] ∧ Pot H p ∧ LamX.Tabs T H ∧ ∀ H', Q (.bl true) H'
abbrev nRight : List Str := ["_law_pot_here", "_law_plan_here", "_law_made", "_law_tags_here", "_law_good"]
theorem scRight : FnScope nRight ["_law_pot_here"] (defScope dRight) := ⟨rfl, rfl, rfl, by decide +kernel, rfl, by decide +kernel, by decide +kernel⟩
theorem okRight {f fA fB kA kB P1 P2 : Addr} {fd gA gB : FuncData} (F : At K mg "_law_right" dRight ["_law_pot_here"] f fd) (T : Txt K mg) (CT : CirT K mg C) (DT : DicT K w mg) (TE : Errs K mg CS CL CF CW CU iS iL iF iW iU dS dL dF dW dU) (TH : HearT K mg CS CL CW CF CU CE)
    (FA : At K mg "_law_steps_right" dStepsR ["_law_pot_here", "_law_made", "_law_plan_here", "_law_good"] fA gA) (hA : gA.code = .ref kA) (FB : At K mg "_law_words_right" dWordsR ["_law_pot_here", "_law_made", "_law_plan_here", "_law_good"] fB gB) (hB : gB.code = .ref kB)
    (TA : LamX.TabB base mg kA P1) (TB : LamX.TabB base mg kB P2) (hP : P1 ≠ P2) : Fn P w K mg base CX0 11 f fd ["_law_pot_here"] (spRight (tabs P1 P2)) := by
  obtain ⟨fL, gL, FL⟩ := T.plan
  obtain ⟨fC, gC, FC⟩ := T.circuit
  obtain ⟨fG, gG, FG⟩ := T.tags
  obtain ⟨fP, gP, FP⟩ := T.pick
  obtain ⟨fD, gD, FD⟩ := T.draw
  obtain ⟨fE, gE, FE⟩ := CT.eq
  have GL : FnOk P w K mg base CX0 10 fL gL ["_law_pot_here", "_law_most"] (spPlan K) := (okPlan FL T).mono (by decide)
  have GC : FnOk P w K mg base CX0 10 fC gC ["_law_pot_here", "_law_plan_here"] (spCirc K C) := (okCirc FC T DT CT).mono (by decide)
  have GG : FnOk P w K mg base CX0 10 fG gG ["_law_plan_here"] (spTags K) := (okTags FG T).mono (by decide)
  have GP : FnOk P w K mg base CX0 10 fP gP ["_law_pot_here", "_law_some"] (spPickL K) := (okPickL FP T).mono (by decide)
  have GD : FnOk P w K mg base CX0 10 fD gD ["_law_pot_here", "_law_many"] spDraw := (okDraw FD T).mono (by decide)
  have GE : FnOk P w K mg base CX0 10 fE gE ["self", "other"] (spEq (rSame K C)) := (okEqM FE T CT).mono (by decide)
  have SA : Fn P w K mg base CX0 10 fA gA ["_law_pot_here", "_law_made", "_law_plan_here", "_law_good"] (spStepsR K C (tabs P1 P2)) := okStepsR FA T CT DT TE TH TA hA hP
  have SB : Fn P w K mg base CX0 10 fB gB ["_law_pot_here", "_law_made", "_law_plan_here", "_law_good"] (spStepsR K C (tabs P1 P2)) := okWordsR FB T CT DT TE TH TB hB hP
  refine okN F.fn scRight (fun vs H Q E h => ?_) (fun cdv A outer s H vs Q E hr h => ?_)
  · obtain ⟨p, rfl, _⟩ := h
    rfl
  · obtain ⟨p, rfl, hp, hT, k⟩ := h
    have hu64 : (cxOf CX0 P w K mg base nRight "_law_right" (defScope dRight) f cdv A outer s H E).nox.A.units + 64 < cLine := by have := hr.rm.units; show (A.deeper _).units + 64 < cLine; omega
    have nds := scRight.nd
    refine ⟨_, (pss_cons (ps_set (i := 1) nds rfl (Or.inl rfl) (pe_call GL hr.rm (by rfl) FL.gl FL.fn.kp FL.bi .nil pass0 (pa_cons (pv 0) (pa_cons pe_int pa_nil))))
      (pss_cons (ps_par (i := 2) (j := 3) rfl nds rfl rfl (by decide) (by rfl) (by rfl) (pa_cons (pe_call GC hr.rm (by rfl) FC.gl FC.fn.kp FC.bi .nil pass0 (pa_cons (pv 0) (pa_cons (pv 1) pa_nil))) (pa_cons (pe_call GG hr.rm (by rfl) FG.gl FG.fn.kp FG.bi .nil pass0 (pa_cons (pv 1) pa_nil)) pa_nil)) (by rfl))
      (pss_cons (ps_set (i := 4) nds rfl (Or.inl rfl) (pe_ifExp (pt_cmpR (op_neD hu64) (pv 3) (pe_lst pa_nil) (nomark _)) (pe_tup (pa_cons (pe_call GP hr.rm (by rfl) FP.gl FP.fn.kp FP.bi .nil pass0 (pa_cons (pv 0) (pa_cons (pv 3) pa_nil))) (pa_cons (pe_call GD hr.rm (by rfl) FD.gl FD.fn.kp FD.bi .nil pass0 (pa_cons (pv 0) (pa_cons pe_int pa_nil))) pa_nil))) pe_non))
      (pss_cons (ps_if (PW.pt (pw_or (pt_not (pt_val (pc SA hr (by rfl) FA.gl FA.fn.kp FA.bi .nil pass0 (pa_cons (pv 0) (pa_cons (pv 2) (pa_cons (pv 1) (pa_cons (pv 4) pa_nil))))))) (pw_or1 (pt_not (pt_val (pc SB hr (by rfl) FB.gl FB.fn.kp FB.bi .nil pass0 (pa_cons (pv 0) (pa_cons (pv 2) (pa_cons (pv 1) (pa_cons (pv 4) pa_nil)))))))))) (pss_one (ps_ret pe_bl)) pss_nil)
      (pss_one (ps_ret (pe_cmpR (op_eqG (rcG_ins GE FE.me.at_ FE.me.fn FE.bi pass0) hr.rm) (pv 2) (pe_call GC hr.rm (by rfl) FC.gl FC.fn.kp FC.bi .nil pass0 (pa_cons (pv 0) (pa_cons (pv 1) pa_nil))) (nomark _)))))))), ?_⟩
    refine ⟨_, rfl, p, rfl, hp, fun d c H1 good tg po lg li lr ndd e1 hp1 hd => ?_⟩
    have hT1 := tabs_but hT hp e1
    refine ⟨_, rfl, _, rfl, p, d, c, rfl, hp1, hd, good, fun q c' H2 sm good' nq hc e2 hp2 => ?_⟩
    have hd2 := hd.but hp1 e2
    have hT2 := tabs_but hT1 hp1 e2
    have okn : ∀ z ∈ names c, nameOk z := fun z hz => tg_ok z (tg z hz)
    have fewn := names_few good
    refine ⟨_, rfl, d, c, rfl, hd2, good, fun g H3 e3 ng hg => ⟨_, _, rfl, ?_⟩⟩
    have hd3 := hd2.ex e3
    have hc3 := hc.ex e3
    have hp3 := hp2.ex e3
    have hT3 := hT2.ext e3
    refine q_good (K := K) (ks := names c) rfl rfl hp3 hg okn (by omega) fun z fl H4 hz hfl e4 hp4 => ?_
    have hd4 := hd3.but hp3 e4
    have hc4 := hc3.pot hp3 e4
    have hT4 := tabs_but hT3 hp3 e4
    have okf : FltOk c fl := fun q h => hfl q h
    refine ⟨_, rfl, _, rfl, _, rfl, _, rfl, p, q, d, z, c, c', fl, rfl, hp4, hc4, hd4, good, sm, tg, li, lr, hz, okf, hT4, fun H5 e5 hp5 hT5 => ⟨true, rfl, iteF ?_⟩⟩
    refine ⟨_, rfl, _, rfl, _, rfl, _, rfl, p, q, d, z, c, c', fl, rfl, hp5, hc4.extP hp4 e5, hd4.extP hp4 e5, good, sm, tg, li, lr, flt_extP hz hp4 e5, okf, hT5, fun H6 e6 hp6 hT6 => ⟨true, rfl, iteF ?_⟩⟩
    have e46 := e5.trans e6
    have hd6 := hd4.extP hp4 e46
    have hc6 := hc4.extP hp4 e46
    refine ⟨_, rfl, _, rfl, _, rfl, p, d, c, rfl, hp6, hd6, good, fun q2 c2 Hf sm2 good2 nq2 hc2 ef hpf => ?_⟩
    have hcf := hc6.pot hp6 ef
    obtain ⟨dx1, a1, a2, a3, a4, D5, D6, L7, sg1, sr1, sq1, i1, _⟩ := id hcf
    obtain ⟨dx2, b1, b2, b3, b4, E5, E6, M7, sg2, sr2, sq2, i2, _⟩ := id hc2
    exact ⟨⟨q, q2, dx1, dx2, _, _, rfl, rfl, i1, i2, c', c2, hcf, hc2, good', good2, sm.ins.trans sm2.ins.symm, sm.gates.trans sm2.gates.symm, sm.regs.trans sm2.regs.symm, sm.outs.trans sm2.outs.symm⟩, fun Hg eg => k Hg⟩
def spLaw (K : PySem.W.Frag) (T : List (Addr × Str)) : Sp := fun vs H Q _ => ∃ (a : Addr) (ns : List Int), vs = [.ref a] ∧ SqL K H a (ns.map V.int) ∧ ns.length ≤ 1000 ∧ LamX.Tabs T H ∧ ∀ H', Q (.bl true) H'
theorem scLaw : FnScope ["_law_script"] ["_law_script"] (defScope dLaw) := ⟨rfl, rfl, rfl, by decide +kernel, rfl, by decide +kernel, by decide +kernel⟩
theorem okLaw {f fA fB kA kB P1 P2 : Addr} {fd gA gB : FuncData} (F : At K mg "law" dLaw ["_law_script"] f fd) (T : Txt K mg) (CT : CirT K mg C) (DT : DicT K w mg) (TE : Errs K mg CS CL CF CW CU iS iL iF iW iU dS dL dF dW dU) (TH : HearT K mg CS CL CW CF CU CE)
    (FA : At K mg "_law_steps_right" dStepsR ["_law_pot_here", "_law_made", "_law_plan_here", "_law_good"] fA gA) (hA : gA.code = .ref kA) (FB : At K mg "_law_words_right" dWordsR ["_law_pot_here", "_law_made", "_law_plan_here", "_law_good"] fB gB) (hB : gB.code = .ref kB)
    (TA : LamX.TabB base mg kA P1) (TB : LamX.TabB base mg kB P2) (hP : P1 ≠ P2) : Fn P w K mg base CX0 12 f fd ["_law_script"] (spLaw K (tabs P1 P2)) := by
  obtain ⟨fP, gP, FP⟩ := T.pot
  obtain ⟨fR, gR, FR⟩ := T.right
  have GP : FnOk P w K mg base CX0 11 fP gP ["_law_script", "_law_k"] (spPot K) := (okPot FP T).mono (by decide)
  have GR : Fn P w K mg base CX0 11 fR gR ["_law_pot_here"] (spRight (tabs P1 P2)) := okRight FR T CT DT TE TH FA hA FB hB TA TB hP
  refine okN F.fn scLaw (fun vs H Q E h => ?_) (fun cdv A outer s H vs Q E hr h => ?_)
  · obtain ⟨a, ns, rfl, _⟩ := h
    rfl
  · obtain ⟨a, ns, rfl, hs, hl, hT, k⟩ := h
    refine ⟨_, (pss_one (ps_ret (pc GR hr (by rfl) FR.gl FR.fn.kp FR.bi .nil pass0 (pa_cons (pe_call GP hr.rm (by rfl) FP.gl FP.fn.kp FP.bi .nil pass0 (pa_cons (pv 0) (pa_cons pe_int pa_nil))) pa_nil)))), ?_⟩
    exact ⟨_, rfl, a, ns, rfl, hs, hl, fun p H1 np e1 hp => ⟨p, rfl, hp, hT.ext e1, fun H2 => k H2⟩⟩
end
end W

set_option Elab.async false
set_option linter.all false
set_option maxRecDepth 100000
set_option maxHeartbeats 8000000
/-! What the head tells, put together. -/
namespace W
open PySem PySem.Spec PyProof.Rows L2 Evl G C
section
variable {K : PySem.W.Frag} {h : Heap} {mg : Str → Option Value}
/-- a def of the top, by its four facts -/
theorem at_mk {x : Str} {de : Stmt} {ps : List Str} {f : Addr} {oc kV doc pm cdv ct : Value} {od an : Option Addr} {osl : Array (Option Value)} (X : K.In h) (G : h.Ns mainGlobals mg) (b : ∀ (kV doc pm : Value) (an : Option Addr) (cdv ct : Value) (us : List Value), us.length = ps.length → bindArgs (PySem.W.fnOf x x (defArgs de) (defBody de) (defScope de) .none kV doc pm an cdv ct) ⟨us, []⟩ = pure (ps.zip us))
    (a : PySem.W.nsIn K mainGlobals x = some (some (.ref f)))
    (l : K.lookup f = some ⟨oc, od, .func (PySem.W.fnOf x x (defArgs de) (defBody de) (defScope de) .none kV doc pm an cdv ct), osl⟩) (c : PySem.W.codeIn K cdv x = true) (k : PySem.W.keepIn K (.ref f) = true) : ∃ f fd, At K mg x de ps f fd := by
  have F := fun_mk (st := de) l c k
  exact ⟨f, _, F, PySem.W.mg_of X G a, F.binds b⟩
theorem none_mk {x : Str} (X : K.In h) (G : h.Ns mainGlobals mg) (z : PySem.W.nsIn K mainGlobals x = some none) : mg x = none := PySem.W.mg_none_of X G z
theorem str_mk {x z : Str} {t : Tok} (X : K.In h) (G : h.Ns mainGlobals mg) (a : PySem.W.nsIn K mainGlobals x = some (some (.str z t))) : ∃ t, mg x = some (.str z t) := ⟨t, PySem.W.mg_of X G a⟩
theorem int_mk {x : Str} {i : Int} {t : Tok} (X : K.In h) (G : h.Ns mainGlobals mg) (a : PySem.W.nsIn K mainGlobals x = some (some (.int i t))) : ∃ t, mg x = some (.int i t) := ⟨t, PySem.W.mg_of X G a⟩
theorem val_mk {x : Str} {u : Value} (X : K.In h) (G : h.Ns mainGlobals mg) (a : PySem.W.nsIn K mainGlobals x = some (some u)) : mg x = some u := PySem.W.mg_of X G a
end
theorem at_mkC {K : PySem.W.Frag} {h : Heap} {mg : Str → Option Value} {x : Str} {de : Stmt} {ps : List Str} {f c : Addr} {oc kV doc pm ct : Value} {od an : Option Addr} {osl : Array (Option Value)} (X : K.In h) (G : h.Ns mainGlobals mg) (b : ∀ (kV doc pm : Value) (an : Option Addr) (cdv ct : Value) (us : List Value), us.length = ps.length → bindArgs (PySem.W.fnOf x x (defArgs de) (defBody de) (defScope de) .none kV doc pm an cdv ct) ⟨us, []⟩ = pure (ps.zip us))
    (a : PySem.W.nsIn K mainGlobals x = some (some (.ref f)))
    (l : K.lookup f = some ⟨oc, od, .func (PySem.W.fnOf x x (defArgs de) (defBody de) (defScope de) .none kV doc pm an (.ref c) ct), osl⟩) (cd : PySem.W.codeIn K (.ref c) x = true) (k : PySem.W.keepIn K (.ref f) = true) : ∃ f fd, At K mg x de ps f fd ∧ fd.code = .ref c := by
  have F := fun_mk (st := de) l cd k
  exact ⟨f, _, ⟨F, PySem.W.mg_of X G a, F.binds b⟩, rfl⟩
/-- a written tuple of ints -/
theorem isBits_mk {K : PySem.W.Frag} {a : Addr} {bs : List Int} {vs : List Value} {dd : Option Addr} {n : Nat} {sl : Array (Option Value)} (l : K.lookup a = some ⟨.type "tuple", dd, .seq vs.toArray n, sl⟩) (r : Vals (bs.map V.int) vs) (hz : bs.length ≤ 1000) : isBits K bs (.ref a) := by
  refine ⟨a, rfl, fun H => .inr ⟨_, vs.toArray, n, l, rfl, rfl, ?_, by simpa using r⟩⟩
  have e := r.length
  rw [List.length_map] at e
  rw [List.size_toArray, ← e]
  exact Nat.le_trans hz (by decide)
theorem exc_mkC {K : PySem.W.Frag} {h : Heap} {mg : Str → Option Value} {x qual : Str} {i : Nat} {C fI : Addr} {nm q : Str} {N : Addr} {bs bm : List Value} {sn : List Str} {sub : List Value} {ab : Bool} {col : Option Bool} {dd : Option Addr} {m0 m1 m2 m3 m5 : Option Value}
    {oc kV doc pm cdv ct : Value} {od an : Option Addr} {osl : Array (Option Value)} (X : K.In h) (G : h.Ns mainGlobals mg)
    (a : PySem.W.nsIn K mainGlobals x = some (some (.ref C)))
    (xL : K.lookup C = some (excClassObj nm q C N bs bm true sn sub ab col dd m0 m1 m2 m3 m5 "ValueError.__new__")) (hbm : PySem.HandSPX.refsVE bm = true)
    (sa : PySem.W.findIn K (.ref C) "__setattr__" = some (some (.builtin "object.__setattr__"))) (ga : PySem.W.findIn K (.ref C) "__getattribute__" = some (some (.builtin "BaseException.__getattribute__"))) (gg : PySem.W.findIn K (.ref C) "__getattr__" = some none) (nV : PySem.W.findIn K (.ref C) "value" = some none)
    (kC : PySem.W.keepIn K (.ref C) = true) (eC : PySem.W.subIn K (.ref C) (.type "BaseException") = some true) (tC : PySem.W.typeIn K (.ref C) = some (.type "type")) (hC : PySem.W.hasDictIn K C = true)
    (ca : PySem.W.findIn K (.ref C) "__class__" = some (some (.builtin "object.__class__"))) (cn : PySem.W.specialIn K (.builtin "object.__class__") "__get__" = some (some (.builtin "getset_descriptor.__get__"))) (ct' : PySem.W.takesIn K (.builtin "object.__class__") = some true) (cm : PySem.W.mroIn K C (.type "object") = some true)
    (a1 : PySem.W.findIn K (.ref C) "__init__" = some (some (.ref fI))) (t1 : PySem.W.typeIn K (.ref fI) = some (.type "function"))
    (l : K.lookup fI = some ⟨oc, od, .func (PySem.W.fnOf "__init__" qual (defArgs (inClass (top i) 0)) (defBody (inClass (top i) 0)) (defScope (inClass (top i) 0)) .none kV doc pm an cdv ct), osl⟩) (c : PySem.W.codeIn K cdv qual = true) (k : PySem.W.keepIn K (.ref fI) = true)
    (b : ∀ (kV doc pm : Value) (an : Option Addr) (cdv ct : Value) (us : List Value), us.length = ["self", "value"].length → bindArgs (PySem.W.fnOf "__init__" qual (defArgs (inClass (top i) 0)) (defBody (inClass (top i) 0)) (defScope (inClass (top i) 0)) .none kV doc pm an cdv ct) ⟨us, []⟩ = pure ((["self", "value"] : List Str).zip us)) :
    (∃ fI fd, ExcT K mg x qual i C fI fd) ∧ ExcC K C ∧ OexC K C := by
  have F := fun_mk (st := inClass (top i) 0) l c k
  exact ⟨⟨fI, _, ⟨⟨ga, gg, eC, hC⟩, PySem.W.mg_of X G a, a1, t1, F, F.binds b, nV⟩⟩, ⟨ga, gg, eC, hC, ca, cn, ct', cm⟩, ⟨⟨nm, q, N, bs, bm, sn, sub, ab, col, dd, m0, m1, m2, m3, m5, xL, hbm⟩, sa, eC, tC, kC⟩⟩
theorem exc_mkL {K : PySem.W.Frag} {h : Heap} {mg : Str → Option Value} {x qual : Str} {i : Nat} {C fI : Addr} {nm q : Str} {N : Addr} {bs bm : List Value} {sn : List Str} {sub : List Value} {ab : Bool} {col : Option Bool} {dd : Option Addr} {m0 m1 m2 m3 m5 : Option Value}
    {oc kV doc pm cdv ct : Value} {od an : Option Addr} {osl : Array (Option Value)} (X : K.In h) (G : h.Ns mainGlobals mg)
    (a : PySem.W.nsIn K mainGlobals x = some (some (.ref C)))
    (xL : K.lookup C = some (excClassObj nm q C N bs bm true sn sub ab col dd m0 m1 m2 m3 m5 "LookupError.__new__")) (hbm : OverLE bm)
    (sa : PySem.W.findIn K (.ref C) "__setattr__" = some (some (.builtin "object.__setattr__"))) (ga : PySem.W.findIn K (.ref C) "__getattribute__" = some (some (.builtin "BaseException.__getattribute__"))) (gg : PySem.W.findIn K (.ref C) "__getattr__" = some none) (nV : PySem.W.findIn K (.ref C) "value" = some none)
    (kC : PySem.W.keepIn K (.ref C) = true) (eC : PySem.W.subIn K (.ref C) (.type "BaseException") = some true) (tC : PySem.W.typeIn K (.ref C) = some (.type "type")) (hC : PySem.W.hasDictIn K C = true)
    (ca : PySem.W.findIn K (.ref C) "__class__" = some (some (.builtin "object.__class__"))) (cn : PySem.W.specialIn K (.builtin "object.__class__") "__get__" = some (some (.builtin "getset_descriptor.__get__"))) (ct' : PySem.W.takesIn K (.builtin "object.__class__") = some true) (cm : PySem.W.mroIn K C (.type "object") = some true)
    (a1 : PySem.W.findIn K (.ref C) "__init__" = some (some (.ref fI))) (t1 : PySem.W.typeIn K (.ref fI) = some (.type "function"))
    (l : K.lookup fI = some ⟨oc, od, .func (PySem.W.fnOf "__init__" qual (defArgs (inClass (top i) 0)) (defBody (inClass (top i) 0)) (defScope (inClass (top i) 0)) .none kV doc pm an cdv ct), osl⟩) (c : PySem.W.codeIn K cdv qual = true) (k : PySem.W.keepIn K (.ref fI) = true)
    (b : ∀ (kV doc pm : Value) (an : Option Addr) (cdv ct : Value) (us : List Value), us.length = ["self", "value"].length → bindArgs (PySem.W.fnOf "__init__" qual (defArgs (inClass (top i) 0)) (defBody (inClass (top i) 0)) (defScope (inClass (top i) 0)) .none kV doc pm an cdv ct) ⟨us, []⟩ = pure ((["self", "value"] : List Str).zip us)) :
    (∃ fI fd, ExcT K mg x qual i C fI fd) ∧ ExcC K C ∧ OexL K C := by
  have F := fun_mk (st := inClass (top i) 0) l c k
  exact ⟨⟨fI, _, ⟨⟨ga, gg, eC, hC⟩, PySem.W.mg_of X G a, a1, t1, F, F.binds b, nV⟩⟩, ⟨ga, gg, eC, hC, ca, cn, ct', cm⟩, ⟨⟨nm, q, N, bs, bm, sn, sub, ab, col, dd, m0, m1, m2, m3, m5, xL, hbm⟩, sa, eC, tC, kC⟩⟩
/-- a def whose defaults stand in a tuple -/
theorem funD_mk {K : PySem.W.Frag} {x qual : Str} {de : Stmt} {f T : Addr} {oc kV doc pm cdv ct tc : Value} {od an td : Option Addr} {osl ts : Array (Option Value)} {its : List Value} {n : Nat} {dvs : List V}
    (l : K.lookup f = some ⟨oc, od, .func (PySem.W.fnOf x qual (defArgs de) (defBody de) (defScope de) (.ref T) kV doc pm an cdv ct), osl⟩) (lT : K.lookup T = some ⟨tc, td, .seq its.toArray n, ts⟩) (r : Vals dvs its) (ne : dvs ≠ []) (c : PySem.W.codeIn K cdv qual = true) (k : PySem.W.keepIn K (.ref f) = true) :
    FunD K x qual (defArgs de) (defBody de) (defScope de) dvs [] f (PySem.W.fnOf x qual (defArgs de) (defBody de) (defScope de) (.ref T) kV doc pm an cdv ct) :=
  ⟨⟨oc, od, .ref T, kV, doc, pm, an, cdv, ct, osl, rfl, l, c, .inr ⟨ne, T, _, its, n, rfl, lT, rfl, r⟩, .inl rfl⟩, k⟩
theorem binds_all {K : PySem.W.Frag} {x qual : Str} {de : Stmt} {f : Addr} {fd : FuncData} {ps : List Str} {dvs : List V} (F : FunD K x qual (defArgs de) (defBody de) (defScope de) dvs [] f fd) (ne : dvs ≠ [])
    (b : ∀ (T : Addr) (kV doc pm : Value) (an : Option Addr) (cdv ct : Value) (us its : List Value), us.length = ps.length → its.length = dvs.length → ∃ k, bindArgs (PySem.W.fnOf x qual (defArgs de) (defBody de) (defScope de) (.ref T) kV doc pm an cdv ct) ⟨us, []⟩ = seqItems? (.ref T) >>= k ∧ k (some its.toArray) = pure (ps.zip us)) : Binds K fd ps [] := by
  obtain ⟨ds, r, q⟩ := F.binds1 (ps := ps) ps.length dvs.length ne (by omega) fun T kV doc pm an cdv ct us its h1 h2 => by
    obtain ⟨k, e1, e2⟩ := b T kV doc pm an cdv ct us its h1 h2
    refine ⟨k, e1, ?_⟩
    rw [List.drop_of_length_le (by omega), List.append_nil]
    exact e2
  rw [List.drop_of_length_le (Nat.le_refl _)] at r
  cases r
  exact q
theorem atD_mk {K : PySem.W.Frag} {h : Heap} {mg : Str → Option Value} {x : Str} {de : Stmt} {ps : List Str} {f T : Addr} {oc kV doc pm cdv ct tc : Value} {od an td : Option Addr} {osl ts : Array (Option Value)} {its : List Value} {n : Nat} {dvs : List V} (X : K.In h) (G : h.Ns mainGlobals mg)
    (a : PySem.W.nsIn K mainGlobals x = some (some (.ref f)))
    (l : K.lookup f = some ⟨oc, od, .func (PySem.W.fnOf x x (defArgs de) (defBody de) (defScope de) (.ref T) kV doc pm an cdv ct), osl⟩) (lT : K.lookup T = some ⟨tc, td, .seq its.toArray n, ts⟩) (r : Vals dvs its) (ne : dvs ≠ []) (c : PySem.W.codeIn K cdv x = true) (k : PySem.W.keepIn K (.ref f) = true)
    (b : ∀ (T : Addr) (kV doc pm : Value) (an : Option Addr) (cdv ct : Value) (us its : List Value), us.length = ps.length → its.length = dvs.length → ∃ k, bindArgs (PySem.W.fnOf x x (defArgs de) (defBody de) (defScope de) (.ref T) kV doc pm an cdv ct) ⟨us, []⟩ = seqItems? (.ref T) >>= k ∧ k (some its.toArray) = pure (ps.zip us)) :
    ∃ f fd, AtD K mg x de dvs ps f fd := by
  have F := funD_mk (de := de) l lT r ne c k
  exact ⟨f, _, F, PySem.W.mg_of X G a, binds_all F ne b⟩
theorem mth_mk {K : PySem.W.Frag} {x qual : Str} {de : Stmt} {ps : List Str} {C f : Addr} {oc kV doc pm cdv ct : Value} {od an : Option Addr} {osl : Array (Option Value)} (b : ∀ (kV doc pm : Value) (an : Option Addr) (cdv ct : Value) (us : List Value), us.length = ps.length → bindArgs (PySem.W.fnOf x qual (defArgs de) (defBody de) (defScope de) .none kV doc pm an cdv ct) ⟨us, []⟩ = pure (ps.zip us))
    (l : K.lookup f = some ⟨oc, od, .func (PySem.W.fnOf x qual (defArgs de) (defBody de) (defScope de) .none kV doc pm an cdv ct), osl⟩) (c : PySem.W.codeIn K cdv qual = true) (k : PySem.W.keepIn K (.ref f) = true) (at_ : PySem.W.findIn K (.ref C) x = some (some (.ref f))) (fn : PySem.W.isFn K (.ref f) = true) : ∃ f fd, MthT K C x qual de ps f fd := by
  have F := fun_mk (st := de) l c k
  exact ⟨f, _, F, ⟨at_, fn, k⟩, F.binds b⟩
theorem init_mk {K : PySem.W.Frag} {x qual : Str} {de : Stmt} {ps : List Str} {C f T : Addr} {oc kV doc pm cdv ct tc : Value} {od an td : Option Addr} {osl ts : Array (Option Value)} {its : List Value} {n : Nat} {d : V} {dr : List V}
    (l : K.lookup f = some ⟨oc, od, .func (PySem.W.fnOf x qual (defArgs de) (defBody de) (defScope de) (.ref T) kV doc pm an cdv ct), osl⟩) (lT : K.lookup T = some ⟨tc, td, .seq its.toArray n, ts⟩) (r : Vals (d :: dr) its) (c : PySem.W.codeIn K cdv qual = true) (k : PySem.W.keepIn K (.ref f) = true)
    (at_ : PySem.W.findIn K (.ref C) x = some (some (.ref f))) (fn : PySem.W.isFn K (.ref f) = true)
    (b : ∀ (T : Addr) (kV doc pm : Value) (an : Option Addr) (cdv ct : Value) (us its : List Value), us.length = ps.length → its.length = (d :: dr).length → ∃ k, bindArgs (PySem.W.fnOf x qual (defArgs de) (defBody de) (defScope de) (.ref T) kV doc pm an cdv ct) ⟨us, []⟩ = seqItems? (.ref T) >>= k ∧ k (some its.toArray) = pure (ps.zip us)) :
    ∃ f fd dvs, FunD K x qual (defArgs de) (defBody de) (defScope de) dvs [] f fd ∧ PySem.W.findIn K (.ref C) x = some (some (.ref f)) ∧ PySem.W.isFn K (.ref f) = true ∧ Binds K fd ps [] := by
  have F := funD_mk (de := de) l lT r (List.cons_ne_nil _ _) c k
  exact ⟨f, _, _, F, at_, fn, binds_all F (List.cons_ne_nil _ _) b⟩
theorem facts {K : PySem.W.Frag} {h : Heap} {mg : Str → Option Value} {l : PySem.W.OpenLaw} {w : World} {fa C qdK qdM CS CL CW CF CU CE cA cB PA PB : Addr} {cdA cdB : Option Addr} {cvA cvB : Array Value} {clA clB : Array (Option Value)} {eK eM : Array DictEntry} {nK nM : Nat} (X : K.In h) (G : h.Ns mainGlobals mg) (hfa : mg "law" = some (.ref fa))
    (A_integer : ∃ f fd, At K mg "is_integer" (top 23) ["value"] f fd)
    (A_bit : ∃ f fd, At K mg "is_bit" (top 24) ["value"] f fd)
    (A_name : ∃ f fd, At K mg "is_name" (top 25) ["value"] f fd)
    (A_lst : ∃ f fd, At K mg "is_list" (top 26) ["value"] f fd)
    (A_letter : ∃ f fd, At K mg "is_letter" (top 27) ["value", "width"] f fd)
    (A_word : ∃ f fd, At K mg "is_word" (top 28) ["value", "width"] f fd)
    (A_kind : ∃ f fd, At K mg "is_kind" (top 29) ["value"] f fd)
    (A_numberOf : ∃ f fd, At K mg "number_of" (top 30) ["bits"] f fd)
    (A_bitOf : ∃ f fd, At K mg "bit_of" (top 31) ["kind", "bits"] f fd)
    (A_cInputs : ∃ f fd, At K mg "check_inputs" (top 33) ["inputs"] f fd)
    (A_isGate : ∃ f fd, At K mg "is_gate" (top 34) ["value"] f fd)
    (A_cGates : ∃ f fd, At K mg "check_gates" (top 35) ["gates", "inputs"] f fd)
    (A_isReg : ∃ f fd, At K mg "is_register" (top 36) ["value"] f fd)
    (A_cRegs : ∃ f fd, At K mg "check_registers" (top 37) ["registers", "taken"] f fd)
    (A_cSources : ∃ f fd, At K mg "check_sources" (top 38) ["sources", "wires"] f fd)
    (A_cOutputs : ∃ f fd, At K mg "check_outputs" (top 39) ["outputs", "wires"] f fd)
    (A_cNumber : ∃ f fd, At K mg "check_number" (top 40) ["what", "rows", "limit"] f fd)
    (A_seqOf : ∃ f fd, At K mg "sequence_of" (top 41) ["sources"] f fd)
    (A_gateOnRing : ∃ f fd, At K mg "gate_on_ring" (top 43) ["sources"] f fd)
    (A_cNoRing : ∃ f fd, At K mg "check_no_ring" (top 44) ["sources"] f fd)
    (A_cWire : ∃ f fd, At K mg "check_wire" (top 45) ["circuit", "wire"] f fd)
    (A_cState : ∃ f fd, At K mg "check_state" (top 46) ["circuit", "state"] f fd)
    (A_cLetter : ∃ f fd, At K mg "check_letter" (top 47) ["circuit", "letter"] f fd)
    (A_cWord : ∃ f fd, At K mg "check_word" (top 48) ["circuit", "word"] f fd)
    (A_isFault : ∃ f fd, At K mg "is_fault" (top 49) ["circuit", "value"] f fd)
    (A_cStuck : ∃ f fd, At K mg "check_stuck" (top 50) ["circuit", "stuck"] f fd)
    (A_planOf : ∃ f fd, At K mg "plan_of" (top 52) ["circuit"] f fd)
    (A_saidBy : ∃ f fd, At K mg "said_by" (top 53) ["circuit", "plan", "state", "letter", "stuck"] f fd)
    (A_nextState : ∃ f fd, At K mg "next_state" (top 54) ["circuit", "said"] f fd)
    (A_course : ∃ f fd, At K mg "course" (top 55) ["circuit", "wires", "word", "state", "stuck"] f fd)
    (A_cCourse : ∃ f fd, At K mg "check_course" (top 56) ["circuit", "word", "state", "stuck"] f fd)
    (A_cStep : ∃ f fd, At K mg "check_step" (top 57) ["circuit", "state", "letter", "stuck"] f fd)
    (A_size : ∃ f fd, At K mg "_law_size" (top 70) ["_law_sort"] f fd)
    (A_pot : ∃ f fd, At K mg "_law_pot" (top 71) ["_law_script", "_law_k"] f fd)
    (A_draw : ∃ f fd, At K mg "_law_draw" (top 72) ["_law_pot_here", "_law_many"] f fd)
    (A_pick : ∃ f fd, At K mg "_law_pick" (top 73) ["_law_pot_here", "_law_some"] f fd)
    (A_mixed : ∃ f fd, At K mg "_law_mixed" (top 74) ["_law_pot_here", "_law_some"] f fd)
    (A_plan : ∃ f fd, At K mg "_law_plan" (top 75) ["_law_pot_here", "_law_most"] f fd)
    (A_circuit : ∃ f fd, At K mg "_law_circuit" (top 76) ["_law_pot_here", "_law_plan_here"] f fd)
    (A_tags : ∃ f fd, At K mg "_law_tags" (top 77) ["_law_plan_here"] f fd)
    (A_heard : ∃ f fd, At K mg "_law_heard" (top 78) ["_law_call"] f fd)
    (A_noBits : ∃ f fd, At K mg "_law_no_bits" (top 79) ["_law_pot_here", "_law_many"] f fd)
    (A_noWords : ∃ f fd, At K mg "_law_no_words" (top 80) ["_law_pot_here", "_law_many"] f fd)
    (A_noFaults : ∃ f fd, At K mg "_law_no_faults" (top 81) ["_law_tags_here"] f fd)
    (A_stepsR : ∃ f fd, At K mg "_law_steps_right" (top 82) ["_law_pot_here", "_law_made", "_law_plan_here", "_law_good"] f fd ∧ fd.code = .ref cA)
    (KA : K.lookup cA = some ⟨.type "code", cdA, .fields cvA, clA⟩)
    (VA : cvA[11]? = some (.ref PA))
    (DA : PySem.W.codeHdIn K cA PA = true)
    (LA : K.lookup PA = none)
    (HA : h.get? PA = some { cls := .none, data := .fields #[] })
    (A_wordsR : ∃ f fd, At K mg "_law_words_right" (top 83) ["_law_pot_here", "_law_made", "_law_plan_here", "_law_good"] f fd ∧ fd.code = .ref cB)
    (KB : K.lookup cB = some ⟨.type "code", cdB, .fields cvB, clB⟩)
    (VB : cvB[11]? = some (.ref PB))
    (DB : PySem.W.codeHdIn K cB PB = true)
    (LB : K.lookup PB = none)
    (HB : h.get? PB = some { cls := .none, data := .fields #[] })
    (A_right : ∃ f fd, At K mg "_law_right" (top 84) ["_law_pot_here"] f fd)
    (A_values : ∃ f fd, AtD K mg "values" (top 58) [.non] ["circuit", "state", "letter", "stuck"] f fd)
    (A_step : ∃ f fd, AtD K mg "step" (top 59) [.non] ["circuit", "state", "letter", "stuck"] f fd)
    (A_answer : ∃ f fd, AtD K mg "answer" (top 60) [.non, .non] ["circuit", "word", "state", "stuck"] f fd)
    (A_statesA : ∃ f fd, AtD K mg "states_along" (top 61) [.non, .non] ["circuit", "word", "state", "stuck"] f fd)
    (A_told : ∃ f fd, AtD K mg "told" (top 62) [.non, .non] ["circuit", "wire", "word", "state", "stuck"] f fd)
    (A_law : ∃ f fd, At K mg "law" (top 85) ["_law_script"] f fd)
    (N_isinstance : mg "isinstance" = none)
    (N_int : mg "int" = none)
    (N_bool : mg "bool" = none)
    (N_str : mg "str" = none)
    (N_list : mg "list" = none)
    (N_tuple : mg "tuple" = none)
    (N_len : mg "len" = none)
    (N_all : mg "all" = none)
    (N_abs : mg "abs" = none)
    (N_max : mg "max" = none)
    (N_min : mg "min" = none)
    (N_divmod : mg "divmod" = none)
    (N_range : mg "range" = none)
    (N_repr : mg "repr" = none)
    (N_dict : mg "dict" = none)
    (N_sorted : mg "sorted" = none)
    (N_zip : mg "zip" = none)
    (N_enumerate : mg "enumerate" = none)
    (N_ValueError : mg "ValueError" = none)
    (N_LookupError : mg "LookupError" = none)
    (N_small : ∃ t, mg "SMALL" = some (.str "abcdefghijklmnopqrstuvwxyz" t))
    (N_digits : ∃ t, mg "DIGITS" = some (.str "0123456789" t))
    (N_longest : ∃ t, mg "LONGEST_NAME" = some (.int 12 t))
    (N_mInputs : ∃ t, mg "MOST_INPUTS" = some (.int 8 t))
    (N_mGates : ∃ t, mg "MOST_GATES" = some (.int 200 t))
    (N_mRegisters : ∃ t, mg "MOST_REGISTERS" = some (.int 8 t))
    (N_mOutputs : ∃ t, mg "MOST_OUTPUTS" = some (.int 8 t))
    (N_push : mg "heappush" = some (.builtin "_heapq.heappush"))
    (N_popH : mg "heappop" = some (.builtin "_heapq.heappop"))
    (aC : PySem.W.nsIn K mainGlobals "Circuit" = some (some (.ref C)))
    (c_pg : PySem.W.plainGet K C Str.empty = true)
    (c_hd : PySem.W.hasDictIn K C = true)
    (c_po : PySem.W.plainOver K C = true)
    (c_sa : PySem.W.findIn K (.ref C) "__setattr__" = some (some (.builtin "object.__setattr__")))
    (c_kp : PySem.W.keepIn K (.ref C) = true)
    (c_mk : PySem.W.makesIn K C = true)
    (c_ca : PySem.W.findIn K (.ref C) "__class__" = some (some (.builtin "object.__class__")))
    (c_cn : PySem.W.specialIn K (.builtin "object.__class__") "__get__" = some (some (.builtin "getset_descriptor.__get__")))
    (c_ct : PySem.W.takesIn K (.builtin "object.__class__") = some true)
    (c_cm : PySem.W.mroIn K C (.type "object") = some true)
    (c_is : PySem.W.kitOne K (.ref C) (.ref C) = some true)
    (c_n_inputs : PySem.W.findIn K (.ref C) "_inputs" = some none)
    (c_n_gates : PySem.W.findIn K (.ref C) "_gates" = some none)
    (c_n_registers : PySem.W.findIn K (.ref C) "_registers" = some none)
    (c_n_outputs : PySem.W.findIn K (.ref C) "_outputs" = some none)
    (c_n_sources : PySem.W.findIn K (.ref C) "_sources" = some none)
    (c_n_kinds : PySem.W.findIn K (.ref C) "_kinds" = some none)
    (c_n_sequence : PySem.W.findIn K (.ref C) "_sequence" = some none)
    (M_inputs : ∃ f fd, MthT K C "inputs" "Circuit.inputs" (dM 1) ["self"] f fd)
    (M_gates : ∃ f fd, MthT K C "gates" "Circuit.gates" (dM 2) ["self"] f fd)
    (M_registers : ∃ f fd, MthT K C "registers" "Circuit.registers" (dM 3) ["self"] f fd)
    (M_outputs : ∃ f fd, MthT K C "outputs" "Circuit.outputs" (dM 4) ["self"] f fd)
    (M_wires : ∃ f fd, MthT K C "wires" "Circuit.wires" (dM 5) ["self"] f fd)
    (M_first : ∃ f fd, MthT K C "first" "Circuit.first" (dM 6) ["self"] f fd)
    (M_kind : ∃ f fd, MthT K C "kind" "Circuit.kind" (dM 7) ["self", "wire"] f fd)
    (M_sources : ∃ f fd, MthT K C "sources" "Circuit.sources" (dM 8) ["self", "wire"] f fd)
    (M_sequence : ∃ f fd, MthT K C "sequence" "Circuit.sequence" (dM 11) ["self"] f fd)
    (M_cont : ∃ f fd, MthT K C "__contains__" "Circuit.__contains__" (dM 13) ["self", "value"] f fd)
    (M_eq : ∃ f fd, MthT K C "__eq__" "Circuit.__eq__" (dM 14) ["self", "other"] f fd)
    (M_init : ∃ f fd dvs, FunD K "__init__" "Circuit.__init__" (defArgs (dM 0)) (defBody (dM 0)) (defScope (dM 0)) dvs [] f fd ∧ PySem.W.findIn K (.ref C) "__init__" = some (some (.ref f)) ∧ PySem.W.isFn K (.ref f) = true ∧ Binds K fd ["self", "inputs", "gates", "registers", "outputs"] [])
    (ES : (∃ fI fd, ExcT K mg "InvalidState" "InvalidState.__init__" 12 CS fI fd) ∧ ExcC K CS ∧ OexC K CS)
    (EL : (∃ fI fd, ExcT K mg "InvalidLetter" "InvalidLetter.__init__" 10 CL fI fd) ∧ ExcC K CL ∧ OexC K CL)
    (EW : (∃ fI fd, ExcT K mg "InvalidWord" "InvalidWord.__init__" 11 CW fI fd) ∧ ExcC K CW ∧ OexC K CW)
    (EF : (∃ fI fd, ExcT K mg "InvalidFault" "InvalidFault.__init__" 13 CF fI fd) ∧ ExcC K CF ∧ OexC K CF)
    (EU : (∃ fI fd, ExcT K mg "UnknownWire" "UnknownWire.__init__" 15 CU fI fd) ∧ ExcC K CU ∧ OexL K CU)
    (aE : PySem.W.nsIn K mainGlobals "WireError" = some (some (.ref CE)))
    (SSS : PySem.W.subIn K (.ref CS) (.ref CS) = some true)
    (SLL : PySem.W.subIn K (.ref CL) (.ref CL) = some true)
    (SWW : PySem.W.subIn K (.ref CW) (.ref CW) = some true)
    (SFF : PySem.W.subIn K (.ref CF) (.ref CF) = some true)
    (SUU : PySem.W.subIn K (.ref CU) (.ref CU) = some true)
    (SLS : PySem.W.subIn K (.ref CL) (.ref CS) = some false)
    (SWS : PySem.W.subIn K (.ref CW) (.ref CS) = some false)
    (SWL : PySem.W.subIn K (.ref CW) (.ref CL) = some false)
    (SFS : PySem.W.subIn K (.ref CF) (.ref CS) = some false)
    (SFL : PySem.W.subIn K (.ref CF) (.ref CL) = some false)
    (SFW : PySem.W.subIn K (.ref CF) (.ref CW) = some false)
    (SUS : PySem.W.subIn K (.ref CU) (.ref CS) = some false)
    (SUL : PySem.W.subIn K (.ref CU) (.ref CL) = some false)
    (SUW : PySem.W.subIn K (.ref CU) (.ref CW) = some false)
    (SUF : PySem.W.subIn K (.ref CU) (.ref CF) = some false)
    (IS : PySem.W.kitOne K (.ref CS) (.ref CE) = some true)
    (IL : PySem.W.kitOne K (.ref CL) (.ref CE) = some true)
    (IW : PySem.W.kitOne K (.ref CW) (.ref CE) = some true)
    (IF : PySem.W.kitOne K (.ref CF) (.ref CE) = some true)
    (IV : PySem.W.kitOne K (.ref CS) (.type "ValueError") = some true)
    (IU : PySem.W.kitOne K (.ref CU) (.type "LookupError") = some true)
    (hP : PA ≠ PB)
    (aK : PySem.W.nsIn K mainGlobals "KINDS" = some (some (.ref qdK)))
    (lK : K.lookup qdK = some ⟨.type "dict", none, .dict eK nK, #[]⟩)
    (yK : PySem.W.KeysLit w.params eK.toList)
    (rK : KEs isInt eK.toList kindsL)
    (sK : (qdK == sysModules) = false)
    (aM : PySem.W.nsIn K mainGlobals "MADE" = some (some (.ref qdM)))
    (lM : K.lookup qdM = some ⟨.type "dict", none, .dict eM nM, #[]⟩)
    (yM : PySem.W.KeysLit w.params eM.toList)
    (rM : KEs (isBits K) eM.toList madeL)
    (sM : (qdM == sysModules) = false) : LawAt l w K 12 63 "_law_script" mg fa h := by
  obtain ⟨f, fd, F⟩ := A_law
  have e := hfa.symm.trans F.gl
  cases e
  have bl : ∀ (s : Shared) (u : Value), BindsTo s fd ⟨[u], []⟩ [("_law_script", u)] := by
    obtain ⟨oc, od, kV, doc, pm, an, cdv, ct, osl, rfl, _, _⟩ := F.fn.ex
    exact fun s u => .of_eq rfl
  obtain ⟨fA, gA, FA, hA⟩ := A_stepsR
  obtain ⟨fB, gB, FB, hB⟩ := A_wordsR
  have T : Txt K mg := { integer := A_integer, bit := A_bit, name := A_name, lst := A_lst, letter := A_letter, word := A_word, kind := A_kind, numberOf := A_numberOf, bitOf := A_bitOf, cInputs := A_cInputs, isGate := A_isGate, cGates := A_cGates, isReg := A_isReg, cRegs := A_cRegs, cSources := A_cSources, cOutputs := A_cOutputs, cNumber := A_cNumber, seqOf := A_seqOf, gateOnRing := A_gateOnRing, cNoRing := A_cNoRing, cWire := A_cWire, cState := A_cState, cLetter := A_cLetter, cWord := A_cWord, isFault := A_isFault, cStuck := A_cStuck, planOf := A_planOf, saidBy := A_saidBy, nextState := A_nextState, course := A_course, cCourse := A_cCourse, cStep := A_cStep, size := A_size, pot := A_pot, draw := A_draw, pick := A_pick, mixed := A_mixed, plan := A_plan, circuit := A_circuit, tags := A_tags, heard := A_heard, noBits := A_noBits, noWords := A_noWords, noFaults := A_noFaults, right := A_right, values := A_values, step := A_step, answer := A_answer, statesA := A_statesA, told := A_told, isinstance := N_isinstance, int := N_int, bool := N_bool, str := N_str, list := N_list, tuple := N_tuple, len := N_len, all := N_all, abs := N_abs, max := N_max, min := N_min, divmod := N_divmod, range := N_range, repr := N_repr, dict := N_dict, sorted := N_sorted, zip := N_zip, enumerate := N_enumerate, ValueError := N_ValueError, LookupError := N_LookupError, small := N_small, digits := N_digits, longest := N_longest, mInputs := N_mInputs, mGates := N_mGates, mRegisters := N_mRegisters, mOutputs := N_mOutputs, push := N_push, popH := N_popH, stepsR := ⟨_, _, FA⟩, wordsR := ⟨_, _, FB⟩ }
  have DT : DicT K w mg := ⟨⟨qdK, eK, nK, PySem.W.mg_of X G aK, ⟨lK, yK, sK⟩, rK⟩, ⟨qdM, eM, nM, PySem.W.mg_of X G aM, ⟨lM, yM, sM⟩, rM⟩⟩
  have KC : Cls K C := ⟨c_pg, c_hd, c_po, c_sa⟩
  have CT : CirT K mg C := { gl := PySem.W.mg_of X G aC, cl := KC, kp := c_kp, makes := c_mk, isC := c_is, ty := fun H a dx fs e => .ins e KC c_ca c_cn c_ct c_cm, eqIn := (by obtain ⟨f, fd, q⟩ := M_eq; exact ⟨f, q.me.at_⟩), n_inputs := c_n_inputs, n_gates := c_n_gates, n_registers := c_n_registers, n_outputs := c_n_outputs, n_sources := c_n_sources, n_kinds := c_n_kinds, n_sequence := c_n_sequence, inputs := M_inputs, gates := M_gates, registers := M_registers, outputs := M_outputs, wires := M_wires, first := M_first, kind := M_kind, sources := M_sources, sequence := M_sequence, cont := M_cont, eq := M_eq, init := M_init }
  obtain ⟨⟨iS, dS, TS⟩, YS, OS⟩ := ES
  obtain ⟨⟨iL, dL, TL⟩, YL, OL⟩ := EL
  obtain ⟨⟨iW, dW, TW⟩, YW, OW⟩ := EW
  obtain ⟨⟨iF, dF, TF⟩, YF, OF⟩ := EF
  obtain ⟨⟨iU, dU, TU⟩, YU, OU⟩ := EU
  have TE : Errs K mg CS CL CF CW CU iS iL iF iW iU dS dL dF dW dU := ⟨TS, TL, TF, TW, TU, OS, OL, OF, OW, OU⟩
  have xm : ∀ {cls : Value} {D : Addr} {b : Bool}, PySem.W.subIn K (.ref D) (.type "BaseException") = some true → PySem.W.hasDictIn K D = true → PySem.W.typeIn K (.ref D) = some (.type "type") → PySem.W.subIn K cls (.ref D) = some b → PySem.W.exmOne K cls (.ref D) = some b := fun a b c d => PySem.W.exm_ref a b c d
  have TH : HearT K mg CS CL CW CF CU CE := { s := ⟨TS.gl, TS.xf, YS, TS.noV, xm OS.exC TS.xf.hdC OS.tyC SSS⟩, l := ⟨TL.gl, TL.xf, YL, TL.noV, xm OL.exC TL.xf.hdC OL.tyC SLL⟩, w := ⟨TW.gl, TW.xf, YW, TW.noV, xm OW.exC TW.xf.hdC OW.tyC SWW⟩, f := ⟨TF.gl, TF.xf, YF, TF.noV, xm OF.exC TF.xf.hdC OF.tyC SFF⟩, u := ⟨TU.gl, TU.xf, YU, TU.noV, xm OU.exc TU.xf.hdC OU.ty SUU⟩, ce := PySem.W.mg_of X G aE, sE := IS, sV := IV, lE := IL, wE := IW, fE := IF, uL := IU, ls := xm OS.exC TS.xf.hdC OS.tyC SLS, ws := xm OS.exC TS.xf.hdC OS.tyC SWS, wl := xm OL.exC TL.xf.hdC OL.tyC SWL, fs := xm OS.exC TS.xf.hdC OS.tyC SFS, fl := xm OL.exC TL.xf.hdC OL.tyC SFL, fw := xm OW.exC TW.xf.hdC OW.tyC SFW, us := xm OS.exC TS.xf.hdC OS.tyC SUS, ul := xm OL.exC TL.xf.hdC OL.tyC SUL, uw := xm OW.exC TW.xf.hdC OW.tyC SUW, uf := xm OF.exC TF.xf.hdC OF.tyC SUF }
  refine ⟨fd, [(cA, PA), (cB, PB)], spLaw K (tabs PA PB), fun p hp => ?_, fun p hp => ?_, fun p hp => ?_, fun s u => bl s u, fun H a ns hl _ ht hs => ?_, fun ba kb gb tb => ?_⟩
  · simp only [List.mem_cons, List.not_mem_nil, or_false] at hp
    rcases hp with rfl | rfl
    · exact HA
    · exact HB
  · simp only [List.mem_cons, List.not_mem_nil, or_false] at hp
    rcases hp with rfl | rfl
    · exact LA
    · exact LB
  · simp only [List.mem_cons, List.not_mem_nil, or_false] at hp
    rcases hp with rfl | rfl
    · exact PySem.W.codeHd_of_K X DA
    · exact PySem.W.codeHd_of_K X DB
  · refine ⟨a, ns, rfl, hs, by omega, fun p hp => ?_, fun _ => rfl⟩
    simp only [tabs, List.mem_cons, List.not_mem_nil, or_false] at hp
    rcases hp with rfl | rfl
    · exact .nil (ht (cA, PA) (by simp))
    · exact .nil (ht (cB, PB) (by simp))
  · exact okLaw F T CT DT TE TH FA hA FB hB (tb (cA, PA) (by simp)) (tb (cB, PB) (by simp)) hP
end W

set_option Elab.async false
set_option linter.all false
set_option maxRecDepth 100000
open PySem PySem.W PySem.Calls PyProof.Rows
set_option maxRecDepth 100000 in
set_option maxHeartbeats 0 in
theorem PySem.Challenge.cw_wirewords_k14_runs_refused_holds : PySem.Challenge.rw_wirewords_k14_runs_refused.Holds := by
  w_on; o_law
  refine W.holdsH (by kernel_rfl) (by assumption) ?hw ?hc
  case hw => w_witness2
  case hc =>
   unfold W.hookH; k_fill
   refine G.walk (l := PySem.Challenge.rw_wirewords_k14_runs_refused) (most := 63) (n := 12) (x := "_law_script") rfl (by decide) (by kernel_rfl) ⟨rfl, by decide, by decide⟩ (fun w h Y => km_in_of Y) ?F
   case F =>
    intro w mg fa h Y KX G hmg0
    have hmg : mg ("law" : PySem.Str) = some (.ref fa) := by
      have e : (HandSHeadRun.topDef W.rowH.prog 85).name = ("law" : PySem.Str) := by kernel_rfl
      rw [← e]
      exact hmg0
    refine' W.facts KX G hmg ?z_A_integer ?z_A_bit ?z_A_name ?z_A_lst ?z_A_letter ?z_A_word ?z_A_kind ?z_A_numberOf ?z_A_bitOf ?z_A_cInputs ?z_A_isGate ?z_A_cGates ?z_A_isReg ?z_A_cRegs ?z_A_cSources ?z_A_cOutputs ?z_A_cNumber ?z_A_seqOf ?z_A_gateOnRing ?z_A_cNoRing ?z_A_cWire ?z_A_cState ?z_A_cLetter ?z_A_cWord ?z_A_isFault ?z_A_cStuck ?z_A_planOf ?z_A_saidBy ?z_A_nextState ?z_A_course ?z_A_cCourse ?z_A_cStep ?z_A_size ?z_A_pot ?z_A_draw ?z_A_pick ?z_A_mixed ?z_A_plan ?z_A_circuit ?z_A_tags ?z_A_heard ?z_A_noBits ?z_A_noWords ?z_A_noFaults ?z_A_stepsR ?z_KA ?z_VA ?z_DA ?z_LA ?z_HA ?z_A_wordsR ?z_KB ?z_VB ?z_DB ?z_LB ?z_HB ?z_A_right ?z_A_values ?z_A_step ?z_A_answer ?z_A_statesA ?z_A_told ?z_A_law ?z_N_isinstance ?z_N_int ?z_N_bool ?z_N_str ?z_N_list ?z_N_tuple ?z_N_len ?z_N_all ?z_N_abs ?z_N_max ?z_N_min ?z_N_divmod ?z_N_range ?z_N_repr ?z_N_dict ?z_N_sorted ?z_N_zip ?z_N_enumerate ?z_N_ValueError ?z_N_LookupError ?z_N_small ?z_N_digits ?z_N_longest ?z_N_mInputs ?z_N_mGates ?z_N_mRegisters ?z_N_mOutputs ?z_N_push ?z_N_popH ?z_aC ?z_c_pg ?z_c_hd ?z_c_po ?z_c_sa ?z_c_kp ?z_c_mk ?z_c_ca ?z_c_cn ?z_c_ct ?z_c_cm ?z_c_is ?z_c_n_inputs ?z_c_n_gates ?z_c_n_registers ?z_c_n_outputs ?z_c_n_sources ?z_c_n_kinds ?z_c_n_sequence ?z_M_inputs ?z_M_gates ?z_M_registers ?z_M_outputs ?z_M_wires ?z_M_first ?z_M_kind ?z_M_sources ?z_M_sequence ?z_M_cont ?z_M_eq ?z_M_init ?z_ES ?z_EL ?z_EW ?z_EF ?z_EU ?z_aE ?z_SSS ?z_SLL ?z_SWW ?z_SFF ?z_SUU ?z_SLS ?z_SWS ?z_SWL ?z_SFS ?z_SFL ?z_SFW ?z_SUS ?z_SUL ?z_SUW ?z_SUF ?z_IS ?z_IL ?z_IW ?z_IF ?z_IV ?z_IU ?z_hP ?z_aK ?z_lK ?z_yK ?z_rK ?z_sK ?z_aM ?z_lM ?z_yM ?z_rM ?z_sM
    case z_A_integer =>
      refine' W.at_mk KX G (fun _ _ _ _ _ _ us hl => match us, hl with | [_], _ => rfl) ?a ?l ?c ?k
      (case a => k_is); (case l => k_is); (case c => k_is); (case k => k_is)
    case z_A_bit =>
      refine' W.at_mk KX G (fun _ _ _ _ _ _ us hl => match us, hl with | [_], _ => rfl) ?a ?l ?c ?k
      (case a => k_is); (case l => k_is); (case c => k_is); (case k => k_is)
    case z_A_name =>
      refine' W.at_mk KX G (fun _ _ _ _ _ _ us hl => match us, hl with | [_], _ => rfl) ?a ?l ?c ?k
      (case a => k_is); (case l => k_is); (case c => k_is); (case k => k_is)
    case z_A_lst =>
      refine' W.at_mk KX G (fun _ _ _ _ _ _ us hl => match us, hl with | [_], _ => rfl) ?a ?l ?c ?k
      (case a => k_is); (case l => k_is); (case c => k_is); (case k => k_is)
    case z_A_letter =>
      refine' W.at_mk KX G (fun _ _ _ _ _ _ us hl => match us, hl with | [_, _], _ => rfl) ?a ?l ?c ?k
      (case a => k_is); (case l => k_is); (case c => k_is); (case k => k_is)
    case z_A_word =>
      refine' W.at_mk KX G (fun _ _ _ _ _ _ us hl => match us, hl with | [_, _], _ => rfl) ?a ?l ?c ?k
      (case a => k_is); (case l => k_is); (case c => k_is); (case k => k_is)
    case z_A_kind =>
      refine' W.at_mk KX G (fun _ _ _ _ _ _ us hl => match us, hl with | [_], _ => rfl) ?a ?l ?c ?k
      (case a => k_is); (case l => k_is); (case c => k_is); (case k => k_is)
    case z_A_numberOf =>
      refine' W.at_mk KX G (fun _ _ _ _ _ _ us hl => match us, hl with | [_], _ => rfl) ?a ?l ?c ?k
      (case a => k_is); (case l => k_is); (case c => k_is); (case k => k_is)
    case z_A_bitOf =>
      refine' W.at_mk KX G (fun _ _ _ _ _ _ us hl => match us, hl with | [_, _], _ => rfl) ?a ?l ?c ?k
      (case a => k_is); (case l => k_is); (case c => k_is); (case k => k_is)
    case z_A_cInputs =>
      refine' W.at_mk KX G (fun _ _ _ _ _ _ us hl => match us, hl with | [_], _ => rfl) ?a ?l ?c ?k
      (case a => k_is); (case l => k_is); (case c => k_is); (case k => k_is)
    case z_A_isGate =>
      refine' W.at_mk KX G (fun _ _ _ _ _ _ us hl => match us, hl with | [_], _ => rfl) ?a ?l ?c ?k
      (case a => k_is); (case l => k_is); (case c => k_is); (case k => k_is)
    case z_A_cGates =>
      refine' W.at_mk KX G (fun _ _ _ _ _ _ us hl => match us, hl with | [_, _], _ => rfl) ?a ?l ?c ?k
      (case a => k_is); (case l => k_is); (case c => k_is); (case k => k_is)
    case z_A_isReg =>
      refine' W.at_mk KX G (fun _ _ _ _ _ _ us hl => match us, hl with | [_], _ => rfl) ?a ?l ?c ?k
      (case a => k_is); (case l => k_is); (case c => k_is); (case k => k_is)
    case z_A_cRegs =>
      refine' W.at_mk KX G (fun _ _ _ _ _ _ us hl => match us, hl with | [_, _], _ => rfl) ?a ?l ?c ?k
      (case a => k_is); (case l => k_is); (case c => k_is); (case k => k_is)
    case z_A_cSources =>
      refine' W.at_mk KX G (fun _ _ _ _ _ _ us hl => match us, hl with | [_, _], _ => rfl) ?a ?l ?c ?k
      (case a => k_is); (case l => k_is); (case c => k_is); (case k => k_is)
    case z_A_cOutputs =>
      refine' W.at_mk KX G (fun _ _ _ _ _ _ us hl => match us, hl with | [_, _], _ => rfl) ?a ?l ?c ?k
      (case a => k_is); (case l => k_is); (case c => k_is); (case k => k_is)
    case z_A_cNumber =>
      refine' W.at_mk KX G (fun _ _ _ _ _ _ us hl => match us, hl with | [_, _, _], _ => rfl) ?a ?l ?c ?k
      (case a => k_is); (case l => k_is); (case c => k_is); (case k => k_is)
    case z_A_seqOf =>
      refine' W.at_mk KX G (fun _ _ _ _ _ _ us hl => match us, hl with | [_], _ => rfl) ?a ?l ?c ?k
      (case a => k_is); (case l => k_is); (case c => k_is); (case k => k_is)
    case z_A_gateOnRing =>
      refine' W.at_mk KX G (fun _ _ _ _ _ _ us hl => match us, hl with | [_], _ => rfl) ?a ?l ?c ?k
      (case a => k_is); (case l => k_is); (case c => k_is); (case k => k_is)
    case z_A_cNoRing =>
      refine' W.at_mk KX G (fun _ _ _ _ _ _ us hl => match us, hl with | [_], _ => rfl) ?a ?l ?c ?k
      (case a => k_is); (case l => k_is); (case c => k_is); (case k => k_is)
    case z_A_cWire =>
      refine' W.at_mk KX G (fun _ _ _ _ _ _ us hl => match us, hl with | [_, _], _ => rfl) ?a ?l ?c ?k
      (case a => k_is); (case l => k_is); (case c => k_is); (case k => k_is)
    case z_A_cState =>
      refine' W.at_mk KX G (fun _ _ _ _ _ _ us hl => match us, hl with | [_, _], _ => rfl) ?a ?l ?c ?k
      (case a => k_is); (case l => k_is); (case c => k_is); (case k => k_is)
    case z_A_cLetter =>
      refine' W.at_mk KX G (fun _ _ _ _ _ _ us hl => match us, hl with | [_, _], _ => rfl) ?a ?l ?c ?k
      (case a => k_is); (case l => k_is); (case c => k_is); (case k => k_is)
    case z_A_cWord =>
      refine' W.at_mk KX G (fun _ _ _ _ _ _ us hl => match us, hl with | [_, _], _ => rfl) ?a ?l ?c ?k
      (case a => k_is); (case l => k_is); (case c => k_is); (case k => k_is)
    case z_A_isFault =>
      refine' W.at_mk KX G (fun _ _ _ _ _ _ us hl => match us, hl with | [_, _], _ => rfl) ?a ?l ?c ?k
      (case a => k_is); (case l => k_is); (case c => k_is); (case k => k_is)
    case z_A_cStuck =>
      refine' W.at_mk KX G (fun _ _ _ _ _ _ us hl => match us, hl with | [_, _], _ => rfl) ?a ?l ?c ?k
      (case a => k_is); (case l => k_is); (case c => k_is); (case k => k_is)
    case z_A_planOf =>
      refine' W.at_mk KX G (fun _ _ _ _ _ _ us hl => match us, hl with | [_], _ => rfl) ?a ?l ?c ?k
      (case a => k_is); (case l => k_is); (case c => k_is); (case k => k_is)
    case z_A_saidBy =>
      refine' W.at_mk KX G (fun _ _ _ _ _ _ us hl => match us, hl with | [_, _, _, _, _], _ => rfl) ?a ?l ?c ?k
      (case a => k_is); (case l => k_is); (case c => k_is); (case k => k_is)
    case z_A_nextState =>
      refine' W.at_mk KX G (fun _ _ _ _ _ _ us hl => match us, hl with | [_, _], _ => rfl) ?a ?l ?c ?k
      (case a => k_is); (case l => k_is); (case c => k_is); (case k => k_is)
    case z_A_course =>
      refine' W.at_mk KX G (fun _ _ _ _ _ _ us hl => match us, hl with | [_, _, _, _, _], _ => rfl) ?a ?l ?c ?k
      (case a => k_is); (case l => k_is); (case c => k_is); (case k => k_is)
    case z_A_cCourse =>
      refine' W.at_mk KX G (fun _ _ _ _ _ _ us hl => match us, hl with | [_, _, _, _], _ => rfl) ?a ?l ?c ?k
      (case a => k_is); (case l => k_is); (case c => k_is); (case k => k_is)
    case z_A_cStep =>
      refine' W.at_mk KX G (fun _ _ _ _ _ _ us hl => match us, hl with | [_, _, _, _], _ => rfl) ?a ?l ?c ?k
      (case a => k_is); (case l => k_is); (case c => k_is); (case k => k_is)
    case z_A_size =>
      refine' W.at_mk KX G (fun _ _ _ _ _ _ us hl => match us, hl with | [_], _ => rfl) ?a ?l ?c ?k
      (case a => k_is); (case l => k_is); (case c => k_is); (case k => k_is)
    case z_A_pot =>
      refine' W.at_mk KX G (fun _ _ _ _ _ _ us hl => match us, hl with | [_, _], _ => rfl) ?a ?l ?c ?k
      (case a => k_is); (case l => k_is); (case c => k_is); (case k => k_is)
    case z_A_draw =>
      refine' W.at_mk KX G (fun _ _ _ _ _ _ us hl => match us, hl with | [_, _], _ => rfl) ?a ?l ?c ?k
      (case a => k_is); (case l => k_is); (case c => k_is); (case k => k_is)
    case z_A_pick =>
      refine' W.at_mk KX G (fun _ _ _ _ _ _ us hl => match us, hl with | [_, _], _ => rfl) ?a ?l ?c ?k
      (case a => k_is); (case l => k_is); (case c => k_is); (case k => k_is)
    case z_A_mixed =>
      refine' W.at_mk KX G (fun _ _ _ _ _ _ us hl => match us, hl with | [_, _], _ => rfl) ?a ?l ?c ?k
      (case a => k_is); (case l => k_is); (case c => k_is); (case k => k_is)
    case z_A_plan =>
      refine' W.at_mk KX G (fun _ _ _ _ _ _ us hl => match us, hl with | [_, _], _ => rfl) ?a ?l ?c ?k
      (case a => k_is); (case l => k_is); (case c => k_is); (case k => k_is)
    case z_A_circuit =>
      refine' W.at_mk KX G (fun _ _ _ _ _ _ us hl => match us, hl with | [_, _], _ => rfl) ?a ?l ?c ?k
      (case a => k_is); (case l => k_is); (case c => k_is); (case k => k_is)
    case z_A_tags =>
      refine' W.at_mk KX G (fun _ _ _ _ _ _ us hl => match us, hl with | [_], _ => rfl) ?a ?l ?c ?k
      (case a => k_is); (case l => k_is); (case c => k_is); (case k => k_is)
    case z_A_heard =>
      refine' W.at_mk KX G (fun _ _ _ _ _ _ us hl => match us, hl with | [_], _ => rfl) ?a ?l ?c ?k
      (case a => k_is); (case l => k_is); (case c => k_is); (case k => k_is)
    case z_A_noBits =>
      refine' W.at_mk KX G (fun _ _ _ _ _ _ us hl => match us, hl with | [_, _], _ => rfl) ?a ?l ?c ?k
      (case a => k_is); (case l => k_is); (case c => k_is); (case k => k_is)
    case z_A_noWords =>
      refine' W.at_mk KX G (fun _ _ _ _ _ _ us hl => match us, hl with | [_, _], _ => rfl) ?a ?l ?c ?k
      (case a => k_is); (case l => k_is); (case c => k_is); (case k => k_is)
    case z_A_noFaults =>
      refine' W.at_mk KX G (fun _ _ _ _ _ _ us hl => match us, hl with | [_], _ => rfl) ?a ?l ?c ?k
      (case a => k_is); (case l => k_is); (case c => k_is); (case k => k_is)
    case z_A_stepsR =>
      refine' W.at_mkC KX G (fun _ _ _ _ _ _ us hl => match us, hl with | [_, _, _, _], _ => rfl) ?a ?l ?c ?k
      (case a => k_is); (case l => k_is); (case c => k_is); (case k => k_is)
    case z_KA => k_is
    case z_VA => rfl
    case z_DA => kernel_rfl
    case z_LA => first | k_is | rfl | kernel_rfl
    case z_HA => exact km_tabs_of Y _ (by decide)
    case z_A_wordsR =>
      refine' W.at_mkC KX G (fun _ _ _ _ _ _ us hl => match us, hl with | [_, _, _, _], _ => rfl) ?a ?l ?c ?k
      (case a => k_is); (case l => k_is); (case c => k_is); (case k => k_is)
    case z_KB => k_is
    case z_VB => rfl
    case z_DB => kernel_rfl
    case z_LB => first | k_is | rfl | kernel_rfl
    case z_HB => exact km_tabs_of Y _ (by decide)
    case z_A_right =>
      refine' W.at_mk KX G (fun _ _ _ _ _ _ us hl => match us, hl with | [_], _ => rfl) ?a ?l ?c ?k
      (case a => k_is); (case l => k_is); (case c => k_is); (case k => k_is)
    case z_A_values =>
      refine' W.atD_mk KX G ?a ?l ?lT ?r ?ne ?c ?k (fun _ _ _ _ _ _ _ us its hl hi => match us, its, hl, hi with | [_, _, _, _], [_], _, _ => ⟨_, rfl, rfl⟩)
      (case a => k_is); (case l => k_is); (case lT => k_is); (case r => exact (.cons rfl .nil)); (case ne => exact List.cons_ne_nil _ _); (case c => k_is); (case k => k_is)
    case z_A_step =>
      refine' W.atD_mk KX G ?a ?l ?lT ?r ?ne ?c ?k (fun _ _ _ _ _ _ _ us its hl hi => match us, its, hl, hi with | [_, _, _, _], [_], _, _ => ⟨_, rfl, rfl⟩)
      (case a => k_is); (case l => k_is); (case lT => k_is); (case r => exact (.cons rfl .nil)); (case ne => exact List.cons_ne_nil _ _); (case c => k_is); (case k => k_is)
    case z_A_answer =>
      refine' W.atD_mk KX G ?a ?l ?lT ?r ?ne ?c ?k (fun _ _ _ _ _ _ _ us its hl hi => match us, its, hl, hi with | [_, _, _, _], [_, _], _, _ => ⟨_, rfl, rfl⟩)
      (case a => k_is); (case l => k_is); (case lT => k_is); (case r => exact (.cons rfl (.cons rfl .nil))); (case ne => exact List.cons_ne_nil _ _); (case c => k_is); (case k => k_is)
    case z_A_statesA =>
      refine' W.atD_mk KX G ?a ?l ?lT ?r ?ne ?c ?k (fun _ _ _ _ _ _ _ us its hl hi => match us, its, hl, hi with | [_, _, _, _], [_, _], _, _ => ⟨_, rfl, rfl⟩)
      (case a => k_is); (case l => k_is); (case lT => k_is); (case r => exact (.cons rfl (.cons rfl .nil))); (case ne => exact List.cons_ne_nil _ _); (case c => k_is); (case k => k_is)
    case z_A_told =>
      refine' W.atD_mk KX G ?a ?l ?lT ?r ?ne ?c ?k (fun _ _ _ _ _ _ _ us its hl hi => match us, its, hl, hi with | [_, _, _, _, _], [_, _], _, _ => ⟨_, rfl, rfl⟩)
      (case a => k_is); (case l => k_is); (case lT => k_is); (case r => exact (.cons rfl (.cons rfl .nil))); (case ne => exact List.cons_ne_nil _ _); (case c => k_is); (case k => k_is)
    case z_A_law =>
      refine' W.at_mk KX G (fun _ _ _ _ _ _ us hl => match us, hl with | [_], _ => rfl) ?a ?l ?c ?k
      (case a => k_is); (case l => k_is); (case c => k_is); (case k => k_is)
    case z_N_isinstance =>
      refine' W.none_mk KX G ?a
      (case a => k_is)
    case z_N_int =>
      refine' W.none_mk KX G ?a
      (case a => k_is)
    case z_N_bool =>
      refine' W.none_mk KX G ?a
      (case a => k_is)
    case z_N_str =>
      refine' W.none_mk KX G ?a
      (case a => k_is)
    case z_N_list =>
      refine' W.none_mk KX G ?a
      (case a => k_is)
    case z_N_tuple =>
      refine' W.none_mk KX G ?a
      (case a => k_is)
    case z_N_len =>
      refine' W.none_mk KX G ?a
      (case a => k_is)
    case z_N_all =>
      refine' W.none_mk KX G ?a
      (case a => k_is)
    case z_N_abs =>
      refine' W.none_mk KX G ?a
      (case a => k_is)
    case z_N_max =>
      refine' W.none_mk KX G ?a
      (case a => k_is)
    case z_N_min =>
      refine' W.none_mk KX G ?a
      (case a => k_is)
    case z_N_divmod =>
      refine' W.none_mk KX G ?a
      (case a => k_is)
    case z_N_range =>
      refine' W.none_mk KX G ?a
      (case a => k_is)
    case z_N_repr =>
      refine' W.none_mk KX G ?a
      (case a => k_is)
    case z_N_dict =>
      refine' W.none_mk KX G ?a
      (case a => k_is)
    case z_N_sorted =>
      refine' W.none_mk KX G ?a
      (case a => k_is)
    case z_N_zip =>
      refine' W.none_mk KX G ?a
      (case a => k_is)
    case z_N_enumerate =>
      refine' W.none_mk KX G ?a
      (case a => k_is)
    case z_N_ValueError =>
      refine' W.none_mk KX G ?a
      (case a => k_is)
    case z_N_LookupError =>
      refine' W.none_mk KX G ?a
      (case a => k_is)
    case z_N_small =>
      refine' W.str_mk KX G ?a
      (case a => k_is)
    case z_N_digits =>
      refine' W.str_mk KX G ?a
      (case a => k_is)
    case z_N_longest =>
      refine' W.int_mk KX G ?a
      (case a => k_is)
    case z_N_mInputs =>
      refine' W.int_mk KX G ?a
      (case a => k_is)
    case z_N_mGates =>
      refine' W.int_mk KX G ?a
      (case a => k_is)
    case z_N_mRegisters =>
      refine' W.int_mk KX G ?a
      (case a => k_is)
    case z_N_mOutputs =>
      refine' W.int_mk KX G ?a
      (case a => k_is)
    case z_N_push =>
      refine' W.val_mk KX G ?a
      (case a => k_is)
    case z_N_popH =>
      refine' W.val_mk KX G ?a
      (case a => k_is)
    case z_aC => k_is
    case z_c_pg => k_is
    case z_c_hd => k_is
    case z_c_po => k_is
    case z_c_sa => k_is
    case z_c_kp => k_is
    case z_c_mk => k_is
    case z_c_ca => k_is
    case z_c_cn => k_is
    case z_c_ct => k_is
    case z_c_cm => k_is
    case z_c_is => kit_is
    case z_c_n_inputs => k_is
    case z_c_n_gates => k_is
    case z_c_n_registers => k_is
    case z_c_n_outputs => k_is
    case z_c_n_sources => k_is
    case z_c_n_kinds => k_is
    case z_c_n_sequence => k_is
    case z_M_inputs =>
      refine' W.mth_mk (fun _ _ _ _ _ _ us hl => match us, hl with | [_], _ => rfl) ?l ?c ?k ?fnd ?fn
      (case fnd => k_is); (case l => k_is); (case c => k_is); (case k => k_is); (case fn => k_is)
    case z_M_gates =>
      refine' W.mth_mk (fun _ _ _ _ _ _ us hl => match us, hl with | [_], _ => rfl) ?l ?c ?k ?fnd ?fn
      (case fnd => k_is); (case l => k_is); (case c => k_is); (case k => k_is); (case fn => k_is)
    case z_M_registers =>
      refine' W.mth_mk (fun _ _ _ _ _ _ us hl => match us, hl with | [_], _ => rfl) ?l ?c ?k ?fnd ?fn
      (case fnd => k_is); (case l => k_is); (case c => k_is); (case k => k_is); (case fn => k_is)
    case z_M_outputs =>
      refine' W.mth_mk (fun _ _ _ _ _ _ us hl => match us, hl with | [_], _ => rfl) ?l ?c ?k ?fnd ?fn
      (case fnd => k_is); (case l => k_is); (case c => k_is); (case k => k_is); (case fn => k_is)
    case z_M_wires =>
      refine' W.mth_mk (fun _ _ _ _ _ _ us hl => match us, hl with | [_], _ => rfl) ?l ?c ?k ?fnd ?fn
      (case fnd => k_is); (case l => k_is); (case c => k_is); (case k => k_is); (case fn => k_is)
    case z_M_first =>
      refine' W.mth_mk (fun _ _ _ _ _ _ us hl => match us, hl with | [_], _ => rfl) ?l ?c ?k ?fnd ?fn
      (case fnd => k_is); (case l => k_is); (case c => k_is); (case k => k_is); (case fn => k_is)
    case z_M_kind =>
      refine' W.mth_mk (fun _ _ _ _ _ _ us hl => match us, hl with | [_, _], _ => rfl) ?l ?c ?k ?fnd ?fn
      (case fnd => k_is); (case l => k_is); (case c => k_is); (case k => k_is); (case fn => k_is)
    case z_M_sources =>
      refine' W.mth_mk (fun _ _ _ _ _ _ us hl => match us, hl with | [_, _], _ => rfl) ?l ?c ?k ?fnd ?fn
      (case fnd => k_is); (case l => k_is); (case c => k_is); (case k => k_is); (case fn => k_is)
    case z_M_sequence =>
      refine' W.mth_mk (fun _ _ _ _ _ _ us hl => match us, hl with | [_], _ => rfl) ?l ?c ?k ?fnd ?fn
      (case fnd => k_is); (case l => k_is); (case c => k_is); (case k => k_is); (case fn => k_is)
    case z_M_cont =>
      refine' W.mth_mk (fun _ _ _ _ _ _ us hl => match us, hl with | [_, _], _ => rfl) ?l ?c ?k ?fnd ?fn
      (case fnd => k_is); (case l => k_is); (case c => k_is); (case k => k_is); (case fn => k_is)
    case z_M_eq =>
      refine' W.mth_mk (fun _ _ _ _ _ _ us hl => match us, hl with | [_, _], _ => rfl) ?l ?c ?k ?fnd ?fn
      (case fnd => k_is); (case l => k_is); (case c => k_is); (case k => k_is); (case fn => k_is)
    case z_M_init =>
      refine' W.init_mk ?l ?lT ?r ?c ?k ?fnd ?fn ?b
      (case fnd => k_is); (case l => k_is); (case lT => k_is); (case r => exact .cons (a := L2.V.ref _) rfl (.cons (a := L2.V.ref _) rfl (.cons (a := L2.V.ref _) rfl .nil))); (case c => k_is); (case k => k_is); (case fn => k_is); (case b => exact (fun _ _ _ _ _ _ _ us its hl hi => match us, its, hl, hi with | [_, _, _, _, _], [_, _, _], _, _ => ⟨_, rfl, rfl⟩))
    case z_ES =>
      refine' W.exc_mkC KX G ?a ?xL ?hbm ?sa ?ga ?gg ?nV ?kC ?eC ?tC ?hC ?ca ?cn ?ct ?cm ?a1 ?t1 ?l ?c ?k (fun _ _ _ _ _ _ us hl => match us, hl with | [_, _], _ => rfl)
      (case a => k_is); (case xL => k_is); (case hbm => rfl); (case sa => k_is); (case ga => k_is); (case gg => k_is); (case nV => k_is); (case kC => k_is); (case eC => k_is); (case tC => k_is); (case hC => k_is); (case ca => k_is); (case cn => k_is); (case ct => k_is); (case cm => k_is); (case a1 => k_is); (case t1 => k_is); (case l => k_is); (case c => k_is); (case k => k_is)
    case z_EL =>
      refine' W.exc_mkC KX G ?a ?xL ?hbm ?sa ?ga ?gg ?nV ?kC ?eC ?tC ?hC ?ca ?cn ?ct ?cm ?a1 ?t1 ?l ?c ?k (fun _ _ _ _ _ _ us hl => match us, hl with | [_, _], _ => rfl)
      (case a => k_is); (case xL => k_is); (case hbm => rfl); (case sa => k_is); (case ga => k_is); (case gg => k_is); (case nV => k_is); (case kC => k_is); (case eC => k_is); (case tC => k_is); (case hC => k_is); (case ca => k_is); (case cn => k_is); (case ct => k_is); (case cm => k_is); (case a1 => k_is); (case t1 => k_is); (case l => k_is); (case c => k_is); (case k => k_is)
    case z_EW =>
      refine' W.exc_mkC KX G ?a ?xL ?hbm ?sa ?ga ?gg ?nV ?kC ?eC ?tC ?hC ?ca ?cn ?ct ?cm ?a1 ?t1 ?l ?c ?k (fun _ _ _ _ _ _ us hl => match us, hl with | [_, _], _ => rfl)
      (case a => k_is); (case xL => k_is); (case hbm => rfl); (case sa => k_is); (case ga => k_is); (case gg => k_is); (case nV => k_is); (case kC => k_is); (case eC => k_is); (case tC => k_is); (case hC => k_is); (case ca => k_is); (case cn => k_is); (case ct => k_is); (case cm => k_is); (case a1 => k_is); (case t1 => k_is); (case l => k_is); (case c => k_is); (case k => k_is)
    case z_EF =>
      refine' W.exc_mkC KX G ?a ?xL ?hbm ?sa ?ga ?gg ?nV ?kC ?eC ?tC ?hC ?ca ?cn ?ct ?cm ?a1 ?t1 ?l ?c ?k (fun _ _ _ _ _ _ us hl => match us, hl with | [_, _], _ => rfl)
      (case a => k_is); (case xL => k_is); (case hbm => rfl); (case sa => k_is); (case ga => k_is); (case gg => k_is); (case nV => k_is); (case kC => k_is); (case eC => k_is); (case tC => k_is); (case hC => k_is); (case ca => k_is); (case cn => k_is); (case ct => k_is); (case cm => k_is); (case a1 => k_is); (case t1 => k_is); (case l => k_is); (case c => k_is); (case k => k_is)
    case z_EU =>
      refine' W.exc_mkL KX G ?a ?xL ?hbm ?sa ?ga ?gg ?nV ?kC ?eC ?tC ?hC ?ca ?cn ?ct ?cm ?a1 ?t1 ?l ?c ?k (fun _ _ _ _ _ _ us hl => match us, hl with | [_, _], _ => rfl)
      (case a => k_is); (case xL => k_is); (case hbm => exact ⟨[_], rfl⟩); (case sa => k_is); (case ga => k_is); (case gg => k_is); (case nV => k_is); (case kC => k_is); (case eC => k_is); (case tC => k_is); (case hC => k_is); (case ca => k_is); (case cn => k_is); (case ct => k_is); (case cm => k_is); (case a1 => k_is); (case t1 => k_is); (case l => k_is); (case c => k_is); (case k => k_is)
    case z_aE => k_is
    case z_SSS => k_is
    case z_SLL => k_is
    case z_SWW => k_is
    case z_SFF => k_is
    case z_SUU => k_is
    case z_SLS => k_is
    case z_SWS => k_is
    case z_SWL => k_is
    case z_SFS => k_is
    case z_SFL => k_is
    case z_SFW => k_is
    case z_SUS => k_is
    case z_SUL => k_is
    case z_SUW => k_is
    case z_SUF => k_is
    case z_IS => first | kit_is | k_is | kernel_rfl
    case z_IL => first | kit_is | k_is | kernel_rfl
    case z_IW => first | kit_is | k_is | kernel_rfl
    case z_IF => first | kit_is | k_is | kernel_rfl
    case z_IV => first | kit_is | k_is | kernel_rfl
    case z_IU => first | kit_is | k_is | kernel_rfl
    case z_hP => decide
    case z_aK => k_is
    case z_lK => k_is
    case z_yK => k_keys
    case z_aM => k_is
    case z_lM => k_is
    case z_yM => k_keys
    case z_rK => exact (.cons ⟨_, rfl⟩ ⟨_, rfl⟩ (.cons ⟨_, rfl⟩ ⟨_, rfl⟩ (.cons ⟨_, rfl⟩ ⟨_, rfl⟩ (.cons ⟨_, rfl⟩ ⟨_, rfl⟩ (.cons ⟨_, rfl⟩ ⟨_, rfl⟩ (.cons ⟨_, rfl⟩ ⟨_, rfl⟩ (.cons ⟨_, rfl⟩ ⟨_, rfl⟩ .nil)))))))
    case z_rM => exact (.cons ⟨_, rfl⟩ (W.isBits_mk (by k_is) (by first | exact .nil | exact .cons ⟨_, rfl⟩ .nil | exact .cons ⟨_, rfl⟩ (.cons ⟨_, rfl⟩ .nil) | exact .cons ⟨_, rfl⟩ (.cons ⟨_, rfl⟩ (.cons ⟨_, rfl⟩ (.cons ⟨_, rfl⟩ .nil))) | exact .cons ⟨_, rfl⟩ (.cons ⟨_, rfl⟩ (.cons ⟨_, rfl⟩ (.cons ⟨_, rfl⟩ (.cons ⟨_, rfl⟩ (.cons ⟨_, rfl⟩ (.cons ⟨_, rfl⟩ (.cons ⟨_, rfl⟩ .nil))))))) ) (by decide)) (.cons ⟨_, rfl⟩ (W.isBits_mk (by k_is) (by first | exact .nil | exact .cons ⟨_, rfl⟩ .nil | exact .cons ⟨_, rfl⟩ (.cons ⟨_, rfl⟩ .nil) | exact .cons ⟨_, rfl⟩ (.cons ⟨_, rfl⟩ (.cons ⟨_, rfl⟩ (.cons ⟨_, rfl⟩ .nil))) | exact .cons ⟨_, rfl⟩ (.cons ⟨_, rfl⟩ (.cons ⟨_, rfl⟩ (.cons ⟨_, rfl⟩ (.cons ⟨_, rfl⟩ (.cons ⟨_, rfl⟩ (.cons ⟨_, rfl⟩ (.cons ⟨_, rfl⟩ .nil))))))) ) (by decide)) (.cons ⟨_, rfl⟩ (W.isBits_mk (by k_is) (by first | exact .nil | exact .cons ⟨_, rfl⟩ .nil | exact .cons ⟨_, rfl⟩ (.cons ⟨_, rfl⟩ .nil) | exact .cons ⟨_, rfl⟩ (.cons ⟨_, rfl⟩ (.cons ⟨_, rfl⟩ (.cons ⟨_, rfl⟩ .nil))) | exact .cons ⟨_, rfl⟩ (.cons ⟨_, rfl⟩ (.cons ⟨_, rfl⟩ (.cons ⟨_, rfl⟩ (.cons ⟨_, rfl⟩ (.cons ⟨_, rfl⟩ (.cons ⟨_, rfl⟩ (.cons ⟨_, rfl⟩ .nil))))))) ) (by decide)) (.cons ⟨_, rfl⟩ (W.isBits_mk (by k_is) (by first | exact .nil | exact .cons ⟨_, rfl⟩ .nil | exact .cons ⟨_, rfl⟩ (.cons ⟨_, rfl⟩ .nil) | exact .cons ⟨_, rfl⟩ (.cons ⟨_, rfl⟩ (.cons ⟨_, rfl⟩ (.cons ⟨_, rfl⟩ .nil))) | exact .cons ⟨_, rfl⟩ (.cons ⟨_, rfl⟩ (.cons ⟨_, rfl⟩ (.cons ⟨_, rfl⟩ (.cons ⟨_, rfl⟩ (.cons ⟨_, rfl⟩ (.cons ⟨_, rfl⟩ (.cons ⟨_, rfl⟩ .nil))))))) ) (by decide)) (.cons ⟨_, rfl⟩ (W.isBits_mk (by k_is) (by first | exact .nil | exact .cons ⟨_, rfl⟩ .nil | exact .cons ⟨_, rfl⟩ (.cons ⟨_, rfl⟩ .nil) | exact .cons ⟨_, rfl⟩ (.cons ⟨_, rfl⟩ (.cons ⟨_, rfl⟩ (.cons ⟨_, rfl⟩ .nil))) | exact .cons ⟨_, rfl⟩ (.cons ⟨_, rfl⟩ (.cons ⟨_, rfl⟩ (.cons ⟨_, rfl⟩ (.cons ⟨_, rfl⟩ (.cons ⟨_, rfl⟩ (.cons ⟨_, rfl⟩ (.cons ⟨_, rfl⟩ .nil))))))) ) (by decide)) (.cons ⟨_, rfl⟩ (W.isBits_mk (by k_is) (by first | exact .nil | exact .cons ⟨_, rfl⟩ .nil | exact .cons ⟨_, rfl⟩ (.cons ⟨_, rfl⟩ .nil) | exact .cons ⟨_, rfl⟩ (.cons ⟨_, rfl⟩ (.cons ⟨_, rfl⟩ (.cons ⟨_, rfl⟩ .nil))) | exact .cons ⟨_, rfl⟩ (.cons ⟨_, rfl⟩ (.cons ⟨_, rfl⟩ (.cons ⟨_, rfl⟩ (.cons ⟨_, rfl⟩ (.cons ⟨_, rfl⟩ (.cons ⟨_, rfl⟩ (.cons ⟨_, rfl⟩ .nil))))))) ) (by decide)) (.cons ⟨_, rfl⟩ (W.isBits_mk (by k_is) (by first | exact .nil | exact .cons ⟨_, rfl⟩ .nil | exact .cons ⟨_, rfl⟩ (.cons ⟨_, rfl⟩ .nil) | exact .cons ⟨_, rfl⟩ (.cons ⟨_, rfl⟩ (.cons ⟨_, rfl⟩ (.cons ⟨_, rfl⟩ .nil))) | exact .cons ⟨_, rfl⟩ (.cons ⟨_, rfl⟩ (.cons ⟨_, rfl⟩ (.cons ⟨_, rfl⟩ (.cons ⟨_, rfl⟩ (.cons ⟨_, rfl⟩ (.cons ⟨_, rfl⟩ (.cons ⟨_, rfl⟩ .nil))))))) ) (by decide)) .nil)))))))
    case z_sK => decide
    case z_sM => decide

