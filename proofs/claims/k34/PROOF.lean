import PyProof.Rows.All
import Wide.All
import OpenK.AllK
import Wide.FinOn
import HandS.ForMost
import HandS.Wide
import HandS.IsInst
import HandS.FStr
import HandS.Defaults
import HandS.StrMore
import HandS.Style
import HandS.TupAny
import HandS.RaiseMore
import HandS.Walk
import HandS.Steps
import HandS.Evl
import HandS.ForExc
import HandS.TryMany
import HandS.TryOnly
import HandS.Replace
import PyProof.Rows.StrPadFill
import KE.KStateDown
import HandS.Head0
import HandS.Head1
import HandS.Head2
import HandS.TupLe
import HandS.Strs
import HandS.More
import PyProof.Rows.SetFrom
import KE.KStar
import HandS.OwnEq
import HandS.MakeKw
import HandS.MakeKwOnly
import KE.KCallOwn
import KE.KFmtOwn
import PyProof.InstEq
import PyProof.CallFns
import PyProof.EqAt
import PyProof.SeqRoads2
import PyProof.WalksMore
import PyProof.ZipIter
import HandS.Zip
import KE.GoesEnumKw
import PyProof.Rows.CallKwBuiltin
import HandS.SortKw
import HandS.SortRule
import HandS.TupSets
import HandS.SetBool
import HandS.DictComp
import HandS.Deep
import HandS.Dict
import KE.KExcSuper
import KE.KSuper
import HandS.Exc
import HandS.ExcInit
import HandS.Nested
import HandS.ClsMeth
import PyProof.Rows.FactsExc_KeyError
import PyProof.ExcBaseAll.LookupError
import KE.KExcIs
import KE.KTypeName
import HandS.Words
import HandS.ExcField
import HandS.RaiseFrom
import KE.RegKSuper
import HandS.Iter
import HandS.WrittenGet
import HandS.Star
import HandS.ExcOwn
import HandS.SortInts
import HandS.Text
import PyProof.StrBlockL
import KE.KUnpackStar
import HandS.ExcValue
import KE.KTryMore
import PySem.Challenge.RW_pikeroll_k34_lines_that_a_desk_knows_not
set_option Elab.async false
set_option maxRecDepth 100000
set_option linter.all false
set_option Elab.async false
set_option linter.all false
set_option maxRecDepth 100000
/-! a law's head by one kernel run, the part of the heap by the library's own Hook; a row asked of the world is split -/
namespace HdK
open PySem PySem.W PySem.Calls PyProof.Rows
def obK (as : List Addr) (s : SharedT) : List (Option Obj) := as.map (HandSHeadRun.getT s)
theorem head_k {r : OpenRow} {q : Program} {K : Params → Frag} {as : List Addr} {ek : ∀ P, as = (K P).map (·.1)} {M : Nat} {loose : List PySem.Str} {d : DefRec} {kwd : List (PySem.Str × PySem.Expr)} (H : Hook) (hH : H = kHook K as ek) (row : String)
    (e : opening r.prog = plainProg r.prog.main.scope.names) (f : ∀ s, fenceModules? r.prog s = some s)
    (run0 : ∀ w : World, HandSHeadRun.RunEq r q (kHook K as ek) (obK as) M loose (w.withFollow row false)) (run1 : ∀ w : World, HandSHeadRun.RunEq r q (kHook K as ek) (obK as) M loose (w.withFollow row true))
    (hdef : defOf q r.name = some (d, kwd)) (hp : r.prog.theDef r.name = some (d.params, d.body, d.scope)) (hk : kwWritten? d.params.kwonlyargs d.params.kw_defaults = some kwd)
    (hwr : (!r.writes || r.records.isEmpty) = true) (k1 : r.wellSaid = true) (ok : (chainsOk q && opensWell r.prog && (frees r.toRowW && r.within.isEmpty)) = true) (hb : r.prog.bare) (hw : r.toRowW.promised)
    (call : WalkO q loose (XL q []) H.says r.toRowW d kwd fun f vs => PySem.call f vs) : r.Holds := by
  subst hH
  exact HandSHeadRun.head_any (H := kHook K as ek) (ob := obK as) (fun s => List.map_congr_left fun a _ => HandSHeadRun.getT_eq s a) e f (byRow2 row run0 run1) hdef hp hk hwr k1 ok hb hw call
def someP : Params := { strHash := fun _ => 0, shareClass := fun _ => 0, mergeTok := fun t => t, idOf := fun _ => 0, idOfShared := fun _ _ => 0, followText := fun _ => false, idOfImm := fun _ => 0 }
end HdK

namespace Q
def hn0 : List PySem.Str := ["PikeError", "BadFact", "BadDay", "BadCount", "Other", "Full", "Nothing", "Missing", "NoPassing", "NoFact", "NoCarriage", "FIGURES", "DOZEN", "LEAST_FIGURES", "coin_text", "Toll", "stub", "BOUNDS", "SHAPES", "is_number", "is_good", "are_rising", "need_fact", "holding", "toll_on", "board_on", "trust_on", "WEEK", "SUNDAY", "need_carriage"]
def hn1 : List PySem.Str := ["need_day", "need_passing", "fare", "passings_on", "free_on", "lost_minutes", "CarriageDay", "day_walk", "row_of", "why", "driven_days", "TRUSTS", "paid_by", "owes", "cleared_by_day", "balances", "MOST_FACTS", "Roll", "MOST_FIGURES", "fact_text", "page_of", "is_number_text", "read_numbers", "read_fact", "DONE", "strike_line", "undo_line", "redo_line", "row_line", "why_line"]
def hn2 : List PySem.Str := ["owes_line", "trusts_line", "ANSWERS", "COUNTS", "right_line", "numbers_line", "answer", "Desk", "_law_bag", "_law_pull", "_law_like", "_law_gate", "_law_day", "_law_board", "_law_passing", "_law_stretch", "_law_fact", "_law_text", "_law_number_read", "_law_fact_read", "_law_words_bent", "_law_sign", "_law_text_bent", "_law_is_line"]
def hnames : List PySem.Str := hn0 ++ hn1 ++ hn2
abbrev HR : PySem.W.OpenRow := PySem.W.OpenLaw.row PySem.Challenge.rw_pikeroll_k34_lines_that_a_desk_knows_not
abbrev hq : PySem.Program := PySem.W.view HR.prog [93]
section
open PySem PySem.W PyProof.Rows
local macro_rules | `(tactic| o_head $_) => `(tactic| assumption)
set_option maxHeartbeats 0 in
theorem hcap (h : HR.Holds) : HR.Holds := by
  k_head
end
noncomputable def HAS : List PySem.Addr := (hcap.heap_1 HdK.someP).map (·.1)
set_option maxHeartbeats 0 in
theorem hek (p : PySem.Params) : HAS = (hcap.heap_1 p).map (·.1) := by kernel_rfl
set_option maxHeartbeats 0 in
theorem hrun0 (w : PySem.World) : HandSHeadRun.RunEq HR hq (PySem.W.kHook hcap.heap_1 HAS hek) (HdK.obK HAS) 30000 hnames (w.withFollow "special-get-raises" false) := by
  intro os
  kernel_rfl
set_option maxHeartbeats 0 in
theorem hrun1 (w : PySem.World) : HandSHeadRun.RunEq HR hq (PySem.W.kHook hcap.heap_1 HAS hek) (HdK.obK HAS) 30000 hnames (w.withFollow "special-get-raises" true) := by
  intro os
  kernel_rfl
end Q

set_option Elab.async false
set_option linter.all false
set_option maxRecDepth 100000
/-! The verifier's own layer: readings step by step, heaps that grow, the drawing bag. -/
namespace Z
open PySem L2

/-- a new object -/
def NewO (o : HO) (H : Hp) (Q : VK) : Prop := ∀ p, H p = none → Q (.ref p) (upd H p o)
/-- all that stood stands -/
def Ex (H H' : Hp) : Prop := ∀ a o, H a = some o → H' a = some o
theorem Ex.new {H : Hp} {p : Addr} {o : HO} (h : H p = none) : Ex H (upd H p o) := fun a u e => by
  rw [upd_ne (ne_of_none e h)]
  exact e
theorem s_new {H : Hp} {Q : VK} {o : HO} (k : ∀ p H', H p = none → Ex H H' → H' p = some o → Q (.ref p) H') : NewO o H Q := fun p hp => k p _ hp (Ex.new hp) upd_same
theorem s_newS {H : Hp} {Q : VK} {o : HO} {n : Nat} (h : n ≤ sizeLine) (k : ∀ p H', H p = none → Ex H H' → H' p = some o → Q (.ref p) H') : n ≤ sizeLine ∧ NewO o H Q := ⟨h, s_new k⟩
/-! ### steps of a reading -/
section
variable {K : PySem.W.Frag} {σ σ' : L2.St} {H H' : Hp} {Q : VK} {ta tb tc te : TE} {t u : TT} {nx bk ct : L2.St → Hp → Prop} {rt : VK} {ts us : TS} {i j : Nat} {v x y : V} {r r' : R2}
theorem s_var (h : σ[i]? = some (some v)) (k : Q v H) : tVar i σ H Q := ⟨v, h, k⟩
theorem s_C (k : Q v H) : tC v σ H Q := k
theorem s_op (k : ta σ H fun x H1 => tb σ H1 fun y H2 => r x y H2 Q) : tOp r ta tb σ H Q := k
theorem s_un {r : V → Hp → VK → Prop} (k : ta σ H fun x H1 => r x H1 Q) : tUn r ta σ H Q := k
theorem s_rI {C : Int → Int → Prop} {g : Int → Int → V} {a b : Int} (hc : C a b) (k : Q (g a b) H) : rI C g (.int a) (.int b) H Q := ⟨a, b, rfl, rfl, hc, k⟩
theorem s_rI0 {g : Int → Int → V} {a b : Int} (k : Q (g a b) H) : rI0 g (.int a) (.int b) H Q := ⟨a, b, rfl, rfl, k⟩
theorem s_rU {g : Int → V} {a : Int} (k : Q (g a) H) : rU g (.int a) H Q := ⟨a, rfl, k⟩
theorem s_rEq (h : scal x y = true) (k : Q (.bl (decide (x = y))) H) : rEq x y H Q := ⟨h, k⟩
theorem s_rNe (h : scal x y = true) (k : Q (.bl (!decide (x = y))) H) : rNe x y H Q := ⟨h, k⟩
theorem s_rEqI {a b : Int} (k : Q (.bl (decide (a = b))) H) : rEq (.int a) (.int b) H Q := ⟨rfl, by
  have e : decide (V.int a = V.int b) = decide (a = b) := by simp
  rw [e]; exact k⟩
theorem s_rNeI {a b : Int} (k : Q (.bl (!decide (a = b))) H) : rNe (.int a) (.int b) H Q := ⟨rfl, by
  have e : decide (V.int a = V.int b) = decide (a = b) := by simp
  rw [e]; exact k⟩
theorem s_rEqS {a b : Str} (k : Q (.bl (decide (a = b))) H) : rEq (.str a) (.str b) H Q := ⟨rfl, by
  have e : decide (V.str a = V.str b) = decide (a = b) := by simp
  rw [e]; exact k⟩
theorem s_rNeS {a b : Str} (k : Q (.bl (!decide (a = b))) H) : rNe (.str a) (.str b) H Q := ⟨rfl, by
  have e : decide (V.str a = V.str b) = decide (a = b) := by simp
  rw [e]; exact k⟩
theorem s_rEqB {a b : Bool} (k : Q (.bl (a == b)) H) : rEq (.bl a) (.bl b) H Q := ⟨rfl, by
  have e : decide (V.bl a = V.bl b) = (a == b) := by cases a <;> cases b <;> rfl
  rw [e]; exact k⟩
theorem s_rNeB {a b : Bool} (k : Q (.bl (a != b)) H) : rNe (.bl a) (.bl b) H Q := ⟨rfl, by
  have e : (!decide (V.bl a = V.bl b)) = (a != b) := by cases a <;> cases b <;> rfl
  rw [e]; exact k⟩
theorem s_tB {R : Bool → Hp → Prop} (k : te σ H fun x H1 => ∃ c, x = .bl c ∧ R c H1) : tB te σ H R := k
theorem s_tTest {R : Bool → Hp → Prop} (k : te σ H fun x H1 => ∃ c, x = .bl c ∧ R c H1) : tTest te σ H R := k
theorem s_bl {c : Bool} {R : Bool → Prop} (k : R c) : ∃ c', V.bl c = .bl c' ∧ R c' := ⟨c, rfl, k⟩
theorem s_and {R : Bool → Hp → Prop} (k : t σ H fun c H1 => if c = true then u σ H1 R else R false H1) : tAnd t u σ H R := k
theorem s_or {R : Bool → Hp → Prop} (k : t σ H fun c H1 => if c = true then R true H1 else u σ H1 R) : tOr t u σ H R := k
theorem s_not {R : Bool → Hp → Prop} (k : t σ H fun c H1 => R (!c) H1) : tNot t σ H R := k
theorem s_andV (k : ta σ H fun x H1 => ∃ c, x = .bl c ∧ if c = true then tb σ H1 Q else Q (.bl false) H1) : tAndV ta tb σ H Q := k
theorem s_orV (k : ta σ H fun x H1 => ∃ c, x = .bl c ∧ if c = true then Q (.bl true) H1 else tb σ H1 Q) : tOrV ta tb σ H Q := k
theorem s_notV (k : ta σ H fun x H1 => ∃ c, x = .bl c ∧ Q (.bl (!c)) H1) : tNotV ta σ H Q := k
theorem s_ifE (k : t σ H fun c H1 => if c = true then ta σ H1 Q else tb σ H1 Q) : tIf t ta tb σ H Q := k
theorem s_chain (k : ta σ H fun x H1 => tb σ H1 fun y H2 => r x y H2 fun z H3 => ∃ c, z = .bl c ∧ (if c = true then tc σ H3 fun w H4 => r' y w H4 Q else Q (.bl false) H3)) : tChain r r' ta tb tc σ H Q := k
theorem s_nil {R : List V → Hp → Prop} (k : R [] H) : tNil σ H R := k
theorem s_cons {tr : TA} {R : List V → Hp → Prop} (k : ta σ H fun x H1 => tr σ H1 fun xs H2 => R (x :: xs) H2) : tCons ta tr σ H R := k
theorem s_CB {r : List V → Hp → VK → Prop} {tr : TA} (k : tr σ H fun vs H1 => r vs H1 Q) : tCB r tr σ H Q := k
theorem s_call {sp : Sp} {dvs : List V} {E : XK} {tr : TA} (k : tr σ H fun vs H1 => sp (vs ++ dvs) H1 Q E) : tCall sp dvs E tr σ H Q := k
abbrev FldR (K : PySem.W.Frag) (f : Str) (x : V) (H : Hp) (Q : VK) : Prop := ∃ a C dx fs v, x = .ref a ∧ H a = some (.ins C dx fs) ∧ Cls K C ∧ NoAttr K C f ∧ fs.lookup f = some v ∧ Q v H
theorem s_fld {f : Str} (k : ta σ H fun x H1 => FldR K f x H1 Q) : tFld K ta f σ H Q := k
theorem s_sl {r : V → Option Int → Option Int → Hp → VK → Prop} {tl th : TO} (k : te σ H fun x H1 => tl σ H1 fun l H2 => th σ H2 fun u H3 => r x l u H3 Q) : tSl r te tl th σ H Q := k
theorem s_noPart {R : Option Int → Hp → Prop} (k : R none H) : tNoPart σ H R := k
def PartI (x : V) (R : Option Int → Hp → Prop) (H : Hp) : Prop := ∃ a, x = .int a ∧ R (some a) H
theorem s_part {R : Option Int → Hp → Prop} (k : te σ H fun x H1 => PartI x R H1) : tPart te σ H R := k
theorem s_partI {a : Int} {R : Option Int → Hp → Prop} (k : R (some a) H) : PartI (.int a) R H := ⟨a, rfl, k⟩
theorem s_bm {T : String} {r : V → List V → Hp → VK → Prop} {tr : TA} (k : ta σ H fun x H1 => tyV K T x H1 ∧ tr σ H1 fun xs H2 => r x xs H2 Q) : tBM K T r ta tr σ H Q := k
theorem s_bm0 {T : String} {r : V → List V → Hp → VK → Prop} (k : ta σ H fun x H1 => tyV K T x H1 ∧ r x [] H1 Q) : tBM0 K T r ta σ H Q := k
theorem s_m0 {r : V → List V → Hp → VK → Prop} (k : ta σ H fun x H1 => (∃ a, x = .str a) ∧ r x [] H1 Q) : tM0 r ta σ H Q := k
theorem s_m1 {r : V → List V → Hp → VK → Prop} (k : ta σ H fun x H1 => (∃ a, x = .str a) ∧ tb σ H1 fun y H2 => r x [y] H2 Q) : tM1 r ta tb σ H Q := k
theorem at_start {D : Ends} {ρ ρ' : L2.St} (e : ρ = ρ') (k : ts D ρ' H) : ts D ρ H := by
  rw [e]
  exact k
theorem s_isStr {z : Str} {R : Prop} (k : R) : (∃ a, V.str z = .str a) ∧ R := ⟨⟨z, rfl⟩, k⟩
/-! statements: the ends stay written out -/
theorem s_next (k : nx σ H) : tNext ⟨nx, rt, bk, ct⟩ σ H := k
theorem s_seq (k : ts ⟨us ⟨nx, rt, bk, ct⟩, rt, bk, ct⟩ σ H) : tSeq ts us ⟨nx, rt, bk, ct⟩ σ H := k
theorem s_cut (M : L2.St → Hp → Prop) (h : ts ⟨M, rt, bk, ct⟩ σ H) (k : ∀ ρ H', M ρ H' → us ⟨nx, rt, bk, ct⟩ ρ H') : Evl.tCut ts us ⟨nx, rt, bk, ct⟩ σ H := ⟨M, h, k⟩
theorem s_break (k : bk σ H) : tBreak ⟨nx, rt, bk, ct⟩ σ H := k
theorem s_cont (k : ct σ H) : tCont ⟨nx, rt, bk, ct⟩ σ H := k
theorem s_drop (k : te σ H fun _ H1 => nx σ H1) : tDrop te ⟨nx, rt, bk, ct⟩ σ H := k
theorem s_ret (k : te σ H rt) : tRet te ⟨nx, rt, bk, ct⟩ σ H := k
theorem s_retN (k : rt .non H) : tRetN ⟨nx, rt, bk, ct⟩ σ H := k
theorem s_ifS (k : t σ H fun b H1 => if b = true then ts ⟨nx, rt, bk, ct⟩ σ H1 else us ⟨nx, rt, bk, ct⟩ σ H1) : tIfS t ts us ⟨nx, rt, bk, ct⟩ σ H := k
theorem s_set (k : te σ H fun x H1 => nx (σ.set i (some x)) H1) : tAsg te (gName i) ⟨nx, rt, bk, ct⟩ σ H := k
theorem s_asg {g : TG} (k : te σ H fun x H1 => g x σ H1 nx) : tAsg te g ⟨nx, rt, bk, ct⟩ σ H := k
theorem s_par {tr : TA} (k : tr σ H fun vs H1 => ∃ v w, vs = [v, w] ∧ nx ((σ.set i (some v)).set j (some w)) H1) : tPar i j tr ⟨nx, rt, bk, ct⟩ σ H := k
theorem s_parI {v w : V} {R : V → V → Prop} (k : R v w) : ∃ v' w', [v, w] = [v', w'] ∧ R v' w' := ⟨v, w, rfl, k⟩
theorem s_gName {R : L2.St → Hp → Prop} (k : R (σ.set i (some v)) H) : gName i v σ H R := k
theorem s_gSub {tS : TSet} {R : L2.St → Hp → Prop} (k : ta σ H fun o H1 => tb σ H1 fun i H2 => tS o i v H2 fun H3 => R σ H3) : gSub ta tb tS v σ H R := k
theorem s_gTup {n : Nat} {tg : TGs} {a : Addr} {xs : List V} {R : L2.St → Hp → Prop} (h : SqT K H a xs) (hn : xs.length = n) (k : tg xs σ H R) : gTup K n tg (.ref a) σ H R := ⟨a, xs, rfl, h, hn, k⟩
theorem s_gCons {tg : TG} {tgs : TGs} {xs : List V} {R : L2.St → Hp → Prop} (k : tg v σ H fun σ1 H1 => tgs xs σ1 H1 R) : gCons tg tgs (v :: xs) σ H R := ⟨v, xs, rfl, k⟩
theorem s_gNil {R : L2.St → Hp → Prop} (k : R σ H) : gNil [] σ H R := ⟨rfl, k⟩
theorem s_tup {tr : TA} (k : tr σ H fun xs H1 => xs.length ≤ sizeLine ∧ NewO (.tup xs) H1 Q) : tTup tr σ H Q := k
theorem s_lst {tr : TA} (k : tr σ H fun xs H1 => xs.length ≤ sizeLine ∧ NewO (.lst xs) H1 Q) : tLst tr σ H Q := k
theorem s_ixL {p : Addr} {xs : List V} {a : Int} (h : SqL K H p xs) (e : atI xs a = some v) (k : Q v H) : rIxL K (.ref p) (.int a) H Q := ⟨p, xs, a, v, rfl, rfl, h, e, k⟩
theorem s_ixT {p : Addr} {xs : List V} {a : Int} (h : SqT K H p xs) (e : atI xs a = some v) (k : Q v H) : rIxT K (.ref p) (.int a) H Q := ⟨p, xs, a, v, rfl, rfl, h, e, k⟩
theorem s_setL {p : Addr} {xs : List V} {a : Int} {m : Nat} {R : Hp → Prop} (h : H p = some (.lst xs)) (e : ixN xs.length a = some m) (k : R (upd H p (.lst (xs.set m v)))) : rSetL (.ref p) (.int a) v H R := ⟨p, xs, a, m, rfl, rfl, h, e, k⟩
theorem s_slL {a : Addr} {xs : List V} {lo hi : Option Int} (h : SqL K H a xs) (k : NewO (.lst (cutV xs lo hi)) H Q) : rSlL K (.ref a) lo hi H Q := ⟨a, xs, rfl, h, k⟩
theorem s_slS {z : Str} {lo hi : Option Int} (h : z.length ≤ sizeLine) (k : Q (.str (cutS z lo hi)) H) : rSlS (.str z) lo hi H Q := ⟨z, rfl, h, k⟩
theorem s_len {p : Addr} {xs : List V} (h : SqL K H p xs ∨ SqT K H p xs) (k : Q (.int xs.length) H) : ∃ q ys, [V.ref p] = [V.ref q] ∧ (SqL K H q ys ∨ SqT K H q ys) ∧ Q (.int ys.length) H := ⟨p, xs, rfl, h, k⟩
/-! ifs -/
theorem ite_both {c : Bool} {A B : Prop} (h1 : c = true → A) (h2 : c = false → B) : if c = true then A else B := by
  cases c with
  | true => rw [if_pos rfl]; exact h1 rfl
  | false => rw [if_neg (by decide)]; exact h2 rfl
theorem ite_dec {p A B : Prop} {ip : Decidable p} (h1 : p → A) (h2 : ¬ p → B) : if decide p = true then A else B :=
  ite_both (fun h => h1 (of_decide_eq_true h)) (fun h => h2 (of_decide_eq_false h))
theorem ite_ndec {p A B : Prop} {ip : Decidable p} (h1 : ¬ p → A) (h2 : p → B) : if (!decide p) = true then A else B :=
  ite_both (fun h => h1 (by simpa using h)) (fun h => h2 (by simpa using h))
theorem ite_t {A B : Prop} (h : A) : if true = true then A else B := by rw [if_pos rfl]; exact h
theorem ite_f {A B : Prop} (h : B) : if false = true then A else B := by rw [if_neg (by decide)]; exact h
theorem ite_pos {p A B : Prop} {ip : Decidable p} (hp : p) (h : A) : if decide p = true then A else B := by rw [if_pos (decide_eq_true hp)]; exact h
theorem ite_neg {p A B : Prop} {ip : Decidable p} (hp : ¬ p) (h : B) : if decide p = true then A else B := by rw [if_neg (by simpa using hp)]; exact h
theorem ite_npos {p A B : Prop} {ip : Decidable p} (hp : ¬ p) (h : A) : if (!decide p) = true then A else B := by rw [if_pos (by simpa using hp)]; exact h
theorem ite_nneg {p A B : Prop} {ip : Decidable p} (hp : p) (h : B) : if (!decide p) = true then A else B := by rw [if_neg (by simpa using hp)]; exact h
/-! loops -/
/-- the loop's word, said for any walk: J, its turns n, G what stands still, Y what it yields -/
def Loops (J : It) (g : TG) (ts : TS) (nx : L2.St → Hp → Prop) (rt : VK) (σ : L2.St) (H : Hp) : Prop := ∃ W : Nat → Nat → L2.St → Hp → Prop, (∃ m, W 0 m σ H) ∧ ∀ i m σ H, W i m σ H →
      (J.stop i H ∧ nx σ H) ∨ (J.go i H ∧ ∃ N : L2.St → Hp → Prop, (∀ σ' H', N σ' H' → ∃ m', m' < m ∧ W (i + 1) m' σ' H') ∧ ∀ x H', J.yld i H x H' → g x σ H' fun σ2 H2 => ts ⟨N, rt, nx, N⟩ σ2 H2)
theorem s_for {wi : TI} {g : TG} (k : wi σ H fun J H1 => Loops J g ts nx rt σ H1) : tFor wi g ts ⟨nx, rt, bk, ct⟩ σ H := k
theorem s_iRng1 {tr : TA} {R : It → Hp → Prop} (k : tr σ H fun vs H1 => ∃ j : Int, vs = [.int j] ∧ -(2 ^ 62) ≤ j ∧ j < 2 ^ 62 ∧ R (Itr 0 j.toNat) H1) : iRng1 tr σ H R := k
theorem s_iRng2 {tr : TA} {R : It → Hp → Prop} (k : tr σ H fun vs H1 => ∃ i j : Int, vs = [.int i, .int j] ∧ (-(2 ^ 62) ≤ i ∧ i < 2 ^ 62 ∧ -(2 ^ 62) ≤ j ∧ j < 2 ^ 62) ∧ R (Itr i (j - i).toNat) H1) : iRng2 tr σ H R := k
theorem s_iList {R : It → Hp → Prop} (k : te σ H fun x H1 => ∃ a, x = .ref a ∧ (∃ xs, SqL K H1 a xs) ∧ R (Itl K a) H1) : iList K te σ H R := k
theorem s_iTup {R : It → Hp → Prop} (k : te σ H fun x H1 => ∃ a, x = .ref a ∧ (∃ xs, SqT K H1 a xs) ∧ R (Itt K a) H1) : iTup K te σ H R := k
theorem s_iStr {R : It → Hp → Prop} (k : te σ H fun v H1 => ∃ x, v = .str x ∧ R (Its x) H1) : iStr te σ H R := k
theorem s_iEnum {tr : TA} {R : It → Hp → Prop} (k : tr σ H fun vs H1 => ∃ a xs, vs = [.ref a] ∧ SqL K H1 a xs ∧ R (Ite K a) H1) : iEnum K tr σ H R := k
theorem loops_of {J : It} {n : Nat} {G : Hp → Prop} {Y : Nat → Hp → V → Hp → Prop} {g : TG} (w : Walk J n G Y) (Pv : Nat → L2.St → Hp → Prop) (h0 : Pv 0 σ H) (hG : ∀ i σ H, i ≤ n → Pv i σ H → G H)
    (hs : ∀ i x σ H H', i < n → Pv i σ H → Y i H x H' → g x σ H' fun σ2 H2 => ts ⟨Pv (i + 1), rt, nx, Pv (i + 1)⟩ σ2 H2) (hd : ∀ σ H, Pv n σ H → nx σ H) : Loops J g ts nx rt σ H :=
  for_it (D := ⟨nx, rt, fun _ _ => False, fun _ _ => False⟩) w Pv h0 hG hs hd
/-- range(n), as it stands behind the arguments -/
theorem l_range {g : TG} {n : Int} (b : -(2 ^ 62) ≤ n ∧ n < 2 ^ 62) (Pv : Nat → L2.St → Hp → Prop) (h0 : Pv 0 σ H)
    (hs : ∀ (i : Nat) σ H, (i : Int) < n → Pv i σ H → g (.int (i : Int)) σ H fun σ2 H2 => ts ⟨Pv (i + 1), rt, nx, Pv (i + 1)⟩ σ2 H2) (hd : ∀ σ H, Pv n.toNat σ H → nx σ H) :
    ∃ j : Int, [V.int n] = [.int j] ∧ -(2 ^ 62) ≤ j ∧ j < 2 ^ 62 ∧ Loops (Itr 0 j.toNat) g ts nx rt σ H :=
  ⟨n, rfl, b.1, b.2, loops_of walk_range Pv h0 (fun _ _ _ _ _ => trivial) (fun i x σ H H' hi p y => by
    obtain ⟨e, y⟩ := y
    subst e y
    have e0 : (0 : Int) + (i : Int) = (i : Int) := Int.zero_add _
    dsimp only
    rw [e0]
    exact hs i σ _ (by omega) p) hd⟩
/-- range(lo, hi) -/
theorem l_range2 {g : TG} {lo n : Int} (b : -(2 ^ 62) ≤ lo ∧ lo < 2 ^ 62 ∧ -(2 ^ 62) ≤ n ∧ n < 2 ^ 62) (Pv : Nat → L2.St → Hp → Prop) (h0 : Pv 0 σ H)
    (hs : ∀ (i : Nat) σ H, lo + (i : Int) < n → Pv i σ H → g (.int (lo + (i : Int))) σ H fun σ2 H2 => ts ⟨Pv (i + 1), rt, nx, Pv (i + 1)⟩ σ2 H2) (hd : ∀ σ H, Pv (n - lo).toNat σ H → nx σ H) :
    ∃ i j : Int, [V.int lo, V.int n] = [.int i, .int j] ∧ (-(2 ^ 62) ≤ i ∧ i < 2 ^ 62 ∧ -(2 ^ 62) ≤ j ∧ j < 2 ^ 62) ∧ Loops (Itr i (j - i).toNat) g ts nx rt σ H :=
  ⟨lo, n, rfl, b, loops_of walk_range Pv h0 (fun _ _ _ _ _ => trivial) (fun i x σ H H' hi p y => by
    obtain ⟨e, y⟩ := y
    subst e y
    exact hs i σ _ (by omega) p) hd⟩
/-- a list -/
theorem l_list {g : TG} {a : Addr} (xs : List V) (Pv : Nat → L2.St → Hp → Prop) (h0 : Pv 0 σ H) (hG : ∀ i σ H, i ≤ xs.length → Pv i σ H → SqL K H a xs)
    (hs : ∀ i x σ H, xs[i]? = some x → Pv i σ H → g x σ H fun σ2 H2 => ts ⟨Pv (i + 1), rt, nx, Pv (i + 1)⟩ σ2 H2) (hd : ∀ σ H, Pv xs.length σ H → nx σ H) :
    ∃ a', V.ref a = .ref a' ∧ (∃ xs, SqL K H a' xs) ∧ Loops (Itl K a') g ts nx rt σ H :=
  ⟨a, rfl, ⟨xs, hG 0 σ H (Nat.zero_le _) h0⟩, loops_of walk_list Pv h0 hG (fun i x σ H H' hi p y => by
    obtain ⟨e, y⟩ := y
    subst e
    exact hs i x σ _ y p) hd⟩
/-- a tuple -/
theorem l_tup {g : TG} {a : Addr} (xs : List V) (Pv : Nat → L2.St → Hp → Prop) (h0 : Pv 0 σ H) (hG : ∀ i σ H, i ≤ xs.length → Pv i σ H → SqT K H a xs)
    (hs : ∀ i x σ H, xs[i]? = some x → Pv i σ H → g x σ H fun σ2 H2 => ts ⟨Pv (i + 1), rt, nx, Pv (i + 1)⟩ σ2 H2) (hd : ∀ σ H, Pv xs.length σ H → nx σ H) :
    ∃ a', V.ref a = .ref a' ∧ (∃ xs, SqT K H a' xs) ∧ Loops (Itt K a') g ts nx rt σ H :=
  ⟨a, rfl, ⟨xs, hG 0 σ H (Nat.zero_le _) h0⟩, loops_of walk_tup Pv h0 hG (fun i x σ H H' hi p y => by
    obtain ⟨e, y⟩ := y
    subst e
    exact hs i x σ _ y p) hd⟩
/-- a text -/
theorem l_str {g : TG} {z : Str} (Pv : Nat → L2.St → Hp → Prop) (h0 : Pv 0 σ H)
    (hs : ∀ i c σ H, z.cps[i]? = some c → Pv i σ H → g (.str ⟨#[c]⟩) σ H fun σ2 H2 => ts ⟨Pv (i + 1), rt, nx, Pv (i + 1)⟩ σ2 H2) (hd : ∀ σ H, Pv z.cps.size σ H → nx σ H) :
    ∃ x, V.str z = .str x ∧ Loops (Its x) g ts nx rt σ H :=
  ⟨z, rfl, loops_of walk_str Pv h0 (fun _ _ _ _ _ => trivial) (fun i x σ H H' hi p y => by
    obtain ⟨e, c, y1, y2⟩ := y
    subst e y2
    exact hs i c σ _ y1 p) hd⟩
/-- a while's turn: behind it the word holds at a lesser measure -/
def WhB (W : Nat → L2.St → Hp → Prop) (m : Nat) (ts : TS) (rt : VK) (nx : L2.St → Hp → Prop) (σ : L2.St) (H : Hp) : Prop := ∃ N : L2.St → Hp → Prop, (∀ σ' H', N σ' H' → ∃ m', m' < m ∧ W m' σ' H') ∧ ts ⟨N, rt, nx, N⟩ σ H
theorem s_whB {W : Nat → L2.St → Hp → Prop} {m : Nat} (k : ts ⟨fun σ' H' => ∃ m', m' < m ∧ W m' σ' H', rt, nx, fun σ' H' => ∃ m', m' < m ∧ W m' σ' H'⟩ σ H) : WhB W m ts rt nx σ H := ⟨_, fun _ _ h => h, k⟩
/-- a while: its word and its measure -/
theorem l_while (W : Nat → L2.St → Hp → Prop) (h0 : ∃ m, W m σ H)
    (hs : ∀ m σ H, W m σ H → t σ H fun b H1 => if b = true then WhB W m ts rt nx σ H1 else nx σ H1) : tWhile t ts ⟨nx, rt, bk, ct⟩ σ H := ⟨W, h0, hs⟩
end

/-! ### heaps -/
/-- all but what stands at b -/
def Fr (b : Addr) (H H' : Hp) : Prop := ∀ a o, a ≠ b → H a = some o → H' a = some o
theorem Ex.refl {H : Hp} : Ex H H := fun _ _ h => h
theorem Ex.trans {H H1 H2 : Hp} (a : Ex H H1) (b : Ex H1 H2) : Ex H H2 := fun x o h => b x o (a x o h)
theorem Ex.mut {H H' : Hp} {p : Addr} {o : HO} (e : Ex H H') (h : H p = none) : Ex H (upd H' p o) := fun a u ha => by
  rw [upd_ne (ne_of_none ha h)]
  exact e a u ha
theorem Ex.back {H H' : Hp} {p : Addr} (e : Ex H H') (h : H' p = none) : H p = none := by
  cases h1 : H p with
  | none => rfl
  | some o =>
    rw [e p o h1] at h
    cases h
theorem Ex.fr {H H' : Hp} (b : Addr) (e : Ex H H') : Fr b H H' := fun a o _ h => e a o h
theorem Fr.refl {b : Addr} {H : Hp} : Fr b H H := fun _ _ _ h => h
theorem Fr.trans {b : Addr} {H H1 H2 : Hp} (x : Fr b H H1) (y : Fr b H1 H2) : Fr b H H2 := fun a o n h => y a o n (x a o n h)
theorem Fr.upd {b : Addr} {H : Hp} {o : HO} : Fr b H (upd H b o) := fun a u n h => by
  rw [upd_ne n]
  exact h
theorem Ex.sqL {K : PySem.W.Frag} {H H' : Hp} {a : Addr} {xs : List V} (e : Ex H H') (h : SqL K H a xs) : SqL K H' a xs := by
  rcases h with (h | ⟨o, h⟩) | h
  · exact .inl (.inl (e _ _ h))
  · exact .inl (.inr ⟨o, e _ _ h⟩)
  · exact .inr h
theorem Ex.sqT {K : PySem.W.Frag} {H H' : Hp} {a : Addr} {xs : List V} (e : Ex H H') (h : SqT K H a xs) : SqT K H' a xs := by
  rcases h with (h | ⟨o, h⟩) | h
  · exact .inl (.inl (e _ _ h))
  · exact .inl (.inr ⟨o, e _ _ h⟩)
  · exact .inr h
theorem sqL_ex {K : PySem.W.Frag} {H H' : Hp} {a : Addr} {xs : List V} (h : SqL K H a xs) (e : Ex H H') : SqL K H' a xs := e.sqL h
theorem sqT_ex {K : PySem.W.Frag} {H H' : Hp} {a : Addr} {xs : List V} (h : SqT K H a xs) (e : Ex H H') : SqT K H' a xs := e.sqT h
/-- the heap without what stands at b -/
def wo (b : Addr) (H : Hp) : Hp := fun a => if a = b then none else H a
theorem wo_some {b a : Addr} {H : Hp} {o : HO} (h : wo b H a = some o) : a ≠ b ∧ H a = some o := by
  unfold wo at h
  split at h
  · cases h
  · exact ⟨by assumption, h⟩
theorem wo_mk {b a : Addr} {H : Hp} {o : HO} (n : a ≠ b) (h : H a = some o) : wo b H a = some o := by
  unfold wo
  rw [if_neg n]
  exact h
theorem wo_ex {b : Addr} {H : Hp} : Ex (wo b H) H := fun _ _ h => (wo_some h).2
theorem Fr.wo {b : Addr} {H H' : Hp} (e : Fr b H H') : Ex (Z.wo b H) (Z.wo b H') := fun a o h => wo_mk (wo_some h).1 (e a o (wo_some h).1 (wo_some h).2)
theorem Ex.wo {b : Addr} {H H' : Hp} (e : Ex H H') : Ex (Z.wo b H) (Z.wo b H') := (e.fr b).wo
theorem ex_at {H H' : Hp} {a : Addr} {o : HO} (e : Ex H H') (h : H a = some o) : H' a = some o := e a o h
theorem fr_at {b : Addr} {H H' : Hp} {a : Addr} {o : HO} (e : Fr b H H') (n : a ≠ b) (h : H a = some o) : H' a = some o := e a o n h
theorem fr_none {b : Addr} {H H' : Hp} {l : Addr} (e : Fr b H H') (h : H' l = none) (n : l ≠ b) : H l = none := by
  cases q : H l with
  | none => rfl
  | some o =>
    rw [e l o n q] at h
    cases h
theorem upd_at {H : Hp} {a b : Addr} {o u : HO} (n : b ≠ a) (h : H b = some u) : upd H a o b = some u := by
  rw [upd_ne n]
  exact h
theorem ref_ne {a b : Addr} (h : V.ref a ≠ V.ref b) : a ≠ b := fun e => h (by rw [e])
/-! ### readings by name -/
def rLen (K : PySem.W.Frag) : List V → Hp → VK → Prop := fun xs H Q => ∃ p ys, xs = [.ref p] ∧ (SqL K H p ys ∨ SqT K H p ys) ∧ Q (.int ys.length) H
def rLenStr : List V → Hp → VK → Prop := fun xs H Q => ∃ z, xs = [.str z] ∧ z.length ≤ sizeLine ∧ Q (.int z.length) H
def rAbs : List V → Hp → VK → Prop := fun xs H Q => ∃ i, xs = [.int i] ∧ Q (.int (if i < 0 then -i else i)) H
def rMax2 : List V → Hp → VK → Prop := fun xs H Q => ∃ i j, xs = [.int i, .int j] ∧ Q (.int (if j > i then j else i)) H
def rMin2 : List V → Hp → VK → Prop := fun xs H Q => ∃ i j, xs = [.int i, .int j] ∧ Q (.int (if j < i then j else i)) H
def rInt1 : List V → Hp → VK → Prop := fun xs H Q => (∃ i, xs = [.int i] ∧ Q (.int i) H) ∨ ∃ k, xs = [.bl k] ∧ Q (.int (if k then 1 else 0)) H
def rStrInt : List V → Hp → VK → Prop := fun xs H Q => ∃ i : Int, xs = [.int i] ∧ i.natAbs.log2 < 1920 ∧ Q (.str (toString i)) H
def rListOf (K : PySem.W.Frag) : List V → Hp → VK → Prop := fun xs H Q => ∃ p ys, xs = [.ref p] ∧ (SqL K H p ys ∨ SqT K H p ys) ∧ ∀ l, H l = none → Q (.ref l) (upd H l (.lst ys))
def rTupleOf (K : PySem.W.Frag) : List V → Hp → VK → Prop := fun xs H Q => ∃ p ys, xs = [.ref p] ∧ ((SqL K H p ys ∧ ∀ l, H l = none → Q (.ref l) (upd H l (.tup ys))) ∨ (SqT K H p ys ∧ Q (.ref p) H))
def rDivmod : List V → Hp → VK → Prop := fun xs H Q => ∃ i j, xs = [.int i, .int j] ∧ CDiv i j ∧ ∀ p, H p = none → Q (.ref p) (upd H p (.tup [.int (i / j), .int (i % j)]))
def rAddStr : R2 := fun x y H Q => ∃ i j, x = .str i ∧ y = .str j ∧ i.length + j.length ≤ sizeLine ∧ Q (.str (i ++ j)) H
def rFind : V → List V → Hp → VK → Prop := fun x xs H Q => ∃ a b, x = .str a ∧ xs = [.str b] ∧ Q (.int (Txt.find a b)) H
def rRjust : V → List V → Hp → VK → Prop := fun x xs H Q => ∃ (a : Str) (i : Int), x = .str a ∧ xs = [.int i] ∧ PadOk i = true ∧ Q (.str (Txt.rjust a i)) H
section
variable {X : Cx}
theorem cz_len : CallR X (.builtin "len") (rLen X.K) := call_len_seq
theorem cz_lenStr : CallR X (.builtin "len") rLenStr := call_len_str
theorem cz_abs : CallR X (.builtin "abs") rAbs := call_abs
theorem cz_max2 (hc : X.calm = true) : CallR X (.builtin "max") rMax2 := call_max2 hc
theorem cz_min2 (hc : X.calm = true) : CallR X (.builtin "min") rMin2 := call_min2 hc
theorem cz_int1 : CallR X (.type "int") rInt1 := call_int1
theorem cz_strInt : CallR X (.type "str") rStrInt := call_str_int
theorem cz_listOf : CallR X (.type "list") (rListOf X.K) := call_list_of
theorem cz_tupleOf : CallR X (.type "tuple") (rTupleOf X.K) := call_tuple_of
theorem cz_divmod : CallR X (.builtin "divmod") rDivmod := call_divmod
theorem oz_addStr : OpR X (binaryOp .Add) rAddStr := op_add_str
theorem mz_find : MtR X "str.find" rFind := mt_find
def rRjust2 : V → List V → Hp → VK → Prop := fun x xs H Q => ∃ (a f : Str) (i : Int), x = .str a ∧ xs = [.int i, .str f] ∧ (PadOk i = true ∧ f.length = 1) ∧ Q (.str (Txt.rjustF a i (f.cps.getD 0 0))) H
theorem mz_rjust2 : MtR X "str.rjust" rRjust2 := by
  intro pins s σ H x xs v us Q I rx rs h
  obtain ⟨a, f, i, rfl, rfl, hc, h⟩ := h
  obtain ⟨t, rfl⟩ := rx
  cases rs with
  | cons r1 rs =>
    cases rs with
    | cons r2 rs =>
      cases rs
      obtain ⟨u, rfl⟩ := r1
      obtain ⟨z, rfl⟩ := r2
      exact PyProof.Rows.rjust_fill hc.1 hc.2 fun t' k => ⟨V.str (Txt.rjustF a i (f.cps.getD 0 0)), H, I.tok k, ⟨t', rfl⟩, h⟩
def rJoin (K : PySem.W.Frag) : V → List V → Hp → VK → Prop := fun x xs H Q => ∃ a p, ∃ ys : List Str, x = .str a ∧ xs = [.ref p] ∧ (SqL K H p (ys.map V.str) ∨ SqT K H p (ys.map V.str)) ∧
      (ys.map (·.length)).sum + ys.length * a.length ≤ 16777216 ∧ Q (.str (Txt.join a ys)) H
theorem mz_join : MtR X "str.join" (rJoin X.K) := mt_join
def rUpper : V → List V → Hp → VK → Prop := fun x xs H Q => ∃ a, x = .str a ∧ xs = [] ∧ a.length ≤ 5592405 ∧ Q (.str (Txt.upper a)) H
theorem mz_upper : MtR X "str.upper" rUpper := mt_upper
def rMulS : R2 := fun x y H Q => ∃ (a : Str) (n : Int), x = .str a ∧ y = .int n ∧ MulOk a n ∧ Q (.str (Txt.mul a n)) H
theorem oz_mulS : OpR X (binaryOp .Mult) rMulS := by
  intro pins s σ H x y v u Q I rx ry h
  obtain ⟨a, n, rfl, rfl, hc, h⟩ := h
  obtain ⟨t, rfl⟩ := rx
  obtain ⟨z, rfl⟩ := ry
  exact PySem.SB.mul hc fun t' k => ⟨V.str (Txt.mul a n), H, I.tok k, ⟨t', rfl⟩, h⟩
def tFS (ts : List TE) : TE := fun σ H Q => tJs ts Str.empty σ H fun out H1 => Q (.str out) H1
theorem pz_fstr {v1 v2 : Expr} {rest : List Expr} {ts : List TE} {pos : Pos} (h : PJ X (v1 :: v2 :: rest) ts) : PE X (.JoinedStr (v1 :: v2 :: rest) pos) (tFS ts) := pe_joined h
def rSindex : V → List V → Hp → VK → Prop := fun x xs H Q => ∃ a b i rest, x = .str a ∧ xs = [.str b] ∧ Builtin.Str.occurrences a b 0 a.length 1 = i :: rest ∧ Q (.int (i : Nat)) H
theorem mz_sindex : MtR X "str.index" rSindex := mt_sindex
theorem mz_rjust : MtR X "str.rjust" rRjust := mt_rjust
end
section
variable {K : PySem.W.Frag} {H : Hp} {Q : VK} {x : V}
theorem s_tyS {z : Str} {R : Prop} (k : R) : tyV K "str" (.str z) H ∧ R := ⟨by show "str" = "str"; rfl, k⟩
theorem s_tyL {a : Addr} {xs : List V} {R : Prop} (h : SqL K H a xs) (k : R) : tyV K "list" (.ref a) H ∧ R := ⟨.inl ⟨rfl, _, h⟩, k⟩
theorem s_rLen {p : Addr} {xs : List V} (h : SqL K H p xs ∨ SqT K H p xs) (k : Q (.int xs.length) H) : rLen K [.ref p] H Q := ⟨p, xs, rfl, h, k⟩
theorem s_rLenStr {z : Str} (h : z.length ≤ sizeLine) (k : Q (.int z.length) H) : rLenStr [.str z] H Q := ⟨z, rfl, h, k⟩
theorem s_rAbs {i : Int} (k : Q (.int (if i < 0 then -i else i)) H) : rAbs [.int i] H Q := ⟨i, rfl, k⟩
theorem s_rMax2 {i j : Int} (k : Q (.int (if j > i then j else i)) H) : rMax2 [.int i, .int j] H Q := ⟨i, j, rfl, k⟩
theorem s_rMin2 {i j : Int} (k : Q (.int (if j < i then j else i)) H) : rMin2 [.int i, .int j] H Q := ⟨i, j, rfl, k⟩
theorem s_rInt1 {i : Int} (k : Q (.int i) H) : rInt1 [.int i] H Q := .inl ⟨i, rfl, k⟩
theorem s_rIntB {c : Bool} (k : Q (.int (if c then 1 else 0)) H) : rInt1 [.bl c] H Q := .inr ⟨c, rfl, k⟩
theorem s_rStrInt {i : Int} (h : i.natAbs.log2 < 1920) (k : Q (.str (toString i)) H) : rStrInt [.int i] H Q := ⟨i, rfl, h, k⟩
theorem s_rListOf {p : Addr} {xs : List V} (h : SqL K H p xs ∨ SqT K H p xs) (k : NewO (.lst xs) H Q) : rListOf K [.ref p] H Q := ⟨p, xs, rfl, h, k⟩
theorem s_rTupleOf {p : Addr} {xs : List V} (h : SqL K H p xs) (k : NewO (.tup xs) H Q) : rTupleOf K [.ref p] H Q := ⟨p, xs, rfl, .inl ⟨h, k⟩⟩
theorem s_rDivmod {i j : Int} (h : CDiv i j) (k : NewO (.tup [.int (i / j), .int (i % j)]) H Q) : rDivmod [.int i, .int j] H Q := ⟨i, j, rfl, h, k⟩
theorem s_rAddStr {a b : Str} (h : a.length + b.length ≤ sizeLine) (k : Q (.str (a ++ b)) H) : rAddStr (.str a) (.str b) H Q := ⟨a, b, rfl, rfl, h, k⟩
theorem s_rFind {a b : Str} (k : Q (.int (Txt.find a b)) H) : rFind (.str a) [.str b] H Q := ⟨a, b, rfl, rfl, k⟩
theorem s_rJoin {a : Str} {p : Addr} {xs : List V} (ys : List Str) (h : SqL K H p xs ∨ SqT K H p xs) (e : xs = ys.map V.str) (z : (ys.map (·.length)).sum + ys.length * a.length ≤ 16777216) (k : Q (.str (Txt.join a ys)) H) : rJoin K (.str a) [.ref p] H Q := ⟨a, p, ys, rfl, rfl, by rw [← e]; exact h, z, k⟩
def RevV (K : PySem.W.Frag) (x : V) (H : Hp) (Q : VK) : Prop := ∃ a xs, x = .ref a ∧ SqL K H a xs ∧ ∀ p, H p = none → Q (.ref p) (upd H p (.lst xs.reverse))
theorem s_tRevL {te : TE} {σ : L2.St} (k : te σ H fun x H1 => RevV K x H1 Q) : tRevL K te σ H Q := k
theorem s_revV {a : Addr} {xs : List V} (h : SqL K H a xs) (k : NewO (.lst xs.reverse) H Q) : RevV K (.ref a) H Q := ⟨a, xs, rfl, h, k⟩
def AppV (x : V) (vs : List V) (H : Hp) (Q : VK) : Prop := rAppend x vs H Q
theorem s_app {l : Addr} {xs : List V} {y : V} (h : H l = some (.lst xs)) (z : xs.length < sizeLine) (k : ∀ H', Fr l H H' → H' l = some (.lst (xs ++ [y])) → Q .non H') : rAppend (.ref l) [y] H Q := ⟨l, xs, y, rfl, rfl, h, z, k _ Fr.upd upd_same⟩
theorem s_rRjust2 {a f : Str} {i : Int} (h : PadOk i = true ∧ f.length = 1) (k : Q (.str (Txt.rjustF a i (f.cps.getD 0 0))) H) : rRjust2 (.str a) [.int i, .str f] H Q := ⟨a, f, i, rfl, rfl, h, k⟩
theorem s_rRjust {a : Str} {i : Int} (h : PadOk i = true) (k : Q (.str (Txt.rjust a i)) H) : rRjust (.str a) [.int i] H Q := ⟨a, i, rfl, rfl, h, k⟩
theorem s_rAll {K : PySem.W.Frag} {p : Addr} (bs : List Bool) {xs : List V} (h : SqL K H p xs) (e : xs = bs.map V.bl) (k : Q (.bl (bs.all id)) H) : rAll K [.ref p] H Q := ⟨p, bs, rfl, by rw [← e]; exact h, k⟩
theorem s_rUpper {a : Str} (h : a.length ≤ 5592405) (k : Q (.str (Txt.upper a)) H) : rUpper (.str a) [] H Q := ⟨a, rfl, rfl, h, k⟩
theorem s_rMulS {a : Str} {n : Int} (h : MulOk a n) (k : Q (.str (Txt.mul a n)) H) : rMulS (.str a) (.int n) H Q := ⟨a, n, rfl, rfl, h, k⟩
def FmtV (x : V) (H : Hp) (Q : VK) : Prop := (∃ y : Str, x = .str y ∧ y.length ≤ sizeLine ∧ Q (.str y) H) ∨ ∃ i : Int, x = .int i ∧ i.natAbs.log2 < 1920 ∧ Q (.str (toString i)) H
def JsV (x : V) (acc : Str) (ts : List TE) (σ : L2.St) (H : Hp) (R : Str → Hp → Prop) : Prop := ∃ y : Str, x = .str y ∧ (acc ++ y).length ≤ sizeLine ∧ tJs ts (acc ++ y) σ H R
theorem s_tFmt {te : TE} {σ : L2.St} (k : te σ H fun x H1 => FmtV x H1 Q) : tFmt te σ H Q := k
theorem s_fmtS {y : Str} (h : y.length ≤ sizeLine) (k : Q (.str y) H) : FmtV (.str y) H Q := .inl ⟨y, rfl, h, k⟩
theorem s_fmtI {i : Int} (h : i.natAbs.log2 < 1920) (k : Q (.str (toString i)) H) : FmtV (.int i) H Q := .inr ⟨i, rfl, h, k⟩
theorem s_tFS {ts : List TE} {σ : L2.St} (k : tJs ts Str.empty σ H fun out H1 => Q (.str out) H1) : tFS ts σ H Q := k
theorem s_jsNil {acc : Str} {σ : L2.St} {R : Str → Hp → Prop} (k : R acc H) : tJs [] acc σ H R := k
theorem s_jsCons {t : TE} {ts : List TE} {acc : Str} {σ : L2.St} {R : Str → Hp → Prop} (k : t σ H fun x H1 => JsV x acc ts σ H1 R) : tJs (t :: ts) acc σ H R := k
theorem s_jsV {y acc : Str} {ts : List TE} {σ : L2.St} {R : Str → Hp → Prop} (h : (acc ++ y).length ≤ sizeLine) (k : tJs ts (acc ++ y) σ H R) : JsV (.str y) acc ts σ H R := ⟨y, rfl, h, k⟩
theorem s_rSindex {a b : Str} {i : Nat} {rest : List Nat} (h : Builtin.Str.occurrences a b 0 a.length 1 = i :: rest) (k : Q (.int (i : Nat)) H) : rSindex (.str a) [.str b] H Q := ⟨a, b, i, rest, rfl, rfl, h, k⟩
theorem s_rNotInS {c : Nat} {z : Str} (k : Q (.bl (!decide (c ∈ z.cps.toList))) H) : rNotInS (.str ⟨#[c]⟩) (.str z) H Q := ⟨c, z, rfl, rfl, k⟩
theorem s_rInS {c : Nat} {z : Str} (k : Q (.bl (decide (c ∈ z.cps.toList))) H) : rInS (.str ⟨#[c]⟩) (.str z) H Q := ⟨c, z, rfl, rfl, k⟩
theorem s_catA {K : PySem.W.Frag} {a b : Addr} {xs ys : List V} (h1 : SqT K H a xs) (h2 : SqT K H b ys) (hx : xs ≠ []) (hy : ys ≠ []) (hz : xs.length + ys.length ≤ sizeLine) (k : NewO (.tup (xs ++ ys)) H Q) : rCatA K (.ref a) (.ref b) H Q :=
  ⟨a, b, xs, ys, rfl, rfl, h1, h2, hz, fun e => absurd e hx, fun _ e => absurd e hy, fun _ _ => k⟩
theorem s_slT {K : PySem.W.Frag} {a : Addr} {xs : List V} {lo hi : Option Int} (n : Nat) (ys : List V) (h : SqT K H a xs) (hn : xs.length = n) (hw : ¬ (HT.sIx n 0 lo = 0 ∧ HT.sIx n n hi = n)) (e : cutV xs lo hi = ys) (k : NewO (.tup ys) H Q) : rSlT K (.ref a) lo hi H Q := ⟨a, xs, rfl, h, by rw [hn]; exact hw, by rw [e]; exact k⟩
theorem s_rInSeq {K : PySem.W.Frag} {p : Addr} {xs : List V} (h : SqL K H p xs ∨ SqT K H p xs) (f1 : flatV x = true) (f2 : xs.all flatV = true) (k : Q (.bl (inV x xs)) H) : rIn K false x (.ref p) H Q := ⟨p, xs, rfl, h, f1, f2, k⟩
theorem s_rNotInSeq {K : PySem.W.Frag} {p : Addr} {xs : List V} (h : SqL K H p xs ∨ SqT K H p xs) (f1 : flatV x = true) (f2 : xs.all flatV = true) (k : Q (.bl (!inV x xs)) H) : rIn K true x (.ref p) H Q := ⟨p, xs, rfl, h, f1, f2, k⟩
theorem s_rIsN (k : Q (.bl (decide (x = .non))) H) : rIsN x .non H Q := ⟨rfl, k⟩
theorem s_rNotN (k : Q (.bl (!decide (x = .non))) H) : rNotN x .non H Q := ⟨rfl, k⟩
end

/-! ### texts as their codes -/
def T (l : List Nat) : Str := ⟨l.toArray⟩
theorem T_len (l : List Nat) : (T l).length = l.length := by
  show (l.toArray).size = _
  simp
theorem T_app (a b : List Nat) : T a ++ T b = T (a ++ b) := by
  show (⟨a.toArray ++ b.toArray⟩ : Str) = ⟨(a ++ b).toArray⟩
  simp
theorem T_one (c : Nat) : (⟨#[c]⟩ : Str) = T [c] := rfl
theorem T_cps (l : List Nat) : (T l).cps.toList = l := by
  show l.toArray.toList = l
  simp
theorem T_inj {a b : List Nat} (h : T a = T b) : a = b := by
  have e := congrArg (fun s : Str => s.cps.toList) h
  rw [T_cps, T_cps] at e
  exact e
theorem at0 {α : Type} (c : α) (r : List α) : atI (c :: r) (0 : Int) = some c := atI_nat (xs := c :: r) (j := 0) rfl
theorem at_ex {α : Type} (l : List α) {z : Int} (h0 : 0 ≤ z) (h1 : z < l.length) : ∃ c, atI l z = some c := by
  obtain ⟨n, rfl⟩ : ∃ n : Nat, z = n := ⟨z.toNat, by omega⟩
  exact ⟨l[n]'(by omega), atI_nat (List.getElem?_eq_getElem (by omega))⟩
/-- an item at an open place: what is true of all items -/
theorem s_ixP {K : PySem.W.Frag} {p : Addr} {xs : List V} {z : Int} {H : Hp} {Q : VK} (P : V → Prop) (h : SqL K H p xs) (hz : 0 ≤ z ∧ z < xs.length) (hP : ∀ v ∈ xs, P v) (k : ∀ v, P v → Q v H) : rIxL K (.ref p) (.int z) H Q := by
  obtain ⟨v, hv⟩ := at_ex xs hz.1 hz.2
  obtain ⟨j, _, hj, _⟩ := atI_get hv
  exact ⟨p, xs, z, v, rfl, rfl, h, hv, k v (hP v (List.mem_of_getElem? hj))⟩
/-- an item at an open place: what is true of all items -/
theorem s_ixPT {K : PySem.W.Frag} {p : Addr} {xs : List V} {z : Int} {H : Hp} {Q : VK} (P : V → Prop) (h : SqT K H p xs) (hz : 0 ≤ z ∧ z < xs.length) (hP : ∀ v ∈ xs, P v) (k : ∀ v, P v → Q v H) : rIxT K (.ref p) (.int z) H Q := by
  obtain ⟨v, hv⟩ := at_ex xs hz.1 hz.2
  obtain ⟨j, _, hj, _⟩ := atI_get hv
  exact ⟨p, xs, z, v, rfl, rfl, h, hv, k v (hP v (List.mem_of_getElem? hj))⟩
theorem s_ixS {z : Str} {a : Int} {c : Nat} {H : Hp} {Q : VK} (hz : z.length ≤ sizeLine) (e : atI z.cps.toList a = some c) (k : Q (.str ⟨#[c]⟩) H) : rIxS (.str z) (.int a) H Q := ⟨z, a, c, rfl, rfl, hz, e, k⟩
theorem T_rjust (l : List Nat) (n c : Nat) : Txt.rjustF (T l) (n : Int) c = T (List.replicate (n - l.length) c ++ l) := by
  unfold Txt.rjustF
  rw [T_len]
  split
  · rw [show n - l.length = 0 from by omega]
    rfl
  · show (⟨Array.replicate _ c ++ l.toArray ++ Array.replicate 0 c⟩ : Str) = _
    rw [Int.toNat_natCast]
    unfold T
    congr 1
    rw [← List.toArray_replicate]
    simp
/-! ### new objects -/
theorem sz {n : Nat} (h : n ≤ 100000) : n ≤ sizeLine := Nat.le_trans h (by decide)
theorem szl {n : Nat} (h : n ≤ 100000) : n < sizeLine := Nat.lt_of_le_of_lt h (by decide)

theorem s_setN {H : Hp} {v : V} {p : Addr} {xs : List V} {a : Int} {m : Nat} {R : Hp → Prop} (h : H p = some (.lst xs)) (e : ixN xs.length a = some m) (ys : List V) (hy : xs.set m v = ys) (k : ∀ H', Fr p H H' → H' p = some (.lst ys) → R H') : rSetL (.ref p) (.int a) v H R :=
  ⟨p, xs, a, m, rfl, rfl, h, e, by rw [hy]; exact k _ Fr.upd upd_same⟩
/-! ### the drawing bag -/
structure Bag (H : Hp) (b c : Addr) : Prop where
  ex : ∃ (cells : List Int) (i : Nat) (big salt : Int), H b = some (.lst [.ref c, .int i, .int big, .int salt]) ∧ H c = some (.lst (cells.map V.int)) ∧ i ≤ cells.length ∧ 0 ≤ big ∧ 0 ≤ salt ∧ salt < 2147483647
theorem bag_ne {H : Hp} {b c : Addr} {xs : List V} {cells : List Int} (h1 : H b = some (.lst (.ref c :: xs))) (h2 : H c = some (.lst (cells.map V.int))) : c ≠ b := by
  intro e
  subst e
  rw [h1] at h2
  injection h2 with h2
  injection h2 with h2
  cases cells with
  | nil => cases h2
  | cons y ys => injection h2 with h2; cases h2
theorem Bag.getb {H : Hp} {b c : Addr} (B : Bag H b c) : ∃ xs, H b = some (.lst xs) := by
  obtain ⟨_, _, _, _, h, _⟩ := B.ex
  exact ⟨_, h⟩
theorem Bag.getc {H : Hp} {b c : Addr} (B : Bag H b c) : ∃ xs, H c = some (.lst xs) := by
  obtain ⟨_, _, _, _, _, h, _⟩ := B.ex
  exact ⟨_, h⟩
theorem Bag.neb {H : Hp} {b c p : Addr} (B : Bag H b c) (h : H p = none) : p ≠ b := by
  obtain ⟨_, q⟩ := B.getb
  exact (ne_of_none q h).symm
theorem Bag.nec {H : Hp} {b c p : Addr} (B : Bag H b c) (h : H p = none) : p ≠ c := by
  obtain ⟨_, q⟩ := B.getc
  exact (ne_of_none q h).symm
theorem neb_of {H : Hp} {b c p : Addr} (h : H p = none) (B : Bag H b c) : p ≠ b := B.neb h
theorem nec_of {H : Hp} {b c p : Addr} (h : H p = none) (B : Bag H b c) : p ≠ c := B.nec h
theorem Bag.cb {H : Hp} {b c : Addr} (B : Bag H b c) : c ≠ b := by
  obtain ⟨_, _, _, _, h1, h2, _⟩ := B.ex
  exact bag_ne h1 h2
theorem Bag.ext {H H' : Hp} {b c : Addr} (B : Bag H b c) (e : Ex H H') : Bag H' b c := by
  obtain ⟨cells, i, big, salt, h1, h2, r⟩ := B.ex
  exact ⟨cells, i, big, salt, e _ _ h1, e _ _ h2, r⟩
theorem Bag.frs {H H' : Hp} {b c D : Addr} (B : Bag H b c) (n1 : D ≠ b) (n2 : D ≠ c) (e : Fr D H H') : Bag H' b c := by
  obtain ⟨cells, i, big, salt, h1, h2, r⟩ := B.ex
  exact ⟨cells, i, big, salt, e _ _ n1.symm h1, e _ _ n2.symm h2, r⟩
theorem Bag.mk' {H : Hp} {b c : Addr} {cells : List Int} {i : Nat} {big salt : Int} (h1 : H b = some (HO.lst [.ref c, .int i, .int big, .int salt])) (h2 : H c = some (HO.lst (cells.map V.int))) (h3 : i ≤ cells.length) (h4 : 0 ≤ big) (h5 : 0 ≤ salt ∧ salt < 2147483647) : Bag H b c :=
  ⟨cells, i, big, salt, h1, h2, h3, h4, h5.1, h5.2⟩
def spPull : Sp := fun vs H Q _ => ∃ (b c : Addr) (n : Int), vs = [.ref b, .int n] ∧ Bag H b c ∧ 0 < n ∧ n < 2 ^ 200 ∧ ∀ z H', 0 ≤ z → z < n → Bag H' b c → Fr b H H' → Q (.int z) H'
def spBag (K : PySem.W.Frag) : Sp := fun vs H Q _ => ∃ (a : Addr) (ns : List Int), vs = [.ref a] ∧ SqL K H a (ns.map V.int) ∧ ns.length ≤ 63 ∧ ∀ b c H', H b = none → H c = none → Ex H H' → Bag H' b c → Q (.ref b) H'
theorem use_pull {H : Hp} {b c : Addr} {n : Int} {Q : VK} {E : XK} (B : Bag H b c) (h : 0 < n ∧ n < 2 ^ 200) (k : ∀ z H', 0 ≤ z → z < n → Bag H' b c → Fr b H H' → Q (.int z) H') : spPull ([.ref b, .int n] ++ []) H Q E :=
  ⟨b, c, n, rfl, B, h.1, h.2, k⟩

/-! ### what cannot change: the heap without the addresses that may -/
def wos (M : List Addr) (H : Hp) : Hp := fun a => if a ∈ M then none else H a
theorem wos_some {M : List Addr} {a : Addr} {H : Hp} {o : HO} (h : wos M H a = some o) : a ∉ M ∧ H a = some o := by
  unfold wos at h
  split at h
  · cases h
  · exact ⟨by assumption, h⟩
theorem wos_mk {M : List Addr} {a : Addr} {H : Hp} {o : HO} (n : a ∉ M) (h : H a = some o) : wos M H a = some o := by
  unfold wos
  rw [if_neg n]
  exact h
theorem wos_ex {M : List Addr} {H : Hp} : Ex (wos M H) H := fun _ _ h => (wos_some h).2
theorem wos_nil {H : Hp} : Ex H (wos [] H) := fun _ _ h => wos_mk (by simp) h
theorem Ex.wos {M : List Addr} {H H' : Hp} (e : Ex H H') : Ex (Z.wos M H) (Z.wos M H') := fun a o h => wos_mk (wos_some h).1 (e a o (wos_some h).2)
theorem Fr.wos {M : List Addr} {b : Addr} {H H' : Hp} (e : Fr b H H') (hb : b ∈ M) : Ex (Z.wos M H) (Z.wos M H') := fun a o h =>
  wos_mk (wos_some h).1 (e a o (fun q => (wos_some h).1 (by rw [q]; exact hb)) (wos_some h).2)
/-- an address more that may change: it is new -/
theorem wos_more {M : List Addr} {D : Addr} {H H' : Hp} (e : Ex H H') (n : H D = none) : Ex (wos M H) (wos (D :: M) H') := fun a o h => by
  have h1 := wos_some h
  refine wos_mk ?_ (e _ _ h1.2)
  intro q
  rcases List.mem_cons.mp q with q | q
  · rw [q, n] at h1
    cases h1.2
  · exact h1.1 q
/-- one that has come to rest -/
theorem wos_less {M : List Addr} {D : Addr} {H : Hp} : Ex (wos (D :: M) H) (wos M H) := fun _ _ h => wos_mk (fun q => (wos_some h).1 (List.mem_cons_of_mem _ q)) (wos_some h).2
theorem wos_new {M : List Addr} {p : Addr} {H H' : Hp} {o : HO} (n : H p = none) (hM : ∀ a ∈ M, H a ≠ none) (h : H' p = some o) : Z.wos M H' p = some o := wos_mk (fun q => hM _ q n) h

theorem cut63 {xs : List V} (h : xs.length ≤ 63) : cutV xs none (some 63) = xs := by
  unfold cutV
  have e : HT.sIx xs.length xs.length (some 63) = xs.length := by
    rw [show (63 : Int) = ((63 : Nat) : Int) from rfl, HT.sIx_nat]
    omega
  rw [HT.sIx_none, e]
  simp
theorem map_int_get {ns : List Int} {i : Nat} {x : V} (h : (ns.map V.int)[i]? = some x) : ∃ y, x = V.int y := by
  rw [List.getElem?_map] at h
  cases e : ns[i]? with
  | none => rw [e] at h; cases h
  | some y => rw [e] at h; exact ⟨y, (Option.some.inj h).symm⟩
/-! ### comprehensions -/
def LcW (J : It) (g : TG) (tt : TT) (te : TE) (vs : List Nat) (σ : L2.St) (H1 : Hp) (Q : VK) : Prop := ∀ D, H1 D = none → ∃ W : Nat → Nat → Hp → Prop, (∃ m, W 0 m (upd H1 D (.lst []))) ∧ ∀ i m H, W i m H →
  (J.stop i H ∧ Q (.ref D) H) ∨ (J.go i H ∧ ∃ Nx : Hp → Prop, (∀ H', Nx H' → ∃ m', m' < m ∧ W (i + 1) m' H') ∧ ∀ x H', J.yld i H x H' → g x (wipe σ vs) H' fun σ2 H2 => wipe σ2 vs = wipe σ vs ∧ tt σ2 H2 fun b H3 =>
    if b = true then te σ2 H3 fun y H4 => ∃ acc, H4 D = some (.lst acc) ∧ acc.length < sizeLine ∧ Nx (upd H4 D (.lst (acc ++ [y]))) else Nx H3)
theorem s_lc {wi : TI} {g : TG} {tt : TT} {te : TE} {vs : List Nat} {σ : L2.St} {H : Hp} {Q : VK} (k : wi σ H fun J H1 => LcW J g tt te vs σ H1 Q) : tLc wi g tt te vs σ H Q := k
theorem s_yes {σ : L2.St} {H : Hp} {R : Bool → Hp → Prop} (k : R true H) : tYes σ H R := k
/-- between two turns: D holds what has been made -/
def Cv (Iv : Addr → Hp → Prop) (R : Addr → Nat → List V → Hp → Prop) (D : Addr) (i : Nat) (H : Hp) : Prop := ∃ l, Iv D H ∧ H D = some (.lst l) ∧ l.length ≤ i ∧ R D i l H
theorem c_put {Iv : Addr → Hp → Prop} {R : Addr → Nat → List V → Hp → Prop} {D : Addr} {i : Nat} {H4 : Hp} {l : List V} {y : V} (h : H4 D = some (.lst l)) (hz : l.length ≤ i ∧ i < 50000) (k : ∀ H5, Fr D H4 H5 → H5 D = some (.lst (l ++ [y])) → Iv D H5 ∧ R D (i + 1) (l ++ [y]) H5) :
    ∃ acc, H4 D = some (.lst acc) ∧ acc.length < sizeLine ∧ Cv Iv R D (i + 1) (upd H4 D (.lst (acc ++ [y]))) := by
  obtain ⟨a, r⟩ := k _ Fr.upd upd_same
  exact ⟨l, h, szl (by omega), l ++ [y], a, upd_same, by rw [List.length_append, List.length_singleton]; omega, r⟩
theorem c_skip {Iv : Addr → Hp → Prop} {R : Addr → Nat → List V → Hp → Prop} {D : Addr} {i : Nat} {H4 : Hp} {l : List V} (h : H4 D = some (.lst l)) (hz : l.length ≤ i) (a : Iv D H4) (r : R D (i + 1) l H4) : Cv Iv R D (i + 1) H4 := ⟨l, a, h, by omega, r⟩
/-- over any walk: the new list D is held apart; R speaks of what has been made -/
theorem c_it {J : It} {n : Nat} {G : Hp → Prop} {Y : Nat → Hp → V → Hp → Prop} {g : TG} {tt : TT} {te : TE} {vs : List Nat} {σ : L2.St} {H : Hp} {Q : VK} (w : Walk J n G Y) (Iv : Addr → Hp → Prop) (R : Addr → Nat → List V → Hp → Prop)
    (h0 : ∀ D H', H D = none → Ex H H' → H' D = some (.lst []) → Iv D H' ∧ R D 0 [] H') (hG : ∀ D H', Iv D H' → G H')
    (hs : ∀ D i l H1 x H1', i < n → Iv D H1 → H1 D = some (.lst l) → l.length ≤ i → R D i l H1 → Y i H1 x H1' → g x (wipe σ vs) H1' fun σ2 H2 => wipe σ2 vs = wipe σ vs ∧ tt σ2 H2 fun b H3 =>
      if b = true then te σ2 H3 fun y H4 => ∃ acc, H4 D = some (.lst acc) ∧ acc.length < sizeLine ∧ Cv Iv R D (i + 1) (upd H4 D (.lst (acc ++ [y]))) else Cv Iv R D (i + 1) H3)
    (hd : ∀ D l H', Iv D H' → H' D = some (.lst l) → l.length ≤ n → R D n l H' → Q (.ref D) H') : LcW J g tt te vs σ H Q := by
  intro D hD
  refine lc_it w (Cv Iv R D) ?_ (fun i H' _ p => ?_) (fun i x H1 H1' hi p y => ?_) (fun H' p => ?_)
  · obtain ⟨a, b⟩ := h0 D _ hD (Ex.new hD) upd_same
    exact ⟨[], a, upd_same, Nat.le_refl _, b⟩
  · obtain ⟨l, a, _⟩ := p
    exact hG _ _ a
  · obtain ⟨l, a, hl, hz, r⟩ := p
    exact hs D i l H1 x H1' hi a hl hz r y
  · obtain ⟨l, a, hl, hz, r⟩ := p
    exact hd D l H' a hl hz r
theorem c_range {n : Int} {g : TG} {tt : TT} {te : TE} {vs : List Nat} {σ : L2.St} {H : Hp} {Q : VK} (b : -(2 ^ 62) ≤ n ∧ n < 2 ^ 62) (Iv : Addr → Hp → Prop) (R : Addr → Nat → List V → Hp → Prop)
    (h0 : ∀ D H', H D = none → Ex H H' → H' D = some (.lst []) → Iv D H' ∧ R D 0 [] H')
    (hs : ∀ D (i : Nat) l H1, (i : Int) < n → Iv D H1 → H1 D = some (.lst l) → l.length ≤ i → R D i l H1 → g (.int (i : Int)) (wipe σ vs) H1 fun σ2 H2 => wipe σ2 vs = wipe σ vs ∧ tt σ2 H2 fun b H3 =>
      if b = true then te σ2 H3 fun y H4 => ∃ acc, H4 D = some (.lst acc) ∧ acc.length < sizeLine ∧ Cv Iv R D (i + 1) (upd H4 D (.lst (acc ++ [y]))) else Cv Iv R D (i + 1) H3)
    (hd : ∀ D l H', Iv D H' → H' D = some (.lst l) → l.length ≤ n.toNat → R D n.toNat l H' → Q (.ref D) H') :
    ∃ j : Int, [V.int n] = [.int j] ∧ -(2 ^ 62) ≤ j ∧ j < 2 ^ 62 ∧ LcW (Itr 0 j.toNat) g tt te vs σ H Q :=
  ⟨n, rfl, b.1, b.2, c_it walk_range Iv R h0 (fun _ _ _ => trivial) (fun D i l H1 x H1' hi a hl hz r y => by
    obtain ⟨e, y⟩ := y
    subst e y
    have e0 : (0 : Int) + (i : Int) = (i : Int) := Int.zero_add _
    dsimp only
    rw [e0]
    exact hs D i l _ (by omega) a hl hz r) hd⟩
theorem c_list {K : PySem.W.Frag} {a : Addr} {g : TG} {tt : TT} {te : TE} {vs : List Nat} {σ : L2.St} {H : Hp} {Q : VK} (xs : List V) (h : SqL K H a xs) (Iv : Addr → Hp → Prop) (R : Addr → Nat → List V → Hp → Prop)
    (h0 : ∀ D H', H D = none → Ex H H' → H' D = some (.lst []) → Iv D H' ∧ R D 0 [] H') (hG : ∀ D H', Iv D H' → SqL K H' a xs)
    (hs : ∀ D i l H1 x, xs[i]? = some x → Iv D H1 → H1 D = some (.lst l) → l.length ≤ i → R D i l H1 → g x (wipe σ vs) H1 fun σ2 H2 => wipe σ2 vs = wipe σ vs ∧ tt σ2 H2 fun b H3 =>
      if b = true then te σ2 H3 fun y H4 => ∃ acc, H4 D = some (.lst acc) ∧ acc.length < sizeLine ∧ Cv Iv R D (i + 1) (upd H4 D (.lst (acc ++ [y]))) else Cv Iv R D (i + 1) H3)
    (hd : ∀ D l H', Iv D H' → H' D = some (.lst l) → l.length ≤ xs.length → R D xs.length l H' → Q (.ref D) H') :
    ∃ a', V.ref a = .ref a' ∧ (∃ xs, SqL K H a' xs) ∧ LcW (Itl K a') g tt te vs σ H Q :=
  ⟨a, rfl, ⟨xs, h⟩, c_it walk_list Iv R h0 hG (fun D i l H1 x H1' hi a hl hz r y => by
    obtain ⟨e, y⟩ := y
    subst e
    exact hs D i l _ x y a hl hz r) hd⟩
theorem c_tup {K : PySem.W.Frag} {a : Addr} {g : TG} {tt : TT} {te : TE} {vs : List Nat} {σ : L2.St} {H : Hp} {Q : VK} (xs : List V) (h : SqT K H a xs) (Iv : Addr → Hp → Prop) (R : Addr → Nat → List V → Hp → Prop)
    (h0 : ∀ D H', H D = none → Ex H H' → H' D = some (.lst []) → Iv D H' ∧ R D 0 [] H') (hG : ∀ D H', Iv D H' → SqT K H' a xs)
    (hs : ∀ D i l H1 x, xs[i]? = some x → Iv D H1 → H1 D = some (.lst l) → l.length ≤ i → R D i l H1 → g x (wipe σ vs) H1 fun σ2 H2 => wipe σ2 vs = wipe σ vs ∧ tt σ2 H2 fun b H3 =>
      if b = true then te σ2 H3 fun y H4 => ∃ acc, H4 D = some (.lst acc) ∧ acc.length < sizeLine ∧ Cv Iv R D (i + 1) (upd H4 D (.lst (acc ++ [y]))) else Cv Iv R D (i + 1) H3)
    (hd : ∀ D l H', Iv D H' → H' D = some (.lst l) → l.length ≤ xs.length → R D xs.length l H' → Q (.ref D) H') :
    ∃ a', V.ref a = .ref a' ∧ (∃ xs, SqT K H a' xs) ∧ LcW (Itt K a') g tt te vs σ H Q :=
  ⟨a, rfl, ⟨xs, h⟩, c_it walk_tup Iv R h0 hG (fun D i l H1 x H1' hi a hl hz r y => by
    obtain ⟨e, y⟩ := y
    subst e
    exact hs D i l _ x y a hl hz r) hd⟩

/-- the law: a list of at most 63 ints is handed in, True comes out -/
def spLaw (K : PySem.W.Frag) : Sp := fun vs H Q _ => ∃ (a : Addr) (ns : List Int), vs = [.ref a] ∧ SqL K H a (ns.map V.int) ∧ ns.length ≤ 63 ∧ ∀ H', Q (.bl true) H'
theorem exm_self {K : PySem.W.Frag} {S : Addr} (h1 : PySem.W.subIn K (.ref S) (.type "BaseException") = some true) (h2 : PySem.W.isClsIn K S = true) (h3 : PySem.W.typeIn K (.ref S) = some (.type "type")) (h4 : PySem.W.subIn K (.ref S) (.ref S) = some true) :
    PySem.W.exmOne K (.ref S) (.ref S) = some true := by
  have e1 : (PySem.W.subIn K (.ref S) (.type "BaseException") == some true) = true := by rw [h1] <;> rfl
  have e2 : ((PySem.W.clsIn K S).isSome && PySem.W.typeIn K (.ref S) == some (.type "type")) = true := by
    rw [h3]
    have e3 : (PySem.W.clsIn K S).isSome = true := h2
    rw [e3] <;> rfl
  show (if (PySem.W.subIn K (.ref S) (.type "BaseException") == some true) = true then (if ((PySem.W.clsIn K S).isSome && PySem.W.typeIn K (.ref S) == some (.type "type")) = true then PySem.W.subIn K (.ref S) (.ref S) else none) else none) = some true
  rw [if_pos e1, if_pos e2, h4]
theorem Str_len_app (a b : Str) : (a ++ b).length = a.length + b.length := by
  show (a.cps ++ b.cps).size = _
  rw [Array.size_append]
  rfl
theorem s_callS {sp : Sp} {E : L2.St → XK} {tr : TA} {σ : L2.St} {H : Hp} {Q : VK} (k : tr σ H fun vs H1 => sp vs H1 Q (E σ)) : tCallS sp E tr σ H Q := k
/-- a whole number within bounds -/
def R (lo hi n : Int) : Prop := lo ≤ n ∧ n ≤ hi
def IntIn (lo hi : Int) (v : V) : Prop := ∃ n, v = .int n ∧ R lo hi n
theorem intIn_cons {lo hi n : Int} {xs : List V} (h : R lo hi n) (k : ∀ v ∈ xs, IntIn lo hi v) : ∀ v ∈ V.int n :: xs, IntIn lo hi v := fun v hv => by
  rcases List.mem_cons.mp hv with e | hv
  · exact ⟨n, e, h⟩
  · exact k v hv
theorem intIn_nil {lo hi : Int} : ∀ v ∈ ([] : List V), IntIn lo hi v := fun v hv => by cases hv
def spInt (lo hi : Int) : Sp := fun vs H Q _ => ∃ b c : Addr, vs = [.ref b] ∧ Bag H b c ∧ ∀ z H', lo ≤ z → z ≤ hi → Bag H' b c → Fr b H H' → Q (.int z) H'
theorem use_int {lo hi : Int} {H : Hp} {b c : Addr} {Q : VK} {E : XK} (B : Bag H b c) (k : ∀ z H', lo ≤ z → z ≤ hi → Bag H' b c → Fr b H H' → Q (.int z) H') : spInt lo hi ([.ref b] ++ []) H Q E := ⟨b, c, rfl, B, k⟩
/-! ### kinds -/
theorem kb_int_tuple : kitB "int" "tuple" = some false := by decide +kernel
theorem kb_int_list : kitB "int" "list" = some false := by decide +kernel
theorem kb_int_bool : kitB "int" "bool" = some false := by decide +kernel
theorem kb_int_int : kitB "int" "int" = some true := by decide +kernel
theorem kb_str_tuple : kitB "str" "tuple" = some false := by decide +kernel
theorem kb_str_list : kitB "str" "list" = some false := by decide +kernel
theorem kb_str_bool : kitB "str" "bool" = some false := by decide +kernel
theorem kb_str_int : kitB "str" "int" = some false := by decide +kernel
theorem kb_bool_tuple : kitB "bool" "tuple" = some false := by decide +kernel
theorem kb_bool_list : kitB "bool" "list" = some false := by decide +kernel
theorem kb_bool_bool : kitB "bool" "bool" = some true := by decide +kernel
theorem kb_bool_int : kitB "bool" "int" = some true := by decide +kernel
theorem kb_NoneType_tuple : kitB "NoneType" "tuple" = some false := by decide +kernel
theorem kb_NoneType_list : kitB "NoneType" "list" = some false := by decide +kernel
theorem kb_NoneType_bool : kitB "NoneType" "bool" = some false := by decide +kernel
theorem kb_NoneType_int : kitB "NoneType" "int" = some false := by decide +kernel
theorem kb_tuple_tuple : kitB "tuple" "tuple" = some true := by decide +kernel
theorem kb_tuple_list : kitB "tuple" "list" = some false := by decide +kernel
theorem kb_tuple_bool : kitB "tuple" "bool" = some false := by decide +kernel
theorem kb_tuple_int : kitB "tuple" "int" = some false := by decide +kernel
theorem kb_list_tuple : kitB "list" "tuple" = some false := by decide +kernel
theorem kb_list_list : kitB "list" "list" = some true := by decide +kernel
theorem kb_list_bool : kitB "list" "bool" = some false := by decide +kernel
theorem kb_list_int : kitB "list" "int" = some false := by decide +kernel

section
variable {K : PySem.W.Frag} {H H' : Hp} {Q : VK} {x v : V}
theorem ty_sqL {a : Addr} {xs : List V} (h : SqL K H a xs) : TyX K H (.ref a) (.type "list") := by
  rcases h with (h | ⟨o, h⟩) | ⟨o, its, n, h, c, _⟩
  · exact .base (.lst h)
  · exact .base (.frz h)
  · exact .kList h c
theorem ty_sqT {a : Addr} {xs : List V} (h : SqT K H a xs) : TyX K H (.ref a) (.type "tuple") := by
  rcases h with (h | ⟨o, h⟩) | ⟨o, its, n, h, c, _⟩
  · exact .base (.tup h)
  · exact .fTuple h
  · exact .kTuple h c
theorem s_isi {n m : String} {b : Bool} (ty : TyX K H x (.type n)) (e : kitB n m = some b) (k : Q (.bl b) H) : rIsi K [x, .ty m] H Q := ⟨x, .ty m, .type n, .type m, b, rfl, .ty m, ty, kit_ty e, k⟩
theorem s_isiTL {n : String} {b c : Bool} {tp : Addr} (h : H tp = some (.tup [.ty "tuple", .ty "list"])) (ty : TyX K H x (.type n)) (e : kitB n "tuple" = some b) (e' : kitB n "list" = some c) (k : Q (.bl (b || c)) H) : rIsiT K [x, .ref tp] H Q := by
  refine ⟨x, tp, _, .type n, [.type "tuple", .type "list"], _, rfl, h, .cons (.ty _) (.cons (.ty _) .nil), ty, ?_, k⟩
  cases b with
  | true => exact kitAny_cons (kit_ty e) (fun z => by cases z) (fun _ => rfl)
  | false =>
    refine kitAny_cons (kit_ty e) (fun _ => ?_) (fun z => by cases z)
    cases c with
    | true => exact kitAny_cons (kit_ty e') (fun z => by cases z) (fun _ => rfl)
    | false => exact kitAny_cons (kit_ty e') (fun _ => kitAny_nil) (fun z => by cases z)
end

/-! ### data -/
mutual
theorem dp_ex {K : PySem.W.Frag} {H H' : Hp} (e : Ex H H') : ∀ {v : V} {d : PyData}, Dp K H v d → Dp K H' v d
  | _, _, .non => .non
  | _, _, .bl b => .bl b
  | _, _, .int i => .int i
  | _, _, .str x => .str x
  | _, _, .lst h r => .lst (Ex.sqL e h) (dpAll_ex e r)
  | _, _, .tup h r => .tup (Ex.sqT e h) (dpAll_ex e r)
theorem dpAll_ex {K : PySem.W.Frag} {H H' : Hp} (e : Ex H H') : ∀ {vs : List V} {ds : List PyData}, DpAll K H vs ds → DpAll K H' vs ds
  | _, _, .nil => .nil
  | _, _, .cons h r => .cons (dp_ex e h) (dpAll_ex e r)
end
theorem dpAll_len {K : PySem.W.Frag} {H : Hp} : ∀ {vs : List V} {ds : List PyData}, DpAll K H vs ds → vs.length = ds.length
  | _, _, .nil => rfl
  | _, _, .cons _ r => congrArg Nat.succ (dpAll_len r)
theorem dpAll_get {K : PySem.W.Frag} {H : Hp} : ∀ {vs : List V} {ds : List PyData} {i : Nat} {v : V} {d : PyData}, DpAll K H vs ds → vs[i]? = some v → ds[i]? = some d → Dp K H v d
  | _, _, _, _, _, .nil, h, _ => by cases h
  | _, _, 0, _, _, .cons h _, e1, e2 => by
    cases e1
    cases e2
    exact h
  | _, _, i + 1, _, _, .cons _ r, e1, e2 => dpAll_get (i := i) r (by simpa using e1) (by simpa using e2)
/-- data of a bounded depth, its sequences bounded -/
def DOk : Nat → PyData → Prop
  | 0, _ => False
  | n + 1, .list ds => ds.length ≤ 1000 ∧ ∀ d ∈ ds, DOk n d
  | n + 1, .tuple ds => ds.length ≤ 1000 ∧ ∀ d ∈ ds, DOk n d
  | _ + 1, .dict _ => False
  | _ + 1, _ => True
def spLike (K : PySem.W.Frag) (n : Nat) : Sp := fun vs H Q _ => ∃ x y d, vs = [x, y] ∧ Dp K H x d ∧ Dp K H y d ∧ DOk n d ∧ ∀ H', Ex H H' → Q (.bl true) H'
theorem fnOk_no {P : Program} {w : World} {K : PySem.W.Frag} {mg : Str → Option Value} {base : Heap} {CX : CXT} {k : Nat} {f : Addr} {fd : FuncData} {ps : List Str} {sp : Sp} (h : ∀ vs H Q E, sp vs H Q E → False) : FnOk P w K mg base CX k f fd ps sp :=
  ⟨fun vs H Q E q => (h _ _ _ _ q).elim, fun _ _ _ _ _ _ _ _ _ _ _ _ _ q => (h _ _ _ _ q).elim⟩
theorem like_no {K : PySem.W.Frag} : ∀ vs H Q E, spLike K 0 vs H Q E → False := fun vs H Q E h => by
  obtain ⟨x, y, d, _, _, _, ok, _⟩ := h
  exact ok
theorem ite_tE {c : Bool} {A B : Prop} (h : c = true) (k : A) : if c = true then A else B := by rw [if_pos h]; exact k
theorem ite_fE {c : Bool} {A B : Prop} (h : c = false) (k : B) : if c = true then A else B := by rw [h]; exact ite_f k
theorem ev_blT {c : Bool} {Q : VK} {H : Hp} (h : c = true) (k : Q (.bl true) H) : Q (.bl c) H := by rw [h]; exact k
end Z

set_option Elab.async false
set_option linter.all false
set_option maxRecDepth 100000
namespace Z
open PySem L2
/-! a display with a star -/
def tStarT (K : PySem.W.Frag) (te : TE) (tr : TA) : TA := fun σ H Q => te σ H fun x H1 => ∃ a us, x = .ref a ∧ SqT K H1 a us ∧ tr σ H1 fun vs H2 => Q (us ++ vs) H2
theorem pa_starT {X : Cx} {e : Expr} {es : List Expr} {te : TE} {t : TA} {p : Pos} (he : PE X e te) (hr : PA X es t) (hs : starEach (.Starred e p :: es) X.env = (true, eval e X.env) :: starEach es X.env := by rfl) : PA X (.Starred e p :: es) (tStarT X.K te t) := by
  refine ⟨fun pos pins s σ H Q I h => ?_⟩
  refine PySem.W.items_star (thn (he.run pins s σ H _ I h) fun u s1 ⟨x, H1, I1, r1, a, us, ex, ha, q⟩ => ?_) hs
  subst ex
  obtain rfl : u = Value.ref a := r1
  exact star_tup I1 ha fun ws s2 I2 rw' => thn (hr.run pos pins s2 σ H1 _ I2 q) fun zs s3 ⟨vs, H2, I3, r2, q2⟩ => ⟨us ++ vs, H2, I3, rw'.append r2, q2⟩
theorem s_star {K : PySem.W.Frag} {te : TE} {tr : TA} {σ : L2.St} {H : Hp} {Q : List V → Hp → Prop} (h : te σ H fun x H1 => ∃ a us, x = .ref a ∧ SqT K H1 a us ∧ tr σ H1 fun vs H2 => Q (us ++ vs) H2) : tStarT K te tr σ H Q := h
/-! a target of several names, its library part named -/
theorem pg_tupK {X : Cx} {K : PySem.W.Frag} {es : List Expr} {k : Nat} {t : TGs} (n : Nat) {pos : Pos} (hK : X.K = K) (hc : X.calm = true) (h : PGs X es t)
    (hn : (assignEach es X.env).length = n := by rfl) (hst : (assignEach es X.env).findIdx? (·.1) = none := by rfl) : PG X (.Tuple es k pos) (gTup K n t) := by
  subst hK
  exact pg_tup hc h hn hst
/-! t > u, tuples of ints -/
def rGtT2 (K : PySem.W.Frag) : R2 := fun x y H Q => ∃ (a b : Addr) (p q r s : Int), x = .ref a ∧ y = .ref b ∧ SqT K H a [.int p, .int q] ∧ SqT K H b [.int r, .int s] ∧ Q (.bl (decide (r < p ∨ (r = p ∧ s < q)))) H
theorem op_gtT2 {X : Cx} (hu : X.A.units < cLine) : OpR X (compareOp .Gt) (rGtT2 X.K) := by
  intro pins st σ H x y v u Q I rx ry h
  obtain ⟨a, b, p, q, r, s, rfl, rfl, ha, hb, k⟩ := h
  obtain rfl : v = Value.ref a := rx
  obtain rfl : u = Value.ref b := ry
  obtain ⟨its, r1, p1, _⟩ := I.tuple ha
  obtain ⟨jts, r2, p2, _⟩ := I.tuple hb
  cases r1 with
  | cons h1 r1 =>
    cases r1 with
    | cons h2 r1 =>
      cases r1
      cases r2 with
      | cons h3 r2 =>
        cases r2 with
        | cons h4 r2 =>
          cases r2
          obtain ⟨t1, rfl⟩ := h1
          obtain ⟨t2, rfl⟩ := h2
          obtain ⟨t3, rfl⟩ := h3
          obtain ⟨t4, rfl⟩ := h4
          have zz : ∀ m n : Int, (m == n) = decide (m = n) := fun m n => by
            by_cases w : m = n
            · rw [decide_eq_true w]
              exact beq_iff_eq.mpr w
            · rw [decide_eq_false w]
              exact beq_eq_false_iff_ne.mpr w
          have G := Ob.RcOp.tuples_gt (A := X.A) (s := st) (e := fun j => if j = 0 then decide (p = r) else decide (q = s)) (r := fun j => if j = 0 then decide (r < p) else decide (s < q)) p1 p2 hu
            (fun j h1 h2 => by
              have : j = 0 ∨ j = 1 := by
                simp at h1
                omega
              rcases this with rfl | rfl
              · rw [if_pos rfl, ← zz]
                exact SeqAt.EqAt.int_int _ _ _ _
              · rw [if_neg (by decide), ← zz]
                exact SeqAt.EqAt.int_int _ _ _ _)
            (fun j h1 h2 _ => by
              have : j = 0 ∨ j = 1 := by
                simp at h1
                omega
              rcases this with rfl | rfl
              · rw [if_pos rfl]
                exact Ob.RcOp.gt_int _ _ _ _
              · rw [if_neg (by decide)]
                exact Ob.RcOp.gt_int _ _ _ _)
          have en : Ob.lexAt (fun j => if j = 0 then decide (p = r) else decide (q = s)) (fun j => if j = 0 then decide (r < p) else decide (s < q)) (decide ((2 : Nat) > 2)) 0 2 = decide (r < p ∨ (r = p ∧ s < q)) := by
            rw [Ob.lexAt_succ, Ob.lexAt_succ, Ob.lexAt_zero]
            by_cases e1 : p = r
            · subst e1
              by_cases e2 : q = s
              · subst e2
                simp
              · simp [e2]
            · have : (r < p ∨ (r = p ∧ s < q)) ↔ r < p := ⟨fun h => h.elim id fun h => absurd h.1.symm e1, .inl⟩
              simp [e1, this]
          have G' : wpAny (model X.prog X.w) X.A (compareOp .Gt (.ref a) (.ref b)) (EP X pins σ Q) X.xe st := G X.prog X.w X.xe (EP X pins σ Q) ⟨.bl _, H, I, rfl, by
            have k' := k
            rw [← en] at k'
            exact k'⟩
          exact G'
theorem s_gtT2 {K : PySem.W.Frag} {H : Hp} {Q : VK} {a b : Addr} {p q r s : Int} (ha : SqT K H a [.int p, .int q]) (hb : SqT K H b [.int r, .int s]) (k : Q (.bl (decide (r < p ∨ (r = p ∧ s < q)))) H) : rGtT2 K (.ref a) (.ref b) H Q := ⟨a, b, p, q, r, s, rfl, rfl, ha, hb, k⟩
/-! set of a list of ints -/
section
open PySem.Spec PyProof.Rows
variable {P : Program} {w : World} {A : Around}
theorem set_upd {R : Result → Shared → Prop} {J : Addr} {fp wr : List Addr} {G : Array GenState → Array GenState → Prop} {n : Nat} {T : Nat → Value → Prop} {Z : Nat → Shared → Prop}
    (W : WalksS P w A.in1 J fp wr G n T Z) (a : Addr) (ha : a ∉ fp) (ns : List Int) (en : ns.length = n) (ht : ∀ i v, T i v → ∃ t, v = .int (ns.getD i 0) t) (room : n + 1 < scanBound) :
    ∀ (k i m : Nat) (s : Shared) (S : Int → Bool), n - i = k → i ≤ n → Z i s → SetR w s.heap a S m → m ≤ i → (∀ x, S x = true ↔ x ∈ ns.take i) →
      (∀ s' S' m', Moved (a :: wr) G s s' → SetR w s'.heap a S' m' → m' ≤ n → (∀ x, S' x = true ↔ x ∈ ns) → R (.ok (.ret .none)) s') →
      codeAny (model P w) A (.builtin "set.update.loop" ⟨[.ref a, .ref J], []⟩) R s
  | 0, i, m, s, S, hk, hi, hz, hS, hm, hx, hR => by
    obtain rfl : i = n := by omega
    refine codeAny_builtin PyProof.Rows.F.entry_set_update_loop ?_
    rw [PySem.Around.under_plainId PyProof.Rows.F.plain_set_update_loop _]
    refine wpAny_bind (m := pyNext (.ref J)) (W.done s _ _ hz fun s' mv => ?_)
    refine wpAny_pure (hR s' S m (mv.mono fun b hb => List.mem_cons_of_mem _ hb) (hS.at fun o e => mv.heap a _ (fun z => ha (W.sub _ z)) e) hm fun x => ?_)
    rw [hx, ← en, List.take_length]
  | k + 1, i, m, s, S, hk, hi, hz, hS, hm, hx, hR => by
    have lt : i < n := by omega
    have sb : ∀ b ∈ wr, b ∈ a :: wr := fun b hb => List.mem_cons_of_mem _ hb
    refine codeAny_builtin PyProof.Rows.F.entry_set_update_loop ?_
    rw [PySem.Around.under_plainId PyProof.Rows.F.plain_set_update_loop _]
    refine wpAny_bind (m := pyNext (.ref J)) (W.item i s _ _ lt hz fun v s' hv hz' mv => ?_)
    obtain ⟨t, rfl⟩ := ht i v hv
    have hS' : SetR w s'.heap a S m := hS.at fun o e => mv.heap a _ (fun z => ha (W.sub _ z)) e
    show wpAny _ A.in1 (holding [Value.int (ns.getD i 0) t] (setAdd a (.int (ns.getD i 0) t)) >>= _) _ _ s'
    refine wpAny_bind (wpAny_holding ?_)
    unfold setAdd
    refine wpAny_holding (wpAny_bind ((intKind P w).pyHash (intKind_is P w (ns.getD i 0) t) ?_))
    refine setR_add_hashed (s := { s' with toks := s'.toks + 1 }) hS' (by omega) fun h' hb hS2 => ?_
    refine wpAny_pure ⟨plainId_quiet PyProof.Rows.F.plain_set_update_loop _, set_upd W a ha ns en ht room k (i + 1) _ _ _ (by omega) lt (W.frame _ s' _ _ hz' (Nat.le_succ _) fun b hb' o e => ?_) hS2 (by split <;> omega) (fun x => ?_) fun s2 S2 m2 mv2 hS3 hm3 hx3 => ?_⟩
    · rw [hb.2 b (fun h : b = a => ha (by rw [← h]; exact hb'))]
      exact e
    · rw [Bool.or_eq_true, decide_eq_true_eq, hx x, List.take_succ, List.mem_append, List.getElem?_eq_getElem (by omega), Option.toList_some, List.mem_singleton, List.getD_eq_getElem?_getD, List.getElem?_eq_getElem (by omega), Option.getD_some]
    · refine hR s2 S2 m2 (Moved.trans W.gtrans ((mv.mono sb).then_heap (Nat.le_succ _) fun b o hb' e => ?_) mv2) hS3 hm3 hx3
      rw [hb.2 b (fun h : b = a => hb' (by rw [h]; exact List.mem_cons_self))]
      exact e
theorem set_new1 {E : Value → Shared → Prop} {s : Shared} (a : Value) {Q : Value → Shared → Prop}
    (h : Q (.ref s.heap.objs.size) { s with heap := s.heap.push { cls := .type "set", dict := none, data := .set #[] 0 (.fresh 0 0 (!w.params.followText "set-order")) } }) :
    codeAny (model P w) A (.call (.builtin "set.__new__") ⟨[.type "set", a], []⟩) (wants Q E) s := by
  refine codeAny_of_tree ?_
  refine wpAny_bind (m := checkBuiltinCall "set.__new__" _) (wpAny_of_eq (PySem.F.newCall_set_1 a) (wpAny_pure ⟨plainId_quiet F.plain_set_new _, codeAny_builtin F.entry_set_new ?_⟩))
  rw [PySem.Around.under_plainId F.plain_set_new _]
  unfold Builtin.«set.__new__» Builtin.Frozenset.newClass
  have sub := sub_set_self
  obtain ⟨hp, g, d, tk, os⟩ := s
  dsimp only
  wp_walk
  refine wpAny_askSetting (wpAny_pure ?_)
  simp only [newObj]
  exact wpAny_bind (wpAny_alloc (wpAny_pure (wpAny_pure h)))
set_option maxHeartbeats 4000000 in
theorem set_call1 {E : Value → Shared → Prop} {s : Shared} {l : Addr} {its : Array Value} {ns : List Int} {Q : Value → Shared → Prop}
    (calm : A.handled = none) (hl : s.heap.IsList l its) (hi : IntsAre its.toList ns) (room : its.size + 1 < scanBound)
    (h : ∀ (h' : Heap) (tk : Nat) (S : Int → Bool) (m : Nat), SetR w h' s.heap.objs.size S m → m ≤ ns.length → (∀ x, S x = true ↔ x ∈ ns) → (∀ b o, s.heap.get? b = some o → h'.get? b = some o) → Q (.ref s.heap.objs.size) { s with heap := h', toks := tk }) :
    wpAny (model P w) A (call (.type "set") [.ref l]) Q E s := by
  obtain ⟨c, tl, cm⟩ := F.called_set.mro
  have c1 := F.called_set.made
  have c2 := F.called_set.sub
  refine wpAny_call (codeAny_of_tree ?_)
  show wpAny _ _ (callAny (.type "set") _) _ _ _
  refine wpAny_pure ⟨Code.quiet_builtin _ (by decide +kernel), codeAny_builtin F.entry_type_call ?_⟩
  rw [PySem.Around.under_plain (weight_type_call_type "set" [.ref l] []) rfl]
  have c3 := F.called_set.notType
  have c4 := F.called_set.canCreate
  have c5 := PySem.F.typeCall_set_1 (.ref l)
  repeat (any_goals (first | assumption | wp_step))
  generalize eO : (!w.params.followText "set-order") = led
  refine codeAny_mono (set_new1 (.ref l) (E := E) (Q := fun v s1 => v = .ref s.heap.objs.size ∧ s1 = { s with heap := s.heap.push { cls := .type "set", dict := none, data := .set #[] 0 (.fresh 0 0 led) } }) (by rw [eO]; exact ⟨rfl, rfl⟩)) fun r s1 hr => ?_
  cases r with
  | error e => exact hr
  | ok fl =>
    cases fl with
    | ret v =>
      obtain ⟨rfl, rfl⟩ := hr
      have hO : (s.heap.push { cls := .type "set", dict := none, data := .set #[] 0 (.fresh 0 0 led) }).get? s.heap.objs.size = some { cls := .type "set", dict := none, data := .set #[] 0 (.fresh 0 0 led) } := Heap.get?_push_size _ rfl
      have hT : Shared.TypeIs { s with heap := s.heap.push { cls := .type "set", dict := none, data := .set #[] 0 (.fresh 0 0 led) } } (.ref s.heap.objs.size) "set" := ⟨_, hO, rfl⟩
      have c6 := F.called_set.init.lookup
      have c7 := F.called_set.init.bind (.ref s.heap.objs.size)
      have hR0 : SetR w (s.heap.push { cls := .type "set", dict := none, data := .set #[] 0 (.fresh 0 0 led) }) s.heap.objs.size (fun _ => false) 0 := by
        rw [← eO]
        exact setR_fresh w
      repeat (any_goals (first | assumption | wp_step))
      refine codeAny_mono (codeAny_call_builtin (R := wants (fun r s2 => r = .none ∧ ∃ h' tk S m, s2 = { s with heap := h', toks := tk } ∧ SetR w h' s.heap.objs.size S m ∧ m ≤ ns.length ∧ (∀ x, S x = true ↔ x ∈ ns) ∧ (∀ b o, s.heap.get? b = some o → h'.get? b = some o)) E)
        F.called_set.init.plain F.entry_set_init (PySem.check_set_init_1 hT ?_)) fun r2 s2 hr2 => ?_
      · obtain ⟨⟨oc, od, oo, os⟩, g1, g2, nl, g3⟩ := hl
        simp only at g2 g3
        subst g2
        subst g3
        have g4 : (s.heap.push { cls := .type "set", dict := none, data := .set #[] 0 (.fresh 0 0 led) }).get? l = some { cls := .type "list", dict := od, data := .seq its nl, slots := os } := Heap.get?_push_of_some _ g1
        have n1 := PySem.F.sub_list_set
        have n2 := PySem.F.sub_list_frozenset
        have n3 : (Value.type "list" == Value.type "dict") = false := by decide
        have g5 : (s.heap.push { cls := .type "set", dict := none, data := .set #[] 0 (.fresh 0 0 led) }).IsList l its := ⟨_, g4, rfl, nl, rfl⟩
        unfold Builtin.«set.__init__» noKeywords Builtin.Frozenset.updateFrom
        generalize hPI : pyIter = PI
        wp_walk
        subst hPI
        refine wpAny_pyIter_list g5 ?_
        refine wpAny_bind (wpAny_runValue ?_)
        have lt : l < s.heap.objs.size := Heap.lt_size g1
        have calm3 : A.in1.in1.in1.handled = none := by simp [calm]
        have ne1 : l ≠ (s.heap.push { cls := .type "set", dict := none, data := .set #[] 0 (.fresh 0 0 led) }).objs.size := by
          rw [Heap.size_push]
          exact Nat.ne_of_lt (Nat.lt_succ_of_lt lt)
        have ne2 : s.heap.objs.size ∉ [(s.heap.push { cls := .type "set", dict := none, data := .set #[] 0 (.fresh 0 0 led) }).objs.size, l] := by
          rw [Heap.size_push]
          simp only [List.mem_cons, List.mem_singleton, List.not_mem_nil, or_false, not_or]
          exact ⟨Nat.ne_of_lt (Nat.lt_succ_self _), Nat.ne_of_gt lt⟩
        refine set_upd ((Walks.list calm3 _ l ne1 its).toS) s.heap.objs.size ne2 ns (by rw [← hi.length, Array.length_toList]) (fun i v hv => PyProof.Rows.IntsAre.int_at hi i v (by rw [Array.getElem?_toList]; exact hv)) room (its.size - 0) 0 0 _ _ (by omega) (Nat.zero_le _)
          ⟨⟨_, Heap.get?_push_size _ rfl, rfl, rfl⟩, g5.push _⟩ (hR0.at fun o e => Heap.get?_push_of_some _ e) (Nat.le_refl _) (fun x => by simp) fun s' S' m' mv hS hm hx => ?_
        obtain ⟨h', g', d', tk', os'⟩ := s'
        obtain rfl : g' = s.gens := mv.gens
        obtain rfl : d' = s.drawn := mv.drawn
        obtain rfl : os' = s.os := mv.os
        refine wpAny_pure (wpAny_pure ⟨rfl, h', tk', S', m', rfl, hS, by rw [← hi.length, Array.length_toList]; exact hm, hx, fun b o e => ?_⟩)
        have b1 := Heap.lt_size e
        refine mv.heap b o ?_ (Heap.get?_push_of_some _ (Heap.get?_push_of_some _ e))
        rw [Heap.size_push]
        simp only [List.mem_cons, List.mem_singleton, List.not_mem_nil, or_false, not_or]
        exact ⟨Nat.ne_of_lt b1, Nat.ne_of_lt (Nat.lt_succ_of_lt b1)⟩
      · cases r2 with
        | error e => exact hr2
        | ok fl2 =>
          cases fl2 with
          | ret r =>
            obtain ⟨rfl, h', tk, S, m, rfl, q1, q2, q3, q4⟩ := hr2
            repeat (any_goals (first | assumption | wp_step))
            exact h _ _ _ _ q1 q2 q3 q4
          | _ => exact hr2.elim
    | _ => exact hr.elim
end
def rSetL (w : World) (K : PySem.W.Frag) : List V → Hp → VK → Prop := fun xs H Q => ∃ (a : Addr) (ns : List Int), xs = [V.ref a] ∧ SqL K H a (ns.map V.int) ∧ ns.length + 1 < scanBound ∧ ∀ p S m, H p = none → m ≤ ns.length → (∀ x, S x = true ↔ x ∈ ns) → Q (.ref p) (upd H p (SetO w p S m))
theorem cr_setL {X : Cx} (hc : X.calm = true) : CallR X (.type "set") (rSetL X.w X.K) := by
  intro pins s σ H xs us Q I r h
  obtain ⟨a, ns, rfl, ha, room, q⟩ := h
  obtain ⟨its, rv, hl, _⟩ := I.list ha
  rw [Vals.ref1 r]
  have hi := rv.ints
  exact set_call1 (I.ok.hd hc) hl.isList hi (by rw [List.size_toArray, hi.length]; exact room) fun h' tk S m hS hm hx keep => ⟨.ref _, _, I.laid (t' := tk) keep (Nat.le_refl _) (setO_new hS), rfl, q _ S m (I.hok.fresh (Nat.le_refl _)) hm hx⟩
theorem s_setOf {w : World} {K : PySem.W.Frag} {H : Hp} {Q : VK} {a : Addr} {ns : List Int} (ha : SqL K H a (ns.map V.int)) (room : ns.length + 1 < scanBound) (k : ∀ p S m H', H p = none → Ex H H' → H' p = some (SetO w p S m) → m ≤ ns.length → (∀ x, S x = true ↔ x ∈ ns) → Q (.ref p) H') : rSetL w K [.ref a] H Q :=
  ⟨a, ns, rfl, ha, room, fun p S m hp h1 h2 => k p S m _ hp (Ex.new hp) upd_same h1 h2⟩
theorem s_sortedSet {w : World} {H : Hp} {Q : VK} {a : Addr} {S : Int → Bool} {m : Nat} (ha : H a = some (SetO w a S m)) (room : m < 64) (k : ∀ (ns : List Int) p H', ns.Pairwise (· < ·) → (∀ x : Int, x ∈ ns ↔ S x = true) → ns.length = m → H p = none → Ex H H' → H' p = some (.lst (ns.map V.int)) → Q (.ref p) H') : rSortedSet w [.ref a] H Q :=
  ⟨a, S, m, rfl, ha, room, fun ns p h1 h2 h3 hp => k ns p _ h1 h2 h3 hp (Ex.new hp) upd_same⟩
end Z

set_option Elab.async false
set_option linter.all false
set_option maxRecDepth 100000
namespace Z
open PySem L2
/-! instances of an own class: ==, !=, str, repr by their own methods -/
section
open PySem.W PyProof.Rows
variable {P : Program} {w : World} {A : Around} {E : Value → Shared → Prop} {s : Shared} {K : Frag} {x C L f : Addr} {h0 : Heap} {m : Str → Option Value} {ox : Obj} {od : Option Obj} {b tb : Value}
theorem ifBoundB {M : Model} {name : Str} {id : String} {args : List Value} {Q : Option Value → Shared → Prop} (X : K.In s.heap) (I : InstAt s.heap x ox C od) (hs : findIn K (.ref C) name = some (some (.builtin id)))
    (hb : ∀ v, bindSpecial (.builtin id) v = pure (.builtin id, [v])) (h : wpAny M A (call (.builtin id) (.ref x :: args)) (fun v => Q (some v)) E s) : wpAny M A (callSpecialIfBound? (.ref x) name args) Q E s := by
  simp only [callSpecialIfBound?, bindSpecialIfBound?]
  refine wpAny_holding (wpAny_bind (wpAny_bind (wpAny_bind (I.type.here ((looks_findIn X hs).here ?_)))))
  refine wpAny_bind (wpAny_askSetting (wpAny_ite ?_))
  have last : wpAny M A (call (.builtin id) ([.ref x] ++ args) >>= fun v => pure (some v)) Q E s := wpAny_bind (wpAny_mono h (fun v s' z => wpAny_pure z) fun _ _ z => z)
  split
  · exact wpAny_bind ((Looks.of_pure (hb _)).here (wpAny_pure (by exact last)))
  · exact wpAny_tryCatch (wpAny_bind ((Looks.of_pure (hb _)).here (wpAny_pure (by exact last))))
open Builtin in
theorem ne_slot {Q : Value → Shared → Prop} (hu : A.in1.units < cLine) (X : K.In s.heap) (I : InstAt s.heap x ox C od) (ho : mroIn K C (.type "object") = some true) (he : findIn K (.ref C) "__eq__" = some (some (.ref f))) (hf : isFn K (.ref f) = true)
    (h : wpAny (model P w) A.in1 (call (.ref f) [.ref x, b]) (fun v s' => ∃ r, v = .bool r ∧ Q (.bool (!r)) s') E s) : wpAny (model P w) A (call (.builtin "object.__ne__") [.ref x, b]) Q E s := by
  refine wpAny_call (codeAny_call_builtin (by decide +kernel) PySem.F.cmpEntry_ne (check_slot (i := "object.__ne__") (owner := "object") (n := "__ne__") (by decide +kernel) (by decide +kernel) (I.type.andThen (looks_mroIn X ho)) (PySem.F.cmpArgs_ne _ _) ?_))
  unfold Builtin.«object.__ne__»
  refine wpAny_bind (m := slotArgs "__ne__" 1 _) (wpAny_pure ?_)
  refine wpAny_bind (m := cRoomFor _ _) (wpAny_cRoomFor hu ?_)
  refine wpAny_bind (m := callSpecialIfBound? (.ref x) (Str.ofString "__eq__") _) (ifBound_K X I he hf (wpAny_mono h (fun r s' hq => ?_) fun _ _ y => y))
  obtain ⟨r, rfl, hq⟩ := hq
  exact wpAny_bind (wpAny_truthy_bool (wpAny_pure hq))
theorem ne_own {Q : Value → Shared → Prop} (hu : A.units < cLine) (hu1 : A.in1.units < cLine) (X : K.In s.heap) (I : InstAt s.heap x ox C od) (hb : Looks (model P w) s.heap (typeOf b) tb) (hn : notFirst K C tb = true)
    (hs : findIn K (.ref C) "__ne__" = some (some (.builtin "object.__ne__"))) (ho : mroIn K C (.type "object") = some true) (he : findIn K (.ref C) "__eq__" = some (some (.ref f))) (hf : isFn K (.ref f) = true)
    (h : wpAny (model P w) A.in1 (call (.ref f) [.ref x, b]) (fun v s' => ∃ r, v = .bool r ∧ Q (.bool (!r)) s') E s) : wpAny (model P w) A (richCompare .NotEq (.ref x) b) Q E s := by
  have one : wpAny (model P w) A (tryCompare (.ref x) "__ne__" b) (fun r s' => ∃ v, r = some v ∧ Q v s') E s := by
    unfold tryCompare
    refine wpAny_bind (ifBoundB X I hs PySem.F.slot_tuple_iterator_ne.bind (ne_slot hu1 X I ho he hf (wpAny_mono h (fun v s' hv => ?_) fun _ _ e => e)))
    obtain ⟨r, rfl, hq⟩ := hv
    exact ⟨r, rfl, wpAny_pure ⟨_, rfl, hq⟩⟩
  unfold richCompare
  simp only [oneThing_ref]
  refine wpAny_holding (wpAny_bind (wpAny_cRoomFor hu ?_))
  refine wpAny_bind (I.type.here (wpAny_bind (hb.here ?_)))
  split
  · rename_i q
    have e : subIn K tb (.ref C) = some false := by
      rcases Bool.or_eq_true_iff.mp hn with e | e
      · rw [beq_iff_eq.mp e] at q
        simp at q
      · exact beq_iff_eq.mp e
    refine wpAny_bind ((looks_subIn X e).here ?_)
    simp only [Bool.false_eq_true, if_false]
    refine wpAny_bind (wpAny_mono one (fun r s' z => ?_) fun _ _ e => e)
    obtain ⟨v, rfl, hq⟩ := z
    exact wpAny_pure hq
  · refine wpAny_bind (wpAny_pure ?_)
    simp only [Bool.false_eq_true, if_false]
    refine wpAny_bind (wpAny_mono one (fun r s' z => ?_) fun _ _ e => e)
    obtain ⟨v, rfl, hq⟩ := z
    exact wpAny_pure hq
open Builtin in
theorem repr_own {Q : Value → Shared → Prop} (hu : A.in1.units < cLine) (X : K.In s.heap) (I : InstAt s.heap x ox C od) (hs : findIn K (.ref C) "__repr__" = some (some (.ref f))) (hf : isFn K (.ref f) = true)
    (h : wpAny (model P w) A.in1 (call (.ref f) [.ref x]) (fun v s' => ∃ y t, v = .str y t ∧ Q v s') E s) : wpAny (model P w) A (call (.builtin "repr") [.ref x]) Q E s := by
  refine Calls.call_function_entry PySem.F.kind_repr PySem.F.plain_repr PySem.F.entry_repr (PySem.F.args_repr1 _) ?_
  unfold Builtin.«repr»
  refine wpAny_bind (m := oneArg "repr" _) (wpAny_pure ?_)
  refine wpAny_bind (m := cRoomFor _ _) (wpAny_cRoomFor hu ?_)
  refine wpAny_bind (m := specialOf (.ref x) (Str.ofString "__repr__")) (wpAny_bind (I.type.here ((looks_findIn X hs).here ?_)))
  simp only [Option.isNone_some, Bool.false_eq_true, if_false]
  refine wpAny_bind (m := callSpecialIfBound? (.ref x) (Str.ofString "__repr__") _) (ifBound_K X I hs hf (wpAny_mono h (fun r s' hq => ?_) fun _ _ y => y))
  obtain ⟨y, t, rfl, hq⟩ := hq
  refine wpAny_bind (wpAny_isInstance (T := "str") (b := true) (typeIs_str _ _ _) isSubtype_str_str ?_)
  rw [if_pos rfl]
  exact wpAny_pure ⟨_, rfl, hq⟩
end
section
variable {X : Cx} {n : Nat} {pins : List (Addr × Obj)} {σ : L2.St} {H : Hp} {s : Shared} {A : Around} {CX : CXT} {f : Addr} {fd : FuncData} {ps : List Str} {sp : Sp} {E : XK} {C a : Addr}
theorem own_call {us : List Value} {vs : List V} {Q : VK} (F : FnOk X.prog X.w X.K X.mg X.base CX n f fd ps sp) (hb : Binds X.K fd ps []) (hx : Passes CX X E) (sb : Sub X n A) (I : Inv X pins σ H s) (r : Vals vs us) (h : sp vs H Q E) :
    wpAny (model X.prog X.w) A (call (.ref f) us) (EP X pins σ Q) X.xe s := by
  have e0 : Env0 X.prog X.w X.K X.mg X.base A X.stack s H := by
    have e := I.env0
    exact ⟨by rw [sb.fr]; exact e.frames, e.mod, e.bs, e.bsz, e.funs, e.frf, e.hok, e.bare⟩
  have hl := F.len _ _ _ _ h
  have hb2 := hb s us I.kIn (by rw [List.append_nil, ← r.length]; exact hl)
  rw [List.append_nil] at hb2
  refine wpAny_call (codeAny_mono (F.run A X.stack s H ⟨us, []⟩ us vs _ E sb.room e0 hb2 r h) fun q s' hq => ?_)
  cases q with
  | error e => exact hx pins σ H s e s' I hq
  | ok fl =>
    cases fl with
    | ret u => exact I.after hq
    | next => exact False.elim hq
    | brk => exact False.elim hq
    | cont => exact False.elim hq
theorem own_at (I : Inv X pins σ H s) {dx : Addr} {fs : List (Str × V)} (h : H a = some (.ins C dx fs)) : ∃ ox od, PySem.W.InstAt s.heap a ox C od := by
  obtain ⟨mA, J, _⟩ := ins_get I.hok h
  obtain ⟨od, J, _⟩ := J.look
  exact ⟨_, _, J⟩
/-- what of the text a class with its own == must have -/
structure OwnE (K : PySem.W.Frag) (C f : Addr) : Prop where
  eq : PySem.W.findIn K (.ref C) "__eq__" = some (some (.ref f))
  fn : PySem.W.isFn K (.ref f) = true
  ne : PySem.W.findIn K (.ref C) "__ne__" = some (some (.builtin "object.__ne__"))
  ob : PySem.W.mroIn K C (.type "object") = some true
def rEqO (K : PySem.W.Frag) (C : Addr) (sp : Sp) (E : XK) : R2 := fun x y H Q => ∃ a dx fs tb, x = .ref a ∧ H a = some (.ins C dx fs) ∧ TyX K H y tb ∧ PySem.W.notFirst K C tb = true ∧ sp [x, y] H Q E
def rNeO (K : PySem.W.Frag) (C : Addr) (sp : Sp) (E : XK) : R2 := fun x y H Q => ∃ a dx fs tb, x = .ref a ∧ H a = some (.ins C dx fs) ∧ TyX K H y tb ∧ PySem.W.notFirst K C tb = true ∧ sp [x, y] H (fun v H' => ∃ c, v = .bl c ∧ Q (.bl (!c)) H') E
theorem rc_own {A : Around} {sb : Sub X n A} (F : FnOk X.prog X.w X.K X.mg X.base CX n f fd ps sp) (hb : Binds X.K fd ps []) (hx : Passes CX X E) (O : OwnE X.K C f) (I : Inv X pins σ H s) {x y : V} {v u : Value} (rx : RelV x v) (ry : RelV y u) {Q : VK}
    (h : rEqO X.K C sp E x y H Q) : wpAny (model X.prog X.w) A (richCompare .Eq v u) (EP X pins σ Q) X.xe s := by
  obtain ⟨a, dx, fs, tb, rfl, ha, ty, nf, hq⟩ := h
  obtain rfl : v = Value.ref a := rx
  obtain ⟨ox, od, J⟩ := own_at I ha
  obtain ⟨Pk, kt, hp, _⟩ := kit_of I ry ty
  obtain ⟨m, hF⟩ := I.fr
  refine PySem.W.cmp_K (op := .Eq) sb.room.units0 hF I.ok.mod.kin J (kt.ty _ _ I.kIn hp) nf O.eq O.fn (wpAny_mono (own_call (vs := [.ref a, y]) F hb hx sb I (.cons (show Value.ref a = Value.ref a from rfl) (.cons ry .nil)) hq) (fun r s' z => ?_) fun _ _ e => e)
  obtain ⟨w, H', I', rw', hw⟩ := z
  cases r <;> first | exact ⟨w, H', I', rw', hw⟩ | (exfalso; cases w <;> first | exact nomatch rw' | (obtain ⟨_, e⟩ := rw'; exact nomatch e))
theorem op_eqO (F : FnOk X.prog X.w X.K X.mg X.base CX n f fd ps sp) (hr : Room n X.A) (hb : Binds X.K fd ps []) (hx : Passes CX X E) (O : OwnE X.K C f) : OpR X (compareOp .Eq) (rEqO X.K C sp E) := by
  intro pins s σ H x y v u Q I rx ry h
  exact rc_own (sb := ⟨hr, rfl⟩) F hb hx O I rx ry h
theorem op_neO (F : FnOk X.prog X.w X.K X.mg X.base CX n f fd ps sp) (hr : Room (n + 1) X.A) (hb : Binds X.K fd ps []) (hx : Passes CX X E) (O : OwnE X.K C f) : OpR X (compareOp .NotEq) (rNeO X.K C sp E) := by
  intro pins s σ H x y v u Q I rx ry h
  obtain ⟨a, dx, fs, tb, rfl, ha, ty, nf, hq⟩ := h
  obtain rfl : v = Value.ref a := rx
  obtain ⟨ox, od, J⟩ := own_at I ha
  obtain ⟨Pk, kt, hp, _⟩ := kit_of I ry ty
  show wpAny (model X.prog X.w) X.A (richCompare .NotEq (.ref a) u) (EP X pins σ Q) X.xe s
  have sb : Sub X n X.A.in1 := Sub.in1 (X := X) (A := X.A) ⟨hr, rfl⟩
  refine ne_own hr.units0 sb.room.units0 I.kIn J (kt.ty _ _ I.kIn hp) nf O.ne O.ob O.eq O.fn (wpAny_mono (own_call (vs := [.ref a, y]) F hb hx sb I (.cons (show Value.ref a = Value.ref a from rfl) (.cons ry .nil)) hq) (fun r s' z => ?_) fun _ _ e => e)
  obtain ⟨w, H', I', rw', c, rfl, hw⟩ := z
  cases rw'
  exact ⟨c, rfl, .bl _, H', I', rfl, hw⟩
/-- str(o), repr(o) -/
def rShow (C : Addr) (sp : Sp) (E : XK) : List V → Hp → VK → Prop := fun vs H Q => ∃ a dx fs, vs = [V.ref a] ∧ H a = some (.ins C dx fs) ∧ sp [.ref a] H (fun v H' => ∃ y, v = .str y ∧ Q v H') E
theorem cr_strO (F : FnOk X.prog X.w X.K X.mg X.base CX n f fd ps sp) (hr : Room (n + 2) X.A) (hb : Binds X.K fd ps []) (hx : Passes CX X E) (hs : PySem.W.findIn X.K (.ref C) "__str__" = some (some (.ref f))) (hf : PySem.W.isFn X.K (.ref f) = true) : CallR X (.type "str") (rShow C sp E) := by
  intro pins s σ H vs us Q I r h
  obtain ⟨a, dx, fs, rfl, ha, hq⟩ := h
  rw [Vals.ref1 r]
  obtain ⟨ox, od, J⟩ := own_at I ha
  have sb1 : Sub X (n + 1) X.A.in1 := Sub.in1 (X := X) (A := X.A) ⟨hr, rfl⟩
  have sb : Sub X n X.A.in1.in1 := sb1.in1
  refine PySem.W.kso_call sb.room.units0 I.kIn J hs hf (wpAny_mono (own_call (vs := [.ref a]) F hb hx sb I (.cons (show Value.ref a = Value.ref a from rfl) .nil) hq) (fun r s' z => ?_) fun _ _ e => e)
  obtain ⟨w, H', I', rw', y, rfl, hw⟩ := z
  obtain ⟨t, rfl⟩ := rw'
  exact ⟨.str y, H', I', ⟨t, rfl⟩, hw⟩
theorem cr_reprO (F : FnOk X.prog X.w X.K X.mg X.base CX n f fd ps sp) (hr : Room (n + 1) X.A) (hb : Binds X.K fd ps []) (hx : Passes CX X E) (hs : PySem.W.findIn X.K (.ref C) "__repr__" = some (some (.ref f))) (hf : PySem.W.isFn X.K (.ref f) = true) : CallR X (.builtin "repr") (rShow C sp E) := by
  intro pins s σ H vs us Q I r h
  obtain ⟨a, dx, fs, rfl, ha, hq⟩ := h
  rw [Vals.ref1 r]
  obtain ⟨ox, od, J⟩ := own_at I ha
  have sb : Sub X n X.A.in1 := Sub.in1 (X := X) (A := X.A) ⟨hr, rfl⟩
  refine repr_own sb.room.units0 I.kIn J hs hf (wpAny_mono (own_call (vs := [.ref a]) F hb hx sb I (.cons (show Value.ref a = Value.ref a from rfl) .nil) hq) (fun r s' z => ?_) fun _ _ e => e)
  obtain ⟨w, H', I', rw', y, rfl, hw⟩ := z
  obtain ⟨t, rfl⟩ := rw'
  exact ⟨y, t, rfl, .str y, H', I', ⟨t, rfl⟩, hw⟩
end
end Z
namespace Z
open PySem L2
theorem kit_self {K : PySem.W.Frag} {C : Addr} : PySem.W.kitOne K (.ref C) (.ref C) = some true := by
  unfold PySem.W.kitOne
  rw [if_pos (by simp)]
theorem kit_notown {K : PySem.W.Frag} {C : Addr} {n : String} {b : Bool} (ic : PySem.W.isClsIn K C = true) (tm : PySem.W.typeIn K (.ref C) = some (.type "type")) (e : PySem.W.subIn K (.type n) (.ref C) = some b) : PySem.W.kitOne K (.type n) (.ref C) = some b := by
  unfold PySem.W.kitOne
  rw [if_neg (fun z => nomatch (eq_of_beq z : Value.type n = Value.ref C))]
  unfold PySem.W.kitCls
  dsimp only
  rw [if_pos]
  · exact e
  · rw [Bool.and_eq_true]
    exact ⟨ic, by rw [tm]; decide⟩
/-! making one -/
theorem s_make {C : Addr} {sp : Sp} {dvs : List V} {E : XK} {t : TA} {σ : L2.St} {H : Hp} {Q : VK} (k : t σ H fun vs H1 => ∀ x dx, H1 x = none → H1 dx = none → dx ≠ x →
    sp (.ref x :: (vs ++ dvs)) (upd (upd H1 dx (.own x)) x (.ins C dx [])) (fun v H2 => v = .non ∧ Q (.ref x) H2) E) : tMake C sp dvs E t σ H Q := k
theorem s_makeK {C : Addr} {n m : Nat} {sp : Sp} {gV : List V → List V → List V} {E : XK} {t tk : TA} {σ : L2.St} {H : Hp} {Q : VK} (k : t σ H fun vs H1 => tk σ H1 fun zs H2 => vs.length = n ∧ zs.length = m ∧ ∀ x dx, H2 x = none → H2 dx = none → dx ≠ x →
  sp (gV (.ref x :: vs) zs) (upd (upd H2 dx (.own x)) x (.ins C dx [])) (fun v H3 => v = .non ∧ Q (.ref x) H3) E) : tMakeK C n m sp gV E t tk σ H Q := k
theorem s_sFld {K : PySem.W.Frag} {ta tv : TE} {f : Str} {D : Ends} {σ : L2.St} {H : Hp} (k : tv σ H fun y H1 => ta σ H1 fun x H2 => ∃ a C dx fs, x = .ref a ∧ H2 a = some (.ins C dx fs) ∧ Cls K C ∧ NoAttr K C f ∧ fs.length < 1000 ∧
  D.nx σ (upd H2 a (.ins C dx (putF f y fs)))) : sFld K ta tv f D σ H := k
end Z

set_option Elab.async false
set_option linter.all false
set_option maxRecDepth 100000
namespace Z
open PySem L2
/-! x in a list, by the items' own == -/
section
open PySem.SeqAt PySem.SeqRoads2 PySem.MeetsSeq AutoSeq1 PyProof.Rows
variable {P : Program} {w : World} {A : Around}
theorem has_loop {R : Result → Shared → Prop} {l : Addr} {x : Value} {N : Nat} {e : Nat → Bool} {I : Nat → Shared → Prop}
    (turn : ∀ i s, I i s → ∃ (its : Array Value) (n : Nat), s.heap.get? l = some { cls := .type "list", data := .seq its n } ∧ its.size = N ∧ ∀ h : i < its.size, wpAny (model P w) A.in1 (eqBool its[i] x) (fun r s' => r = e i ∧ I (i + 1) s') (fun v s' => R (.error v) s') s)
    (fin : ∀ i s b, I i s → (b = true ↔ ∃ j, j < N ∧ e j = true) → R (.ok (.ret (.bool b))) s) :
    ∀ k i : Nat, N - i = k → i ≤ N → (∀ j, j < i → e j = false) → ∀ s, I i s → wpAny (model P w) A.in1 (Builtin.«list.__contains__.loop» ⟨[.ref l, x, rawInt i], []⟩) (GQ.FinOf P w A R) (fun v s' => R (.error v) s') s
  | 0, i, hk, hi, hf, s, h => by
    obtain ⟨its, n, hl, hn, _⟩ := turn _ _ h
    obtain rfl : i = N := by omega
    have hR := fin _ s false h ⟨fun z => (Bool.false_ne_true z).elim, fun ⟨j, hj, z⟩ => by rw [hf j hj] at z; exact z⟩
    obtain ⟨hp, g, d, tk, os⟩ := s
    wp_walk using wpAny_loadPart' hl
    rw [show its[((i : Nat) : Int).toNat]? = none from by simp; omega]
    wp_walk
    exact hR
  | k + 1, i, hk, hi, hf, s, h => by
    obtain ⟨its, n, hl, hn, ht⟩ := turn _ _ h
    have lt : i < its.size := by omega
    have ht := ht lt
    obtain ⟨hp, g, d, tk, os⟩ := s
    wp_walk using wpAny_loadPart' hl
    rw [show its[((i : Nat) : Int).toNat]? = some its[i] from by simp [lt]]
    refine wpAny_bind (wpAny_mono ht (fun r s2 h2 => ?_) fun _ _ z => z)
    obtain ⟨rfl, h2⟩ := h2
    cases eb : e i with
    | true =>
      have hR := fin _ s2 true h2 ⟨fun _ => ⟨i, by omega, eb⟩, fun _ => rfl⟩
      obtain ⟨hp2, g2, d2, tk2, os2⟩ := s2
      wp_walk
      exact hR
    | false =>
      have next := has_loop turn fin k (i + 1) (by omega) (by omega) (fun j hj => by
        by_cases q : j = i
        · rw [q]; exact eb
        · exact hf j (by omega)) s2 h2
      obtain ⟨hp2, g2, d2, tk2, os2⟩ := s2
      wp_walk
      rw [show ((i : Int) + 1) = ((i + 1 : Nat) : Int) from by omega]
      exact ⟨plainId_quiet plain_contains_loop _, codeAny_builtin entry_contains_loop (by
        rw [Around.under_plainId plain_contains_loop _]
        exact next)⟩
theorem in_own {E : Value → Shared → Prop} {l : Addr} {x : Value} {N : Nat} {e : Nat → Bool} {I : Nat → Shared → Prop} {Q : Value → Shared → Prop}
    (turn : ∀ i s, I i s → ∃ (its : Array Value) (n : Nat), s.heap.get? l = some { cls := .type "list", data := .seq its n } ∧ its.size = N ∧ ∀ h : i < its.size, wpAny (model P w) A.in1 (eqBool its[i] x) (fun r s' => r = e i ∧ I (i + 1) s') E s)
    (fin : ∀ i s b, I i s → (b = true ↔ ∃ j, j < N ∧ e j = true) → Q (.bool b) s) {s : Shared} (h : I 0 s) : wpAny (model P w) A (compareOp .In x (.ref l)) Q E s := by
  obtain ⟨its, n, hl, hn, _⟩ := turn _ _ h
  show wpAny _ A (do return .bool (← contains (.ref l) x)) Q E s
  refine wpAny_bind (wpAny_contains_slot ⟨_, hl, rfl⟩ F.slot_list_contains (wpAny_mono (GQ.call_here F.slot_list_contains ⟨_, hl, rfl⟩ F.entry_list_contains (F.args_list_contains_2 _ _)
    (Q := fun v s' => ∃ b, v = .bool b ∧ Q (.bool b) s') (E := E) ?_) (fun v s' hv => ?_) fun _ _ z => z))
  · have first := has_loop (A := A) (R := wants (fun v s' => ∃ b, v = .bool b ∧ Q (.bool b) s') E) turn (fun i s' b hI hb => ⟨b, rfl, fin i s' b hI hb⟩) _ 0 rfl (Nat.zero_le _) (fun j hj => absurd hj (Nat.not_lt_zero j)) s h
    obtain ⟨hp, g, d, tk, os⟩ := s
    wp_walk using wpAny_loadPart' hl
    exact ⟨plainId_quiet plain_contains_loop _, codeAny_builtin entry_contains_loop (by
      rw [Around.under_plainId plain_contains_loop _]
      exact first)⟩
  · obtain ⟨b, rfl, hq⟩ := hv
    exact wpAny_truthy_bool (wpAny_pure hq)
end
/-- what the own == of two instances answers, whatever has been made since -/
def spEqB (Rl : Addr → Addr → Hp → Bool → Prop) : Sp := fun vs H Q _ => ∃ a b r, vs = [.ref a, .ref b] ∧ Rl a b H r ∧ ∀ H', Ex H H' → Q (.bl r) H'
def rInO (C : Addr) (Rl : Addr → Addr → Hp → Bool → Prop) : R2 := fun x y H Q => ∃ (a : Addr) (dx : Addr) (fs : List (Str × V)) (p : Addr) (bs : List Addr) (e : Nat → Bool), x = .ref a ∧ y = .ref p ∧ H a = some (.ins C dx fs) ∧ H p = some (.lst (bs.map V.ref)) ∧
  (∀ i b, bs[i]? = some b → (∃ dy gs, H b = some (.ins C dy gs)) ∧ (∀ H', Ex H H' → Rl b a H' (e i)) ∧ (b = a → e i = true)) ∧ ∀ H' r, Ex H H' → (r = true ↔ ∃ j, j < bs.length ∧ e j = true) → Q (.bl r) H'
section
variable {X : Cx} {n : Nat} {CX : CXT} {f C : Addr} {fd : FuncData} {ps : List Str} {sp : Sp} {E : XK} {Rl : Addr → Addr → Hp → Bool → Prop}
theorem op_inO (F : FnOk X.prog X.w X.K X.mg X.base CX n f fd ps sp) (hsp : ∀ a b H r, Rl a b H r → ∀ Q : VK, (∀ H', Ex H H' → Q (.bl r) H') → sp [.ref a, .ref b] H Q E) (hr : Room (n + 1) X.A) (hb : Binds X.K fd ps []) (hx : Passes CX X E) (O : OwnE X.K C f)
    (ty : ∀ {H : Hp} {a dx : Addr} {fs : List (Str × V)}, H a = some (.ins C dx fs) → TyX X.K H (.ref a) (.ref C)) (nf : PySem.W.notFirst X.K C (.ref C) = true) : OpR X (compareOp .In) (rInO C Rl) := by
  intro pins s σ H x y v u Q I rx ry h
  obtain ⟨a, dx, fs, p, bs, e, rfl, rfl, ha, hp, hbs, q⟩ := h
  obtain rfl : v = Value.ref a := rx
  obtain rfl : u = Value.ref p := ry
  have sb : Sub X n X.A.in1 := Sub.in1 (X := X) (A := X.A) ⟨hr, rfl⟩
  refine in_own (N := bs.length) (e := e) (I := fun i s' => ∃ H', Inv X pins σ H' s' ∧ Ex H H') (fun i s' h => ?_) (fun i s' b h hb => ?_) ⟨H, I, Ex.refl⟩
  · obtain ⟨H1, I1, e1⟩ := h
    obtain ⟨z, its, m, rv, hl⟩ := (show ObjOk X.prog X.w H1 s'.heap p (.lst (bs.map V.ref)) from I1.hok p _ (e1 _ _ hp))
    have len : its.toArray.size = bs.length := by rw [List.size_toArray, ← rv.length, List.length_map]
    refine ⟨its.toArray, m, hl, len, fun hi => ?_⟩
    have hi2 : i < bs.length := by omega
    obtain ⟨u, hu, ru⟩ := rv.get (show (bs.map V.ref)[i]? = some (.ref bs[i]) from by rw [List.getElem?_map, List.getElem?_eq_getElem hi2]; rfl)
    obtain rfl : u = Value.ref bs[i] := ru
    have en : its.toArray[i] = Value.ref bs[i] := by
      have : its[i]? = some its.toArray[i] := by
        have : i < its.length := by simpa using hi
        rw [List.getElem?_eq_getElem this] <;> simp
      rw [this] at hu
      exact Option.some.inj hu
    rw [en]
    obtain ⟨⟨dy, gs, hy⟩, hR, hself⟩ := hbs i bs[i] (List.getElem?_eq_getElem hi2)
    by_cases hab : bs[i] = a
    · rw [hab, hself hab]
      exact SeqAt.EqAt.same (A := X.A.in1) (s := s') (.ref a) X.prog X.w X.xe _ ⟨rfl, H1, I1, e1⟩
    · refine GQ.eqBool_refG hab ?_
      refine wpAny_mono (rc_own (sb := sb) (x := .ref bs[i]) (y := .ref a) (Q := fun v H' => v = .bl (e i) ∧ Ex H1 H') F hb hx O I1 rfl rfl ⟨bs[i], dy, gs, _, rfl, e1 _ _ hy, ty (e1 _ _ ha), nf, hsp _ _ _ _ (hR H1 e1) _ fun H' e' => ⟨rfl, e'⟩⟩) (fun r s2 z => ?_) fun _ _ z => z
      obtain ⟨v, H2, I2, rv2, rfl, e2⟩ := z
      exact ⟨e i, rv2, rfl, H2, I2, e1.trans e2⟩
  · obtain ⟨H1, I1, e1⟩ := h
    exact ⟨.bl b, H1, I1, rfl, q H1 b e1 hb⟩
end
end Z

set_option Elab.async false
set_option linter.all false
set_option maxRecDepth 100000
namespace Z
open PySem L2
/-! set of a tuple of ints -/
section
open PySem.Spec PyProof.Rows
variable {P : Program} {w : World} {A : Around}
set_option maxHeartbeats 4000000 in
theorem set_callT {E : Value → Shared → Prop} {s : Shared} {l : Addr} {its : Array Value} {ns : List Int} {Q : Value → Shared → Prop}
    (calm : A.handled = none) (hl : s.heap.IsTuple l its) (hi : IntsAre its.toList ns) (room : its.size + 1 < scanBound)
    (h : ∀ (h' : Heap) (tk : Nat) (S : Int → Bool) (m : Nat), SetR w h' s.heap.objs.size S m → m ≤ ns.length → (∀ x, S x = true ↔ x ∈ ns) → (∀ b o, s.heap.get? b = some o → h'.get? b = some o) → Q (.ref s.heap.objs.size) { s with heap := h', toks := tk }) :
    wpAny (model P w) A (call (.type "set") [.ref l]) Q E s := by
  obtain ⟨c, tl, cm⟩ := F.called_set.mro
  have c1 := F.called_set.made
  have c2 := F.called_set.sub
  refine wpAny_call (codeAny_of_tree ?_)
  show wpAny _ _ (callAny (.type "set") _) _ _ _
  refine wpAny_pure ⟨Code.quiet_builtin _ (by decide +kernel), codeAny_builtin F.entry_type_call ?_⟩
  rw [PySem.Around.under_plain (weight_type_call_type "set" [.ref l] []) rfl]
  have c3 := F.called_set.notType
  have c4 := F.called_set.canCreate
  have c5 := PySem.F.typeCall_set_1 (.ref l)
  repeat (any_goals (first | assumption | wp_step))
  generalize eO : (!w.params.followText "set-order") = led
  refine codeAny_mono (set_new1 (.ref l) (E := E) (Q := fun v s1 => v = .ref s.heap.objs.size ∧ s1 = { s with heap := s.heap.push { cls := .type "set", dict := none, data := .set #[] 0 (.fresh 0 0 led) } }) (by rw [eO]; exact ⟨rfl, rfl⟩)) fun r s1 hr => ?_
  cases r with
  | error e => exact hr
  | ok fl =>
    cases fl with
    | ret v =>
      obtain ⟨rfl, rfl⟩ := hr
      have hO : (s.heap.push { cls := .type "set", dict := none, data := .set #[] 0 (.fresh 0 0 led) }).get? s.heap.objs.size = some { cls := .type "set", dict := none, data := .set #[] 0 (.fresh 0 0 led) } := Heap.get?_push_size _ rfl
      have hT : Shared.TypeIs { s with heap := s.heap.push { cls := .type "set", dict := none, data := .set #[] 0 (.fresh 0 0 led) } } (.ref s.heap.objs.size) "set" := ⟨_, hO, rfl⟩
      have c6 := F.called_set.init.lookup
      have c7 := F.called_set.init.bind (.ref s.heap.objs.size)
      have hR0 : SetR w (s.heap.push { cls := .type "set", dict := none, data := .set #[] 0 (.fresh 0 0 led) }) s.heap.objs.size (fun _ => false) 0 := by
        rw [← eO]
        exact setR_fresh w
      repeat (any_goals (first | assumption | wp_step))
      refine codeAny_mono (codeAny_call_builtin (R := wants (fun r s2 => r = .none ∧ ∃ h' tk S m, s2 = { s with heap := h', toks := tk } ∧ SetR w h' s.heap.objs.size S m ∧ m ≤ ns.length ∧ (∀ x, S x = true ↔ x ∈ ns) ∧ (∀ b o, s.heap.get? b = some o → h'.get? b = some o)) E)
        F.called_set.init.plain F.entry_set_init (PySem.check_set_init_1 hT ?_)) fun r2 s2 hr2 => ?_
      · obtain ⟨⟨oc, od, oo, os⟩, g1, g2, nl, g3⟩ := hl
        simp only at g2 g3
        subst g2
        subst g3
        have g4 : (s.heap.push { cls := .type "set", dict := none, data := .set #[] 0 (.fresh 0 0 led) }).get? l = some { cls := .type "tuple", dict := od, data := .seq its nl, slots := os } := Heap.get?_push_of_some _ g1
        have n1 := PySem.F.sub_tuple_set
        have n2 := PySem.F.sub_tuple_frozenset
        have n3 : (Value.type "tuple" == Value.type "dict") = false := by decide
        have g5 : (s.heap.push { cls := .type "set", dict := none, data := .set #[] 0 (.fresh 0 0 led) }).IsTuple l its := ⟨_, g4, rfl, nl, rfl⟩
        unfold Builtin.«set.__init__» noKeywords Builtin.Frozenset.updateFrom
        generalize hPI : pyIter = PI
        wp_walk
        subst hPI
        refine wpAny_pyIter_tuple g5 ?_
        refine wpAny_bind (wpAny_runValue ?_)
        have lt : l < s.heap.objs.size := Heap.lt_size g1
        have calm3 : A.in1.in1.in1.handled = none := by simp [calm]
        have ne1 : l ≠ (s.heap.push { cls := .type "set", dict := none, data := .set #[] 0 (.fresh 0 0 led) }).objs.size := by
          rw [Heap.size_push]
          exact Nat.ne_of_lt (Nat.lt_succ_of_lt lt)
        have ne2 : s.heap.objs.size ∉ [(s.heap.push { cls := .type "set", dict := none, data := .set #[] 0 (.fresh 0 0 led) }).objs.size, l] := by
          rw [Heap.size_push]
          simp only [List.mem_cons, List.mem_singleton, List.not_mem_nil, or_false, not_or]
          exact ⟨Nat.ne_of_lt (Nat.lt_succ_self _), Nat.ne_of_gt lt⟩
        refine set_upd ((Walks.tuple calm3 _ l ne1 its).toS) s.heap.objs.size ne2 ns (by rw [← hi.length, Array.length_toList]) (fun i v hv => PyProof.Rows.IntsAre.int_at hi i v (by rw [Array.getElem?_toList]; exact hv)) room (its.size - 0) 0 0 _ _ (by omega) (Nat.zero_le _)
          ⟨⟨_, Heap.get?_push_size _ rfl, rfl, rfl⟩, g5.push _⟩ (hR0.at fun o e => Heap.get?_push_of_some _ e) (Nat.le_refl _) (fun x => by simp) fun s' S' m' mv hS hm hx => ?_
        obtain ⟨h', g', d', tk', os'⟩ := s'
        obtain rfl : g' = s.gens := mv.gens
        obtain rfl : d' = s.drawn := mv.drawn
        obtain rfl : os' = s.os := mv.os
        refine wpAny_pure (wpAny_pure ⟨rfl, h', tk', S', m', rfl, hS, by rw [← hi.length, Array.length_toList]; exact hm, hx, fun b o e => ?_⟩)
        have b1 := Heap.lt_size e
        refine mv.heap b o ?_ (Heap.get?_push_of_some _ (Heap.get?_push_of_some _ e))
        rw [Heap.size_push]
        simp only [List.mem_cons, List.mem_singleton, List.not_mem_nil, or_false, not_or]
        exact ⟨Nat.ne_of_lt b1, Nat.ne_of_lt (Nat.lt_succ_of_lt b1)⟩
      · cases r2 with
        | error e => exact hr2
        | ok fl2 =>
          cases fl2 with
          | ret r =>
            obtain ⟨rfl, h', tk, S, m, rfl, q1, q2, q3, q4⟩ := hr2
            repeat (any_goals (first | assumption | wp_step))
            exact h _ _ _ _ q1 q2 q3 q4
          | _ => exact hr2.elim
    | _ => exact hr.elim
end
def rSetT (w : World) (K : PySem.W.Frag) : List V → Hp → VK → Prop := fun xs H Q => ∃ (a : Addr) (ns : List Int), xs = [V.ref a] ∧ SqT K H a (ns.map V.int) ∧ ns.length + 1 < scanBound ∧ ∀ p S m, H p = none → m ≤ ns.length → (∀ x, S x = true ↔ x ∈ ns) → Q (.ref p) (upd H p (SetO w p S m))
theorem cr_setT {X : Cx} (hc : X.calm = true) : CallR X (.type "set") (rSetT X.w X.K) := by
  intro pins s σ H xs us Q I r h
  obtain ⟨a, ns, rfl, ha, room, q⟩ := h
  obtain ⟨its, rv, hl, _⟩ := I.tuple ha
  rw [Vals.ref1 r]
  have hi : PyProof.Rows.IntsAre its ns := Vals.ints rv
  exact set_callT (I.ok.hd hc) hl hi (by rw [List.size_toArray, hi.length]; exact room) fun h' tk S m hS hm hx keep => ⟨.ref _, _, I.laid (t' := tk) keep (Nat.le_refl _) (setO_new hS), rfl, q _ S m (I.hok.fresh (Nat.le_refl _)) hm hx⟩
theorem s_setOfT {w : World} {K : PySem.W.Frag} {H : Hp} {Q : VK} {a : Addr} {ns : List Int} (ha : SqT K H a (ns.map V.int)) (room : ns.length + 1 < scanBound) (k : ∀ p S m H', H p = none → Ex H H' → H' p = some (SetO w p S m) → m ≤ ns.length → (∀ x, S x = true ↔ x ∈ ns) → Q (.ref p) H') : rSetT w K [.ref a] H Q :=
  ⟨a, ns, rfl, ha, room, fun p S m hp h1 h2 => k p S m _ hp (Ex.new hp) upd_same h1 h2⟩
end Z

set_option Elab.async false
set_option linter.all false
set_option maxRecDepth 100000
set_option maxHeartbeats 1000000
namespace Z
open PySem PySem.Builtin.SmallTypes
/-! zip(a, b, strict=True) of two lists of one length -/
section
variable {P : Program} {w : World} {A : Around} {E : Value → Shared → Prop} {s : Shared}
abbrev ZipS (h : Heap) (z pI pO : Addr) (own : Value) : Prop := h.get? z = some { cls := .type "zip", dict := none, data := .fields #[own, .bool false, .bool true, .ref pI, .ref pO], slots := #[] }
theorem drawS_item {j l : Addr} {i : Nat} {xs : Array Value} {x : Value} {Q : Option Value → Shared → Prop} (hj : s.heap.IsListIter j l i) (hl : s.heap.IsList l xs) (hx : xs[i]? = some x)
    (k : ∀ h', h'.IsListIter j l (i + 1) → Heap.SameBut j s.heap h' → Q (some x) { s with heap := h' }) : wpAny (model P w) A (nextOrEnd (.ref j)) Q E s := by
  unfold nextOrEnd
  exact wpAny_bind (wpAny_attempt (wpAny_nextOf_list_item hj hl hx fun h' a b => wpAny_pure (k h' a b)))
theorem drawS_end {j l : Addr} {i : Nat} {xs : Array Value} {Q : Option Value → Shared → Prop} (calm : A.handled = none) (hj : s.heap.IsListIter j l i) (hl : s.heap.IsList l xs) (hx : xs[i]? = none)
    (k : ∀ h', Heap.ExtBut j s.heap h' → Q none { s with heap := h' }) : wpAny (model P w) A (nextOrEnd (.ref j)) Q E s := by
  unfold nextOrEnd
  refine wpAny_bind (wpAny_attempt (wpAny_nextOf_list_end calm hj hl hx fun h' e a he => ?_))
  obtain ⟨o, ho, hc⟩ := he
  refine wpAny_bind (wpAny_isInstance (T := "StopIteration") (b := true) ⟨o, ho, hc⟩ isSubtype_stop ?_)
  rw [if_pos rfl]
  exact wpAny_pure (k h' a)
theorem zipS_item {z pI pO j1 j2 l1 l2 : Addr} {i : Nat} {xs ys : Array Value} {x y c d : Value} {Q : Value → Shared → Prop} (D : ZipApart z pI pO j1 j2 l1 l2)
    (hz : ZipS s.heap z pI pO .none) (hI : IsPair s.heap pI (.ref j1) (.ref j2)) (hO : IsPair s.heap pO c d)
    (g1 : s.heap.IsListIter j1 l1 i) (g2 : s.heap.IsListIter j2 l2 i) (m1 : s.heap.IsList l1 xs) (m2 : s.heap.IsList l2 ys) (hx : xs[i]? = some x) (hy : ys[i]? = some y)
    (k : ∀ h', ZipS h' z pI pO (rawInt s.heap.objs.size) → IsPair h' pO x y → h'.IsListIter j1 l1 (i + 1) → h'.IsListIter j2 l2 (i + 1) → IsPair h' s.heap.objs.size x y → h'.objs.size = s.heap.objs.size + 1 →
      (∀ a o, a ≠ z → a ≠ pO → a ≠ j1 → a ≠ j2 → s.heap.get? a = some o → h'.get? a = some o) → Q (.ref s.heap.objs.size) { s with heap := h' }) :
    wpAny (model P w) A (Builtin.«zip.__next__» ⟨[.ref z], []⟩) (fun fin s' => ∃ v, fin = .done (.ret v) ∧ Q v s') E s := by
  show wpAny _ _ (field (.ref z) 2 >>= fun f => _) _ _ _
  refine wpAny_bind (wpAny_field hz rfl (x := .bool true) rfl ?_)
  show wpAny _ _ (field (.ref z) 3 >>= fun f => _) _ _ _
  refine wpAny_bind (wpAny_field hz rfl (x := .ref pI) rfl (wpAny_bind (wpAny_seqItems hI rfl ?_)))
  show wpAny _ _ (ownedTupleIsFree (.ref z) >>= fun f => _) _ _ _
  unfold ownedTupleIsFree
  refine wpAny_bind (wpAny_bind (wpAny_field hz rfl (x := .none) rfl (wpAny_pure ?_)))
  simp only [if_true]
  refine wpAny_bind (wpAny_rule (wpAny_bind (wpAny_field hz rfl (x := .ref pO) rfl ?_)))
  refine wpAny_bind (wpAny_setField_rec hz (by simp) fun H1 z1 b1 => ?_)
  replace z1 : ZipS H1 z pI pO .ellipsis := z1
  refine wpAny_bind ?_
  simp only [List.zipIdx_cons, List.zipIdx_nil, List.forIn_cons, List.forIn_nil]
  refine wpAny_bind (wpAny_bind (wpAny_onRaise ?_))
  show wpAny _ _ (nextOrEnd (.ref j1)) _ _ _
  refine drawS_item (g1.extBut b1.extBut D.i1z) (m1.extBut b1.extBut D.l1z) hx fun H2 n1 b2 => ?_
  have o2 : IsPair H2 pO c d := b2.extBut _ _ D.TOi1 (b1.extBut _ _ D.TOz hO)
  refine wpAny_bind (wpAny_seqItems o2 rfl (wpAny_bind (wpAny_updateSeq_pair o2 fun H3 o3 b3 => ?_)))
  replace o3 : IsPair H3 pO x d := o3
  refine wpAny_bind (wpAny_letGo (wpAny_pure ?_))
  refine wpAny_bind (wpAny_bind (wpAny_onRaise ?_))
  show wpAny _ _ (nextOrEnd (.ref j2)) _ _ _
  refine drawS_item (((g2.extBut b1.extBut D.i2z).extBut b2.extBut D.i12.symm).extBut b3.extBut D.TOi2.symm) (((m2.extBut b1.extBut D.l2z).extBut b2.extBut D.l2i1).extBut b3.extBut D.l2TO) hy fun H4 n2 b4 => ?_
  have o4 : IsPair H4 pO x d := b4.extBut _ _ D.TOi2 o3
  refine wpAny_bind (wpAny_seqItems o4 rfl (wpAny_bind (wpAny_updateSeq_pair o4 fun H5 o5 b5 => ?_)))
  replace o5 : IsPair H5 pO x y := o5
  refine wpAny_bind (wpAny_letGo (wpAny_pure (wpAny_pure ?_)))
  refine wpAny_bind (wpAny_seqItems o5 rfl (wpAny_bind (wpAny_newTuple ?_)))
  have sz5 : H5.objs.size = s.heap.objs.size := by rw [b5.1, b4.1, b3.1, b2.1, b1.1]
  have z5 : ZipS H5 z pI pO .ellipsis := b5.extBut _ _ D.TOz.symm (b4.extBut _ _ D.i2z.symm (b3.extBut _ _ D.TOz.symm (b2.extBut _ _ D.i1z.symm z1)))
  have kp : ∀ a o, a ≠ z → a ≠ pO → a ≠ j1 → a ≠ j2 → s.heap.get? a = some o → H5.get? a = some o := fun a o q1 q2 q3 q4 e => b5.extBut _ _ q2 (b4.extBut _ _ q4 (b3.extBut _ _ q2 (b2.extBut _ _ q3 (b1.extBut _ _ q1 e))))
  have n1' : H5.IsListIter j1 l1 (i + 1) := ((n1.extBut b3.extBut D.TOi1.symm).extBut b4.extBut D.i12).extBut b5.extBut D.TOi1.symm
  have n2' : H5.IsListIter j2 l2 (i + 1) := n2.extBut b5.extBut D.TOi2.symm
  have zl : z < H5.objs.size := Heap.lt_size z5
  show wpAny _ _ (ownedTupleHandOut (.ref z) (.ref H5.objs.size) >>= fun f => _) _ _ _
  unfold ownedTupleHandOut
  have z6 : ZipS (H5.push { cls := .type "tuple", data := .seq #[x, y] }) z pI pO .ellipsis := Heap.get?_push_of_some _ z5
  refine wpAny_bind (wpAny_bind (wpAny_setField_rec z6 (by simp) fun H7 z7 b7 => ?_))
  replace z7 : ZipS H7 z pI pO (rawInt H5.objs.size) := z7
  refine wpAny_setField_rec z7 (by simp) fun H8 z8 b8 => ?_
  replace z8 : ZipS H8 z pI pO (rawInt H5.objs.size) := z8
  have up : ∀ a o, a ≠ z → H5.get? a = some o → H8.get? a = some o := fun a o q e => b8.extBut _ _ q (b7.extBut _ _ q (Heap.get?_push_of_some _ e))
  have t8 : IsPair H8 H5.objs.size x y := b8.extBut _ _ (Nat.ne_of_gt zl) (b7.extBut _ _ (Nat.ne_of_gt zl) (Heap.get?_push_size _ rfl))
  have sz8 : H8.objs.size = H5.objs.size + 1 := by rw [b8.1, b7.1, Heap.size_push]
  rw [sz5] at z8 t8 sz8
  refine wpAny_pure ⟨_, rfl, ?_⟩
  show Q (.ref H5.objs.size) _
  rw [sz5]
  exact k H8 z8 (up _ _ D.TOz o5) (n1'.at fun o e => up _ o D.i1z e) (n2'.at fun o e => up _ o D.i2z e) t8 sz8 fun a o q1 q2 q3 q4 e => up a o q1 (kp a o q1 q2 q3 q4 e)
theorem stop_all {Q : α → Shared → Prop} (calm : A.handled = none) (k : ∀ h' e, (∀ a o, s.heap.get? a = some o → h'.get? a = some o) → (∃ o, h'.get? e = some o ∧ o.cls = .type "StopIteration") → E (.ref e) { s with heap := h' }) :
    wpAny (model P w) A (stopIteration : Sem α) Q E s := by
  unfold stopIteration
  refine wpAny_bind ?_
  simp only [newExc, newTuple]
  refine wpAny_bind (wpAny_newObj_type ?_ (by size_fits))
  refine wpAny_bind (m := firstArgMember _ _) (wpAny_of_eq (a := Value.none) (by first | rfl | (simp only [firstArgMember]; rfl)) ?_)
  refine wpAny_newObj_type ?_ (by size_fits)
  simp only [raiseNew]
  refine wpAny_bind (wpAny_handled ?_)
  rw [calm]
  exact wpAny_bind (wpAny_pure (wpAny_throw (k _ _ (fun a o e => Heap.get?_push_of_some _ (Heap.get?_push_of_some _ e)) ⟨_, Heap.get?_push_size _ rfl, rfl⟩)))
theorem strict_go {m : Sem PySem.Fin} {b : Value} {Q : PySem.Fin → Shared → Prop} (hm : ∃ (bad : Value × Nat → Option Value → Sem (ForInStep PUnit)) (r : String), m = (forIn [(b, 1)] PUnit.unit (fun p _ => nextOrEnd p.1 >>= fun x => if x.isSome = true then bad p x else pure (ForInStep.yield PUnit.unit)) >>= fun _ => rule r >>= fun _ => stopIteration))
    (h : wpAny (model P w) A (nextOrEnd b) (fun x s' => x = none ∧ wpAny (model P w) A (stopIteration : Sem PySem.Fin) Q E s') E s) : wpAny (model P w) A m Q E s := by
  obtain ⟨bad, r, rfl⟩ := hm
  simp only [List.forIn_cons, List.forIn_nil]
  refine wpAny_bind (wpAny_bind (wpAny_bind (wpAny_mono h (fun x s' hx => ?_) fun _ _ z => z)))
  obtain ⟨rfl, hx⟩ := hx
  exact wpAny_pure (wpAny_pure (wpAny_bind (wpAny_rule hx)))
theorem zipS_end {z pI pO j1 j2 l1 l2 : Addr} {i : Nat} {xs ys : Array Value} {c d : Value} {Q : Fin → Shared → Prop} (calm : A.handled = none) (D : ZipApart z pI pO j1 j2 l1 l2)
    (hz : ZipS s.heap z pI pO .none) (hI : IsPair s.heap pI (.ref j1) (.ref j2)) (hO : IsPair s.heap pO c d)
    (g1 : s.heap.IsListIter j1 l1 i) (g2 : s.heap.IsListIter j2 l2 i) (m1 : s.heap.IsList l1 xs) (m2 : s.heap.IsList l2 ys) (hx : xs[i]? = none) (hy : ys[i]? = none)
    (k : ∀ h' e, (∀ a o, a ≠ z → a ≠ j1 → a ≠ j2 → s.heap.get? a = some o → h'.get? a = some o) → (∃ o, h'.get? e = some o ∧ o.cls = .type "StopIteration") → E (.ref e) { s with heap := h' }) :
    wpAny (model P w) A (Builtin.«zip.__next__» ⟨[.ref z], []⟩) Q E s := by
  show wpAny _ _ (field (.ref z) 2 >>= fun f => _) _ _ _
  refine wpAny_bind (wpAny_field hz rfl (x := .bool true) rfl ?_)
  show wpAny _ _ (field (.ref z) 3 >>= fun f => _) _ _ _
  refine wpAny_bind (wpAny_field hz rfl (x := .ref pI) rfl (wpAny_bind (wpAny_seqItems hI rfl ?_)))
  show wpAny _ _ (ownedTupleIsFree (.ref z) >>= fun f => _) _ _ _
  unfold ownedTupleIsFree
  refine wpAny_bind (wpAny_bind (wpAny_field hz rfl (x := .none) rfl (wpAny_pure ?_)))
  simp only [if_true]
  refine wpAny_bind (wpAny_rule (wpAny_bind (wpAny_field hz rfl (x := .ref pO) rfl ?_)))
  refine wpAny_bind (wpAny_setField_rec hz (by simp) fun H1 z1 b1 => ?_)
  replace z1 : ZipS H1 z pI pO .ellipsis := z1
  refine wpAny_bind ?_
  simp only [List.zipIdx_cons, List.zipIdx_nil, List.forIn_cons, List.forIn_nil]
  refine wpAny_bind (wpAny_bind (wpAny_onRaise ?_))
  show wpAny _ _ (nextOrEnd (.ref j1)) _ _ _
  refine drawS_end calm (g1.extBut b1.extBut D.i1z) (m1.extBut b1.extBut D.l1z) hx fun H2 b2 => ?_
  have z2 : ZipS H2 z pI pO .ellipsis := b2 _ _ D.i1z.symm z1
  refine wpAny_bind (wpAny_setField_rec z2 (by simp) fun H3 z3 b3 => ?_)
  refine wpAny_bind ?_
  refine strict_go (b := .ref j2) ⟨_, _, rfl⟩ ?_
  refine drawS_end calm (((g2.extBut b1.extBut D.i2z).extBut b2 D.i12.symm).extBut b3.extBut D.i2z) (((m2.extBut b1.extBut D.l2z).extBut b2 D.l2i1).extBut b3.extBut D.l2z) hy fun H4 b4 => ⟨rfl, ?_⟩
  exact stop_all calm fun h' e kp he => k h' e (fun a o q1 q2 q3 x => kp a o (b4 _ _ q3 (b3.extBut _ _ q1 (b2 _ _ q2 (b1.extBut _ _ q1 x))))) he
theorem nextS_item {z pI pO j1 j2 l1 l2 : Addr} {i : Nat} {xs ys : Array Value} {x y c d : Value} {Q : Option Value → Shared → Prop} (D : ZipApart z pI pO j1 j2 l1 l2)
    (hz : ZipS s.heap z pI pO .none) (hI : IsPair s.heap pI (.ref j1) (.ref j2)) (hO : IsPair s.heap pO c d)
    (g1 : s.heap.IsListIter j1 l1 i) (g2 : s.heap.IsListIter j2 l2 i) (m1 : s.heap.IsList l1 xs) (m2 : s.heap.IsList l2 ys) (hx : xs[i]? = some x) (hy : ys[i]? = some y)
    (k : ∀ h', ZipS h' z pI pO (rawInt s.heap.objs.size) → IsPair h' pO x y → h'.IsListIter j1 l1 (i + 1) → h'.IsListIter j2 l2 (i + 1) → IsPair h' s.heap.objs.size x y → h'.objs.size = s.heap.objs.size + 1 →
      (∀ a o, a ≠ z → a ≠ pO → a ≠ j1 → a ≠ j2 → s.heap.get? a = some o → h'.get? a = some o) → Q (some (.ref s.heap.objs.size)) { s with heap := h' }) :
    wpAny (model P w) A (pyNext (.ref z)) Q E s := by
  have tz : s.TypeIs (.ref z) "zip" := ⟨_, hz, rfl⟩
  unfold pyNext
  refine wpAny_bind (wpAny_attempt (wpAny_callSpecial?_slot (name := Str.ofString "__next__") tz F.slot_zip_next (wpAny_call_entry F.slot_zip_next tz F.entry_zip_next ?_ (F.args_zip_next_1 _))))
  exact zipS_item D hz hI hO g1 g2 m1 m2 hx hy fun h' a1 a2 a3 a4 a5 a6 a7 => wpAny_pure (k h' a1 a2 a3 a4 a5 a6 a7)
theorem nextS_end {z pI pO j1 j2 l1 l2 : Addr} {i : Nat} {xs ys : Array Value} {c d : Value} {Q : Option Value → Shared → Prop} (calm : A.handled = none) (D : ZipApart z pI pO j1 j2 l1 l2)
    (hz : ZipS s.heap z pI pO .none) (hI : IsPair s.heap pI (.ref j1) (.ref j2)) (hO : IsPair s.heap pO c d)
    (g1 : s.heap.IsListIter j1 l1 i) (g2 : s.heap.IsListIter j2 l2 i) (m1 : s.heap.IsList l1 xs) (m2 : s.heap.IsList l2 ys) (hx : xs[i]? = none) (hy : ys[i]? = none)
    (k : ∀ h', (∀ a o, a ≠ z → a ≠ j1 → a ≠ j2 → s.heap.get? a = some o → h'.get? a = some o) → Q none { s with heap := h' }) : wpAny (model P w) A (pyNext (.ref z)) Q E s := by
  have tz : s.TypeIs (.ref z) "zip" := ⟨_, hz, rfl⟩
  unfold pyNext
  refine wpAny_bind (wpAny_attempt (wpAny_callSpecial?_slot (name := Str.ofString "__next__") tz F.slot_zip_next (wpAny_call_entry F.slot_zip_next tz F.entry_zip_next ?_ (F.args_zip_next_1 _))))
  refine zipS_end calm D hz hI hO g1 g2 m1 m2 hx hy fun h' e kp he => ?_
  obtain ⟨o, ho, hc⟩ := he
  exact wpAny_bind (wpAny_isInstance (T := "StopIteration") (b := true) ⟨o, ho, hc⟩ isSubtype_stop (wpAny_pure (k _ kp)))
theorem iterS {z pI pO : Addr} {own : Value} {Q : Value → Shared → Prop} (hz : ZipS s.heap z pI pO own) (k : Q (.ref z) s) : wpAny (model P w) A (pyIter (.ref z)) Q E s := by
  have tz : s.TypeIs (.ref z) "zip" := ⟨_, hz, rfl⟩
  refine wpAny_pyIter_slot tz F.slot_zip_iter (wpAny_call_entry F.slot_zip_iter tz F.entry_zip_iter ?_ (F.args_zip_iter_1 _))
  exact (show wpAny _ _ (ret (.ref z)) _ _ s from wpAny_pure ⟨_, rfl, "zip", _, tz, F.slot_zip_next.lookup, k⟩)
theorem letS_if {α : Type} {c : Bool} {a b : Sem α} {Q : α → Shared → Prop} (hc : c = true) (h : wpAny (model P w) A a Q E s) : wpAny (model P w) A (if c = true then a else b) Q E s := by
  rw [if_pos hc]
  exact h
theorem letS {es : List Expr} {n : Nat} {pos : Pos} {z pI pO t : Addr} {Q : Unit → Shared → Prop} (hz : ZipS s.heap z pI pO (rawInt t)) (k : ∀ h', ZipS h' z pI pO .none → Heap.SameBut z s.heap h' → Q () { s with heap := h' }) :
    wpAny (model P w) A (letOwnedTupleGo (.Tuple es n pos) (.ref z) (.ref t)) Q E s := by
  unfold letOwnedTupleGo
  refine wpAny_bind (wpAny_load hz (letS_if (by simp) ?_))
  exact wpAny_bind (wpAny_rule (wpAny_setField_rec hz (by simp) fun h' z' b => k h' z' b))
/-! it is made -/
theorem tcS (a b v : Value) : checkTypeCall "zip" ⟨[a, b], [(Str.ofString "strict", v)]⟩ = pure () := by kernel_rfl
theorem ncS (a b v : Value) : checkBuiltinCall "zip.__new__" ⟨[.type "zip", a, b], [(Str.ofString "strict", v)]⟩ = pure () := by kernel_rfl
theorem oiS (o a b v : Value) : argsOk "object.__init__" ⟨[o, a, b], [(Str.ofString "strict", v)]⟩ := by
  unfold argsOk
  kernel_rfl
theorem newS (l1 l2 : Addr) (xs ys : Array Value) :
    Meets (Builtin.«zip.__new__» ⟨[.type "zip", .ref l1, .ref l2], [(Str.ofString "strict", .bool true)]⟩) (fun _ R s => s.heap.IsList l1 xs ∧ s.heap.IsList l2 ys ∧
      R (.ok (.ret (.ref (zipH4 s.heap l1 l2).objs.size))) { s with heap := (zipH4 s.heap l1 l2).push { cls := .type "zip", data := .fields #[.none, .bool false, .bool true, .ref (zipH2 s.heap l1 l2).objs.size, .ref (zipH3 s.heap l1 l2).objs.size] } }) :=
  .of_wp fun prog w A R s h => by
    obtain ⟨hp, g, d, tk, os⟩ := s
    obtain ⟨m1, m2, h⟩ := h
    have sz := sub_zip
    have M1 : Heap.IsList (Shared.heap ⟨hp, g, d, tk, os⟩) l1 xs := m1
    have M2 : Heap.IsList (Shared.heap ⟨hp.push { cls := .type "list_iterator", data := .fields #[.ref l1, .int 0 0] }, g, d, tk, os⟩) l2 ys := Heap.IsList.push m2 _
    wp_walk using wpAny_pyIter_list M1, wpAny_pyIter_list M2, wpAny_truthy_bool
    exact ⟨_, rfl, h⟩
theorem callS {l1 l2 : Addr} {xs ys : Array Value} {Q : Value → Shared → Prop} (m1 : s.heap.IsList l1 xs) (m2 : s.heap.IsList l2 ys)
    (k : ∀ h', ZipS h' (s.heap.objs.size + 4) (s.heap.objs.size + 2) (s.heap.objs.size + 3) .none → IsPair h' (s.heap.objs.size + 2) (.ref s.heap.objs.size) (.ref (s.heap.objs.size + 1)) → IsPair h' (s.heap.objs.size + 3) .none .none →
      h'.IsListIter s.heap.objs.size l1 0 → h'.IsListIter (s.heap.objs.size + 1) l2 0 → (∀ a o, s.heap.get? a = some o → h'.get? a = some o) → Q (.ref (s.heap.objs.size + 4)) { s with heap := h' }) :
    wpAny (model P w) A (call (.type "zip") [.ref l1, .ref l2] [(Str.ofString "strict", .bool true)]) Q E s := by
  refine callType_newKw F.called_zip (by decide) (tcS _ _ _) (ncS _ _ _) (fun o => oiS o _ _ _) F.entry_zip_new (newS l1 l2 xs ys) ⟨m1, m2, ?_⟩
  generalize eO : ({ cls := .type "zip", data := .fields #[.none, .bool false, .bool true, .ref (zipH2 s.heap l1 l2).objs.size, .ref (zipH3 s.heap l1 l2).objs.size] } : Obj) = O
  have q1 : (zipH1 s.heap l1).objs.size = s.heap.objs.size + 1 := Heap.size_push ..
  have q2 : (zipH2 s.heap l1 l2).objs.size = s.heap.objs.size + 2 := by rw [Heap.size_push, q1]
  have q3 : (zipH3 s.heap l1 l2).objs.size = s.heap.objs.size + 3 := by rw [Heap.size_push, q2]
  have q4 : (zipH4 s.heap l1 l2).objs.size = s.heap.objs.size + 4 := by rw [Heap.size_push, q3]
  have p5 : ((zipH4 s.heap l1 l2).push O).get? (zipH4 s.heap l1 l2).objs.size = some O := Heap.get?_push_size _ (by rw [← eO]; rfl)
  have p4 : ((zipH4 s.heap l1 l2).push O).get? (zipH3 s.heap l1 l2).objs.size = some _ := Heap.get?_push_of_some _ (Heap.get?_push_size _ rfl)
  have p3 : ((zipH4 s.heap l1 l2).push O).get? (zipH2 s.heap l1 l2).objs.size = some _ := Heap.get?_push_of_some _ (Heap.get?_push_of_some _ (Heap.get?_push_size _ rfl))
  have p2 : ((zipH4 s.heap l1 l2).push O).get? (zipH1 s.heap l1).objs.size = some _ := Heap.get?_push_of_some _ (Heap.get?_push_of_some _ (Heap.get?_push_of_some _ (Heap.get?_push_size _ rfl)))
  have p1 : ((zipH4 s.heap l1 l2).push O).get? s.heap.objs.size = some _ := Heap.get?_push_of_some _ (Heap.get?_push_of_some _ (Heap.get?_push_of_some _ (Heap.get?_push_of_some _ (Heap.get?_push_size _ rfl))))
  rw [q2, q3] at eO
  rw [← eO] at p5 p4 p3 p2 p1 ⊢
  show _ ∧ _
  rw [q4] at p5
  rw [q1, q2] at p3
  rw [q3] at p4
  rw [q1] at p2
  rw [q4]
  exact ⟨⟨_, p5, rfl⟩, k _ p5 p3 p4 ⟨_, p1, rfl, rfl⟩ ⟨_, p2, rfl, rfl⟩ fun a o x => Heap.get?_push_of_some _ (Heap.get?_push_of_some _ (Heap.get?_push_of_some _ (Heap.get?_push_of_some _ (Heap.get?_push_of_some _ x))))⟩
end
end Z
namespace Z
open PySem L2 PyProof.Rows
/-- both lists as they stand at each turn; they end together -/
def ItzS (K : PySem.W.Frag) (a b : Addr) : It :=
  ⟨(Itz K a b).go, (Itz K a b).yld, fun i H => ∃ xs ys : List V, SqL K H a xs ∧ SqL K H b ys ∧ xs.length ≤ i ∧ ys.length ≤ i⟩
theorem walk_zipS {K : PySem.W.Frag} {a b : Addr} {xs ys : List V} (hn : ys.length = xs.length) : Walk (ItzS K a b) xs.length (fun H => SqL K H a xs ∧ SqL K H b ys) (YPair (fun i => xs[i]?) (fun i => ys[i]?)) := by
  have W := walk_zip (K := K) (a := a) (b := b) (xs := xs) (ys := ys) (n := xs.length) (by omega)
  exact ⟨W.goes, fun H q => ⟨xs, ys, q.1, q.2, Nat.le_refl _, by omega⟩, W.yields⟩
theorem turn_zipS {P : Program} {w : World} {K : PySem.W.Frag} {es : List Expr} {n : Nat} {pos : Pos} {a b z pI pO j1 j2 : Addr} (D : ZipApart z pI pO j1 j2 a b) :
    Turn P w K (.Tuple es n pos) (ItzS K a b) [z, pI, pO, j1, j2] z (fun i h => ZipS h z pI pO .none ∧ IsPair h pI (.ref j1) (.ref j2) ∧ (∃ x y, IsPair h pO x y) ∧ h.IsListIter j1 a i ∧ h.IsListIter j2 b i) where
  mem := List.mem_cons_self
  obj := fun i h ⟨hz, hI, ⟨x, y, hO⟩, ⟨o1, u1, _, v1⟩, ⟨o2, u2, _, v2⟩⟩ c hc => by
    have hc : c = z ∨ c = pI ∨ c = pO ∨ c = j1 ∨ c = j2 := by simpa using hc
    rcases hc with rfl | rfl | rfl | rfl | rfl
    · exact ⟨_, hz, fun v q => nomatch q⟩
    · exact ⟨_, hI, fun v q => nomatch q⟩
    · exact ⟨_, hO, fun v q => nomatch q⟩
    · exact ⟨o1, u1, fun v q => by rw [v1] at q; cases q⟩
    · exact ⟨o2, u2, fun v q => by rw [v2] at q; cases q⟩
  keep := fun i h h' ⟨hz, hI, ⟨x, y, hO⟩, g1, g2⟩ k =>
    ⟨k z (by simp) _ hz, k pI (by simp) _ hI, ⟨x, y, k pO (by simp) _ hO⟩, g1.at (k j1 (by simp)), g2.at (k j2 (by simp))⟩
  item := by
    intro X eP ew eK _ i pins s σ H E I free st go
    subst eP ew eK
    obtain ⟨hz, hI, ⟨x0, y0, hO⟩, g1, g2⟩ := st
    obtain ⟨xs, ys, x, y, qa, qb, hx, hy⟩ := go
    obtain ⟨us, ru, p1, _⟩ := I.list qa
    obtain ⟨vs, rv, p2, _⟩ := I.list qb
    obtain ⟨u, hu, ux⟩ := ru.get hx
    obtain ⟨v, hv, vy⟩ := rv.get hy
    have zl : z < s.heap.objs.size := Heap.lt_size hz
    refine nextS_item D hz hI hO g1 g2 p1.isList p2.isList (x := u) (y := v) (by simpa using hu) (by simpa using hv) fun h1 z1 o1 n1 n2 t1 _ kp => ?_
    refine ⟨_, rfl, letS (s := { s with heap := h1 }) z1 fun h2 z2 sb => ?_⟩
    have t2 : h2.get? s.heap.objs.size = some { cls := .type "tuple", data := .seq #[u, v] } := (sb.2 _ (Nat.ne_of_gt zl)).trans t1
    have okN : ObjOk X.prog X.w (upd H s.heap.objs.size (.tup [x, y])) h2 s.heap.objs.size (.tup [x, y]) := ⟨sz (by simp), [u, v], .cons ux (.cons vy .nil), ⟨_, t2, rfl, _, rfl⟩⟩
    have I1 : Inv X pins σ (upd H s.heap.objs.size (.tup [x, y])) { s with heap := h2 } := I.turnedNew (t' := s.toks) (ch := [z, pI, pO, j1, j2]) (fun c o hb q => by
      have hb : c ≠ z ∧ c ≠ pI ∧ c ≠ pO ∧ c ≠ j1 ∧ c ≠ j2 := by simpa using hb
      exact (sb.2 c hb.1).trans (kp c o hb.1 hb.2.2.1 hb.2.2.2.1 hb.2.2.2.2 q)) free (Nat.le_refl _) okN
    refine ⟨.ref s.heap.objs.size, _, I1, rfl, ⟨_, x, y, rfl, I.hok.fresh (Nat.le_refl _), rfl, fun l hl => by rw [I.list_inj hl qa]; exact hx, fun l hl => by rw [I.list_inj hl qb]; exact hy⟩,
      ⟨z2, (sb.2 _ D.TIz).trans (kp _ _ D.TIz D.TITO D.TIi1 D.TIi2 hI), ⟨u, v, (sb.2 _ D.TOz).trans o1⟩, n1.at fun o q => (sb.2 _ D.i1z).trans q, n2.at fun o q => (sb.2 _ D.i2z).trans q⟩, fun c hc => ?_⟩
    have lt : c < s.heap.objs.size := by
      have hc : c = z ∨ c = pI ∨ c = pO ∨ c = j1 ∨ c = j2 := by simpa using hc
      rcases hc with rfl | rfl | rfl | rfl | rfl
      · exact zl
      · exact Heap.lt_size hI
      · exact Heap.lt_size hO
      · exact let ⟨_, e, _⟩ := g1; Heap.lt_size e
      · exact let ⟨_, e, _⟩ := g2; Heap.lt_size e
    rw [upd_ne (Nat.ne_of_lt lt)]
    exact (free c hc).1
  done := by
    intro X eP ew eK calm i pins s σ H E I free st stop
    subst eP ew eK
    obtain ⟨hz, hI, ⟨x0, y0, hO⟩, g1, g2⟩ := st
    obtain ⟨xs, ys, qa, qb, l1, l2⟩ := stop
    obtain ⟨us, ru, p1, _⟩ := I.list qa
    obtain ⟨vs, rv, p2, _⟩ := I.list qb
    have n1 := ru.length
    have n2 := rv.length
    refine nextS_end (I.ok.hd calm) D hz hI hO g1 g2 p1.isList p2.isList (by simp; omega) (by simp; omega) fun h1 kp => ⟨rfl, I.turnedL (t' := s.toks) (ch := [z, pI, pO, j1, j2]) (fun c o hb q => ?_) free⟩
    have hb : c ≠ z ∧ c ≠ pI ∧ c ≠ pO ∧ c ≠ j1 ∧ c ≠ j2 := by simpa using hb
    exact kp c o hb.1 hb.2.2.2.1 hb.2.2.2.2 q
  self := fun A i s Q E st k => iterS st.1 k
def iZipS (K : PySem.W.Frag) (ta tk : TA) : TI := fun σ H R => ta σ H fun vs H1 => tk σ H1 fun zs H2 => ∃ a b xs ys, vs = [.ref a, .ref b] ∧ zs = [.bl true] ∧ SqL K H2 a xs ∧ SqL K H2 b ys ∧ R (ItzS K a b) H2
theorem callTyS {M : Model} {A : Around} {E : Value → Shared → Prop} {s : Shared} {env : Env} {pos : Pos} {T : String} {e : Expr} {es : List Expr} {kws : List Keyword} {Q : Value → Shared → Prop}
    (h : wpAny M A (spliced (backTo pos (starEach (e :: es) env))) (fun vs s1 => wpAny M A (evalAll ((backToKw pos (keywordEach kws env)).map (·.2))) (fun zs s2 => wpAny M A (call (.type T) vs (((backToKw pos (keywordEach kws env)).filterMap (·.1)).zip zs)) Q E s2) E s1) E s)
    (he : backTo pos (starEach (e :: es) env) = (false, eval e env) :: backTo pos (starEach es env) := by rfl) (hp : (backTo pos (starEach (e :: es) env)).any (·.1) = false := by rfl)
    (ha : (backToKw pos (keywordEach kws env)).all (·.1.isSome) = true := by rfl) (hk : (backToKw pos (keywordEach kws env)).any (·.1.isNone) = false := by rfl) :
    wpAny M A (callWith pos (.type T) [] (backTo pos (starEach (e :: es) env)) (backToKw pos (keywordEach kws env))) Q E s := by
  unfold callWith
  have z : wpAny M A (evalArgs (.type T) true (backTo pos (starEach (e :: es) env)) (backToKw pos (keywordEach kws env))) (fun r s1 => wpAny M A (call (.type T) ([] ++ r.pos) r.kw) Q E s1) E s := by
    rw [he] at h ⊢
    exact evalArgs_kwB ha h
  refine wpAny_bind (wpAny_holding (wpAny_mono z (fun r s1 h1 => wpAny_bind (wpAny_standAt ?_)) fun _ _ x => x))
  simp only [hp, hk, Bool.or_false]
  exact wpAny_bind (wpAny_pure (wpAny_bind (wpAny_mono h1 (fun v s2 h2 => wpAny_bind (wpAny_holding (wpAny_point (wpAny_pure h2)))) fun _ _ x => x)))
theorem pi_zipS {X : Cx} {e e2 : Expr} {kws : List Keyword} {ta tk : TA} {p pos tpos : Pos} {es : List Expr} {n : Nat} (hg : Gl X "zip") (hm : X.mg "zip" = none) (ha : PA X [e, e2] ta) (hk : PK X kws tk)
    (he : backTo pos (starEach [e, e2] X.env) = (false, eval e X.env) :: backTo pos (starEach [e2] X.env) := by rfl) (hp : (backTo pos (starEach [e, e2] X.env)).any (·.1) = false := by rfl)
    (hall : (backToKw pos (keywordEach kws X.env)).all (·.1.isSome) = true := by rfl) (hnone : (backToKw pos (keywordEach kws X.env)).any (·.1.isNone) = false := by rfl) (hks : (backToKw pos (keywordEach kws X.env)).filterMap (·.1) = [Str.ofString "strict"] := by rfl) :
    PI X (.Tuple es n tpos) (.Call (.Name "zip" p) [e, e2] kws pos) (iZipS X.K ta tk) := by
  refine ⟨fun pins s σ H R I h => ?_⟩
  refine wpAny_Call_Name_kw (ld_blt I hg hm PyProof.Rows.boot_zip ?_)
  refine callTyS (thn (ha.run pos pins s σ H _ I h) fun us s1 ⟨vs, H1, I1, r1, q1⟩ => thn (hk.run pos pins s1 σ H1 _ I1 q1) fun ws s2 ⟨zs, H2, I2, r2, a, b, xs, ys, e1, e2', qa, qb, k⟩ => ?_) he hp hall hnone
  subst e1 e2'
  rw [hks]
  cases r1 with
  | cons ra rr =>
    cases rr with
    | cons rb rr =>
      cases rr
      cases ra
      cases rb
      cases r2 with
      | cons rc rr =>
        cases rr
        cases rc
        obtain ⟨us, ru, p1, _⟩ := I2.list qa
        obtain ⟨vs, rv, p2, _⟩ := I2.list qb
        refine callS p1.isList p2.isList fun h1 hz hI hO g1 g2 kp => iterS hz ?_
        have I3 : Inv X pins σ H2 { s2 with heap := h1 } := I2.kept (t' := s2.toks) kp
        refine ⟨s2.heap.objs.size + 4, [s2.heap.objs.size + 4, s2.heap.objs.size + 2, s2.heap.objs.size + 3, s2.heap.objs.size, s2.heap.objs.size + 1], _, _, H2, rfl, I3, turn_zipS (PySem.W.ktu_apart s2.heap.objs.size a b p1.lt p2.lt), ⟨hz, hI, ⟨_, _, hO⟩, g1, g2⟩, fun c hc => ?_, k⟩
        have le : s2.heap.objs.size ≤ c := by
          have hc : c = s2.heap.objs.size + 4 ∨ c = s2.heap.objs.size + 2 ∨ c = s2.heap.objs.size + 3 ∨ c = s2.heap.objs.size ∨ c = s2.heap.objs.size + 1 := by simpa using hc
          rcases hc with q | q | q | q | q <;> rw [q] <;> first | exact Nat.le_add_right _ _ | exact Nat.le_refl _
        exact I2.fpOk le (I2.hok.fresh le)
theorem l_zipS {K : PySem.W.Frag} {nx : L2.St → Hp → Prop} {rt : VK} {ts : TS} {σ : L2.St} {H : Hp} {g : TG} {a b : Addr} (xs ys : List V) (hn : ys.length = xs.length) (Pv : Nat → L2.St → Hp → Prop) (h0 : Pv 0 σ H) (hG : ∀ i σ H, i ≤ xs.length → Pv i σ H → SqL K H a xs ∧ SqL K H b ys)
    (hs : ∀ i x y t σ H H', xs[i]? = some x → ys[i]? = some y → Pv i σ H → H t = none → Ex H H' → H' t = some (.tup [x, y]) → g (.ref t) σ H' fun σ2 H2 => ts ⟨Pv (i + 1), rt, nx, Pv (i + 1)⟩ σ2 H2) (hd : ∀ σ H, Pv xs.length σ H → nx σ H) :
    Loops (ItzS K a b) g ts nx rt σ H :=
  loops_of (walk_zipS hn) Pv h0 hG (fun i x σ H H' hi p y => by
    obtain ⟨t, u, v, rfl, ht, rfl, hx, hy⟩ := y
    exact hs i u v t σ H _ hx hy p ht (Ex.new ht) upd_same) hd
end Z

set_option Elab.async false
set_option linter.all false
set_option maxRecDepth 100000
set_option maxHeartbeats 1000000
namespace Z
open PySem L2 PyProof.Rows
/-! sorted of a list of tuples of ints, of one length, any number of them -/
theorem lx_refl : ∀ a : List Int, HT.lexLt a a = false
  | [] => rfl
  | x :: a => by rw [HT.lexLt_cons, if_pos rfl]; exact lx_refl a
theorem lx_asym : ∀ {a b : List Int}, HT.lexLt a b = true → HT.lexLt b a = false
  | [], [], h => by cases h
  | [], _ :: _, _ => rfl
  | _ :: _, [], h => by cases h
  | x :: a, y :: b, h => by
    rw [HT.lexLt_cons] at h ⊢
    by_cases e : x = y
    · subst e
      rw [if_pos rfl] at h ⊢
      exact lx_asym h
    · rw [if_neg e] at h
      rw [if_neg (fun z => e z.symm)]
      have := of_decide_eq_true h
      exact decide_eq_false (by omega)
theorem lx_tr : ∀ {a b c : List Int}, HT.lexLt b a = false → HT.lexLt c b = false → HT.lexLt c a = false
  | [], [], c, _, h => h
  | [], _ :: _, [], _, _ => rfl
  | [], y :: b, z :: c, h1, h2 => rfl
  | x :: a, [], c, h1, h2 => by cases h1
  | x :: a, y :: b, [], h1, h2 => by cases h2
  | x :: a, y :: b, z :: c, h1, h2 => by
    rw [HT.lexLt_cons] at h1 h2 ⊢
    by_cases e1 : y = x
    · subst e1
      rw [if_pos rfl] at h1
      by_cases e2 : z = y
      · subst e2
        rw [if_pos rfl] at h2 ⊢
        exact lx_tr h1 h2
      · rw [if_neg e2] at h2 ⊢
        exact h2
    · rw [if_neg e1] at h1
      have h3 := of_decide_eq_false h1
      by_cases e2 : z = y
      · subst e2
        rw [if_neg e1]
        exact h1
      · rw [if_neg e2] at h2
        have h4 := of_decide_eq_false h2
        rw [if_neg (by omega)]
        exact decide_eq_false (by omega)
theorem lx_anti : ∀ {a b : List Int}, HT.lexLt a b = false → HT.lexLt b a = false → a = b
  | [], [], _, _ => rfl
  | [], _ :: _, h, _ => by cases h
  | _ :: _, [], _, h => by cases h
  | x :: a, y :: b, h1, h2 => by
    rw [HT.lexLt_cons] at h1 h2
    by_cases e : x = y
    · subst e
      rw [if_pos rfl] at h1 h2
      rw [lx_anti h1 h2]
    · rw [if_neg e] at h1
      rw [if_neg (fun z => e z.symm)] at h2
      have := of_decide_eq_false h1
      have := of_decide_eq_false h2
      omega
theorem lx_swo {α : Type} (k : α → List Int) : SrtO.Swo fun x y => HT.lexLt (k x) (k y) := ⟨fun _ _ h => lx_asym h, fun _ _ _ h1 h2 => lx_tr h1 h2⟩
/-- there is one sorted arrangement -/
theorem lx_uniq : ∀ {a b : List (List Int)}, a.Perm b → a.Pairwise (fun x y => HT.lexLt y x = false) → b.Pairwise (fun x y => HT.lexLt y x = false) → a = b
  | [], b, h, _, _ => (List.Perm.eq_nil h.symm).symm
  | x :: a, [], h, _, _ => absurd h.length_eq (by simp)
  | x :: a, y :: b, h, ha, hb => by
    have h1 : HT.lexLt x y = false := by
      rcases List.mem_cons.mp (h.mem_iff.mp (List.mem_cons_self (a := x) (l := a))) with e | hx
      · rw [e]; exact lx_refl _
      · exact (List.pairwise_cons.mp hb).1 x hx
    have h2 : HT.lexLt y x = false := by
      rcases List.mem_cons.mp (h.mem_iff.mpr (List.mem_cons_self (a := y) (l := b))) with e | hy
      · rw [e]; exact lx_refl _
      · exact (List.pairwise_cons.mp ha).1 y hy
    have e := lx_anti h1 h2
    subst e
    rw [lx_uniq h.cons_inv (List.pairwise_cons.mp ha).2 (List.pairwise_cons.mp hb).2]
section
open SrtO
variable {prog : Program} {w : World} {A : Around} {E : Value → Shared → Prop} {s : Shared}
theorem lex_lx {xs ys : List Value} {ns ms : List Int} {Q : Bool → Shared → Prop} {b : Bool} (i : Nat) (hx : IntsAre xs ns) (hy : IntsAre ys ms) (hl : ns.length = ms.length)
    (h : Q (HT.lexLt ns ms) s) : PySem.W.KatLex prog w A b false Q (xs.zip ys) i s := by
  induction hx generalizing ys ms i with
  | nil =>
    cases hy with
    | nil => exact PySem.W.kat_nil h
    | cons q u hy => simp at hl
  | @cons p t xs ns hx ih =>
    cases hy with
    | nil => simp at hl
    | @cons q u ys ms hy =>
      have hl' : ns.length = ms.length := by simpa using hl
      show PySem.W.KatLex prog w A b false Q ((Value.int p t, Value.int q u) :: xs.zip ys) i s
      refine PySem.W.kat_cons (wpAny_eqBool_int ?_)
      rw [HT.lexLt_cons] at h
      by_cases e : p = q
      · subst e
        rw [beq_self_eq_true]
        rw [if_pos rfl] at h
        refine PySem.W.kat_yes ?_
        exact ih (i + 1) hy hl' h
      · rw [show (p == q) = false from beq_eq_false_iff_ne.mpr e]
        rw [if_neg e] at h
        refine PySem.W.kat_no (TS.oneLt_ints _ ?_)
        exact h
/-- tuples of d ints, k says which -/
def TupsK (h : Heap) (d : Nat) (k : Value → List Int) (vs : List Value) : Prop := ∀ v ∈ vs, TS.TupInts h v (k v) ∧ (k v).length = d
theorem TupsK.keeps {h h' : Heap} {d : Nat} {k : Value → List Int} {vs : List Value} (x : TupsK h d k vs) (kk : ∀ b o, h.get? b = some o → o.cls = .type "tuple" → h'.get? b = some o) : TupsK h' d k vs := fun v hv => ⟨(x v hv).1.keeps kk, (x v hv).2⟩
theorem firsts_k {h : Heap} {d : Nat} {k : Value → List Int} (hd : 1 ≤ d) : ∀ vs : List Value, TupsK h d k vs → ∃ fs, PySem.W.KatTups h vs fs ∧ fs.length = vs.length ∧ ∀ f, f ∈ fs → ∃ n t, f = Value.int n t
  | [], _ => ⟨[], PySem.W.KatTups.nil, rfl, fun f hf => by simp at hf⟩
  | v :: vs, x => by
    obtain ⟨fs, kt, hl, hi⟩ := firsts_k hd vs fun u hu => x u (List.mem_cons_of_mem _ hu)
    obtain ⟨⟨a, xs, rfl, ⟨o, ho, hc, n, hdt⟩, i⟩, hn⟩ := x v (List.mem_cons_self ..)
    obtain ⟨y, ys, e⟩ : ∃ y ys, xs.toList = y :: ys := by
      cases q : xs.toList with
      | nil =>
        rw [q] at i
        have l := i.length
        rw [List.length_nil, hn] at l
        omega
      | cons y ys => exact ⟨y, ys, rfl⟩
    obtain ⟨m, t, hy⟩ := i.all y (by rw [e]; exact List.mem_cons_self ..)
    refine ⟨y :: fs, PySem.W.KatTups.cons ho hc hdt ?_ kt, by simp [hl], ?_⟩
    · have z := congrArg (fun l : List Value => l[0]?) e
      simpa using z
    · intro f hf
      rcases List.mem_cons.mp hf with rfl | hf
      · exact ⟨m, t, hy⟩
      · exact hi f hf
theorem tups_cmp {d : Nat} {k : Value → List Int} {vs : List Value} (x : TupsK s.heap d k vs) : Cmp prog w A s (tuples' true) (fun p => p.1 ∈ vs) (lt2 fun v u => HT.lexLt (k v) (k u)) := by
  intro p q hm hm'
  obtain ⟨h1, n1⟩ := x _ hm
  obtain ⟨h2, n2⟩ := x _ hm'
  show wpAny (model prog w) A (keyLt' (tuples' true) p.1 q.1) (fun r s' => s' = s ∧ r = HT.lexLt (k p.1) (k q.1)) (fun _ _ => False) s
  generalize k p.1 = ns at h1 n1 ⊢
  generalize k q.1 = ms at h2 n2 ⊢
  obtain ⟨a, xs, e1, ⟨o, ho, hc, n, hdt⟩, i⟩ := h1
  obtain ⟨a', ys, e2, ⟨o', ho', hc', n', hdt'⟩, i'⟩ := h2
  rw [e1, e2]
  refine PySem.W.kat_lt ho hdt ho' hdt' ?_
  have sz : decide (xs.size < ys.size) = false := by
    have l1 := i.length
    have l2 := i'.length
    rw [Array.length_toList] at l1 l2
    exact decide_eq_false (by omega)
  rw [sz]
  exact lex_lx 0 i i' (by omega) ⟨rfl, rfl⟩
theorem tups_sortable {a : Addr} {vs : List Value} {d : Nat} {k : Value → List Int} (hd : 1 ≤ d) (h0 : 0 < vs.length) (x : TupsK s.heap d k vs) (ha : ∀ o, s.heap.get? a = some o → o.cls ≠ .type "tuple") : SortableO prog w A s a vs fun v u => HT.lexLt (k v) (k u) := by
  intro h' keep
  have x' : TupsK h' d k vs := x.keeps fun b o e c => keep b o (fun z => by subst z; exact ha o e c) e
  obtain ⟨fs, h1, h2, h3⟩ := firsts_k hd vs x'
  refine ⟨tuples' true, fun Q E hq => ?_, tups_cmp x'⟩
  refine PySem.W.kat_kind (T := .type "int") h1 (by omega) (fun f hm => ?_) (by rfl) ?_
  · obtain ⟨n, t, rfl⟩ := h3 f hm
    exact PySem.W.Looks.now
  · have e : (Value.type "int" != Value.type "tuple") = true := by first | decide +kernel | rfl | decide
    rw [e]
    exact hq
end
/-- sorted(xs), xs a list of tuples of d ints, k says which -/
def rSortTk (K : PySem.W.Frag) : List V → Hp → VK → Prop := fun vs H Q => ∃ (a : Addr) (xs : List V) (d : Nat) (k : V → List Int), vs = [V.ref a] ∧ 1 ≤ d ∧ SqL K H a xs ∧ (∀ x ∈ xs, ∃ t, x = V.ref t ∧ SqT K H t ((k x).map V.int) ∧ (k x).length = d) ∧
  ∀ ys p, ys.Perm xs → (ys.map k).Pairwise (fun x y => HT.lexLt y x = false) → H p = none → Q (.ref p) (upd H p (.lst ys))
section
variable {X : Cx}
theorem cr_sortTk : CallR X (.builtin "sorted") (rSortTk X.K) := by
  intro pins s σ H vs us Q I r h
  obtain ⟨a, xs, d, k, rfl, hd, hs, hx, q⟩ := h
  obtain ⟨its, rv, hl, hz⟩ := I.list hs
  rw [Vals.ref1 r]
  obtain ⟨e1, e2⟩ := refs_back rv fun x m => by
    obtain ⟨t, e, _⟩ := hx x m
    exact ⟨t, e⟩
  have hp : TupsK s.heap d (fun u => k (backV u)) its := fun v hv => by
    obtain ⟨t, rfl⟩ := e2 v hv
    have hm : V.ref t ∈ xs := by rw [e1]; exact List.mem_map.mpr ⟨_, hv, rfl⟩
    obtain ⟨t', e, ht, hn⟩ := hx _ hm
    cases e
    obtain ⟨its2, r2, p2, _⟩ := I.tuple ht
    exact ⟨⟨t, its2.toArray, rfl, p2, show IntsAre its2.toArray.toList (k (V.ref t)) from by simpa using r2.ints⟩, hn⟩
  refine SrtO.sorted_ord (lx_swo fun u => k (backV u)) hl.isList (by rw [← rv.length]; exact hz) (fun h2 h₁ a' ha kk => ?_) fun out h1 h2 => ?_
  · refine tups_sortable (s := { s with heap := h₁ }) hd (by omega) (hp.keeps fun b o e _ => (kk b o e).2) fun o e => ?_
    have e' : some o = some (seqObj "list" its.toArray 0) := e.symm.trans ha
    cases e'
    intro c
    exact absurd (Value.type.inj c) (by decide)
  · have h3 : ∀ u ∈ out, ∃ a, u = Value.ref a := fun u hu => e2 u (h2.perm.mem_iff.mp hu)
    obtain ⟨ep, he'⟩ := PyProof.Rows.sortedAll_at s.heap its out.toArray
    have hb : (out.map backV).Perm xs := by
      rw [e1]
      exact h2.perm.map _
    refine ⟨.ref _, upd H (s.heap.objs.size + 1) (.lst (out.map backV)), I.laid (t' := s.toks) (fun _ _ => PyProof.Rows.sortedAll_old) (Nat.le_succ _) ⟨?_, out, ep, vals_back h3, he'⟩, rfl, q _ _ hb ?_ (I.hok.fresh (Nat.le_succ _))⟩
    · rw [hb.length_eq]
      exact hz
    · rw [List.map_map]
      exact List.pairwise_map.mpr h1
end
theorem s_sortTk {K : PySem.W.Frag} {H : Hp} {Q : VK} {a : Addr} {xs : List V} (d : Nat) (k : V → List Int) (hd : 1 ≤ d) (hs : SqL K H a xs) (hx : ∀ x ∈ xs, ∃ t, x = V.ref t ∧ SqT K H t ((k x).map V.int) ∧ (k x).length = d)
    (q : ∀ ys p H', ys.Perm xs → (ys.map k).Pairwise (fun x y => HT.lexLt y x = false) → H p = none → Ex H H' → H' p = some (.lst ys) → Q (.ref p) H') : rSortTk K [.ref a] H Q :=
  ⟨a, xs, d, k, rfl, hd, hs, hx, fun ys p h1 h2 h3 => q ys p _ h1 h2 h3 (Ex.new h3) upd_same⟩
end Z

set_option Elab.async false
set_option linter.all false
set_option maxRecDepth 100000
set_option maxHeartbeats 2000000
namespace Z
open PySem PySem.Spec PyProof.Rows L2 PpSet
/-! {elt for target in iter if ..}: D the new set; O0 how its state begins, Ad how one is put in -/
def tSc2 (O0 : Addr → HO) (Ad : V → Addr → Hp → (Hp → Prop) → Prop) (wi : TI) (g : TG) (tt : TT) (te : TE) (vs : List Nat) : TE := fun σ H Q => wi σ H fun J H1 => ∀ D, H1 D = none → ∃ W : Nat → Nat → Hp → Prop, (∃ m, W 0 m (upd H1 D (O0 D))) ∧ ∀ i m H, W i m H →
  (J.stop i H ∧ Q (.ref D) H) ∨ (J.go i H ∧ ∃ Nx : Hp → Prop, (∀ H', Nx H' → ∃ m', m' < m ∧ W (i + 1) m' H') ∧ ∀ x H', J.yld i H x H' → g x (wipe σ vs) H' fun σ2 H2 => wipe σ2 vs = wipe σ vs ∧ tt σ2 H2 fun b H3 =>
    if b = true then te σ2 H3 fun y H4 => Ad y D H4 Nx else Nx H3)
/-- a kind of set, as it stands over the layer -/
structure SetKd (P : Program) (w : World) (K : PySem.W.Frag) (hu : Around → Prop) (O0 : Addr → HO) (Ad : V → Addr → Hp → (Hp → Prop) → Prop) : Prop where
  new : ∀ {H : Hp} {h : Heap}, ObjOk P w H (h.push { cls := .type "set", dict := none, data := .set #[] 0 (.fresh 0 0 (!w.params.followText "set-order")) }) h.objs.size (O0 h.objs.size)
  add : ∀ {X : Cx} {A : Around} {pins : List (Addr × Obj)} {σ : L2.St} {H : Hp} {s : Shared} {E : Value → Shared → Prop} {D : Addr} {y : V} {u : Value} {R : Hp → Prop} {Q : Value → Shared → Prop}, X.prog = P → X.w = w → X.K = K → hu A → Inv X pins σ H s → RelV y u → Ad y D H R →
    (∀ s' H', Inv X pins σ H' s' → R H' → Q .none s') → wpAny (model P w) A (call (.builtin "set.add") [.ref D, u]) Q E s
section
variable {X : Cx}
theorem sc2_core {hu : Around → Prop} {O0 : Addr → HO} {Ad : V → Addr → Hp → (Hp → Prop) → Prop} {pins : List (Addr × Obj)} {s : Shared} {σ : L2.St} {H : Hp} {Q : VK} {elt tg iter : Expr} {ifs : List Expr} {scope : Scope} {own : List (PySem.Str × Nat)} {pos pos' : Pos} {wi : TI} {g : TG} {tt : TT} {te : TE} {use : Option (Value → Sem Unit)} {Qf : Value → Shared → Prop}
    (S : SetKd X.prog X.w X.K hu O0 Ad) (hA : hu X.A) (hc : X.calm = true) (hN : X.N.Nodup) (I : Inv X pins σ H s) (hi : PI X tg iter wi) (ok : BlkOk X.N X.env.scope scope own)
    (hg : ∀ (s : Shared) (H : Hp) (C : Addr) (cl : List (PySem.Str × Addr)) (fp : List Addr), PG (X.blk s H scope (compEnvC scope cl C X.env) fp) tg g) (ht : ∀ (s : Shared) (H : Hp) (C : Addr) (cl : List (PySem.Str × Addr)) (fp : List Addr), PTs (X.blk s H scope (compEnvC scope cl C X.env) fp) ifs tt)
    (he : ∀ (s : Shared) (H : Hp) (C : Addr) (cl : List (PySem.Str × Addr)) (fp : List Addr), PE (X.blk s H scope (compEnvC scope cl C X.env) fp) elt te) (hs : ∀ x, foldedSetIterable iter X.env x = pure x)
    (h : tSc2 O0 Ad wi g tt te (own.map (·.2)) σ H Q)
    (hRR : ∀ D C s' m H', Inv X pins σ H' s' → Q (.ref D) H' → s'.heap.Ns C m → FpOk X pins H' C → compPost (model X.prog X.w) X.A X.xe use Qf (.ref D) C (.ok .next) s') :
    wpAny (model X.prog X.w) X.A (comprehension (.SetComp elt [⟨tg, iter, ifs, 0⟩] scope pos) scope X.env pos' (newSet (.type "set")) false (eval iter X.env) use) Qf X.xe s := by
  have hfree : ∀ y ∈ scope.names, y.2 = .free → ∃ c, X.env.cells.lookup y.1 = some c := fun y hy e => by
    rcases ok.free y hy e with k | k
    · exact I.ok.has _ (.inl k)
    · exact I.ok.has _ (.inr k)
  refine wpAny_comprehension_free (use := use) rfl hs (closure_ok hfree) ok.kind (fun y hy e => by rw [ok.uniq y hy, e])
    (thn (hi.run pins s σ H _ I h) fun xv s1 hx => thn hx fun itv s2 h2 => ?_)
  obtain ⟨it, fp, tn, J, H2, e, I2, T, st2, f2, q⟩ := h2
  subst e
  refine newSet_ok (newEnv_comp ?_)
  generalize hD : s2.heap.objs.size = D
  have hDn : H2 D = none := I2.hok.fresh (Nat.le_of_eq hD)
  obtain ⟨W, ⟨m0, w0⟩, turn⟩ := q D hDn
  generalize hs3 : ({ s2 with heap := s2.heap.push { cls := .type "set", dict := none, data := .set #[] 0 (.fresh 0 0 (!X.w.params.followText "set-order")) } } : Shared) = s3
  have I3 : Inv X pins σ (upd H2 D (O0 D)) s3 := by
    rw [← hs3]
    refine I2.laid (t' := s2.toks) (fun b o e => Heap.get?_push_of_some _ e) (Nat.le_of_eq hD) ?_
    rw [← hD]
    exact S.new
  have h3 : s3.heap = s2.heap.push { cls := .type "set", dict := none, data := .set #[] 0 (.fresh 0 0 (!X.w.params.followText "set-order")) } := by rw [← hs3]
  have sz : ∀ b ∈ fp, b < s2.heap.objs.size := fun b hb => by
    obtain ⟨o, e, _⟩ := T.obj _ _ st2 b hb
    exact Heap.lt_size e
  have f3 : ∀ b ∈ fp, FpOk X pins (upd H2 D (O0 D)) b ∧ b < s3.heap.objs.size := fun b hb => by
    have hlt := sz b hb
    refine ⟨⟨?_, (f2 b hb).2⟩, by rw [h3, Heap.size_push]; exact Nat.lt_succ_of_lt hlt⟩
    rw [upd_ne (by rw [← hD]; exact Nat.ne_of_lt hlt)]
    exact (f2 b hb).1
  have st3 : tn 0 s3.heap := T.keep _ _ _ st2 fun b _ o e => by rw [h3]; exact Heap.get?_push_of_some _ e
  have I4 := block_start I3 ok hN f3
  have pg := hg s3 (upd H2 D (O0 D)) s3.heap.objs.size (cellsFrom (s3.heap.objs.size + 1) scope.names (cloFrom X.env.cells scope.names [])) fp
  have pt := ht s3 (upd H2 D (O0 D)) s3.heap.objs.size (cellsFrom (s3.heap.objs.size + 1) scope.names (cloFrom X.env.cells scope.names [])) fp
  have pe := he s3 (upd H2 D (O0 D)) s3.heap.objs.size (cellsFrom (s3.heap.objs.size + 1) scope.names (cloFrom X.env.cells scope.names [])) fp
  show codeAny _ _ (.compStart (.SetComp elt [⟨tg, iter, ifs, 0⟩] scope pos) 0 (.ref it) (.ref D) (compEnvC scope (cellsFrom (s3.heap.objs.size + 1) scope.names (cloFrom X.env.cells scope.names [])) s3.heap.objs.size X.env)) (compPost (model X.prog X.w) X.A X.xe use Qf (.ref D) s3.heap.objs.size) { s3 with heap := pushCells (s3.heap.push { cls := .type "dict", data := .dict #[] }) scope.names }
  have nfp : ∀ b ∈ fp, (upd H2 D (O0 D)) b = none := fun b hb => (f3 b hb).1.1
  generalize hce : compEnvC scope (cellsFrom (s3.heap.objs.size + 1) scope.names (cloFrom X.env.cells scope.names [])) s3.heap.objs.size X.env = ce at I4 pg pt pe ⊢
  have cL : ce.locals = s3.heap.objs.size := by subst hce; rfl
  generalize hH3 : upd H2 D (O0 D) = H3 at I3 I4 pg pt pe w0 nfp f3
  generalize hs4 : ({ s3 with heap := pushCells (s3.heap.push { cls := .type "dict", data := .dict #[] }) scope.names } : Shared) = s4 at I4 ⊢
  have st4 : tn 0 s4.heap := T.keep _ _ _ st3 fun b _ o e => by rw [← hs4]; exact pushCells_keeps _ _ _ _ (Heap.get?_push_of_some _ e)
  have stat : ∀ {σ' : L2.St} {H' : Hp} {s' : Shared}, Inv (X.blk s3 H3 scope ce fp) [] σ' H' s' → (∀ b ∈ fp, H' b = none) → ∀ b ∈ fp, FpOk (X.blk s3 H3 scope ce fp) [] H' b := fun {σ' H' s'} I' hn b hb =>
    ⟨hn b hb, (I'.ok.exf b hb).1, I'.ok.exfs b hb, .inl hb, fun x c e => (I'.ok.exf b hb).2 x c e, fun p hp => absurd (show p ∈ ([] : List (Addr × Obj)) ++ [] from hp) (by simp)⟩
  have loop : codeAny (model X.prog X.w) X.A (.compLoop (.SetComp elt [⟨tg, iter, ifs, 0⟩] scope pos) 0 (.ref it) (.ref D) ce) (compPost (model X.prog X.w) X.A X.xe use Qf (.ref D) s3.heap.objs.size) s4 := by
    refine compLoopS_any (fun n s' => ∃ i H', Inv (X.blk s3 H3 scope ce fp) [] (wipe σ (own.map (·.2))) H' s' ∧ tn i s'.heap ∧ (∀ b ∈ fp, H' b = none) ∧ W i n H') ?_ m0 ⟨0, H3, I4, st4, nfp, w0⟩
    rintro n s5 ⟨i, H5, I5, st5, n5, w5⟩
    rcases turn i n H5 w5 with ⟨stop, qq⟩ | ⟨go, Nx, hNx, step⟩
    · have td := T.done (X.blk s3 H3 scope ce fp) rfl rfl rfl hc i [] s5 _ H5 (fun _ _ => False) I5 (stat I5 n5) st5 stop
      refine thnF td fun r s6 ⟨hr, I6⟩ => ?_
      subst hr
      have I7 : Inv X pins σ H5 s6 := I3.call' (ch := fp) I6.os I6.base I6.hok I6.bare fun b hb => ⟨(f3 b hb).1.2.2.2.1, (f3 b hb).1.2.1, (f3 b hb).1.2.2.2.2.1, (f3 b hb).1.2.2.2.2.2⟩
      have nC : H5 s3.heap.objs.size = none := by
        have z : H5 ce.locals = none := I6.free
        rw [cL] at z
        exact z
      obtain ⟨m, hn, _⟩ := I6.loc
      have hn : s6.heap.Ns ce.locals m := hn
      rw [cL] at hn
      exact hRR D s3.heap.objs.size s6 m H5 I7 qq hn (I3.fpOk (Nat.le_refl _) nC)
    · have ti := T.item (X.blk s3 H3 scope ce fp) rfl rfl rfl hc i [] s5 _ H5 (fun _ _ => False) I5 (stat I5 n5) st5 go
      refine thnF ti fun r s6 ⟨u, hr, h6⟩ => ?_
      subst hr
      refine thnF h6 fun _ s7 ⟨x, H7, I7, r7, y7, st7, n7⟩ => ?_
      have I7' := I7.pinned (stat I7 n7) (T.obj _ _ st7)
      refine thnF (pg.run _ s7 _ H7 x u _ I7' r7 (step x H7 y7)) fun _ s8 ⟨σ8, H8, I8, hw8, q8⟩ => ?_
      refine thnF (pt.run _ s8 σ8 H8 _ I8 q8) fun b s9 ⟨H9, I9, q9⟩ => ?_
      have fin : ∀ {s' : Shared} {H' : Hp}, Inv (X.blk s3 H3 scope ce fp) ([] ++ pinsAt fp s7.heap) σ8 H' s' → Nx H' → ∃ m, m < n ∧ ∃ i H', Inv (X.blk s3 H3 scope ce fp) [] (wipe σ (own.map (·.2))) H' s' ∧ tn i s'.heap ∧ (∀ b ∈ fp, H' b = none) ∧ W i m H' := fun {s' H'} I' nx => by
        obtain ⟨m', hm, w'⟩ := hNx H' nx
        have pin' : ∀ b ∈ fp, ∀ o, s7.heap.get? b = some o → s'.heap.get? b = some o ∧ H' b = none := fun b hb o e =>
          let z := I'.pin (b, o) (List.mem_append_right _ (List.mem_append_right _ (mem_pinsAt hb e)))
          ⟨z.1, z.2.1⟩
        have hl : (wipe σ (own.map (·.2))).length = σ8.length := by rw [← hw8, wipe_length]
        refine ⟨m', hm, i + 1, H', (I'.unpinned (pins := [])).weak hl (fun j v e => ?_), T.keep _ _ _ st7 fun b hb o e => (pin' b hb o e).1, fun b hb => ?_, w'⟩
        · rw [← hw8] at e
          exact (wipe_some e).1
        · obtain ⟨o, e, _⟩ := T.obj _ _ st7 b hb
          exact (pin' b hb o e).2
      cases b with
      | false =>
        simp only [Bool.false_eq_true, if_false] at q9 ⊢
        exact fin I9 q9
      | true =>
        simp only [if_true] at q9 ⊢
        refine thnF (pe.run _ s9 σ8 H9 _ I9 q9) fun z s10 ⟨yv, H10, I10, r10, ad⟩ => ?_
        exact S.add (X := X.blk s3 H3 scope ce fp) rfl rfl rfl hA I10 r10 ad fun s11 H11 I11 nx => fin I11 nx
  exact codeAny_compStart_set loop (T.self X.A 0 _ _ _ st4 loop)
/-- as a value -/
theorem pe_sc2 {hu : Around → Prop} {O0 : Addr → HO} {Ad : V → Addr → Hp → (Hp → Prop) → Prop} {elt tg iter : Expr} {ifs : List Expr} {scope : Scope} {own : List (PySem.Str × Nat)} {pos : Pos} {wi : TI} {g : TG} {tt : TT} {te : TE} (S : SetKd X.prog X.w X.K hu O0 Ad) (hA : hu X.A) (hc : X.calm = true) (hN : X.N.Nodup) (hi : PI X tg iter wi) (ok : BlkOk X.N X.env.scope scope own)
    (hg : ∀ (s : Shared) (H : Hp) (C : Addr) (cl : List (PySem.Str × Addr)) (fp : List Addr), PG (X.blk s H scope (compEnvC scope cl C X.env) fp) tg g) (ht : ∀ (s : Shared) (H : Hp) (C : Addr) (cl : List (PySem.Str × Addr)) (fp : List Addr), PTs (X.blk s H scope (compEnvC scope cl C X.env) fp) ifs tt)
    (he : ∀ (s : Shared) (H : Hp) (C : Addr) (cl : List (PySem.Str × Addr)) (fp : List Addr), PE (X.blk s H scope (compEnvC scope cl C X.env) fp) elt te) (hs : ∀ x, foldedSetIterable iter X.env x = pure x := by intro _; rfl) :
    PE X (.SetComp elt [⟨tg, iter, ifs, 0⟩] scope pos) (tSc2 O0 Ad wi g tt te (own.map (·.2))) := by
  refine ⟨fun pins s σ H Q I h => ?_⟩
  rw [eval_SetComp]
  refine sc2_core S hA hc hN I hi ok hg ht he hs h fun D C s' m H' I' q hn f => ⟨m, hn, fun h'' sb => ?_⟩
  obtain ⟨f0, f1, f2, f3, f4, f5⟩ := f
  exact ⟨.ref D, H', I'.turned (t' := s'.toks) (fun b o hb e => (sb.2 b hb).trans e) f0 f1 f3 f4 f5, rfl, q⟩
end
/-! sets of ints -/
def O0I (w : World) (D : Addr) : HO := SetO w D (fun _ => false) 0
def AdI (w : World) (y : V) (D : Addr) (H : Hp) (R : Hp → Prop) : Prop := ∃ (k : Int) (S : Int → Bool) (n : Nat), y = .int k ∧ H D = some (SetO w D S n) ∧ n + 1 < scanBound ∧ R (upd H D (SetO w D (fun j => S j || decide (j = k)) (if S k = true then n else n + 1)))
theorem kd_ints {P : Program} {w : World} {K : PySem.W.Frag} : SetKd P w K (fun _ => True) (O0I w) (AdI w) where
  new := setO_new (setR_fresh w)
  add := by
    intro X A pins σ H s E D y u R Q hP hw hK _ I ry h k
    subst hP hw
    obtain ⟨i, S, n, rfl, hD, room, hR⟩ := h
    obtain ⟨tk, rfl⟩ := ry
    have R0 := setO_get I hD
    refine setR_add R0 room fun h' sb new => ?_
    have he : ∃ u, h'.get? D = some u := by
      have ⟨o, _, _, _, ho, _⟩ := new
      exact ⟨o, ho⟩
    exact k _ _ (I.write (e := D) (t' := s.toks + 1) (by rw [hD]; trivial) (.inl rfl) (fun b u hb hu => (sb.2 b hb).trans hu) he (setO_new new)) hR
/-! sets of tuples of ints -/
def O0T (P : Program) (w : World) (D : Addr) : HO := SetTO P w D []
def AdT (K : PySem.W.Frag) (P : Program) (w : World) (y : V) (D : Addr) (H : Hp) (R : Hp → Prop) : Prop := ∃ (t : Addr) (k : List Int) (L : List (Addr × List Int)), y = .ref t ∧ SqT K H t (k.map V.int) ∧ H D = some (SetTO P w D L) ∧ (∀ p ∈ L, SqT K H p.1 (p.2.map V.int)) ∧ L.length + 1 < 64 ∧
  ∀ L', (k ∈ L.map (·.2) → L' = L) → (k ∉ L.map (·.2) → L'.Perm ((t, k) :: L)) → R (upd H D (SetTO P w D L'))
theorem kd_tups {P : Program} {w : World} {K : PySem.W.Frag} : SetKd P w K (fun A => A.units + 3 < cLine) (O0T P w) (AdT K P w) where
  new := setTO_new (SetTR.t0 (setTR_fresh (Heap.get?_push_size _ rfl)))
  add := by
    intro X A pins σ H s E D y u R Q hP hw hK hA I ry h kk
    subst hP hw hK
    obtain ⟨t, k, L, rfl, ht, hD, hL, few, hR⟩ := h
    obtain rfl : u = Value.ref t := ry
    have R0 : SetT0 X.prog X.w s.heap D L := (I.hok D _ hD).1
    obtain ⟨es, ep, tb, R1⟩ := R0.full fun p hp => I.isT (hL p hp)
    have hx : IsT X.prog X.w s.heap k t := I.isT ht
    obtain ⟨o, ho, hex, hd⟩ := R1.ob
    have hu1 : A.in1.units < cLine := by
      have : A.in1.units ≤ A.units + 1 := by simp [Around.in1]
      omega
    refine wpAny_call_entry F.slot_set_add ⟨o, ho, hex.1⟩ F.entry_set_add ?_ (F.args_set_add_2 _ _)
    unfold Builtin.«set.add» Builtin.Frozenset.oneOther
    simp only [List.isEmpty_nil, bind_assoc]
    unfold Builtin.Frozenset.addrOf setAdd
    refine wpAny_bind (wpAny_pure ?_)
    try dsimp only
    refine wpAny_bind (wpAny_pure ?_)
    try dsimp only
    refine wpAny_bind ?_
    refine wpAny_holding ?_
    refine wpAny_bind (wpAny_pyHash_tuple hu1 hx ?_)
    refine add_at (s := { s with toks := s.toks + (k.length + 1) }) (R1.keep (fun o e => e) fun p hp => R1.tup p hp) hx hu1 few fun b h' L' es' ep' t' hsb hS2 c1 c2 => ?_
    show wpAny _ _ (ret Value.none) _ _ _
    have he : ∃ u, h'.get? D = some u := by
      obtain ⟨o', ho', _⟩ := hS2.ob
      exact ⟨o', ho'⟩
    refine wpAny_pure ⟨_, rfl, kk _ _ (I.write (e := D) (t' := s.toks + (k.length + 1)) (by rw [hD]; trivial) (.inl rfl) (fun b u hb hu => (hsb.2 b hb).trans hu) he (setTO_new hS2.t0)) (hR L' c1 c2)⟩
end Z

set_option Elab.async false
set_option linter.all false
set_option maxRecDepth 100000
set_option maxHeartbeats 1000000
namespace Z
open PySem L2
/-! dicts by steps, comprehensions of dicts and sets -/
section
variable {K : PySem.W.Frag} {σ : L2.St} {H : Hp} {Q : VK} {nx bk ct : L2.St → Hp → Prop} {rt : VK}
theorem s_dnew (k : ∀ p H', H p = none → Ex H H' → H' p = some (.dK []) → Q (.ref p) H') : tDNewK σ H Q := fun p hp => k p _ hp (Ex.new hp) upd_same
def DGetR (x y : V) (H : Hp) (Q : VK) : Prop := ∃ a v, x = .ref a ∧ DGet H a y (some v) ∧ Q v H
theorem s_tDGet {td ty : TE} (k : td σ H fun x H1 => ty σ H1 fun y H2 => DGetR x y H2 Q) : tDGet td ty σ H Q := k
theorem s_dgetI {a : Addr} {n : Int} {kvs : List (Key × V)} {v : V} (h : H a = some (.dK kvs)) (e : valV kvs (Sum.inl n) = some v) (k : Q v H) : DGetR (.ref a) (.int n) H Q := ⟨a, v, rfl, by rw [← e]; exact DGet.k (k := Sum.inl n) h, k⟩
def DInR (y x : V) (H : Hp) (Q : VK) : Prop := ∃ a o, x = .ref a ∧ DGet H a y o ∧ Q (.bl o.isSome) H
theorem s_tDIn {td ty : TE} (k : ty σ H fun y H1 => td σ H1 fun x H2 => DInR y x H2 Q) : tDIn ty td σ H Q := k
theorem s_dinI {a : Addr} {n : Int} {kvs : List (Key × V)} (h : H a = some (.dK kvs)) (k : Q (.bl (valV kvs (Sum.inl n)).isSome) H) : DInR (.int n) (.ref a) H Q := ⟨a, _, rfl, DGet.k (k := Sum.inl n) h, k⟩
def DNotInR (y x : V) (H : Hp) (Q : VK) : Prop := ∃ a o, x = .ref a ∧ DGet H a y o ∧ Q (.bl (!o.isSome)) H
theorem s_tDNotIn {td ty : TE} (k : ty σ H fun y H1 => td σ H1 fun x H2 => DNotInR y x H2 Q) : tDNotIn ty td σ H Q := k
theorem s_dnotinI {a : Addr} {n : Int} {kvs : List (Key × V)} (h : H a = some (.dK kvs)) (k : Q (.bl (!(valV kvs (Sum.inl n)).isSome)) H) : DNotInR (.int n) (.ref a) H Q := ⟨a, _, rfl, DGet.k (k := Sum.inl n) h, k⟩
def DPutR (x y v : V) (H : Hp) (R : Hp → Prop) : Prop := ∃ a H4, x = .ref a ∧ DPut H a y v H4 ∧ R H4
theorem s_tDPut {td ty tv : TE} (k : tv σ H fun v H1 => td σ H1 fun x H2 => ty σ H2 fun y H3 => DPutR x y v H3 fun H4 => nx σ H4) : sDPut td ty tv ⟨nx, rt, bk, ct⟩ σ H := k
theorem s_dputI {a : Addr} {n : Int} {v : V} {kvs : List (Key × V)} {R : Hp → Prop} (h : H a = some (.dK kvs)) (z : kvs.length < 100000) (k : ∀ H', Fr a H H' → H' a = some (.dK (putK kvs (Sum.inl n) v)) → R H') : DPutR (.ref a) (.int n) v H R :=
  ⟨a, _, rfl, DPut.k (k := Sum.inl n) h (szl (by omega)), k _ Fr.upd upd_same⟩
def DGet2R (x : V) (a : Addr) (y z : V) (H : Hp) (Q : VK) : Prop := ∃ o, DGet H a y o ∧ Q (o.getD z) H
theorem s_tDGet2 {td ty tx : TE} (k : td σ H fun x H1 => ∃ a, x = .ref a ∧ IsD H1 a ∧ ty σ H1 fun y H2 => tx σ H2 fun z H3 => DGet2R x a y z H3 Q) : tDGet2 td ty tx σ H Q := k
theorem s_isD {a : Addr} {kvs : List (Key × V)} {R : Addr → Prop} (h : H a = some (.dK kvs)) (k : R a) : ∃ a', V.ref a = .ref a' ∧ IsD H a' ∧ R a' := ⟨a, rfl, .inl ⟨kvs, .inl h⟩, k⟩
theorem s_dget2I {x : V} {a : Addr} {n : Int} {z : V} {kvs : List (Key × V)} (h : H a = some (.dK kvs)) (k : Q ((valV kvs (Sum.inl n)).getD z) H) : DGet2R x a (.int n) z H Q := ⟨_, DGet.k (k := Sum.inl n) h, k⟩
theorem s_tDGet1 {td ty : TE} (k : td σ H fun x H1 => ∃ a, x = .ref a ∧ IsD H1 a ∧ ty σ H1 fun y H2 => DGet2R x a y .non H2 Q) : tDGet1 td ty σ H Q := k
/-! {k: v for ..} -/
def DcPut (D : Addr) (y z : V) (H : Hp) (R : Hp → Prop) : Prop := ∃ kvs k, y = kV k ∧ H D = some (.dK kvs) ∧ kvs.length < sizeLine ∧ R (upd H D (.dK (putK kvs k z)))
theorem s_dcPut {D : Addr} {n : Int} {z : V} {kvs : List (Key × V)} {R : Hp → Prop} (h : H D = some (.dK kvs)) (hz : kvs.length < 100000) (k : ∀ H', Fr D H H' → H' D = some (.dK (putK kvs (Sum.inl n) z)) → R H') : DcPut D (.int n) z H R :=
  ⟨kvs, Sum.inl n, rfl, h, szl (by omega), k _ Fr.upd upd_same⟩
def DcW (J : It) (g : TG) (tt : TT) (tk tv : TE) (vs : List Nat) (σ : L2.St) (H1 : Hp) (Q : VK) : Prop := ∀ D, H1 D = none → ∃ W : Nat → Nat → Hp → Prop, (∃ m, W 0 m (upd H1 D (.dK []))) ∧ ∀ i m H, W i m H →
  (J.stop i H ∧ Q (.ref D) H) ∨ (J.go i H ∧ ∃ Nx : Hp → Prop, (∀ H', Nx H' → ∃ m', m' < m ∧ W (i + 1) m' H') ∧ ∀ x H', J.yld i H x H' → g x (wipe σ vs) H' fun σ2 H2 => wipe σ2 vs = wipe σ vs ∧ tt σ2 H2 fun b H3 =>
    if b = true then tk σ2 H3 fun y H4 => tv σ2 H4 fun z H5 => DcPut D y z H5 Nx else Nx H3)
theorem s_dc {wi : TI} {g : TG} {tt : TT} {tk tv : TE} {vs : List Nat} (k : wi σ H fun J H1 => DcW J g tt tk tv vs σ H1 Q) : tDc wi g tt tk tv vs σ H Q := k
theorem dc_it {J : It} {n : Nat} {G : Hp → Prop} {Y : Nat → Hp → V → Hp → Prop} {g : TG} {tt : TT} {tk tv : TE} {vs : List Nat} (w : Walk J n G Y) (Pv : Addr → Nat → Hp → Prop)
    (h0 : ∀ D H', H D = none → Ex H H' → H' D = some (.dK []) → Pv D 0 H') (hG : ∀ D i H', Pv D i H' → G H')
    (hs : ∀ D i x H1 H1', i < n → Pv D i H1 → Y i H1 x H1' → g x (wipe σ vs) H1' fun σ2 H2 => wipe σ2 vs = wipe σ vs ∧ tt σ2 H2 fun b H3 =>
      if b = true then tk σ2 H3 fun y H4 => tv σ2 H4 fun z H5 => DcPut D y z H5 (Pv D (i + 1)) else Pv D (i + 1) H3)
    (hd : ∀ D H', Pv D n H' → Q (.ref D) H') : DcW J g tt tk tv vs σ H Q := by
  intro D hD
  refine ⟨fun i m H => m = n - i ∧ i ≤ n ∧ Pv D i H, ⟨n, by simp, Nat.zero_le _, h0 D _ hD (Ex.new hD) upd_same⟩, ?_⟩
  rintro i m H ⟨rfl, hi, p⟩
  have q := hG D i H p
  by_cases hlt : i < n
  · refine .inr ⟨w.goes i H hlt q, Pv D (i + 1), fun H' p' => ⟨n - (i + 1), by omega, rfl, hlt, p'⟩, fun x H' y => ?_⟩
    exact hs D i x H H' hlt p (w.yields i H x H' hlt q y)
  · have e : i = n := by omega
    subst e
    exact .inl ⟨w.stops H q, hd D H p⟩
theorem dc_list {a : Addr} {g : TG} {tt : TT} {tk tv : TE} {vs : List Nat} (xs : List V) (h : SqL K H a xs) (Pv : Addr → Nat → Hp → Prop)
    (h0 : ∀ D H', H D = none → Ex H H' → H' D = some (.dK []) → Pv D 0 H') (hG : ∀ D i H', Pv D i H' → SqL K H' a xs)
    (hs : ∀ D i x H1, xs[i]? = some x → Pv D i H1 → g x (wipe σ vs) H1 fun σ2 H2 => wipe σ2 vs = wipe σ vs ∧ tt σ2 H2 fun b H3 =>
      if b = true then tk σ2 H3 fun y H4 => tv σ2 H4 fun z H5 => DcPut D y z H5 (Pv D (i + 1)) else Pv D (i + 1) H3)
    (hd : ∀ D H', Pv D xs.length H' → Q (.ref D) H') : ∃ a', V.ref a = .ref a' ∧ (∃ xs, SqL K H a' xs) ∧ DcW (Itl K a') g tt tk tv vs σ H Q :=
  ⟨a, rfl, ⟨xs, h⟩, dc_it walk_list Pv h0 hG (fun D i x H1 H1' hi p y => by
    obtain ⟨e, y⟩ := y
    subst e
    exact hs D i x _ y p) hd⟩
/-! {x for ..} -/
def ScW (O0 : Addr → HO) (Ad : V → Addr → Hp → (Hp → Prop) → Prop) (J : It) (g : TG) (tt : TT) (te : TE) (vs : List Nat) (σ : L2.St) (H1 : Hp) (Q : VK) : Prop := ∀ D, H1 D = none → ∃ W : Nat → Nat → Hp → Prop, (∃ m, W 0 m (upd H1 D (O0 D))) ∧ ∀ i m H, W i m H →
  (J.stop i H ∧ Q (.ref D) H) ∨ (J.go i H ∧ ∃ Nx : Hp → Prop, (∀ H', Nx H' → ∃ m', m' < m ∧ W (i + 1) m' H') ∧ ∀ x H', J.yld i H x H' → g x (wipe σ vs) H' fun σ2 H2 => wipe σ2 vs = wipe σ vs ∧ tt σ2 H2 fun b H3 =>
    if b = true then te σ2 H3 fun y H4 => Ad y D H4 Nx else Nx H3)
theorem s_sc {O0 : Addr → HO} {Ad : V → Addr → Hp → (Hp → Prop) → Prop} {wi : TI} {g : TG} {tt : TT} {te : TE} {vs : List Nat} (k : wi σ H fun J H1 => ScW O0 Ad J g tt te vs σ H1 Q) : tSc2 O0 Ad wi g tt te vs σ H Q := k
theorem sc_it {O0 : Addr → HO} {Ad : V → Addr → Hp → (Hp → Prop) → Prop} {J : It} {n : Nat} {G : Hp → Prop} {Y : Nat → Hp → V → Hp → Prop} {g : TG} {tt : TT} {te : TE} {vs : List Nat} (w : Walk J n G Y) (Pv : Addr → Nat → Hp → Prop)
    (h0 : ∀ D H', H D = none → Ex H H' → H' D = some (O0 D) → Pv D 0 H') (hG : ∀ D i H', Pv D i H' → G H')
    (hs : ∀ D i x H1 H1', i < n → Pv D i H1 → Y i H1 x H1' → g x (wipe σ vs) H1' fun σ2 H2 => wipe σ2 vs = wipe σ vs ∧ tt σ2 H2 fun b H3 =>
      if b = true then te σ2 H3 fun y H4 => Ad y D H4 (Pv D (i + 1)) else Pv D (i + 1) H3)
    (hd : ∀ D H', Pv D n H' → Q (.ref D) H') : ScW O0 Ad J g tt te vs σ H Q := by
  intro D hD
  refine ⟨fun i m H => m = n - i ∧ i ≤ n ∧ Pv D i H, ⟨n, by simp, Nat.zero_le _, h0 D _ hD (Ex.new hD) upd_same⟩, ?_⟩
  rintro i m H ⟨rfl, hi, p⟩
  have q := hG D i H p
  by_cases hlt : i < n
  · refine .inr ⟨w.goes i H hlt q, Pv D (i + 1), fun H' p' => ⟨n - (i + 1), by omega, rfl, hlt, p'⟩, fun x H' y => ?_⟩
    exact hs D i x H H' hlt p (w.yields i H x H' hlt q y)
  · have e : i = n := by omega
    subst e
    exact .inl ⟨w.stops H q, hd D H p⟩
theorem sc_list {O0 : Addr → HO} {Ad : V → Addr → Hp → (Hp → Prop) → Prop} {a : Addr} {g : TG} {tt : TT} {te : TE} {vs : List Nat} (xs : List V) (h : SqL K H a xs) (Pv : Addr → Nat → Hp → Prop)
    (h0 : ∀ D H', H D = none → Ex H H' → H' D = some (O0 D) → Pv D 0 H') (hG : ∀ D i H', Pv D i H' → SqL K H' a xs)
    (hs : ∀ D i x H1, xs[i]? = some x → Pv D i H1 → g x (wipe σ vs) H1 fun σ2 H2 => wipe σ2 vs = wipe σ vs ∧ tt σ2 H2 fun b H3 =>
      if b = true then te σ2 H3 fun y H4 => Ad y D H4 (Pv D (i + 1)) else Pv D (i + 1) H3)
    (hd : ∀ D H', Pv D xs.length H' → Q (.ref D) H') : ∃ a', V.ref a = .ref a' ∧ (∃ xs, SqL K H a' xs) ∧ ScW O0 Ad (Itl K a') g tt te vs σ H Q :=
  ⟨a, rfl, ⟨xs, h⟩, sc_it walk_list Pv h0 hG (fun D i x H1 H1' hi p y => by
    obtain ⟨e, y⟩ := y
    subst e
    exact hs D i x _ y p) hd⟩
theorem s_adI {w : World} {D : Addr} {n : Int} {S : Int → Bool} {m : Nat} {R : Hp → Prop} (h : H D = some (SetO w D S m)) (room : m + 1 < scanBound) (k : ∀ H', Fr D H H' → H' D = some (SetO w D (fun j => S j || decide (j = n)) (if S n = true then m else m + 1)) → R H') : AdI w (.int n) D H R :=
  ⟨n, S, m, rfl, h, room, k _ Fr.upd upd_same⟩
theorem s_adT {P : Program} {w : World} {D t : Addr} {ks : List Int} {L : List (Addr × List Int)} {R : Hp → Prop} (ht : SqT K H t (ks.map V.int)) (h : H D = some (SetTO P w D L)) (hL : ∀ p ∈ L, SqT K H p.1 (p.2.map V.int)) (few : L.length + 1 < 64)
    (k : ∀ L' H', (ks ∈ L.map (·.2) → L' = L) → (ks ∉ L.map (·.2) → L'.Perm ((t, ks) :: L)) → Fr D H H' → H' D = some (SetTO P w D L') → R H') : AdT K P w (.ref t) D H R :=
  ⟨t, ks, L, rfl, ht, h, hL, few, fun L' h1 h2 => k L' _ h1 h2 Fr.upd upd_same⟩
/-- x in xs, a list of data -/
theorem s_inD {x : V} {a : Addr} (d : PyData) (ds : List PyData) (hx : Dp K H x d) (ha : Dp K H (.ref a) (.list ds)) (h1 : SeqAt.shaped d = true) (h2 : SeqAt.shaped (.list ds) = true) (k : Q (.bl (ds.any fun z => PyData.eqv z d)) H) : rInD K x (.ref a) H Q := ⟨d, ds, hx, ha, h1, h2, k⟩
end
/-! tuples stay where lists, dicts and others change -/
def Tk (K : PySem.W.Frag) (H H' : Hp) : Prop := ∀ (a : Addr) (xs : List V), SqT K H a xs → SqT K H' a xs
theorem Ex.tk {K : PySem.W.Frag} {H H' : Hp} (e : Ex H H') : Tk K H H' := fun _ _ h => e.sqT h
theorem Tk.refl {K : PySem.W.Frag} {H : Hp} : Tk K H H := fun _ _ h => h
theorem Tk.trans {K : PySem.W.Frag} {H H1 H2 : Hp} (a : Tk K H H1) (b : Tk K H1 H2) : Tk K H H2 := fun _ _ h => b _ _ (a _ _ h)
theorem tk_fr {K : PySem.W.Frag} {b : Addr} {o : HO} {H H' : Hp} (e : Fr b H H') (hb : H b = some o) (n1 : ∀ xs, o ≠ .tup xs) (n2 : ∀ q u, o ≠ .frz q u) : Tk K H H' := fun a xs h => by
  have ne : ∀ {u}, H a = some u → u ≠ o → a ≠ b := fun h1 h2 z => by
    subst z
    rw [h1] at hb
    exact h2 (Option.some.inj hb)
  rcases h with (h | ⟨q, h⟩) | h
  · exact .inl (.inl (e _ _ (ne h (fun z => n1 _ z.symm)) h))
  · exact .inl (.inr ⟨q, e _ _ (ne h (fun z => n2 _ _ z.symm)) h⟩)
  · exact .inr h
theorem tk_lst {K : PySem.W.Frag} {b : Addr} {ys : List V} {H H' : Hp} (e : Fr b H H') (hb : H b = some (.lst ys)) : Tk K H H' := tk_fr e hb (fun _ z => by cases z) (fun _ _ z => by cases z)
theorem tk_dK {K : PySem.W.Frag} {b : Addr} {kvs : List (Key × V)} {H H' : Hp} (e : Fr b H H') (hb : H b = some (.dK kvs)) : Tk K H H' := tk_fr e hb (fun _ z => by cases z) (fun _ _ z => by cases z)
theorem tk_ins {K : PySem.W.Frag} {b C dx : Addr} {fs : List (Str × V)} {H H' : Hp} (e : Fr b H H') (hb : H b = some (.ins C dx fs)) : Tk K H H' := tk_fr e hb (fun _ z => by cases z) (fun _ _ z => by cases z)
theorem tk_set {K : PySem.W.Frag} {w : World} {b : Addr} {S : Int → Bool} {m : Nat} {H H' : Hp} (e : Fr b H H') (hb : H b = some (SetO w b S m)) : Tk K H H' :=
  tk_fr e hb (fun _ z => by have z' : HO.ext _ = HO.tup _ := z; cases z') (fun _ _ z => by have z' : HO.ext _ = HO.frz _ _ := z; cases z')
theorem tk_setT {K : PySem.W.Frag} {P : Program} {w : World} {b : Addr} {L : List (Addr × List Int)} {H H' : Hp} (e : Fr b H H') (hb : H b = some (SetTO P w b L)) : Tk K H H' :=
  tk_fr e hb (fun _ z => by have z' : HO.ext _ = HO.tup _ := z; cases z') (fun _ _ z => by have z' : HO.ext _ = HO.frz _ _ := z; cases z')
/-! each of one list is of the other's -/
inductive All2 {α β : Type} (R : α → β → Prop) : List α → List β → Prop
  | nil : All2 R [] []
  | cons {a : α} {b : β} {as : List α} {bs : List β} : R a b → All2 R as bs → All2 R (a :: as) (b :: bs)
namespace All2
variable {α β : Type} {R R' : α → β → Prop}
theorem mono (f : ∀ a b, R a b → R' a b) : ∀ {as : List α} {bs : List β}, All2 R as bs → All2 R' as bs
  | _, _, .nil => .nil
  | _, _, .cons h r => .cons (f _ _ h) (r.mono f)
theorem len : ∀ {as : List α} {bs : List β}, All2 R as bs → as.length = bs.length
  | _, _, .nil => rfl
  | _, _, .cons _ r => congrArg Nat.succ r.len
theorem app : ∀ {as as' : List α} {bs bs' : List β}, All2 R as bs → All2 R as' bs' → All2 R (as ++ as') (bs ++ bs')
  | _, _, _, _, .nil, r => r
  | _, _, _, _, .cons h r, r' => .cons h (r.app r')
theorem snoc {as : List α} {bs : List β} {a : α} {b : β} (h : All2 R as bs) (h1 : R a b) : All2 R (as ++ [a]) (bs ++ [b]) := h.app (.cons h1 .nil)
theorem get : ∀ {as : List α} {bs : List β} {i : Nat} {a : α}, All2 R as bs → as[i]? = some a → ∃ b, bs[i]? = some b ∧ R a b
  | _, _, 0, _, .cons h _, e => by
    cases e
    exact ⟨_, rfl, h⟩
  | _, _, i + 1, _, .cons _ r, e => r.get (i := i) (by simpa using e)
theorem get' : ∀ {as : List α} {bs : List β} {i : Nat} {b : β}, All2 R as bs → bs[i]? = some b → ∃ a, as[i]? = some a ∧ R a b
  | _, _, 0, _, .cons h _, e => by
    cases e
    exact ⟨_, rfl, h⟩
  | _, _, i + 1, _, .cons _ r, e => r.get' (i := i) (by simpa using e)
theorem map_r {γ : Type} {S : α → γ → Prop} (f : β → γ) (g : ∀ a b, R a b → S a (f b)) : ∀ {as : List α} {bs : List β}, All2 R as bs → All2 S as (bs.map f)
  | _, _, .nil => .nil
  | _, _, .cons h r => .cons (g _ _ h) (r.map_r f g)
theorem mem_l : ∀ {as : List α} {bs : List β} {a : α}, All2 R as bs → a ∈ as → ∃ b, b ∈ bs ∧ R a b
  | _, _, _, .cons h r, m => by
    rcases List.mem_cons.mp m with rfl | m
    · exact ⟨_, List.mem_cons_self, h⟩
    · obtain ⟨b, m, q⟩ := r.mem_l m
      exact ⟨b, List.mem_cons_of_mem _ m, q⟩
end All2
theorem all2_dp {K : PySem.W.Frag} {H : Hp} {α : Type} {R : V → α → Prop} (f : α → PyData) (g : ∀ v a, R v a → Dp K H v (f a)) : ∀ {vs : List V} {as : List α}, All2 R vs as → DpAll K H vs (as.map f)
  | _, _, .nil => .nil
  | _, _, .cons h r => .cons (g _ _ h) (all2_dp f g r)
end Z

set_option Elab.async false
set_option linter.all false
set_option maxRecDepth 100000
set_option maxHeartbeats 1000000
namespace Z
open PySem L2 PyProof.Rows
/-! sorted of tuples of ints, what each is told beside it -/
theorem map_int_inj : ∀ {a b : List Int}, a.map V.int = b.map V.int → a = b
  | [], [], _ => rfl
  | [], _ :: _, h => by cases h
  | _ :: _, [], h => by cases h
  | x :: a, y :: b, h => by
    rw [List.map_cons, List.map_cons] at h
    injection h with h1 h2
    injection h1 with h1
    rw [h1, map_int_inj h2]
def TIs (K : PySem.W.Frag) (H : Hp) (x : V) (k : List Int) : Prop := ∃ t, x = .ref t ∧ SqT K H t (k.map V.int)
theorem TIs.tk {K : PySem.W.Frag} {H H' : Hp} (e : Tk K H H') {x : V} {k : List Int} (h : TIs K H x k) : TIs K H' x k := by
  obtain ⟨t, rfl, h⟩ := h
  exact ⟨t, rfl, e _ _ h⟩
theorem tis_all {K : PySem.W.Frag} {H H' : Hp} (e : Tk K H H') {xs : List V} {ks : List (List Int)} (h : All2 (TIs K H) xs ks) : All2 (TIs K H') xs ks := h.mono fun _ _ q => q.tk e
def rSortTa (K : PySem.W.Frag) : List V → Hp → VK → Prop := fun vs H Q => ∃ (a : Addr) (xs : List V) (ks : List (List Int)) (d : Nat), vs = [V.ref a] ∧ 1 ≤ d ∧ SqL K H a xs ∧ All2 (TIs K H) xs ks ∧ (∀ k ∈ ks, k.length = d) ∧
  ∀ ys ls p, ls.Perm ks → ls.Pairwise (fun x y => HT.lexLt y x = false) → ys.Perm xs → All2 (TIs K H) ys ls → H p = none → Q (.ref p) (upd H p (.lst ys))
section
variable {X : Cx}
theorem cr_sortTa : CallR X (.builtin "sorted") (rSortTa X.K) := by
  intro pins s σ H vs us Q I r h
  obtain ⟨a, xs, ks, d, rfl, hd, hs, hx, hk, q⟩ := h
  have uniq : ∀ {x : V} {k l : List Int}, TIs X.K H x k → TIs X.K H x l → k = l := fun {x k l} h1 h2 => by
    obtain ⟨t, rfl, h1⟩ := h1
    obtain ⟨t', e, h2⟩ := h2
    cases e
    exact map_int_inj (I.tuple_inj h1 h2)
  let f : V → List Int := fun x => Classical.epsilon fun l => TIs X.K H x l
  have ff : ∀ {x k}, TIs X.K H x k → f x = k := fun {x k} h => uniq (Classical.epsilon_spec (p := fun l => TIs X.K H x l) ⟨k, h⟩) h
  have fm : ∀ {zs : List V} {ls : List (List Int)}, All2 (TIs X.K H) zs ls → zs.map f = ls := fun {zs ls} h => by
    induction h with
    | nil => rfl
    | cons h _ ih => rw [List.map_cons, ih, ff h]
  have e0 := fm hx
  refine cr_sortTk pins s σ H _ us Q I r ⟨a, xs, d, f, rfl, hd, hs, fun x m => ?_, fun ys p h1 h2 h3 => ?_⟩
  · obtain ⟨k, mk, hxk⟩ := hx.mem_l m
    obtain ⟨t, e, ht⟩ := id hxk
    rw [ff hxk]
    exact ⟨t, e, ht, hk k mk⟩
  · refine q ys (ys.map f) p (by rw [← e0]; exact h1.map f) h2 h1 ?_ h3
    have mem : ∀ y ∈ ys, TIs X.K H y (f y) := fun y m => by
      obtain ⟨k, _, hxk⟩ := hx.mem_l (h1.mem_iff.mp m)
      rw [ff hxk]
      exact hxk
    clear h1 h2 h3
    induction ys with
    | nil => exact .nil
    | cons y ys ih => exact .cons (mem y List.mem_cons_self) (ih fun z m => mem z (List.mem_cons_of_mem _ m))
end
theorem s_sortTa {K : PySem.W.Frag} {H : Hp} {Q : VK} {a : Addr} {xs : List V} {ks : List (List Int)} (d : Nat) (hd : 1 ≤ d) (hs : SqL K H a xs) (hx : All2 (TIs K H) xs ks) (hk : ∀ k ∈ ks, k.length = d)
    (q : ∀ ys ls p H', ls.Perm ks → ls.Pairwise (fun x y => HT.lexLt y x = false) → All2 (TIs K H') ys ls → H p = none → Ex H H' → H' p = some (.lst ys) → Q (.ref p) H') : rSortTa K [.ref a] H Q :=
  ⟨a, xs, ks, d, rfl, hd, hs, hx, hk, fun ys ls p h1 h2 _ h4 h3 => q ys ls p _ h1 h2 (tis_all (Ex.new h3).tk h4) h3 (Ex.new h3) upd_same⟩
/-! a written dict -/
theorem s_kix {K : PySem.W.Frag} {w : World} {p : Addr} {z : Str} {v : V} {H : Hp} {Q : VK} (h : KDct K w p z v) (k : Q v H) : rIxD K w (.ref p) (.str z) H Q := ⟨p, z, v, rfl, rfl, h, k⟩
/-- all that stood stands, but what has changed was not there -/
theorem Ex.fr2 {b : Addr} {H H1 H2 : Hp} (e : Ex H H1) (n : H b = none) (f : Fr b H1 H2) : Ex H H2 := fun a o h => f a o (ne_of_none h n) (e a o h)
end Z

set_option Elab.async false
set_option linter.all false
set_option maxRecDepth 100000
set_option maxHeartbeats 1000000
namespace Z
open PySem L2
/-! fields and methods of own instances by steps -/
theorem u65 {k : Nat} {A : Around} (hr : Room k A) : A.units + 65 < cLine := by have := hr.un; omega
theorem u3 {k : Nat} {A : Around} (hr : Room k A) : A.units + 3 < cLine := by have := hr.un; omega

section
variable {K : PySem.W.Frag} {σ : L2.St} {H : Hp} {Q : VK} {nx bk ct : L2.St → Hp → Prop} {rt : VK} {f m : Str} {C a dx : Addr} {fs : List (Str × V)}
theorem s_fldGet {v : V} (h : H a = some (.ins C dx fs)) (c : Cls K C) (na : NoAttr K C f) (e : fs.lookup f = some v) (k : Q v H) : FldR K f (.ref a) H Q := ⟨a, C, dx, fs, v, rfl, h, c, na, e, k⟩
def FldPut (K : PySem.W.Frag) (f : Str) (y x : V) (H : Hp) (R : Hp → Prop) : Prop := ∃ a C dx fs, x = .ref a ∧ H a = some (.ins C dx fs) ∧ Cls K C ∧ NoAttr K C f ∧ fs.length < 1000 ∧ R (upd H a (.ins C dx (putF f y fs)))
theorem s_sFldP {ta tv : TE} (k : tv σ H fun y H1 => ta σ H1 fun x H2 => FldPut K f y x H2 fun H3 => nx σ H3) : sFld K ta tv f ⟨nx, rt, bk, ct⟩ σ H := k
theorem s_fldPut {y : V} {R : Hp → Prop} (gs : List (Str × V)) (h : H a = some (.ins C dx fs)) (c : Cls K C) (na : NoAttr K C f) (z : fs.length < 1000) (e : putF f y fs = gs) (k : ∀ H', Fr a H H' → H' a = some (.ins C dx gs) → R H') : FldPut K f y (.ref a) H R :=
  ⟨a, C, dx, fs, rfl, h, c, na, z, by rw [e]; exact k _ Fr.upd upd_same⟩
theorem s_on {R : Prop} (h : H a = some (.ins C dx fs)) (hm : fs.lookup m = none) (k : R) : ∃ a' dx' fs', V.ref a = .ref a' ∧ H a' = some (.ins C dx' fs') ∧ fs'.lookup m = none ∧ R := ⟨a, dx, fs, rfl, h, hm, k⟩
theorem s_methA {sp : Sp} {dvs : List V} {E : XK} {ta : TE} {t : TA} (k : ta σ H fun x H1 => ∃ a dx fs, x = .ref a ∧ H1 a = some (.ins C dx fs) ∧ fs.lookup m = none ∧ t σ H1 fun vs H2 => sp (x :: (vs ++ dvs)) H2 Q E) : tMeth C m sp dvs E ta t σ H Q := k
end
/-- a new instance: what stood stands -/
theorem ex_made {C x dx : Addr} {H : Hp} (hx : H x = none) (hd : H dx = none) : Ex H (upd (upd H dx (.own x)) x (.ins C dx [])) := fun a o h => by
  have h1 : a ≠ x := ne_of_none h hx
  have h2 : a ≠ dx := ne_of_none h hd
  rw [upd_ne h1, upd_ne h2]
  exact h
end Z

set_option Elab.async false
set_option linter.all false
set_option maxRecDepth 100000
set_option maxHeartbeats 1000000
namespace Z
open PySem PySem.Spec PyProof.Rows L2
section
variable {X : Cx}
/-- name = {k: v for ..} on one line, the name a local -/
theorem ps_setDc {i : Nat} {y : Str} {py : Pos} {kx vx tg iter : Expr} {ifs : List Expr} {scope : Scope} {own : List (Str × Nat)} {pos spos : Pos} {wi : TI} {g : TG} {tt : TT} {tk tv : TE} (hc : X.calm = true) (hN : X.N.Nodup) (hy : X.N[i]? = some y) (hyl : X.env.scope.names.lookup y = some .local)
    (hsw : swapsWith (.DictComp kx vx [⟨tg, iter, ifs, 0⟩] scope pos) (some (.Name y py)) spos.line X.env = pure true) (hi : PI X tg iter wi) (ok : BlkOk X.N X.env.scope scope own)
    (hg : ∀ (s : Shared) (H : Hp) (C : Addr) (cl : List (Str × Addr)) (fp : List Addr), PG (X.blk s H scope (compEnvC scope cl C X.env) fp) tg g) (ht : ∀ (s : Shared) (H : Hp) (C : Addr) (cl : List (Str × Addr)) (fp : List Addr), PTs (X.blk s H scope (compEnvC scope cl C X.env) fp) ifs tt)
    (hk : ∀ (s : Shared) (H : Hp) (C : Addr) (cl : List (Str × Addr)) (fp : List Addr), PE (X.blk s H scope (compEnvC scope cl C X.env) fp) kx tk)
    (he : ∀ (s : Shared) (H : Hp) (C : Addr) (cl : List (Str × Addr)) (fp : List Addr), PE (X.blk s H scope (compEnvC scope cl C X.env) fp) vx tv) (hs : ∀ x, foldedSetIterable iter X.env x = pure x := by intro _; rfl) :
    PS X (.Assign [.Name y py] (.DictComp kx vx [⟨tg, iter, ifs, 0⟩] scope pos) spos) (tAsg (tDc wi g tt tk tv (own.map (·.2))) (gName i)) := by
  refine ⟨fun pins s σ H D I h => ?_⟩
  rw [exec_Assign_Name_used _ _ _ _ hsw]
  refine wpAny_bind (wpAny_standAt (wpAny_bind ?_))
  show wpAny _ X.A (do let _ ← comprehension (.DictComp kx vx [⟨tg, iter, ifs, 0⟩] scope pos) scope X.env (firstIterPos [⟨tg, iter, ifs, 0⟩] pos) newDict false (eval iter X.env) (some (assign (.Name y py) X.env))) _ _ s
  have h : tDc wi g tt tk tv (own.map (·.2)) σ H (fun x H1 => gName i x σ H1 D.nx) := h
  refine wpAny_bind (thn (dc_core (Qf := fun _ s' => SP X pins D .next s') hc hN I hi ok hg ht hk he hs h fun L C s' m H' I' q hn f => ?_) fun _ s' hq => wpAny_pure (wpAny_pure hq))
  show wpAny _ _ (assign (.Name y py) X.env (.ref L)) _ _ _
  refine wpAny_assign_Name (store_ok2 (v := V.ref L) I' hN hy (.inl hyl) rfl (fun s2 I2 ⟨a, sb, ha⟩ => ?_) (.inr hyl))
  obtain ⟨f0, f1, f2, f3, f4, f5⟩ := f
  have haC : C ≠ a := by
    rcases ha with z | z
    · rw [z]; exact f1
    · exact fun e => f4 y a z e.symm
  refine ⟨m, hn.sameBut sb haC, fun h3 sb3 => ?_⟩
  exact ⟨_, H', I2.turned (t' := s2.toks) (fun b o hb e => (sb3.2 b hb).trans e) f0 f1 f3 f4 f5, q⟩
theorem sw_trueD {kx vx : Expr} {gs : List Comprehension} {scope : Scope} {pos py : Pos} {y : Str} {l : Nat} {env : Env} (hk : env.scope.kind = .function) (hy : env.scope.names.lookup y = some .local) (hl : (py.line == pos.line) = true)
    (ha : (scope.names.any fun (n, k) => n == y && (k == .local || k == .cell)) = false) : swapsWith (.DictComp kx vx gs scope pos) (some (.Name y py)) l env = pure true := by
  have ky : env.kindOf y = some .local := hy
  have hb : env.blockKind = .function := by unfold Env.blockKind; rw [hk]; rfl
  unfold swapsWith
  simp only [hb, ky, ha, Expr.pos, hl]
  rfl
end
end Z

set_option Elab.async false
set_option maxRecDepth 100000
set_option maxHeartbeats 4000000
set_option linter.all false
/-! dict(list of pairs), t <= u of two tuples of two ints -/
namespace Z
open PySem L2
abbrev rDictP (K : PySem.W.Frag) : List V → Hp → VK → Prop := fun xs H Q => ∃ (a : Addr) (ps : List Addr) (kvs : List (Key × V)), xs = [.ref a] ∧ SqL K H a (ps.map V.ref) ∧ Paired (fun p kv => SqT K H p [kV kv.1, kv.2]) ps kvs ∧
    ∀ p, H p = none → Q (.ref p) (upd H p (.dK (mergeK [] kvs)))
theorem cr_dictP {X : Cx} (h : X.calm = true) : CallR X (.type "dict") (rDictP X.K) := call_dictP h
theorem s_dictP {K : PySem.W.Frag} {H : Hp} {Q : VK} {a : Addr} {ps : List Addr} {kvs : List (Key × V)} (h : SqL K H a (ps.map V.ref)) (hp : Paired (fun p kv => SqT K H p [kV kv.1, kv.2]) ps kvs)
    (k : ∀ p H', H p = none → Ex H H' → H' p = some (.dK (mergeK [] kvs)) → Q (.ref p) H') : rDictP K [.ref a] H Q := ⟨a, ps, kvs, rfl, h, hp, fun p hn => k p _ hn (Ex.new hn) upd_same⟩
theorem merge_not {k : Key} : ∀ {kvs : List (Key × V)} (acc : List (Key × V)), (∀ p ∈ kvs, p.1 ≠ k) → valV (mergeK acc kvs) k = valV acc k
  | [], acc, _ => rfl
  | p :: r, acc, h => by
    show valV (mergeK (putK acc p.1 p.2) r) k = _
    rw [merge_not (putK acc p.1 p.2) fun q hq => h q (List.mem_cons_of_mem _ hq), valV_put, if_neg fun z => h p List.mem_cons_self z.symm]
theorem merge_val {k : Key} {v : V} : ∀ {kvs : List (Key × V)} (acc : List (Key × V)), (kvs.map (·.1)).Nodup → (k, v) ∈ kvs → valV (mergeK acc kvs) k = some v
  | p :: r, acc, nd, h => by
    rw [List.map_cons] at nd
    obtain ⟨n1, n2⟩ := List.nodup_cons.mp nd
    show valV (mergeK (putK acc p.1 p.2) r) k = _
    rcases List.mem_cons.mp h with h | h
    · subst h
      rw [merge_not _ fun q hq z => n1 (by rw [← z]; exact List.mem_map.mpr ⟨q, hq, rfl⟩), valV_put, if_pos rfl]
    · exact merge_val _ n2 h
theorem s_leT2 {K : PySem.W.Frag} {H : Hp} {Q : VK} {a b : Addr} {p q r s : Int} (ha : SqT K H a [.int p, .int q]) (hb : SqT K H b [.int r, .int s]) (k : Q (.bl (decide (p < r ∨ (p = r ∧ q ≤ s)))) H) : rLeT K (.ref a) (.ref b) H Q := by
  refine ⟨a, b, [p, q], [r, s], rfl, rfl, ha, hb, ?_⟩
  have e : Ob.lexAt (fun j => decide (([p, q] : List Int).getD j 0 = ([r, s] : List Int).getD j 0)) (fun j => decide (([p, q] : List Int).getD j 0 ≤ ([r, s] : List Int).getD j 0)) (decide (([p, q] : List Int).length ≤ ([r, s] : List Int).length)) 0 (min ([p, q] : List Int).length ([r, s] : List Int).length) = decide (p < r ∨ (p = r ∧ q ≤ s)) := by
    show Ob.lexAt _ _ _ 0 2 = _
    rw [Ob.lexAt_succ, Ob.lexAt_succ, Ob.lexAt_zero]
    show (if decide (p = r) = true then (if decide (q = s) = true then true else decide (q ≤ s)) else decide (p ≤ r)) = _
    by_cases h1 : p = r
    · by_cases h2 : q = s
      · simp [h1, h2]
      · rw [if_pos (decide_eq_true h1), if_neg (by simpa using h2)]
        refine decide_eq_decide.mpr ⟨fun z => .inr ⟨h1, z⟩, fun z => ?_⟩
        omega
    · rw [if_neg (by simpa using h1)]
      refine decide_eq_decide.mpr ⟨fun z => ?_, fun z => ?_⟩ <;> omega
  rw [e]
  exact k
end Z

set_option Elab.async false
set_option linter.all false
set_option maxRecDepth 100000
set_option maxHeartbeats 4000000
/-! own exceptions over ValueError and over KeyError whose __init__ says super().__init__ and stores fields -/
namespace PySem
namespace ZEX
open PySem.W PySem.Calls PyProof.Rows PySem.HandSPX
abbrev keTail : List Value := [.type "KeyError", .type "LookupError", .type "Exception", .type "BaseException", .type "object"]
def tailX (b : Bool) : List Value := if b then keTail else veTail
/-- own classes, then the built-in ones of the family -/
def refsX (b : Bool) : List Value → Bool
  | .ref _ :: r => refsX b r
  | l => l == tailX b
theorem refsX_cases (b : Bool) : ∀ l : List Value, refsX b l = true → (∃ c r, l = .ref c :: r ∧ refsX b r = true) ∨ l = tailX b
  | [], e => .inr (beq_iff_eq.mp e)
  | .ref c :: r, e => .inl ⟨c, r, rfl, e⟩
  | .none :: _, e => .inr (beq_iff_eq.mp e)
  | .ellipsis :: _, e => .inr (beq_iff_eq.mp e)
  | .notImplemented :: _, e => .inr (beq_iff_eq.mp e)
  | .bool _ :: _, e => .inr (beq_iff_eq.mp e)
  | .int _ _ :: _, e => .inr (beq_iff_eq.mp e)
  | .float _ _ :: _, e => .inr (beq_iff_eq.mp e)
  | .str _ _ :: _, e => .inr (beq_iff_eq.mp e)
  | .bytes _ _ :: _, e => .inr (beq_iff_eq.mp e)
  | .type _ :: _, e => .inr (beq_iff_eq.mp e)
  | .builtin _ :: _, e => .inr (beq_iff_eq.mp e)
theorem passes_KE (self : Value) : refuseLoop self "__setattr__" keTail = pure () := by kernel_rfl
theorem refsX_nil (b : Bool) : refsX b [] = false := by cases b <;> decide
theorem refsX_pass (b : Bool) (self : Value) : ∀ l : List Value, refsX b l = true → refuseLoop self "__setattr__" l = pure () := by
  intro l
  induction l with
  | nil => intro e; rw [refsX_nil] at e; cases e
  | cons a r ih =>
    intro e
    rcases refsX_cases b (a :: r) e with ⟨c, r', q, h⟩ | q
    · obtain ⟨rfl, rfl⟩ := List.cons.inj q
      rw [refuseLoop_ref]; exact ih h
    · rw [q]
      cases b with
      | false => exact F.store_ValueError.passes self
      | true => exact passes_KE self
theorem refsX_contains (b : Bool) (X : String) : ∀ l : List Value, refsX b l = true → l.contains (.type X) = (tailX b).contains (.type X) := by
  intro l
  induction l with
  | nil => intro e; rw [refsX_nil] at e; cases e
  | cons a r ih =>
    intro e
    rcases refsX_cases b (a :: r) e with ⟨c, r', q, h⟩ | q
    · obtain ⟨rfl, rfl⟩ := List.cons.inj q
      rw [List.contains_cons, ih h]; rfl
    · rw [q]
theorem refsX_ne (b : Bool) {l : List Value} (e : refsX b l = true) : l.isEmpty = false := by
  cases l with
  | nil => rw [refsX_nil] at e; cases e
  | cons _ _ => rfl
def newIdX (b : Bool) : String := if b then "LookupError.__new__" else "ValueError.__new__"
def initIdX (b : Bool) : String := if b then "KeyError.__init__" else "ValueError.__init__"
def baseX (b : Bool) : String := if b then "KeyError" else "ValueError"

/-! ### type.__call__ on such a class -/
section
variable {M : Model} {A : Around} {E : Value → Shared → Prop} {h : Heap} {g : Array GenState} {d : Drawn} {t : Nat} {os : OsState}
variable {nm q : Str} {C N : Addr} {bs bm bmB : List Value} {hdct : Bool} {sn : List Str} {sub : List Value} {ab : Bool} {col : Option Bool} {dd : Option Addr} {k0 k1 k2 k3 k5 : Option Value} {B newId initId : String}
theorem check_newX (F : ExcBaseFacts B newId initId bmB) (hB : bm.contains (.type B) = true) {rest : List Value} {Q : Unit → Shared → Prop}
    (hC : h.get? C = some (excClassObj nm q C N bs bm hdct sn sub ab col dd k0 k1 k2 k3 k5 newId)) (hq : Q () ⟨h, g, d, t, os⟩) : wpAny M A (checkBuiltinCall newId ⟨.ref C :: rest, []⟩) Q E ⟨h, g, d, t, os⟩ := by
  have hcont : (Value.ref C :: bm).contains (.type B) = true := by rw [List.contains_cons, hB, Bool.or_true]
  have hstar := F.noStar
  simp only [checkBuiltinCall, F.newKind, F.newSplit, F.newRow]
  repeat (first | refine wpAny_loadPart_at hC ?_ | (refine wpAny_isSubtype_exc hC ?_; rw [hcont]) | refine wpAny_staticBase_exc hC ?_ | refine wpAny_madeBy_exc hC ?_ | simp only [bne_self_eq_false, Bool.false_eq_true, if_false] | wp_step)
  exact hq
end
section
variable {prog : Program} {w : World} {A : Around} {E : Value → Shared → Prop} {R : Result → Shared → Prop} {h : Heap} {g : Array GenState} {d : Drawn} {t : Nat} {os : OsState}
variable {nm q : Str} {C N : Addr} {bs bm bmB : List Value} {hdct : Bool} {sn : List Str} {sub : List Value} {ab : Bool} {col : Option Bool} {dd : Option Addr} {k0 k1 k2 k3 k5 : Option Value} {B newId initId : String}
theorem newX (F : ExcBaseFacts B newId initId bmB) (hB : bm.contains (.type B) = true) (hA : bm.contains (.type "AttributeError") = false) (hN : bm.contains (.type "NameError") = false) {rest : List Value}
    (hC : h.get? C = some (excClassObj nm q C N bs bm hdct sn sub ab col dd k0 k1 k2 k3 k5 newId))
    (hq : R (.ok (.ret (.ref (h.objs.size + 1)))) ⟨(h.push { cls := .type "tuple", data := .seq rest.toArray }).push
      { cls := .ref C, data := .fields #[.ref h.objs.size, .none, .none, .none, .bool false, .none] }, g, d, t, os⟩) (hrest : rest.length ≤ sizeLine) :
    codeAny (model prog w) A (.builtin newId ⟨.ref C :: rest, []⟩) R ⟨h, g, d, t, os⟩ := by
  have hends := F.ends
  have hcB : (Value.ref C :: bm).contains (.type B) = true := by rw [List.contains_cons, hB, Bool.or_true]
  have hcA : (Value.ref C :: bm).contains (.type "AttributeError") = false := by rw [List.contains_cons, hA]; rfl
  have hcN : (Value.ref C :: bm).contains (.type "NameError") = false := by rw [List.contains_cons, hN]; rfl
  refine codeAny_builtinAt F.entry ?_
  unfold Builtin.«BaseException.__new__»
  refine wpAt_bind ?_
  show wpAt _ _ _ (stack >>= _) _ _ _
  refine wpAt_bind (wpAt_stack fun p below => wpAt_of_wpAny ?_)
  wp_walk
  refine wpAt_of_wpAny ?_
  rw [F.owner]
  repeat (first | with_reducible refine wpAny_madeHere_exc F.canon hC ?_ | with_reducible refine wpAny_loadPart_at hC ?_ | (with_reducible refine wpAny_isSubtype_exc hC ?_; first | rw [hcB] | rw [hcA] | rw [hcN]) | wp_step)
  show R _ _
  rw [Heap.size_push]
  exact hq
theorem type_callX (F : ExcBaseFacts B newId initId bmB) (hB : bm.contains (.type B) = true) (hA : bm.contains (.type "AttributeError") = false) (hN : bm.contains (.type "NameError") = false) {rest : List Value} {fI : Addr} {Q : Fin → Shared → Prop}
    (hC : h.get? C = some (excClassObj nm q C N bs bm hdct sn sub ab col dd k0 k1 k2 k3 k5 newId))
    (hi : W.Looks (model prog w) h (typeLookup (.ref C) "__init__") (some (.ref fI))) (hb : ∀ self, W.Looks (model prog w) h (bindSpecial (.ref fI) self) (.ref fI, [self])) (hrest : rest.length ≤ sizeLine)
    (hq : codeAny (model prog w) A (.call (.ref fI) ⟨.ref (h.objs.size + 1) :: rest, []⟩)
      (fun r s' => match r with | .ok (.ret v) => v = .none ∧ Q (.done (.ret (.ref (h.objs.size + 1)))) s' | .ok _ => False | .error e => E e s')
      ⟨(h.push (W.kdv_tup rest)).push (excO C h.objs.size), g, d, t, os⟩) :
    wpAny (model prog w) A (Builtin.«type.__call__» ⟨.ref C :: rest, []⟩) Q E ⟨h, g, d, t, os⟩ := by
  repeat (first | with_reducible refine wpAny_loadPart_at hC ?_ | with_reducible refine wpAny_madeBy_exc hC ?_ | wp_step)
  refine codeAny_call_builtin_code (Code.quiet_builtin _ F.quiet) (check_newX F hB hC ?_)
  refine newX F hB hA hN hC ?_ hrest
  show wpAny _ _ _ _ _ _
  have k : ∀ b o, h.get? b = some o → ((h.push (W.kdv_tup rest)).push (excO C h.objs.size)).get? b = some o := fun b o e => Heap.get?_push_of_some _ (Heap.get?_push_of_some _ e)
  have hC₁ := k _ _ hC
  have hget : ((h.push (W.kdv_tup rest)).push (excO C h.objs.size)).get? (h.objs.size + 1) = some (excO C h.objs.size) := by heap_get
  have hcC : (Value.ref C :: bm).contains (.ref C) = true := by simp
  have i1 := hi.keeps k
  have b1 := (hb (.ref (h.objs.size + 1))).keeps k
  unfold isInstance
  repeat (first | with_reducible refine wpAny_loadPart_at hget ?_ | (with_reducible refine wpAny_isSubtype_exc hC₁ ?_; rw [hcC]) | wp_step)
  show wpAny _ _ (typeLookup (.ref C) _) _ _ _
  refine i1.at ?_
  refine wpAny_holding (wpAny_bind (b1.at ?_))
  refine wpAny_bind (wpAny_call (codeAny_mono hq fun r s' z => ?_))
  rcases r with e | (v | _ | _ | _) <;> first | exact z | exact z.elim | skip
  obtain ⟨rfl, z⟩ := z
  first
    | exact wpAny_pure (wpAny_pure z)
    | (wp_walk; exact z)
theorem callX (F : ExcBaseFacts B newId initId bmB) (hB : bm.contains (.type B) = true) (hA : bm.contains (.type "AttributeError") = false) (hN : bm.contains (.type "NameError") = false) {rest : List Value} {fI : Addr}
    (hC : h.get? C = some (excClassObj nm q C N bs bm hdct sn sub ab col dd k0 k1 k2 k3 k5 newId))
    (hi : W.Looks (model prog w) h (typeLookup (.ref C) "__init__") (some (.ref fI))) (hb : ∀ self, W.Looks (model prog w) h (bindSpecial (.ref fI) self) (.ref fI, [self])) (hrest : rest.length ≤ sizeLine)
    (hq : codeAny (model prog w) (A.under (.builtin "type.__call__" ⟨.ref C :: rest, []⟩)) (.call (.ref fI) ⟨.ref (h.objs.size + 1) :: rest, []⟩) (W.InitBack (h.objs.size + 1) R)
      ⟨(h.push (W.kdv_tup rest)).push (excO C h.objs.size), g, d, t, os⟩) :
    codeAny (model prog w) A (.call (.ref C) ⟨rest, []⟩) R ⟨h, g, d, t, os⟩ := by
  have f1 := tc_lookup
  have f2 := tc_bind (.ref C)
  have hTy : (⟨h, g, d, t, os⟩ : Shared).TypeIs (.ref C) "type" := ⟨_, hC, rfl⟩
  refine codeAny_of_tree ?_
  show wpAny _ _ (callAny (.ref C) _) _ _ _
  repeat (any_goals (first | assumption | with_reducible refine wpAny_loadPart_at hC ?_ | wp_step))
  refine ⟨rfl, ?_⟩
  refine codeAny_call_builtin_at (Code.quiet_builtin _ (by decide +kernel)) entry_typeCall (wpAny_check_type_call_sub hC (type_callX F hB hA hN hC hi hb hrest ?_))
  refine codeAny_mono hq fun r s' z => ?_
  rcases r with e | (v | _ | _ | _) <;> exact z
theorem callB (b : Bool) (hbm : refsX b bm = true) {rest : List Value} {fI : Addr}
    (hC : h.get? C = some (excClassObj nm q C N bs bm hdct sn sub ab col dd k0 k1 k2 k3 k5 (newIdX b)))
    (hi : W.Looks (model prog w) h (typeLookup (.ref C) "__init__") (some (.ref fI))) (hb : ∀ self, W.Looks (model prog w) h (bindSpecial (.ref fI) self) (.ref fI, [self])) (hrest : rest.length ≤ sizeLine)
    (hq : codeAny (model prog w) (A.under (.builtin "type.__call__" ⟨.ref C :: rest, []⟩)) (.call (.ref fI) ⟨.ref (h.objs.size + 1) :: rest, []⟩) (W.InitBack (h.objs.size + 1) R)
      ⟨(h.push (W.kdv_tup rest)).push (excO C h.objs.size), g, d, t, os⟩) :
    codeAny (model prog w) A (.call (.ref C) ⟨rest, []⟩) R ⟨h, g, d, t, os⟩ := by
  cases b with
  | false => exact callX F.excBase_ValueError ((refsX_contains false _ _ hbm).trans (by decide +kernel)) ((refsX_contains false _ _ hbm).trans (by decide +kernel)) ((refsX_contains false _ _ hbm).trans (by decide +kernel)) hC hi hb hrest hq
  | true => exact callX F.excBase_LookupError ((refsX_contains true _ _ hbm).trans (by decide +kernel)) ((refsX_contains true _ _ hbm).trans (by decide +kernel)) ((refsX_contains true _ _ hbm).trans (by decide +kernel)) hC hi hb hrest hq
end

/-! ### super().__init__(..): the built-in one -/
theorem kxs_KeyError : KxsFacts "KeyError" "KeyError.__init__" := ⟨by show builtinType _ = _; rw [builtinType_eq_fast]; kernel_rfl, by first | kernel_rfl | rfl⟩
theorem kxsX (b : Bool) : KxsFacts (baseX b) (initIdX b) := by
  cases b with
  | false => exact kxs_ValueError
  | true => exact kxs_KeyError
section
variable {M : Model} {A : Around} {E : Value → Shared → Prop} {h : Heap} {g : Array GenState} {d : Drawn} {t : Nat} {os : OsState}
variable {nm q : Str} {C N : Addr} {bs bm bmB : List Value} {hdct : Bool} {sn : List Str} {sub : List Value} {ab : Bool} {col : Option Bool} {dd : Option Addr} {k0 k1 k2 k3 k5 : Option Value} {newId cls initId : String}
theorem check_bX {e : Addr} {oe : Obj} {rest : List Value} {Q : Unit → Shared → Prop} (nS : (cls != "*") = true) (iK : builtinKind initId = some .slot) (iR : Manifest.signature? initId = some ⟨.positional, "*", cls, .self, [⟨"args", .varPos, false⟩]⟩)
    (hC : h.get? C = some (excClassObj nm q C N bs bm hdct sn sub ab col dd k0 k1 k2 k3 k5 newId)) (he : h.get? e = some oe) (hcls : oe.cls = .ref C) (hq : Q () ⟨h, g, d, t, os⟩) : wpAny M A (checkBoundCall initId ⟨.ref e :: rest, []⟩) Q E ⟨h, g, d, t, os⟩ := by
  have hshort := nS
  simp only [checkBoundCall, iK, iR]
  repeat (first | (with_reducible refine wpAny_loadPart_at he ?_; rw [hcls]) | with_reducible refine wpAny_loadPart_at hC ?_ | wp_step)
  refine wpAny_onRaise ?_
  rw [show ∀ (a b : String) (n : Nat), Bind.check ⟨.positional, "*", cls, .self, [⟨"args", .varPos, false⟩]⟩ a b n (List.map (fun x => x.fst) ({ pos := Value.ref e :: rest } : Args).kw) = pure () from
    fun a b n => check_star_args _ _ _ _ _ _]
  exact wpAny_pure hq
end
section
variable {prog : Program} {w : World} {A : Around} {E : Value → Shared → Prop} {h : Heap} {g : Array GenState} {d : Drawn} {t : Nat} {os : OsState}
variable {nm q : Str} {C N : Addr} {bs bm : List Value} {hdct : Bool} {sn : List Str} {sub : List Value} {ab : Bool} {col : Option Bool} {dd : Option Addr} {k0 k1 k2 k3 k5 : Option Value} {newId : String}
theorem super_callG {initId cls : String} {u e t0 : Addr} {rest : List Value} {Q : Value → Shared → Prop} (nS : (cls != "*") = true) (iK : builtinKind initId = some .slot) (iR : Manifest.signature? initId = some ⟨.positional, "*", cls, .self, [⟨"args", .varPos, false⟩]⟩)
    (pl : plainId initId = true) (en : entryFor table initId = some Builtin.«BaseException.__init__»)
    (hC : h.get? C = some (excClassObj nm q C N bs bm hdct sn sub ab col dd k0 k1 k2 k3 k5 newId)) (he : h.get? e = some (excO C t0)) (hu : h.get? u = some (kxs_mw initId e)) (hrest : rest.length ≤ sizeLine)
    (hq : ∀ h' t1, (∀ b o, b ≠ e → h.get? b = some o → h'.get? b = some o) → h'.get? e = some (excO C t1) → Q .none ⟨h', g, d, t, os⟩) :
    wpAny (model prog w) A (call (.ref u) rest) Q E ⟨h, g, d, t, os⟩ := by
  refine wpAny_call (codeAny_of_tree ?_)
  show wpAny _ A.in1 (callAny (.ref u) ⟨rest, []⟩) _ _ _
  simp only [callAny]
  refine wpAny_bind (wpAny_load hu ?_)
  simp only [kxs_mw, show (Value.type "method-wrapper" == Value.type "method" || Value.type "method-wrapper" == Value.type "builtin_function_or_method" || Value.type "method-wrapper" == Value.type "method-wrapper") = true by decide, if_true]
  refine W.KFB.if_so (by decide) ?_
  refine wpAny_bind (check_bX nS iK iR hC he rfl ?_)
  refine wpAny_bind (wpAny_pure (wpAny_pure ?_))
  refine ⟨plainId_quiet pl _, codeAny_builtin en ?_⟩
  rw [Around.under_plainId pl _]
  exact exc_init_tree (cls := .ref C) (t0 := t0) (dv := none) (c2 := .none) (c3 := .none) (b4 := .bool false) he hrest fun h' k e' _ => hq h' _ k e'
theorem super_call (b : Bool) {u e t0 : Addr} {rest : List Value} {Q : Value → Shared → Prop}
    (hC : h.get? C = some (excClassObj nm q C N bs bm hdct sn sub ab col dd k0 k1 k2 k3 k5 newId)) (he : h.get? e = some (excO C t0)) (hu : h.get? u = some (kxs_mw (initIdX b) e)) (hrest : rest.length ≤ sizeLine)
    (hq : ∀ h' t1, (∀ b o, b ≠ e → h.get? b = some o → h'.get? b = some o) → h'.get? e = some (excO C t1) → Q .none ⟨h', g, d, t, os⟩) :
    wpAny (model prog w) A (call (.ref u) rest) Q E ⟨h, g, d, t, os⟩ := by
  cases b with
  | false =>
    rw [show initIdX false = "ValueError.__init__" from rfl] at hu
    exact super_callG F.excBase_ValueError.noStar F.excBase_ValueError.initKind F.excBase_ValueError.initRow F.excBase_ValueError.init.plain F.excBase_ValueError.initEntry hC he hu hrest hq
  | true =>
    rw [show initIdX true = "KeyError.__init__" from rfl] at hu
    exact super_callG excClass_KeyError.notStar excClass_KeyError.initKind excClass_KeyError.initSig excClass_KeyError.init.plain excClass_KeyError.initEntry hC he hu hrest hq
end
end ZEX
end PySem

set_option Elab.async false
set_option linter.all false
set_option maxRecDepth 100000
set_option maxHeartbeats 4000000
namespace PySem
namespace ZEX
open PySem.W PySem.Calls PyProof.Rows PySem.HandSPX
section
open Builtin Builtin.ObjectAttr
variable {prog : Program} {w : World} {A : Around} {E : Value → Shared → Prop} {R : Result → Shared → Prop} {hp : Heap} {g : Array GenState} {d : Drawn} {t : Nat} {os : OsState}
/-- self.name = v on an exception of the family: the walk to the own dict -/
theorem osaX {K : W.Frag} {b : Bool} {name : Str} {tk : Tok} {v : Value} {x C : Addr} {ox : Obj} {od : Option Obj} {cd : ClassData}
    (X : K.In hp) (I : W.InstAt hp x ox C od) (hcd : W.clsIn K C = some cd) (hm : refsX b cd.mro = true) (ha : W.findIn K (.ref C) name = some none)
    (hq : wpAny (model prog w) A.in1 (storeInOwnDict (.ref x) (.ref C) (.str name tk) name v false)
      (fun fin s' => match fin with | .done f => R (.ok f) s' | .again c' => c'.quiet = true ∧ codeAny (model prog w) A c' R s') (fun e s' => R (.error e) s') ⟨hp, g, d, t, os⟩) :
    codeAny (model prog w) A (.call (.builtin "object.__setattr__") ⟨[.ref x, .str name tk, v], []⟩) R ⟨hp, g, d, t, os⟩ := by
  have SF := F.store_object
  have ne := refsX_ne b hm
  have hob : cd.mro.contains (.type "object") = true := (refsX_contains b "object" _ hm).trans (by cases b <;> decide +kernel)
  have sub : W.Looks (model prog w) hp (isInstance (.ref x) (.type "object")) true := I.type.andThen (W.looks_mroIn X (by unfold W.mroIn; rw [hcd, Option.bind_some, if_neg (by rw [ne]; decide), hob]))
  refine codeAny_call_builtin SF.slot.plain SF.entry (@W.check_slot (model prog w) _ _ ⟨hp, g, d, t, os⟩ "object.__setattr__" "object" "__setattr__" (.ref x) [.str name tk, v] [] _ SF.kind SF.split sub (SF.args (.ref x) (.str name tk) v) ?_)
  have hmr : W.Looks (model prog w) hp (mroOf (.ref C)) cd.mro := (W.looks_clsIn X hcd).andThen .now
  have L3 : W.Looks (model prog w) hp (storeTaker? none) none := .now
  rw [W.osa_eq, refuse_eq]
  refine wpAny_bind (wpAny_bind (I.type.at (wpAny_bind (hmr.at ?_))))
  rw [refsX_pass b _ _ hm]
  refine wpAny_pure (wpAny_bind (I.type.at (wpAny_bind ((W.looks_findIn X ha).at (wpAny_bind (L3.at ?_))))))
  exact hq
theorem osaX_new {K : W.Frag} {b : Bool} {name : Str} {tk : Tok} {v : Value} {x C : Addr} {fv : Array Value} {cd : ClassData}
    (X : K.In hp) (hx : hp.get? x = some { cls := .ref C, data := .fields fv }) (hcd : W.clsIn K C = some cd) (hm : refsX b cd.mro = true) (hh : cd.hasDict = true) (ha : W.findIn K (.ref C) name = some none)
    (hq : ∀ h' tk' dx, (∀ b o, b ≠ x → hp.get? b = some o → h'.get? b = some o) → hp.objs.size ≤ dx → dx ≠ x → h'.get? x = some { cls := .ref C, dict := some dx, data := .fields fv } →
      h'.Ns1 dx (fun y => if y = name then some v else none) → R (.ok (.ret .none)) ⟨h', g, d, tk', os⟩) :
    codeAny (model prog w) A (.call (.builtin "object.__setattr__") ⟨[.ref x, .str name tk, v], []⟩) R ⟨hp, g, d, t, os⟩ := by
  have I : W.InstAt hp x { cls := .ref C, data := .fields fv } C none := ⟨hx, rfl, rfl, trivial⟩
  have hxs : x ≠ hp.objs.size := Nat.ne_of_lt (Heap.lt_size hx)
  refine osaX X I hcd hm ha ?_
  have hcls : W.Looks (model prog w) hp (classData C) cd := W.looks_clsIn X hcd
  obtain ⟨nm, bs, mro, ns, qn, hd, sn, sb, ab, col, del⟩ := cd
  dsimp only at hh
  subst hh
  unfold storeInOwnDict ownDictForStores
  repeat (first | with_reducible refine HandSPX.store_in_new ?_ ?_ | with_reducible refine wpAny_loadPart_at hx ?_ | with_reducible refine hcls.at ?_ | wp_step)
  · exact ⟨_, #[], _, (Heap.get?_update_ne _ _ _ _ hxs.symm).trans (Heap.get?_push_at rfl rfl), rfl, fun e he => absurd he (by simp), fun _ => rfl⟩
  · intro h' tk' hn' hs
    have hx₁ : (hp.push { cls := .type "dict", data := .dict #[] }).get? x = some { cls := .ref C, data := .fields fv } := Heap.get?_push_of_some _ hx
    refine hq h' tk' hp.objs.size (fun b o hb ho => ?_) (Nat.le_refl _) hxs.symm ?_ hn'
    · exact (hs.2 b (Nat.ne_of_lt (Heap.lt_size ho))).trans ((Heap.get?_update_ne _ _ _ _ hb).trans (Heap.get?_push_of_some _ ho))
    · exact (hs.2 x hxs).trans (Heap.get?_update_self _ hx₁ rfl)
theorem osaX_old {K : W.Frag} {b : Bool} {name : Str} {tk : Tok} {v : Value} {x C dx : Addr} {fv : Array Value} {cd : ClassData} {m0 : Str → Option Value} {nl : List Str}
    (X : K.In hp) (hx : hp.get? x = some { cls := .ref C, dict := some dx, data := .fields fv }) (hns : hp.Ns1 dx m0) (hw : Within m0 nl) (hz : nl.length ≤ 1000) (hcd : W.clsIn K C = some cd) (hm : refsX b cd.mro = true) (hh : cd.hasDict = true)
    (ha : W.findIn K (.ref C) name = some none)
    (hq : ∀ h' tk', (∀ b o, b ≠ dx → hp.get? b = some o → h'.get? b = some o) → h'.Ns1 dx (fun y => if y = name then some v else m0 y) → R (.ok (.ret .none)) ⟨h', g, d, tk', os⟩) :
    codeAny (model prog w) A (.call (.builtin "object.__setattr__") ⟨[.ref x, .str name tk, v], []⟩) R ⟨hp, g, d, t, os⟩ := by
  obtain ⟨oD, esD, epD, hoD, hdD, _⟩ := hns.count hw
  have I : W.InstAt hp x { cls := .ref C, dict := some dx, data := .fields fv } C (some oD) := ⟨hx, rfl, rfl, hoD⟩
  refine osaX X I hcd hm ha ?_
  have hcls : W.Looks (model prog w) hp (classData C) cd := W.looks_clsIn X hcd
  obtain ⟨nm, bs, mro, ns, qn, hd, sn, sb, ab, col, del⟩ := cd
  dsimp only at hh
  subst hh
  unfold storeInOwnDict ownDictForStores
  repeat (first | with_reducible refine OEX.store_in_old hns hw hz ?_ | with_reducible refine wpAny_loadPart_at hx ?_ | with_reducible refine hcls.at ?_ | wp_step)
  intro h' tk' hn' hs
  exact hq h' tk' (fun b o hb ho => (hs.2 b hb).trans ho) hn'
end
/-! ### e.__class__, C.__name__ -/
section
variable {prog : Program} {w : World} {A : Around} {E : Value → Shared → Prop} {s : Shared} {K : Frag} {x C : Addr} {ox : Obj} {od : Option Obj}
theorem class_getE {gt : Option Value} {expr : Bool} {Q : Value → Shared → Prop} (X : K.In s.heap) (I : InstAt s.heap x ox C od) (hga : findIn K (.ref C) "__getattribute__" = some (some (.builtin "BaseException.__getattribute__"))) (hgt : findIn K (.ref C) "__getattr__" = some gt)
    (hsub : subIn K (.ref C) (.type "BaseException") = some true) (hf : findObj K C od "__class__" = some (.bind (.builtin "getset_descriptor.__get__") (.builtin "object.__class__"))) (hm : mroIn K C (.type "object") = some true)
    (h : Q (.ref C) { s with toks := s.toks + 1 }) : wpAny (model prog w) A (getAttr (.ref x) "__class__" expr) Q E s := by
  obtain ⟨hp, g, d, t, os⟩ := s
  have L0 := I.type (M := model prog w)
  have L1 := looks_findIn (M := model prog w) X hga
  have L2 := looks_findIn (M := model prog w) X hgt
  have L3 := looks_find (M := model prog w) X I hf
  have sub : Looks (model prog w) hp (isInstance (.ref x) (.type "BaseException")) true := L0.andThen (looks_subIn X hsub)
  have hx0 : (expr && onTheHeap (Value.builtin "BaseException.__getattribute__")) = false := by cases expr <;> rfl
  have hx2 : (Value.builtin "BaseException.__getattribute__" == Value.builtin "object.__getattribute__") = false := by decide +kernel
  have hx1 : (onTheHeap (Value.ref C) && Value.builtin "BaseException.__getattribute__" == Value.builtin "object.__getattribute__") = false := by rw [hx2]; rfl
  unfold getAttr getAttrBy
  refine wpAny_bind (wpAny_mkText (wpAny_holding (wpAny_bind (L0.at (wpAny_bind (L1.at ?_))))))
  show wpAny _ _ (if (onTheHeap (Value.ref C) && Value.builtin "BaseException.__getattribute__" == Value.builtin "object.__getattribute__") = true then _ else _) _ _ _
  rw [hx1, if_neg Bool.false_ne_true]
  unfold getAttrByItsOwn hookBefore
  refine wpAny_bind ?_
  rw [if_pos (show onTheHeap (Value.ref C) = true from rfl)]
  refine L2.at ?_
  refine wpAny_bind (wpAny_attempt (wpAny_holding ?_))
  unfold callGetattribute
  rw [hx0, if_neg Bool.false_ne_true]
  unfold boundAndCalled
  rw [PySem.F.excAttr_ValueError.ga.bind (.ref x)]
  refine wpAny_bind (wpAny_pure ?_)
  show wpAny _ _ (call (.builtin "BaseException.__getattribute__") [.ref x, .str "__class__" t]) _ _ _
  refine wpAny_call (codeAny_call_builtin PySem.F.excAttr_ValueError.ga.plain PySem.F.entry_bexc_ga ?_)
  refine @PySem.W.check_slot (model prog w) _ _ ⟨hp, g, d, t + 1, os⟩ "BaseException.__getattribute__" "BaseException" "__getattribute__" (.ref x) [.str "__class__" t] [] _ (by decide +kernel) (by decide +kernel) sub (PySem.F.args_bexc_ga (.ref x) (.str "__class__" t)) ?_
  unfold Builtin.«object.__getattribute__»
  refine wpAny_bind (wpAny_of_eq (a := ((Value.ref x : Value), [Value.str "__class__" t])) (by first | rfl | (simp only [slotArgs]; rfl)) ?_)
  refine wpAny_bind (wpAny_pure (wpAny_bind (L0.at (wpAny_bind (L3.at ?_)))))
  refine wpAny_bind (wpAny_holding (wpAny_call (class_get (s := ⟨hp, g, d, t + 1, os⟩) (ox := ox) (od := od) X I hm ?_)))
  refine wpAny_pure ?_
  show wpAny _ _ (handedOut (.ref C)) _ _ _
  rw [handedOut_of (show handedIn (.ref C) = true from rfl)]
  first | exact wpAny_pure h | exact wpAny_pure (wpAny_pure h)
end
section
open Builtin Builtin.ObjectAttr Builtin.Getset_descriptor
variable {prog : Program} {w : World} {A : Around} {E : Value → Shared → Prop} {s : Shared} {K : Frag} {C : Addr} {R : Result → Shared → Prop}
/-- what stands in a class's place of its name -/
def nameIn (K : Frag) (C : Addr) : Option Value := match K.lookup C with
  | some o => (o.slots[2]?).join
  | none => none
theorem name_get {tp v : Value} (X : K.In s.heap) (ht : typeIn K (.ref C) = some (.type "type")) (hn : nameIn K C = some v) (h : R (.ok (.ret v)) s) :
    codeAny (model prog w) A (.call (.builtin "getset_descriptor.__get__") ⟨[.builtin "type.__name__", .ref C, tp], []⟩) R s := by
  obtain ⟨o, ho, hs⟩ : ∃ o, K.lookup C = some o ∧ (o.slots[2]?).join = some v := by
    unfold nameIn at hn
    split at hn
    · rename_i o e
      exact ⟨o, e, hn⟩
    · cases hn
  have hC := X _ _ ho
  obtain ⟨hh, g, dr, t, os⟩ := s
  have L0 : Looks (model prog w) hh (typeOf (.ref C)) (.type "type") := looks_typeIn X ht
  have L1 : Looks (model prog w) hh (isSubtype (.type "type") (.type "type")) true := Looks.of_pure (by rw [isSubtype_type]; kernel_rfl)
  refine codeAny_call_builtin KF.slot_gs.plain KF.entry_gs (KF.slot_gs.check _ _ _ _ _ _ _ _ ktyn_type (KF.args_gs _ _ _) ?_)
  unfold Builtin.«getset_descriptor.__get__» descrGet
  rw [dga_obj]
  refine wpAny_bind (wpAny_pure ?_)
  unfold descrGetter descrCheckInstance descrNameAndClass isInstance
  simp only [ktyn_owner]
  repeat lk
  refine ⟨Code.quiet_builtin _ (by decide +kernel), codeAny_builtin ktyn_entry ?_⟩
  unfold Builtin.«type.__name__» keptObject slotAt
  dsimp only
  refine wpAny_bind (wpAny_bind (wpAny_loadPart hC (wpAny_pure ?_)))
  rw [hs]
  exact wpAny_pure h
theorem cls_name {expr : Bool} {v : Value} {Q : Value → Shared → Prop} (X : K.In s.heap) (ho : nsIn K cStatics "thirdparty.any" = some none) (ht : typeIn K (.ref C) = some (.type "type"))
    (e : findCls K (.ref C) (.type "type") "__name__" = some (.get (.builtin "getset_descriptor.__get__") (.builtin "type.__name__") (.ref C) (.type "type"))) (hn : nameIn K C = some v) (hh : handedIn v = true)
    (h : ∀ u, Q v { s with toks := u }) : wpAny (model prog w) A (getAttr (.ref C) "__name__" expr) Q E s := by
  have hg : findIn K (.type "type") "__getattribute__" = some (some (.builtin "type.__getattribute__")) := type_tga
  refine cls_open X (looks_opaque X ho) (looks_typeIn X ht) hg (looks_hook X (r := none) (by rfl)) (by show subIn K _ _ = _; rfl) e ?_
  show wpAny _ _ (do ret (← holding [Value.builtin "type.__name__"] (call (.builtin "getset_descriptor.__get__") [.builtin "type.__name__", .ref C, .type "type"]))) _ _ _
  refine wpAny_bind (wpAny_holding (wpAny_call (name_get (s := { s with toks := s.toks + 1 }) X ht hn ?_)))
  exact wpAny_pure (handed_on hh (h _))
end
end ZEX
end PySem

set_option Elab.async false
set_option linter.all false
set_option maxRecDepth 100000
set_option maxHeartbeats 4000000
namespace L2
open PySem PySem.Spec PySem.Calls PyProof.Rows NdefX ClX
/-- what the written part says of an own exception class of the family b -/
structure OxC (K : PySem.W.Frag) (b : Bool) (C : Addr) : Prop where
  cls : ∃ nm q N bs bm sn sub ab col dd k0 k1 k2 k3 k5, K.lookup C = some (excClassObj nm q C N bs bm true sn sub ab col dd k0 k1 k2 k3 k5 (PySem.ZEX.newIdX b)) ∧ PySem.ZEX.refsX b bm = true
  sa : PySem.W.findIn K (.ref C) "__setattr__" = some (some (.builtin "object.__setattr__"))
  exC : PySem.W.subIn K (.ref C) (.type "BaseException") = some true
  tyC : PySem.W.typeIn K (.ref C) = some (.type "type")
  kC : PySem.W.keepIn K (.ref C) = true
/-- what of it its own name wants -/
structure NmC (K : PySem.W.Frag) (C : Addr) (nm : Str) : Prop where
  ga : PySem.W.findIn K (.ref C) "__getattribute__" = some (some (.builtin "BaseException.__getattribute__"))
  gg : PySem.W.findIn K (.ref C) "__getattr__" = some none
  exC : PySem.W.subIn K (.ref C) (.type "BaseException") = some true
  ic : PySem.W.isClsIn K C = true
  ca : PySem.W.findIn K (.ref C) "__class__" = some (some (.builtin "object.__class__"))
  sp : PySem.W.specialIn K (.builtin "object.__class__") "__get__" = some (some (.builtin "getset_descriptor.__get__"))
  tk : PySem.W.takesIn K (.builtin "object.__class__") = some true
  ob : PySem.W.mroIn K C (.type "object") = some true
  st : PySem.W.nsIn K cStatics "thirdparty.any" = some none
  ty : PySem.W.typeIn K (.ref C) = some (.type "type")
  cn : PySem.W.findCls K (.ref C) (.type "type") "__name__" = some (.get (.builtin "getset_descriptor.__get__") (.builtin "type.__name__") (.ref C) (.type "type"))
  nm : ∃ t, PySem.ZEX.nameIn K C = some (.str nm t)
section
variable {X : Cx} {pins : List (Addr × Obj)} {σ : St} {H : Hp} {s : Shared} {a C dx : Addr} {b : Bool} {f : Str} {y : V} {u : Value} {fs : List (Str × V)} {Q : Unit → Shared → Prop} {E : Value → Shared → Prop} {A : Around}
/-- self.f = y, the first one -/
theorem ostX_new (T : OxC X.K b C) (I : Inv X pins σ H s) (e : H a = some (exo a C none)) (hno : PySem.W.findIn X.K (.ref C) f = some none) (ry : RelV y u)
    (h : ∀ dx s', H dx = none → dx ≠ a → Inv X pins σ (upd (upd H dx (exd dx [(f, y)])) a (exo a C (some dx))) s' → Q () s') : wpAny (model X.prog X.w) A (setAttr (.ref a) f u) Q E s := by
  obtain ⟨nm, q, N, bs, bm, sn, sub, ab, col, dd, k0, k1, k2, k3, k5, hC, hbm⟩ := T.cls
  have hcl : PySem.W.clsIn X.K C = some { name := nm, bases := bs, mro := .ref C :: bm, ns := N, qualname := q, hasDict := true, slotNames := sn, subclasses := sub, abstract := ab, collection := col, hasDel := false } := by unfold PySem.W.clsIn; rw [hC] <;> rfl
  obtain ⟨t1, ho⟩ := exo_at I.hok e
  obtain ⟨hp, g, d, t, os⟩ := s
  refine PySem.W.set_plain I.kIn (ox := { cls := .ref C, dict := none, data := .fields #[.ref t1, .none, .none, .none, .bool false, .none] }) (od := none) ⟨ho, rfl, rfl, trivial⟩ T.sa ?_
  refine PySem.ZEX.osaX_new (b := b) I.kIn ho hcl (show PySem.ZEX.refsX b (.ref C :: bm) = true from hbm) rfl hno (fun h' tk' dx k dn dne hx hn => ?_)
  have hnd : H dx = none := I.hok.fresh dn
  have nd : ∀ {b : Addr} {o : Obj}, hp.get? b = some o → b ≠ dx := fun {b o} q => Nat.ne_of_lt (Nat.lt_of_lt_of_le (Heap.lt_size q) dn)
  have na : ∀ {b : Addr}, H b = none → b ≠ a := fun {b} n z => by
    rw [z, e] at n
    cases n
  have Un1 : Un X.fs [] H (upd (upd H dx (exd dx [(f, y)])) a (exo a C (some dx))) hp h' := {
    keep := fun b o q n _ _ => k b o (na n) q
    slot := fun b o q n _ _ => ⟨o.slots, k b o (na n) q⟩
    free := fun b o q n _ => by rw [upd_ne (na n), upd_ne (nd q)]; exact n
    there := fun b o q _ => by
      by_cases hb : b = a
      · exact ⟨_, by rw [hb]; exact hx⟩
      · exact ⟨o, k b o hb q⟩
    tups := fun b xs q => by rw [upd_ne (at_ne e q exo_tup), upd_ne (ne_of_none q hnd)]; exact q
    frzs := fun b o v q => by rw [upd_ne (at_ne e q exo_frz), upd_ne (ne_of_none q hnd)]; exact q
    tbls := fun b ps q => ⟨#[], by rw [upd_ne (at_ne e q exo_tbl), upd_ne (ne_of_none q hnd), q]; simp⟩ }
  refine h dx _ hnd dne (I.un (t' := tk') Un1 fun b o q => ?_)
  by_cases hb : b = a
  · subst hb
    rw [upd_same] at q
    cases q
    exact exo_ok hx
  · rw [upd_ne hb] at q
    by_cases hd : b = dx
    · subst hd
      rw [upd_same] at q
      cases q
      exact exd_ok hn (relO_put (fs := []) ry fun g => True.intro)
    · rw [upd_ne hd] at q
      exact (I.hok b o q).stay (fun c v hc z => k c v (by
          rcases hc with hc | hc
          · rw [hc]
            exact hb
          · exact at_ne e hc exo_own) z)
        (fun c hc => by rw [upd_ne (at_ne e hc exo_own), upd_ne (ne_of_none hc hnd)]; exact hc) (fun c xs hc => by rw [upd_ne (at_ne e hc exo_tup), upd_ne (ne_of_none hc hnd)]; exact hc)
/-- self.f = y, a further one -/
theorem ostX_old (T : OxC X.K b C) (I : Inv X pins σ H s) (e : H a = some (exo a C (some dx))) (ed : H dx = some (exd dx fs)) (hl : fs.length ≤ 900) (hno : PySem.W.findIn X.K (.ref C) f = some none) (ry : RelV y u)
    (h : ∀ s', Inv X pins σ (upd H dx (exd dx ((f, y) :: fs))) s' → Q () s') : wpAny (model X.prog X.w) A (setAttr (.ref a) f u) Q E s := by
  obtain ⟨nm, q, N, bs, bm, sn, sub, ab, col, dd, k0, k1, k2, k3, k5, hC, hbm⟩ := T.cls
  have hcl : PySem.W.clsIn X.K C = some { name := nm, bases := bs, mro := .ref C :: bm, ns := N, qualname := q, hasDict := true, slotNames := sn, subclasses := sub, abstract := ab, collection := col, hasDel := false } := by unfold PySem.W.clsIn; rw [hC] <;> rfl
  obtain ⟨t1, ho⟩ := exo_at I.hok e
  obtain ⟨mA, hns, rel⟩ := exd_at I.hok ed
  have hw := within_of rel
  obtain ⟨hp, g, d, t, os⟩ := s
  obtain ⟨oD, _, _, hoD, _, _⟩ := hns.count hw
  refine PySem.W.set_plain I.kIn (ox := { cls := .ref C, dict := some dx, data := .fields #[.ref t1, .none, .none, .none, .bool false, .none] }) (od := some oD) ⟨ho, rfl, rfl, hoD⟩ T.sa ?_
  refine PySem.ZEX.osaX_old (b := b) I.kIn ho hns hw (by rw [List.length_map]; omega) hcl (show PySem.ZEX.refsX b (.ref C :: bm) = true from hbm) rfl hno (fun h' tk' k hn => ?_)
  have hd : ∃ o, h'.get? dx = some o := by
    obtain ⟨o, _, _, e', _⟩ := hn
    exact ⟨o, e'⟩
  exact h _ (I.write (t' := tk') (x := dx) (e := dx) (o := exd dx ((f, y) :: fs)) (by rw [ed]; exact True.intro) (.inl rfl) k hd (exd_ok hn (relO_put ry rel)))
end
/-! ### readings and rules -/
/-- self.f = e -/
def tOsX (K : PySem.W.Frag) (f : Str) (to te : TE) : TS := fun D σ H => te σ H fun y H1 => to σ H1 fun x H2 => ∃ (a C : Addr) (b : Bool), x = .ref a ∧ OxC K b C ∧ PySem.W.findIn K (.ref C) f = some none ∧
  ((H2 a = some (exo a C none) ∧ ∀ dx, H2 dx = none → dx ≠ a → D.nx σ (upd (upd H2 dx (exd dx [(f, y)])) a (exo a C (some dx)))) ∨
    ∃ (dx : Addr) (fs : List (Str × V)), H2 a = some (exo a C (some dx)) ∧ H2 dx = some (exd dx fs) ∧ fs.length ≤ 900 ∧ D.nx σ (upd H2 dx (exd dx ((f, y) :: fs))))
/-- e.__class__.__name__ of an exception that is being made -/
def tCnm (K : PySem.W.Frag) (to : TE) : TE := fun σ H Q => to σ H fun x H1 => ∃ (a C : Addr) (nm : Str), x = .ref a ∧ H1 a = some (exo a C none) ∧ NmC K C nm ∧ Q (.str nm) H1
section
variable {X : Cx} {o e : Expr} {es : List Expr} {to te : TE} {ta : TA} {f : Str} {p p' p1 p2 pos : Pos}
theorem ps_osX (ho : PE X o to) (he : PE X e te) (hs : swapsWith e (some (.Attribute o f p')) pos.line X.env = pure false := by rfl) : PS X (.Assign [.Attribute o f p'] e pos) (tOsX X.K f to te) := by
  refine ⟨fun pins s σ H D I h => ?_⟩
  refine plainObj_wpAny_Assign_Attribute (thn (he.run pins s σ H _ I h) fun v s1 ⟨y, H1, I1, r1, q1⟩ => thn (ho.run pins s1 σ H1 _ I1 q1) fun u s2 ⟨x, H2, I2, r2, a, C, b, ex, T, hno, q⟩ => ?_) hs
  subst ex
  obtain rfl : u = Value.ref a := r2
  rcases q with ⟨ea, q⟩ | ⟨dx, fs, ea, ed, hl, q⟩
  · exact ostX_new T I2 ea hno r1 fun dx s' n ne J => ⟨σ, _, J, q dx n ne⟩
  · exact ostX_old T I2 ea ed hl hno r1 fun s' J => ⟨σ, _, J, q⟩
theorem pe_cnm (ho : PE X o to) (hb1 : attributeBase o "__class__" X.env (eval o X.env) = eval o X.env := by rfl)
    (hb2 : attributeBase (.Attribute o "__class__" p1) "__name__" X.env (eval (.Attribute o "__class__" p1) X.env) = eval (.Attribute o "__class__" p1) X.env := by rfl) :
    PE X (.Attribute (.Attribute o "__class__" p1) "__name__" p2) (tCnm X.K to) := by
  refine ⟨fun pins s σ H Q I h => ?_⟩
  refine attr_of hb2 (attr_of hb1 (thn (ho.run pins s σ H _ I h) fun u s1 ⟨x, H1, I1, r1, a, C, nm, ex, ea, T, q⟩ => ?_))
  subst ex
  obtain rfl : u = Value.ref a := r1
  obtain ⟨t1, hoe⟩ := exo_at I1.hok ea
  have J : PySem.W.InstAt s1.heap a ({ cls := .ref C, dict := none, data := .fields #[.ref t1, .none, .none, .none, .bool false, .none] } : Obj) C none := ⟨hoe, rfl, rfl, trivial⟩
  refine PySem.ZEX.class_getE I1.kIn J T.ga T.gg T.exC (PySem.W.findObj_dataE T.ic T.ca T.sp T.tk) T.ob ?_
  obtain ⟨tn, hn⟩ := T.nm
  refine PySem.ZEX.cls_name (s := { s1 with toks := s1.toks + 1 }) (I1.tok _).kIn T.st T.ty T.cn hn rfl fun u2 => ?_
  exact ⟨.str nm, H1, (I1.tok _).tok _, ⟨tn, rfl⟩, q⟩
end
/-! ### super().__init__(..) as a def's first statement -/
/-- a statement's reading where the running def is known -/
def PAt (X : Cx) (body : List Stmt) (st : Stmt) (t : TS) : Prop := ∀ (pins : List (Addr × Obj)) (s : Shared) (σ : St) (H : Hp) (D : Ends), Inv X pins σ H s → t D σ H → PySem.wpAt (model X.prog X.w) X.A (.func body X.env) (exec st X.env) (SP X pins D) X.xe s
/-- what of the running def super() asks -/
structure SupF (X : Cx) (sf : Str) (i j : Nat) : Prop where
  ks : X.env.kindOf "super" = some .globalImplicit
  kc : X.env.kindOf "__class__" = some .free
  kv : X.env.kindOf sf = some .local
  ni : X.N[i]? = some sf
  nj : X.N[j]? = some "__class__"
  mg : X.mg "super" = none
  fn : ∃ (f : Addr) (oc : Value) (od : Option Addr) (fd : FuncData) (osl : Array (Option Value)) (ar : Arg), X.env.func = some f ∧ X.K.lookup f = some ⟨oc, od, .func fd, osl⟩ ∧ (fd.params.posonlyargs ++ fd.params.args).head? = some ar ∧ ar.arg = sf
  cd : ∃ (cda : Addr) (oc : Value) (od : Option Addr) (vs : Array Value) (osl : Array (Option Value)) (file : Str) (tf : Tok), X.env.code = .ref cda ∧ X.K.lookup cda = some ⟨oc, od, .fields vs, osl⟩ ∧ vs[2]? = some (.str file tf) ∧ ((X.prog.main.file : Str) == file) = true
  top : (X.prog.main.scope.names.lookup ("super" : Str)).isSome = false
/-- what of the classes: the def stands in D, C is the object's -/
structure SupC (K : PySem.W.Frag) (C D : Addr) : Prop where
  st : PySem.W.nsIn K cStatics "thirdparty.any" = some none
  icC : PySem.W.isClsIn K C = true
  icD : PySem.W.isClsIn K D = true
  sub : PySem.W.mroIn K C (.ref D) = some true
section
variable {X : Cx} {pins : List (Addr × Obj)} {σ : St} {H : Hp} {s : Shared}
theorem cls_data {K : PySem.W.Frag} {D : Addr} (h : PySem.W.isClsIn K D = true) {hp : Heap} (X : K.In hp) : ∃ oD cd, hp.get? D = some oD ∧ oD.data = .cls cd ∧ PySem.W.clsIn K D = some cd := by
  have h' : (PySem.W.clsIn K D).isSome = true := h
  obtain ⟨cd, hcd⟩ := Option.isSome_iff_exists.mp h'
  refine (fun q => ?_) hcd
  unfold PySem.W.clsIn at q
  split at q
  · rename_i c d cd' sl ho
    cases q
    exact ⟨_, _, X _ _ ho, rfl, hcd⟩
  · cases q
/-- super() stands, of the object at a -/
theorem sup_base {body : List Stmt} {self : Str} {i j : Nat} {a C D : Addr} {d : Option Addr} {p0 p1 : Pos} {attr : Str} {whole : Sem Value} {Q : Value → Shared → Prop} (S : SupF X self i j) (T : SupC X.K C D) (I : Inv X pins σ H s)
    (hi : σ[i]? = some (some (.ref a))) (hj : σ[j]? = some (some (.ref D))) (ea : H a = some (exo a C d)) (hat : (attr == ("__class__" : Str)) = false)
    (h : ∀ so s', Inv X pins σ H s' → s'.heap.get? so = some (PySem.W.ks_superObj D a C) → Q (.ref so) s') :
    PySem.wpAt (model X.prog X.w) X.A (.func body X.env) (attributeBase (.Call (.Name "super" p0) [] [] p1) attr X.env whole) Q X.xe s := by
  obtain ⟨f, oc, od, fd, osl, ar, ef, lf, hp, rfl⟩ := S.fn
  obtain ⟨cda, occ, odc, vs, oslc, file, tf, ec, lc, hvs, hfile⟩ := S.cd
  obtain ⟨t1, hoe⟩ := exo_at I.hok ea
  obtain ⟨oD, cdD, hD1, hD2, _⟩ := cls_data T.icD I.kIn
  refine ks_wpAt_super_base (env := X.env) S.ks S.kc hat ef (I.kIn _ _ lf) rfl hp ec (I.kIn _ _ lc) rfl hvs hfile S.top ?_
  obtain ⟨mb, h1, h2⟩ := I.mod.blt
  refine PySem.W.ks_loadName_global I.ok.kind S.ks (Calls.loadGlobal_builtin (by rw [I.ok.glob]; exact I.mod.glob.keeps I.bk) S.mg (by rw [I.ok.blt]; exact h1.keeps I.bk) ((h2 _ (by decide)).trans (by decide +kernel)) ⟨rfl, ?_⟩)
  obtain ⟨m, hn, hl⟩ := I.loc
  obtain ⟨u1, r1, l1⟩ := hl j _ _ S.nj hj (.inr (.inr S.kc))
  obtain rfl : u1 = Value.ref D := r1
  obtain ⟨u2, r2, l2⟩ := hl i _ _ S.ni hi (.inl S.kv)
  obtain rfl : u2 = Value.ref a := r2
  rcases l1 with ⟨z, _⟩ | ⟨_, c, hc, hcell⟩
  · rw [S.kc] at z
    cases z
  refine wpAny_loadName_free I.ok.kind S.kc hc hcell ?_
  have hm : m ar.arg = some (.ref a) := by
    rcases l2 with ⟨_, hm⟩ | ⟨z, _⟩
    · exact hm
    · rcases z with z | z <;> rw [S.kv] at z <;> cases z
  refine wpAny_loadName_local I.ok.kind S.kv hn hm ?_
  obtain ⟨hh, g, dr, t, os⟩ := s
  refine ks_wpAny_isType_cls hD1 hD2 ⟨rfl, ?_⟩
  refine ks_wpAny_call_super hD1 hD2 hoe rfl (fun c z => nomatch z) (PySem.W.looks_mroIn I.kIn T.sub) (fun h' e k => ?_)
  exact h _ _ (I.kept (t' := t) k) e
/-- the mro's part -/
theorem sup_mro {K : PySem.W.Frag} {C D : Addr} {name : Str} {v : Option Value} (e : PySem.W.ks_superIn K C D name = some v) : ∃ cd, PySem.W.clsIn K C = some cd ∧ PySem.W.alongIn K name ((cd.mro.dropWhile (· != .ref D)).drop 1) = some v := by
  unfold PySem.W.ks_superIn at e
  obtain ⟨cd, h1, h2⟩ := Option.bind_eq_some_iff.mp e
  exact ⟨cd, h1, h2⟩
theorem looks_mro {K : PySem.W.Frag} {M : Model} {h : Heap} (X : K.In h) {C : Addr} {cd : ClassData} (hc : PySem.W.clsIn K C = some cd) : PySem.W.Looks M h (mroOf (.ref C)) cd.mro := (PySem.W.looks_clsIn X hc).andThen .now
theorem exo_ne {C : Addr} {a : Addr} {d : Option Addr} (I : Inv X pins σ H s) (ea : H a = some (exo a C d)) (hc : PySem.W.isClsIn X.K C = true) : a ≠ C := fun z => by
  obtain ⟨oD, cd, h1, h2, _⟩ := cls_data hc I.kIn
  obtain ⟨t1, hoe⟩ := exo_at I.hok ea
  rw [z, h1] at hoe
  cases hoe
  cases h2
/-- super().__init__(..) where it is the built-in one -/
def tSupB (K : PySem.W.Frag) (i j : Nat) (ta : TA) : TS := fun D σ H => ∃ (a C Dc : Addr) (b : Bool), σ[i]? = some (some (.ref a)) ∧ σ[j]? = some (some (.ref Dc)) ∧ H a = some (exo a C none) ∧ OxC K b C ∧ SupC K C Dc ∧
  PySem.W.ks_superIn K C Dc "__init__" = some (some (.builtin (PySem.ZEX.initIdX b))) ∧ PySem.W.subIn K (.ref C) (.type (PySem.ZEX.baseX b)) = some true ∧
  ta σ H fun vs H1 => vs.length ≤ 1000 ∧ H1 a = some (exo a C none) ∧ D.nx σ H1
theorem ps_supB {body : List Stmt} {self : Str} {i j : Nat} {e : Expr} {es : List Expr} {ta : TA} {p0 p1 p2 p3 p4 : Pos} {pl : Sem Bool} (S : SupF X self i j) (ha : PA X (e :: es) ta)
    (hi : interactive X.env = false := by rfl) (hs : swapsWith (.Call (.Attribute (.Call (.Name "super" p0) [] [] p1) "__init__" p2) (e :: es) [] p3) none p4.line X.env = pure false := by rfl)
    (he : eval (.Call (.Attribute (.Call (.Name "super" p0) [] [] p1) "__init__" p2) (e :: es) [] p3) X.env = (do
      let ov ← attributeBase (.Call (.Name "super" p0) [] [] p1) "__init__" X.env (eval (.Call (.Name "super" p0) [] [] p1) X.env)
      standAt p2.atName
      let (f, first) ← holding [ov] (getMethod ov "__init__" pl)
      callWith p3 f first (backTo p3 (starEach (e :: es) X.env)) []) := by rfl)
    (hst : starEach (e :: es) X.env = (false, eval e X.env) :: starEach es X.env := by rfl) (hpl : (backTo p3 (starEach es X.env)).any (·.1) = false := by rfl) :
    PAt X body (.Expr (.Call (.Attribute (.Call (.Name "super" p0) [] [] p1) "__init__" p2) (e :: es) [] p3) p4) (tSupB X.K i j ta) := by
  intro pins s σ H D I ⟨a, C, Dc, b, h1, h2, ea, T, TC, hm, hB, h⟩
  refine ks_wpAt_Expr_any ?_ hi hs
  refine ks_wpAt_MethodCall (pl := pl) ?_ he
  refine sup_base S TC I h1 h2 ea (by decide) fun so s1 I1 hso => ?_
  obtain ⟨cd, hc, hal⟩ := sup_mro hm
  obtain ⟨t1, hoe⟩ := exo_at I1.hok ea
  have J1 : PySem.W.InstAt s1.heap a ({ cls := .ref C, dict := none, data := .fields #[.ref t1, .none, .none, .none, .bool false, .none] } : Obj) C none := ⟨hoe, rfl, rfl, trivial⟩
  have hI : PySem.W.Looks (model X.prog X.w) s1.heap (isInstance (.ref a) (.type (PySem.ZEX.baseX b))) true := J1.type.andThen (PySem.W.looks_subIn I1.kIn hB)
  obtain ⟨hh, g, dr, t, os⟩ := s1
  refine PySem.W.kxs_getMethod (PySem.ZEX.kxsX b) hso (PySem.W.looks_opaque I1.kIn TC.st) (looks_mro I1.kIn hc) rfl I1.kIn hal hI (exo_ne I1 ea TC.icC) (by decide) ?_
  have I2 : Inv X ((hh.objs.size, PySem.W.kxs_mw (PySem.ZEX.initIdX b) a) :: pins) σ H ⟨hh.push (PySem.W.kxs_mw (PySem.ZEX.initIdX b) a), g, dr, t + 1, os⟩ :=
    pin_new (t' := t + 1) I1 (fun _ _ z => Heap.get?_push_of_some _ z) (Nat.le_refl _) (Heap.get?_push_size hh rfl) (fun v z => nomatch z)
  show wpAny _ _ (callWith p3 (.ref hh.objs.size) [] (backTo p3 (starEach (e :: es) X.env)) []) _ _ _
  have hrun := ha.run p3 _ _ σ H _ I2 h
  rw [hst] at hrun ⊢
  refine PySem.W.kxs_callWith (i := PySem.ZEX.initIdX b) (x := a) (by show (false || (backTo p3 (starEach es X.env)).any (·.1)) = false; rw [hpl]; rfl) ?_
  refine evalArgs_plain (thn hrun fun us s3 ⟨vs, H1, I3, rv, hz, ea3, q⟩ => ⟨pin_at I3, ?_⟩)
  obtain ⟨nm, qn, N, bs, bm, sn, sub, ab, col, dd, k0, k1, k2, k3, k5, hC, hbm⟩ := T.cls
  obtain ⟨t3, hoe3⟩ := exo_at I3.hok ea3
  obtain ⟨h3, g3, d3, tk3, os3⟩ := s3
  have hlen : us.length ≤ sizeLine := by
    rw [← Paired.length rv, sizeLine_eq]
    omega
  refine PySem.ZEX.super_call b (I3.kIn _ _ hC) hoe3 (pin_at I3) hlen fun h' t4 k hx => ?_
  have J := I3.write (t' := tk3) (x := a) (e := a) (o := exo a C none) (by rw [ea3]; exact True.intro) (.inl rfl) k ⟨_, hx⟩ (exo_ok hx)
  have eu : upd H1 a (exo a C none) = H1 := by
    funext b
    by_cases hb : b = a
    · rw [hb, upd_same, ea3]
    · rw [upd_ne hb]
  rw [eu] at J
  exact ⟨σ, H1, unpin J, q⟩
/-- super().__init__(..) where it is an own one -/
def tSupO (K : PySem.W.Frag) (i j : Nat) (f2 : Addr) (sp : Sp) (ta : TA) : TS := fun D σ H => ∃ (a C Dc : Addr), σ[i]? = some (some (.ref a)) ∧ σ[j]? = some (some (.ref Dc)) ∧ H a = some (exo a C none) ∧ SupC K C Dc ∧
  PySem.W.ks_superIn K C Dc "__init__" = some (some (.ref f2)) ∧ ta σ H fun vs H1 => sp (.ref a :: vs) H1 (fun _ H2 => D.nx σ H2) (fun _ _ _ => False)
theorem ps_supO {body : List Stmt} {self : Str} {i j : Nat} {e : Expr} {es : List Expr} {ta : TA} {p0 p1 p2 p3 p4 : Pos} {pl : Sem Bool} {CX : CXT} {k : Nat} {f2 : Addr} {sp : Sp} (S : SupF X self i j)
    (F : FnR X.prog X.w X.K X.mg X.base CX k f2 sp) (hr : Room k X.A) (hx : Passes CX X (fun _ _ _ => False)) (tf : PySem.W.typeIn X.K (.ref f2) = some (.type "function")) (ff : PySem.W.fnIn X.K f2 = true) (ha : PA X (e :: es) ta)
    (hi : interactive X.env = false := by rfl) (hs : swapsWith (.Call (.Attribute (.Call (.Name "super" p0) [] [] p1) "__init__" p2) (e :: es) [] p3) none p4.line X.env = pure false := by rfl)
    (he : eval (.Call (.Attribute (.Call (.Name "super" p0) [] [] p1) "__init__" p2) (e :: es) [] p3) X.env = (do
      let ov ← attributeBase (.Call (.Name "super" p0) [] [] p1) "__init__" X.env (eval (.Call (.Name "super" p0) [] [] p1) X.env)
      standAt p2.atName
      let (f, first) ← holding [ov] (getMethod ov "__init__" pl)
      callWith p3 f first (backTo p3 (starEach (e :: es) X.env)) []) := by rfl)
    (hst : starEach (e :: es) X.env = (false, eval e X.env) :: starEach es X.env := by rfl) (hpl : (backTo p3 (starEach es X.env)).any (·.1) = false := by rfl) :
    PAt X body (.Expr (.Call (.Attribute (.Call (.Name "super" p0) [] [] p1) "__init__" p2) (e :: es) [] p3) p4) (tSupO X.K i j f2 sp ta) := by
  intro pins s σ H D I ⟨a, C, Dc, h1, h2, ea, TC, hm, h⟩
  refine ks_wpAt_Expr_any ?_ hi hs
  refine ks_wpAt_MethodCall (pl := pl) ?_ he
  refine sup_base S TC I h1 h2 ea (by decide) fun so s1 I1 hso => ?_
  obtain ⟨cd, hc, hal⟩ := sup_mro hm
  obtain ⟨of, hof, hofc⟩ : ∃ of, s1.heap.get? f2 = some of ∧ of.cls = .type "function" := by
    have tf' : (X.K.lookup f2).map (·.cls) = some (.type "function") := tf
    cases z : X.K.lookup f2 with
    | none => rw [z] at tf'; cases tf'
    | some of => rw [z] at tf'; exact ⟨of, I1.kIn _ _ z, Option.some.inj tf'⟩
  have hb := base_none I1 (Nat.le_refl _)
  obtain ⟨hh, g, dr, t, os⟩ := s1
  refine ks_wpAny_getMethod_super hso (PySem.W.looks_opaque I1.kIn TC.st) (looks_mro I1.kIn hc) rfl I1.kIn hal hof hofc (exo_ne I1 ea TC.icC) (by decide) ?_
  have I2 : Inv X ((hh.objs.size, PySem.W.methodObj (.ref f2) (.ref a)) :: pins) σ H ⟨hh.push (PySem.W.methodObj (.ref f2) (.ref a)), g, dr, t + 1, os⟩ :=
    pin_new (t' := t + 1) I1 (fun _ _ z => Heap.get?_push_of_some _ z) (Nat.le_refl _) (Heap.get?_push_size hh rfl) (fun v z => nomatch z)
  show wpAny _ _ (callWith p3 (.ref hh.objs.size) [] (backTo p3 (starEach (e :: es) X.env)) []) _ _ _
  refine callwith_cm (C := a) (g := f2) I2 hb ff (thn (ha.run p3 _ _ σ H _ I2 h) fun us s3 ⟨vs, H1, I3, rv, q⟩ => ⟨⟨pin_at I3, I3.kIn⟩, ?_⟩) hst hpl
  have z := run_cm F hr hx I3 rv q
  exact thn z fun u s4 ⟨v, H2, I4, _, q4⟩ => ⟨σ, H2, I4, q4⟩
end
end L2

set_option Elab.async false
set_option linter.all false
set_option maxRecDepth 100000
set_option maxHeartbeats 4000000
namespace L2
open PySem PySem.Spec PySem.Calls PyProof.Rows NdefX ClX
/-! ### a method that says super(): its text, where it stands -/
def nfS (st : Stmt) (x qual : Str) (cc cda : Addr) : NF := ⟨x, qual, defArgs st, defBody st, defScope st, [("__class__", cc)], cda⟩
structure FunS (P : Program) (K : PySem.W.Frag) (mg : Str → Option Value) (x qual : Str) (st : Stmt) (f : Addr) (fd : FuncData) (cda cc Dc : Addr) : Prop where
  ex : ∃ (oc : Value) (od : Option Addr) (kV doc pm : Value) (an : Option Addr) (ct : Value) (osl : Array (Option Value)),
    fd = PySem.W.ksFn x qual (defArgs st) (defBody st) (defScope st) .none kV doc pm an (.ref cda) ct cc ∧ K.lookup f = some ⟨oc, od, .func fd, osl⟩ ∧ PySem.W.codeIn K (.ref cda) qual = true
  cell : ∃ (oc : Value) (od : Option Addr) (osl : Array (Option Value)), K.lookup cc = some ⟨oc, od, .cell (some (.ref Dc)), osl⟩
  code : ∃ (oc : Value) (od : Option Addr) (vs : Array Value) (osl : Array (Option Value)) (file : Str) (tf : Tok), K.lookup cda = some ⟨oc, od, .fields vs, osl⟩ ∧ vs[2]? = some (.str file tf) ∧ ((P.main.file : Str) == file) = true
  kp : PySem.W.keepIn K (.ref f) = true
  ty : PySem.W.typeIn K (.ref f) = some (.type "function")
  fn : PySem.W.fnIn K f = true
  top : (P.main.scope.names.lookup ("super" : Str)).isSome = false
  mg : mg "super" = none
section
variable {CX : CXT} {P : Program} {w : World} {K : PySem.W.Frag} {mg : Str → Option Value} {base : Heap} {N ps : List Str} {x qual : Str} {st : Stmt} {f cda cc Dc : Addr} {fd : FuncData} {A : Around} {outer : List Env} {s : Shared} {H : Hp} {E : XK} {k : Nat} {sp : Sp}
theorem FunS.sup (FS : FunS P K mg x qual st f fd cda cc Dc) {sf : Str} {i j : Nat} (h1 : (defScope st).names.lookup ("super" : Str) = some .globalImplicit) (h2 : (defScope st).names.lookup ("__class__" : Str) = some .free) (h3 : (defScope st).names.lookup sf = some .local)
    (hp : (((defArgs st).posonlyargs ++ (defArgs st).args).head?).map (·.arg) = some sf) (ni : N[i]? = some sf) (nj : N[j]? = some "__class__") : SupF (ncx CX P w K mg base N (nfS st x qual cc cda) f A outer s H E) sf i j := by
  obtain ⟨oc, od, kV, doc, pm, an, ct, osl, rfl, lk, _⟩ := FS.ex
  obtain ⟨ar, ha, he⟩ := Option.map_eq_some_iff.mp hp
  obtain ⟨occ, odc, vs, oslc, file, tf, lc, hv, hf⟩ := FS.code
  exact ⟨h1, h2, h3, ni, nj, FS.mg, ⟨f, oc, od, _, osl, ar, rfl, lk, ha, he⟩, ⟨cda, occ, odc, vs, oslc, file, tf, rfl, lc, hv, hf⟩, FS.top⟩
theorem FunS.binds (FS : FunS P K mg x qual st f fd cda cc Dc)
    (h : ∀ (kV doc pm : Value) (an : Option Addr) (ct : Value) (us : List Value), us.length = ps.length → bindArgs (PySem.W.ksFn x qual (defArgs st) (defBody st) (defScope st) .none kV doc pm an (.ref cda) ct cc) ⟨us, []⟩ = pure (ps.zip us)) : Binds K fd ps [] := by
  obtain ⟨oc, od, kV, doc, pm, an, ct, osl, rfl, lk, _⟩ := FS.ex
  exact .all (h kV doc pm an ct)
/-- THE RULE: such a method by its body, the first statement run where the def is known -/
theorem FunS.ok (FS : FunS P K mg x qual st f fd cda cc Dc) {st0 : Stmt} {rest : List Stmt} (hst : defBody st = st0 :: rest) (S : NScope N ps ["__class__"] (defScope st)) (len : ∀ vs H Q E, sp vs H Q E → vs.length = ps.length)
    (hbody : ∀ (A : Around) (outer : List Env) (s : Shared) (H : Hp) (vs : List V) (Q : VK) (E : XK), Room k (A.deeper (envF (nfS st x qual cc cda) f s.heap.objs.size)) → sp vs H Q E →
      ∃ t0 t1, PAt (ncx CX P w K mg base N (nfS st x qual cc cda) f A outer s H E) (st0 :: rest) st0 t0 ∧ PSs (ncx CX P w K mg base N (nfS st x qual cc cda) f A outer s H E) rest t1 ∧
        t0 { nx := fun σ H' => t1 { nx := fun _ H' => Q .non H', rt := Q } σ H', rt := Q } (startF N vs [some (.ref Dc)]) H) : FnOk P w K mg base CX (k + 1) f fd ps sp := by
  obtain ⟨oc, od, kV, doc, pm, an, ct, osl, rfl, lk, hcd⟩ := FS.ex
  obtain ⟨occ, odc, oslc, lc⟩ := FS.cell
  refine ⟨len, fun A outer s H args us vs Q E hr e0 hb r hsp => ?_⟩
  have hl := len _ _ _ _ hsp
  have KX : K.In s.heap := e0.mod.kin.keeps fun b o e => (e0.bs b o e).1
  have lim : s.heap.NoLimit := e0.mod.nolimit.keeps fun b o e => (e0.bs b o e).1
  have hcc : H cc = none := (e0.bs cc _ (e0.mod.kin _ _ lc)).2
  have C : CellsAt [(("__class__" : Str), cc)] ["__class__"] [some (.ref Dc)] s.heap H := by
    refine ⟨rfl, fun y c e => ?_, fun y z c e1 e2 => ?_, fun i y e => ?_⟩
    · have e' : ([(("__class__" : Str), cc)] : List (Str × Addr)).lookup y = some c := e
      rw [List.lookup_cons] at e'
      split at e'
      · cases e'
        exact ⟨hcc, some (.ref Dc), _, KX _ _ lc, rfl⟩
      · cases e'
    · have f1 := PySem.mem_of_lookup e1
      have f2 := PySem.mem_of_lookup e2
      rw [List.mem_singleton] at f1 f2
      cases f1
      cases f2
      rfl
    · have hi : i = 0 ∧ y = "__class__" := by
        cases i with
        | zero =>
          cases e
          exact ⟨rfl, rfl⟩
        | succ i => simp at e
      obtain ⟨rfl, rfl⟩ := hi
      refine ⟨cc, by simp [List.lookup], fun v ev => ?_⟩
      cases ev
      exact ⟨.ref Dc, rfl, _, KX _ _ lc, rfl⟩
  refine ks_codeAny_call_defAt (fd := PySem.W.ksFn x qual (defArgs st) (defBody st) (defScope st) .none kV doc pm an (.ref cda) ct cc) (body := defBody st) (binds := ps.zip us) hr.depth (KX _ _ lk) rfl lim (PySem.W.codeRec_of KX hcd) rfl hb S.nocell
    (fun y hy => S.par y.1 (List.of_mem_zip (show (y.1, y.2) ∈ ps.zip us from hy)).1) (fun h₁ hns kp => ?_) S.co S.gen S.kind
  show PySem.wpAt _ (A.deeper (envF (nfS st x qual cc cda) f s.heap.objs.size)) (.func (defBody st) (envF (nfS st x qual cc cda) f s.heap.objs.size)) (execs (defBody st) (envF (nfS st x qual cc cda) f s.heap.objs.size)) _ _ _
  obtain ⟨t0, t1, h0, h1, hq⟩ := hbody A outer s H vs Q E (hr.deeper _) hsp
  have I : Inv (ncx CX P w K mg base N (nfS st x qual cc cda) f A outer s H E) [] (startF N vs [some (.ref Dc)]) H { s with heap := h₁, toks := s.toks + (ps.zip us).length } := inv_startN (F := nfS st x qual cc cda) S hr.hd e0 hl r C hns kp
  have fin : ∀ {s' : Shared} {σ' : L2.St} {H' : Hp} {v : V} {u : Value}, Inv (ncx CX P w K mg base N (nfS st x qual cc cda) f A outer s H E) [] σ' H' s' → L2.RelV v u → Q v H' → CE outer P w H s Q u s' :=
    fun {s' σ' H' v u} J rv q => ⟨v, H', J.os, J.bare, J.base, J.hok, rv, q⟩
  have key : ∀ (fl : Flow) (s' : Shared), SP (ncx CX P w K mg base N (nfS st x qual cc cda) f A outer s H E) [] { nx := fun _ H' => Q .non H', rt := Q } fl s' → CR CX outer P w H s Q E (.ok (.ret (match fl with | .ret v => v | _ => .none))) s' := fun fl s' hs => by
    cases fl with
    | ret u =>
      obtain ⟨v, σ', H', J, rv, q⟩ := hs
      exact fin J rv q
    | next =>
      obtain ⟨σ', H', J, q⟩ := hs
      exact fin (v := V.non) (u := Value.none) J rfl q
    | brk =>
      obtain ⟨_, _, _, q⟩ := hs
      exact False.elim q
    | cont =>
      obtain ⟨_, _, _, q⟩ := hs
      exact False.elim q
  rw [hst]
  refine ks_wpAt_execs_cons (ks_wpAt_mono (h0 [] _ _ H _ I hq) (fun fl s' hs => ?_) fun e s' hs => hs)
  cases fl with
  | next =>
    obtain ⟨σ', H', J, q⟩ := hs
    exact wpAt_of_wpAny (wpAny_mono (h1.run [] s' σ' H' _ J q) key fun e s' hs => hs)
  | ret u =>
    obtain ⟨v, σ', H', J, rv, q⟩ := hs
    exact fin J rv q
  | brk =>
    obtain ⟨_, _, _, q⟩ := hs
    exact False.elim q
  | cont =>
    obtain ⟨_, _, _, q⟩ := hs
    exact False.elim q
end
/-! ### making such an exception -/
section
variable {X : Cx} {e : Expr} {es : List Expr} {ta : TA} {p pos : Pos}
theorem pmk_ox {CX : CXT} {x : Str} {b : Bool} {C fI : Addr} {k : Nat} {fd : FuncData} {ps : List Str} {sp : Sp} {ds : List Value} {dvs : List V} (T : OxC X.K b C) (iC : PySem.W.findIn X.K (.ref C) "__init__" = some (some (.ref fI))) (tI : PySem.W.typeIn X.K (.ref fI) = some (.type "function"))
    (F1 : FnOk X.prog X.w X.K X.mg X.base CX k fI fd ps sp) (hr : Room (k + 1) X.A) (hb : Binds X.K fd ps ds) (hd : Vals dvs ds) (hx : Passes CX X (fun _ _ _ => False)) (hg : Gl X x) (hm : X.mg x = some (.ref C)) (ha : PA X (e :: es) ta)
    (hdb : (x == ("__debug__" : Str)) = false := by decide) (he : starEach (e :: es) X.env = (false, eval e X.env) :: starEach es X.env := by rfl) (hpl : (backTo pos (starEach es X.env)).any (·.1) = false := by rfl) :
    PMk X (.Call (.Name x p) (e :: es) [] pos) (tMkO C sp dvs ta) := by
  intro pins s σ H Q I h
  obtain ⟨nm, q, N, bs, bm, sn, sub, ab, col, dd, k0, k1, k2, k3, k5, hC, hbm⟩ := T.cls
  refine wpAny_Call_Name_kw (ld_glob I hg hm ?_ hdb)
  refine PySem.W.callWith_K (h₀ := X.base) I.ok.mod.kin T.kC (thn (ha.run pos pins s σ H _ I h) fun us s1 ⟨vs, H1, I1, r1, hz, q1⟩ => ⟨I1.kIn, ?_⟩) he hpl
  show wpAny _ _ (call (.ref C) us) _ _ _
  obtain ⟨hp, g, dr, tk, os⟩ := s1
  have hsz : hp.objs.size ≤ hp.objs.size + 1 := Nat.le_succ _
  have hn : H1 (hp.objs.size + 1) = none := I1.hok.fresh hsz
  have hq := q1 (hp.objs.size + 1) hn
  have kk : ∀ b o, hp.get? b = some o → ((hp.push (PySem.W.kdv_tup us)).push (PySem.HandSPX.excO C hp.objs.size)).get? b = some o := fun b o e => Heap.get?_push_of_some _ (Heap.get?_push_of_some _ e)
  have hget : ((hp.push (PySem.W.kdv_tup us)).push (PySem.HandSPX.excO C hp.objs.size)).get? (hp.objs.size + 1) = some (PySem.HandSPX.excO C hp.objs.size) := by heap_get
  have I2 : Inv X pins σ (upd H1 (hp.objs.size + 1) (exo (hp.objs.size + 1) C none)) ⟨(hp.push (PySem.W.kdv_tup us)).push (PySem.HandSPX.excO C hp.objs.size), g, dr, tk, os⟩ :=
    I1.laid (t' := tk) (a := hp.objs.size + 1) (o := exo (hp.objs.size + 1) C none) (h' := (hp.push (PySem.W.kdv_tup us)).push (PySem.HandSPX.excO C hp.objs.size)) kk hsz (exo_ok hget)
  have r2 : Vals (V.ref (hp.objs.size + 1) :: (vs ++ dvs)) (Value.ref (hp.objs.size + 1) :: (us ++ ds)) := .cons rfl (r1.append hd)
  have hl : (Value.ref (hp.objs.size + 1) :: us ++ ds).length = ps.length := by
    have e := r2.length
    rw [F1.len _ _ _ _ hq] at e
    exact e.symm
  have hus : us.length ≤ sizeLine := by
    rw [← Paired.length r1, sizeLine_eq]
    omega
  refine wpAny_call (PySem.ZEX.callB b hbm (I1.kIn _ _ hC) (PySem.W.looks_findIn I1.kIn iC) (fun self => PySem.W.bind_fn I1.kIn self tI) hus
    (codeAny_mono (F1.run _ X.stack _ _ ⟨Value.ref (hp.objs.size + 1) :: us, []⟩ (Value.ref (hp.objs.size + 1) :: (us ++ ds)) _ _ (fun _ _ _ => False) (hr.make C us []) (I2.env0.make C us []) (hb _ (Value.ref (hp.objs.size + 1) :: us) I2.kIn hl) r2 hq) fun r s' hq' => ?_))
  cases r with
  | error er => exact hx pins σ _ _ er s' I2 hq'
  | ok fl =>
    cases fl with
    | ret u =>
      obtain ⟨v, H2, os2, bare2, un2, hok2, rv, ev, d, fs, ea, ed, hd1, q2⟩ := hq'
      subst ev
      obtain ⟨h2, g2, d2, t2, os'⟩ := s'
      exact ⟨rv, mk_end (raises_own T.exC T.tyC) I1 hsz kk un2 hok2 os2 bare2 ea ed hd1 q2⟩
    | next => exact False.elim hq'
    | brk => exact False.elim hq'
    | cont => exact False.elim hq'
/-- the heap behind the making -/
theorem mk_heap {H : Hp} {a d : Addr} {o : HO} {u : HO} {v : HO} (ha : H a = none) (hd : d ≠ a) : upd (del (upd (upd (upd H a o) d u) a v) a) d w = upd H d w := by
  funext b
  by_cases hb : b = d
  · rw [hb, upd_same, upd_same]
  · rw [upd_ne hb, upd_ne hb]
    by_cases hc : b = a
    · rw [hc, del_same, ha]
    · rw [del_ne hc, upd_ne hc, upd_ne hb, upd_ne hc]
end
/-! ### the promises of the three kinds of __init__ -/
structure PkC (K : PySem.W.Frag) (b : Bool) (Dc C : Addr) (nm : Str) : Prop where
  ox : OxC K b C
  nc : NmC K C nm
  sc : SupC K C Dc
  si : PySem.W.ks_superIn K C Dc "__init__" = some (some (.builtin (PySem.ZEX.initIdX b)))
  sb : PySem.W.subIn K (.ref C) (.type (PySem.ZEX.baseX b)) = some true
  no : PySem.W.findIn K (.ref C) "called" = some none
/-- __init__(self, reason): super().__init__(reason), self.called = .. -/
def spPike (K : PySem.W.Frag) (Dc : Addr) : Sp := fun vs H Q _ => ∃ (a C : Addr) (nm : Str) (v : V), vs = [.ref a, v] ∧ H a = some (exo a C none) ∧ PkC K false Dc C nm ∧
  ∀ dx, H dx = none → dx ≠ a → Q .non (upd (upd H dx (exd dx [("called", .str nm)])) a (exo a C (some dx)))
/-- __init__(self, number): super().__init__(f".."), self.called, self.number -/
def spMiss (K : PySem.W.Frag) (Dc : Addr) : Sp := fun vs H Q _ => ∃ (a C : Addr) (nm : Str) (n : Int), vs = [.ref a, .int n] ∧ H a = some (exo a C none) ∧ PkC K true Dc C nm ∧ PySem.W.findIn K (.ref C) "number" = some none ∧ n.natAbs.log2 < 1920 ∧
  ∀ dx, H dx = none → dx ≠ a → Q .non (upd (upd (upd H dx (exd dx [("called", .str nm)])) a (exo a C (some dx))) dx (exd dx [("number", .int n), ("called", .str nm)]))
/-- __init__(self, n): super().__init__(f"..") of PikeError, self.f = n -/
def spPlace (K : PySem.W.Frag) (Dp Dc : Addr) (fp : Addr) (f : Str) : Sp := fun vs H Q _ => ∃ (a C : Addr) (nm : Str) (n : Int), vs = [.ref a, .int n] ∧ H a = some (exo a C none) ∧ PkC K false Dp C nm ∧ SupC K C Dc ∧
  PySem.W.ks_superIn K C Dc "__init__" = some (some (.ref fp)) ∧ PySem.W.findIn K (.ref C) f = some none ∧ n.natAbs.log2 < 1920 ∧
  ∀ dx, H dx = none → dx ≠ a → Q .non (upd (upd (upd H dx (exd dx [("called", .str nm)])) a (exo a C (some dx))) dx (exd dx [(f, .int n), ("called", .str nm)]))
theorem nameIn_of {K : PySem.W.Frag} {nm q nm2 : Str} {C N : Addr} {bs bm sub : List Value} {hdct : Bool} {sn : List Str} {ab : Bool} {col : Option Bool} {dd : Option Addr} {k0 k1 k2 k3 k5 : Option Value} {newId : String} {t : Tok} (h : K.lookup C = some (excClassObj nm q C N bs bm hdct sn sub ab col dd k0 k1 k2 k3 k5 newId))
    (hk : k2 = some (.str nm2 t)) : PySem.ZEX.nameIn K C = some (.str nm2 t) := by
  unfold PySem.ZEX.nameIn
  rw [h]
  subst hk
  rfl
section
variable {K : PySem.W.Frag} {Dc C : Addr} {nm : Str} {H : Hp} {Q : XK}
/-- the wish behind C(v) -/
abbrev MkQ (C : Addr) (H : Hp) (Q : XK) (a : Addr) : VK := fun v H2 => v = .non ∧ ∃ (d : Addr) (fs : List (Str × V)), H2 a = some (exo a C (some d)) ∧ H2 d = some (exd d fs) ∧ H d = none ∧ Q (.ref C) (some d) (upd (del H2 a) d (.xd fs))
theorem use_pike {v : V} (T : PkC K false Dc C nm) (k : ∀ d, H d = none → Q (.ref C) (some d) (upd H d (.xd [("called", .str nm)]))) :
    [v].length ≤ 1000 ∧ ∀ a, H a = none → spPike K Dc (.ref a :: ([v] ++ [])) (upd H a (exo a C none)) (MkQ C H Q a) (fun _ _ _ => False) := by
  refine ⟨by show 1 ≤ 1000; decide, fun a ha => ⟨a, C, nm, v, rfl, upd_same, T, fun dx hdx hne => ⟨rfl, dx, [("called", .str nm)], upd_same, ?_, ?_, ?_⟩⟩⟩
  · rw [upd_ne hne, upd_same]
  · rw [upd_ne hne] at hdx
    exact hdx
  · rw [mk_heap ha hne]
    rw [upd_ne hne] at hdx
    exact k dx hdx
theorem mk_heap2 {H : Hp} {a d : Addr} {o u v u2 z : HO} (ha : H a = none) (hd : d ≠ a) : upd (del (upd (upd (upd (upd H a o) d u) a v) d u2) a) d z = upd H d z := by
  funext b
  by_cases hb : b = d
  · rw [hb, upd_same, upd_same]
  · rw [upd_ne hb, upd_ne hb]
    by_cases hc : b = a
    · rw [hc, del_same, ha]
    · rw [del_ne hc, upd_ne hb, upd_ne hc, upd_ne hb, upd_ne hc]
theorem use_miss {n : Int} (T : PkC K true Dc C nm) (hno : PySem.W.findIn K (.ref C) "number" = some none) (hz : n.natAbs.log2 < 1920) (k : ∀ d, H d = none → Q (.ref C) (some d) (upd H d (.xd [("number", .int n), ("called", .str nm)]))) :
    [V.int n].length ≤ 1000 ∧ ∀ a, H a = none → spMiss K Dc (.ref a :: ([V.int n] ++ [])) (upd H a (exo a C none)) (MkQ C H Q a) (fun _ _ _ => False) := by
  refine ⟨by show 1 ≤ 1000; decide, fun a ha => ⟨a, C, nm, n, rfl, upd_same, T, hno, hz, fun dx hdx hne => ⟨rfl, dx, [("number", .int n), ("called", .str nm)], ?_, upd_same, ?_, ?_⟩⟩⟩
  · rw [upd_ne hne.symm, upd_same]
  · rw [upd_ne hne] at hdx
    exact hdx
  · rw [mk_heap2 ha hne]
    rw [upd_ne hne] at hdx
    exact k dx hdx
theorem use_place {Dp fp : Addr} {f : Str} {n : Int} (T : PkC K false Dp C nm) (sc : SupC K C Dc) (so : PySem.W.ks_superIn K C Dc "__init__" = some (some (.ref fp))) (hno : PySem.W.findIn K (.ref C) f = some none) (hz : n.natAbs.log2 < 1920)
    (k : ∀ d, H d = none → Q (.ref C) (some d) (upd H d (.xd [(f, .int n), ("called", .str nm)]))) :
    [V.int n].length ≤ 1000 ∧ ∀ a, H a = none → spPlace K Dp Dc fp f (.ref a :: ([V.int n] ++ [])) (upd H a (exo a C none)) (MkQ C H Q a) (fun _ _ _ => False) := by
  refine ⟨by show 1 ≤ 1000; decide, fun a ha => ⟨a, C, nm, n, rfl, upd_same, T, sc, so, hno, hz, fun dx hdx hne => ⟨rfl, dx, [(f, .int n), ("called", .str nm)], ?_, upd_same, ?_, ?_⟩⟩⟩
  · rw [upd_ne hne.symm, upd_same]
  · rw [upd_ne hne] at hdx
    exact hdx
  · rw [mk_heap2 ha hne]
    rw [upd_ne hne] at hdx
    exact k dx hdx
end
theorem log_small {n : Int} (h1 : -(2 ^ 200) ≤ n) (h2 : n ≤ 2 ^ 200) : n.natAbs.log2 < 1920 := by
  have h3 : n.natAbs ≤ 2 ^ 200 := by omega
  by_cases h0 : n.natAbs = 0
  · rw [h0]
    decide
  · rw [Nat.log2_lt h0]
    exact Nat.lt_of_le_of_lt h3 (Nat.pow_lt_pow_right (by decide) (by decide))
end L2

set_option Elab.async false
set_option linter.all false
set_option maxRecDepth 100000
set_option maxHeartbeats 4000000
/-! several except clauses, with names and without -/
namespace L2
open PySem PySem.Spec PySem.Calls PyProof.Rows
abbrev TsX := Addr → Value → Option Addr → TS
/-- what stands behind a suite that had a name -/
abbrev Ends.unnamed (D : Ends) (i : Nat) : Ends := { nx := fun σ H => D.nx (σ.set i none) H, rt := D.rt, bk := fun σ H => D.bk (σ.set i none) H, ct := fun σ H => D.ct (σ.set i none) H }
def wMix (K : PySem.W.Frag) (Wout : WX) (D : Ends) : List (Value × Option Nat × TsX) → WX
  | [] => Wout
  | (c, oi, ts) :: r => fun cls d σ H => ∃ b, PySem.W.exmOne K cls c = some b ∧
      (b = true → ∀ a, H a = none → match oi with | none => ts a cls d D σ H | some i => ts a cls d (D.unnamed i) (σ.set i (some (.ref a))) H) ∧ (b = false → wMix K Wout D r cls d σ H)
/-- an exception that was caught, ahead of the clauses -/
structure Air (X : Cx) (pins : List (Addr × Obj)) (σ : St) (H : Hp) (sI : Shared) (B : Heap) (a : Addr) (cls : Value) (d : Option Addr) (s : Shared) : Prop where
  inv : Inv X pins σ H sI
  nb : ∀ b o, sI.heap.get? b = some o → b ∉ frs X.stack → B.get? b = some o
  up : sI.heap.UpToSlots s.heap
  fl : HandSPX.FlyingZ B (X.env :: X.outer) a (Zc cls d) s.heap
  na : H a = none
  os : s.os = sI.os
  ag : AllBare s.gens
section
variable {X : Cx} {pins : List (Addr × Obj)} {σ : St} {H : Hp} {sI s : Shared} {B : Heap} {a : Addr} {cls : Value} {d : Option Addr} {D : Ends} {Wout : WX}
theorem Air.land (C : Air X pins σ H sI B a cls d s) : Inv X pins σ H s := C.inv.landed C.nb C.fl.1 C.up C.os C.ag
theorem Air.off (C : Air X pins σ H sI B a cls d s) (hf : X.env.frame = some X.env.locals) : a ≠ X.env.locals ∧ a ∉ X.fs := by
  obtain ⟨oe, vs, he, _, hd⟩ := C.fl.there
  have no : a ∉ frs (X.env :: X.outer) := fun hm => by
    obtain ⟨_, o, e, q⟩ := C.fl.2.2.1.mem hm
    cases he.symm.trans e
    exact q _ hd
  exact ⟨fun z => no (List.mem_filterMap.mpr ⟨X.env, List.mem_cons_self, by rw [hf, z]⟩), fun hm => by
    obtain ⟨e, h1, h2⟩ := List.mem_filterMap.mp hm
    exact no (List.mem_filterMap.mpr ⟨e, List.mem_cons_of_mem _ h1, h2⟩)⟩
/-- in a suite -/
theorem Air.in_ (C : Air X pins σ H sI B a cls d s) (hf : X.env.frame = some X.env.locals) : ∃ oe, Zc cls d oe ∧ (∃ vs, oe.data = .fields vs) ∧ s.heap.get? a = some oe ∧ Inv (X.suite a ((a, oe) :: (X.pn ++ pins))) [] σ H s := by
  obtain ⟨oe, vs, he, hz, hd⟩ := C.fl.there
  exact ⟨oe, hz, ⟨vs, hd⟩, he, C.land.suite he hd C.na (C.off hf).1 (C.off hf).2⟩
/-- no clause is left: it goes on -/
theorem Air.out (C : Air X pins σ H sI B a cls d s) (hs : X.stack = X.env :: X.outer) (hf : X.env.frame = some X.env.locals) (tk : Takes X Wout) (w : Wout cls d σ H) : wpAny (model X.prog X.w) X.A (handleBy (.ref a) X.env []) (SP X pins D) X.xe s := by
  refine wpAny_handleBy_nil ?_
  have fl := C.fl
  obtain ⟨_, _, _, oe, vs, T, oT, ts', he, hz, hd, h1, hr⟩ := id fl
  have go : wpAny (model X.prog X.w) X.A (setFlight (.ref a) X.env.frame) (fun _ s4 => wpAny (model X.prog X.w) X.A (throw (.ref a) : Sem Flow) (SP X pins D) X.xe s4) X.xe s := by
    rw [hf]
    refine HandSPX.setFlight_upZ fl fun h4 hh4 up4 => wpAny_throw (tk _ _ ?_)
    exact ⟨a, B, sI, pins, σ, H, cls, d, rfl, C.inv, C.nb, C.up.trans up4, .inr (.inr (by rw [hs]; exact hh4)), C.na, C.os, C.ag, w⟩
  unfold PySem.passOn
  refine wpAny_bind (wpAny_field he hd h1 ?_)
  rw [if_neg (show ¬ ((Value.ref T == Value.none) = true) from by simp)]
  first
    | exact wpAny_bind (wpAny_pure (wpAny_bind go))
    | exact wpAny_bind go
/-- a clause's test -/
theorem Air.asks (C : Air X pins σ H sI B a cls d s) (hf : X.env.frame = some X.env.locals) {x : Str} {c : Value} {np : Pos} {b : Bool} {R : Bool → Shared → Prop} {E : Value → Shared → Prop} (hc : Names X x c) (hb : PySem.W.exmOne X.K cls c = some b) (k : R b s) :
    wpAny (model X.prog X.w) (X.A.mark (some (.ref a))) (eval (.Name x np) X.env) (fun t s1 => wpAny (model X.prog X.w) (X.A.mark (some (.ref a))) (excMatches (.ref a) t) R E s1) E s := by
  obtain ⟨oe, hz, _, he, S⟩ := C.in_ hf
  have LT : PySem.W.Looks (model X.prog X.w) s.heap (typeOf (.ref a)) cls := fun A Q E s k q => wpAny_typeOf_ref (k _ _ he) (by rw [hz.1]; exact q)
  have LM := PySem.W.exm_one (M := model X.prog X.w) C.land.kIn LT hb
  obtain ⟨hg, hdb, hm | ⟨hm, hv, hn⟩⟩ := hc
  · exact ld_glob (X := X.suite a ((a, oe) :: (X.pn ++ pins))) S hg hm (LM.here k) hdb
  · exact ld_blt (X := X.suite a ((a, oe) :: (X.pn ++ pins))) S hg hm hv (LM.here k) hn hdb
end
inductive HdsM (X : Cx) : List ExceptHandler → List (Value × Option Nat × TsX) → Prop
  | nil : HdsM X [] []
  | cons {x : Str} {c : Value} {ts : TsX} {b₀ : Stmt} {suite : List Stmt} {np p' : Pos} {hds : List ExceptHandler} {l : List (Value × Option Nat × TsX)} : Names X x c →
      (∀ (a : Addr) (oe : Obj) (cls : Value) (d : Option Addr) (pn : List (Addr × Obj)), Zc cls d oe → (∃ vs, oe.data = .fields vs) → PSs (X.suite a ((a, oe) :: pn)) (b₀ :: suite) (ts a cls d)) → HdsM X hds l →
      HdsM X (.ExceptHandler (some (.Name x np)) none (b₀ :: suite) p' :: hds) ((c, none, ts) :: l)
  | as {x n : Str} {c : Value} {i : Nat} {ts : TsX} {b₀ : Stmt} {suite : List Stmt} {np p' : Pos} {hds : List ExceptHandler} {l : List (Value × Option Nat × TsX)} : X.N[i]? = some n → X.env.kindOf n = some .local → Names X x c →
      (∀ (a : Addr) (oe : Obj) (cls : Value) (d : Option Addr) (pn : List (Addr × Obj)), Zc cls d oe → (∃ vs, oe.data = .fields vs) → PSs (X.suite a ((a, oe) :: pn)) (b₀ :: suite) (ts a cls d)) → HdsM X hds l →
      HdsM X (.ExceptHandler (some (.Name x np)) (some n) (b₀ :: suite) p' :: hds) ((c, some i, ts) :: l)
section
variable {X : Cx} {pins : List (Addr × Obj)} {σ : St} {H : Hp} {sI s : Shared} {B : Heap} {a : Addr} {cls : Value} {d : Option Addr} {D : Ends} {Wout : WX}
theorem Air.clauses (C : Air X pins σ H sI B a cls d s) (hs : X.stack = X.env :: X.outer) (hf : X.env.frame = some X.env.locals) (hN : X.N.Nodup) (tk : Takes X Wout) {hds : List ExceptHandler} {l : List (Value × Option Nat × TsX)} (hk : HdsM X hds l) :
    wMix X.K Wout D l cls d σ H → wpAny (model X.prog X.w) X.A (handleBy (.ref a) X.env hds) (SP X pins D) X.xe s := by
  have ok := C.inv.ok
  induction hk with
  | nil => exact fun w => C.out hs hf tk w
  | @cons x c ts b₀ suite np p' hds l hc hsu r ih =>
    rintro ⟨b, hb, hy, hn⟩
    refine wpAny_handleBy_cons (codeAny_handlers_test (C.asks hf hc hb ?_)) (by intro q; cases q)
    cases b with
    | false => exact ih (hn rfl)
    | true =>
      refine codeAny_handlers_suite (HandSPX.lands_againZ C.fl fun h4 fl4 up4 => ?_)
      have C4 : Air X pins σ H sI B a cls d { s with heap := h4 } := ⟨C.inv, C.nb, C.up.trans up4, fl4, C.na, C.os, C.ag⟩
      obtain ⟨oe, hz, hd, _, S⟩ := C4.in_ hf
      refine wpAny_mono ((hsu a oe cls d (X.pn ++ pins) hz hd).run [] _ _ H _ S (hy rfl a C.na)) (fun f s6 q => ?_) fun _ _ z => False.elim z
      cases f with
      | ret u =>
        obtain ⟨v, σ6, H6, S6, r6, q⟩ := q
        exact ⟨v, σ6, H6, S6.unsuite ok, r6, q⟩
      | _ =>
        obtain ⟨σ6, H6, S6, q⟩ := q
        exact ⟨σ6, H6, S6.unsuite ok, q⟩
  | @as x n c i ts b₀ suite np p' hds l hi hl hc hsu r ih =>
    rintro ⟨b, hb, hy, hn⟩
    refine wpAny_handleBy_cons (codeAny_handlers_test (C.asks hf hc hb ?_)) (by intro q; cases q)
    cases b with
    | false => exact ih (hn rfl)
    | true =>
      refine codeAny_handlers_suite_as (HandSPX.lands_againZ C.fl fun h4 fl4 up4 => ?_)
      have C4 : Air X pins σ H sI B a cls d { s with heap := h4 } := ⟨C.inv, C.nb, C.up.trans up4, fl4, C.na, C.os, C.ag⟩
      obtain ⟨oe, hz, hd, _, S⟩ := C4.in_ hf
      refine store_ok (X := X.suite a ((a, oe) :: (X.pn ++ pins))) (v := .ref a) S hN hi (.inl hl) rfl (fun s5 S5 => ?_) (.inr hl)
      refine wpAny_mono ((hsu a oe cls d (X.pn ++ pins) hz hd).run [] s5 _ H _ S5 (hy rfl a C.na)) (fun f s6 q => ?_) fun _ _ z => False.elim z
      cases f with
      | ret u =>
        obtain ⟨v, σ6, H6, S6, r6, q⟩ := q
        exact gone_ok (S6.unsuite ok) hN hi hl fun s7 J7 => ⟨v, _, H6, J7, r6, q⟩
      | _ =>
        obtain ⟨σ6, H6, S6, q⟩ := q
        exact gone_ok (S6.unsuite ok) hN hi hl fun s7 J7 => ⟨_, H6, J7, q⟩
end
section
variable {X : Cx} {body : List Stmt} {h₀ : ExceptHandler} {hds : List ExceptHandler} {l : List (Value × Option Nat × TsX)} {pos : Pos} {tb : WX → TS} {Wout : WX}
theorem ps_try_mix (hs : X.stack = X.env :: X.outer) (hf : X.env.frame = some X.env.locals) (hN : X.N.Nodup) (tk : Takes X Wout)
    (hb : ∀ (W : WX) (pn : List (Addr × Obj)) (xe : Value → Shared → Prop), Takes (X.tr pn xe) W → PassesOwn (model X.prog X.w) X.A X.env xe → PSs (X.tr pn xe) body (tb W))
    (hh : HdsM X (h₀ :: hds) l) : PS X (.Try body (h₀ :: hds) [] [] pos) (fun D σ H => tb (wMix X.K Wout D l) D σ H) := by
  refine ⟨fun pins s σ H D I h => wpAny_Try_except ?_⟩
  have ok := I.ok
  have hfr : X.A.frames = some (X.env :: X.outer) := by rw [ok.frames, hs]
  refine wpAny_mono ((hb (wMix X.K Wout D l) (X.pn ++ pins) (fun e s₁ => wpAny (model X.prog X.w) X.A (noteFrame e X.env) (fun _ s₂ => wpAny (model X.prog X.w) X.A (setFlight e none) (fun _ s₃ =>
    wpAny (model X.prog X.w) X.A (handleBy e X.env (h₀ :: hds)) (SP X pins D) X.xe s₃) X.xe s₂) X.xe s₁) (fun u s' xx => ?_) PassesOwn.looking).run [] s σ H D (I.toTry _) h) (fun f s1 q => ?_) (fun e s1 he => he)
  · obtain ⟨a, B, sI, pins', σ', H', cls, d, rfl, J', nb, up, sky, na, os, ag, w⟩ := xx
    refine Sky.land (outer := X.outer) Zc.steady hfr hf (by rw [← hs]; exact sky) fun h3 fl3 up3 => ?_
    exact Air.clauses (s := { s' with heap := h3 }) ⟨J'.ofTry ok, nb, up.trans up3, fl3, na, os, ag⟩ hs hf hN tk hh w
  · cases f with
    | next =>
      obtain ⟨σ', H', J', q⟩ := q
      exact wpAny_execs_nil ⟨σ', H', J'.ofTry ok, q⟩
    | ret u =>
      obtain ⟨v, σ', H', J', r, q⟩ := q
      exact ⟨v, σ', H', J'.ofTry ok, r, q⟩
    | _ =>
      obtain ⟨σ', H', J', q⟩ := q
      exact ⟨σ', H', J'.ofTry ok, q⟩
end
/-- how the arguments bind where all are given -/
theorem binds_full {K : PySem.W.Frag} {fd : FuncData} {ps : List Str} (h : ∃ ds, Vals [] ds ∧ Binds K fd ps ds) : Binds K fd ps [] := by
  obtain ⟨ds, h1, h2⟩ := h
  cases h1
  exact h2
/-- a def's own wish about exceptions, handed to a def that it calls -/
theorem passes_up {X : Cx} {E : XK} {W : WX} (tk : Takes X W) (h : ∀ cls d σ H, E cls d H → W cls d σ H) : Passes (L2.CX X.prog X.w) X E := passes_call tk h
theorem exm_sub {K : PySem.W.Frag} {S R : Addr} {b : Bool} (h1 : PySem.W.subIn K (.ref S) (.type "BaseException") = some true) (h2 : PySem.W.isClsIn K S = true) (h3 : PySem.W.typeIn K (.ref S) = some (.type "type")) (h4 : PySem.W.subIn K (.ref R) (.ref S) = some b) :
    PySem.W.exmOne K (.ref R) (.ref S) = some b := by
  unfold PySem.W.exmOne
  rw [if_pos (by rw [h1]; rfl)]
  have e2 : ((PySem.W.clsIn K S).isSome && PySem.W.typeIn K (.ref S) == some (.type "type")) = true := by
    have e3 : (PySem.W.clsIn K S).isSome = true := h2
    rw [e3, h3]
    rfl
  show (if ((PySem.W.clsIn K S).isSome && PySem.W.typeIn K (.ref S) == some (.type "type")) = true then PySem.W.subIn K (.ref R) (.ref S) else none) = some b
  rw [if_pos e2, h4]
/-- one of two promises -/
def spX (sp bad : Sp) : Sp := fun vs H Q E => sp vs H Q E ∨ bad vs H Q E
/-- a number out of bounds -/
def spBad (lo hi : Int) (C : Addr) (fs : Int → List (Str × V)) : Sp := fun vs H _ E => ∃ n : Int, vs = [.int n] ∧ ¬ (lo ≤ n ∧ n ≤ hi) ∧ n.natAbs.log2 < 1920 ∧ ∀ d, H d = none → E (.ref C) (some d) (upd H d (.xd (fs n)))
section
variable {X : Cx} {CX : CXT} {k : Nat} {f : Addr} {fd : FuncData} {ps : List Str} {sp : Sp} {ds : List Value} {dvs : List V} {E : St → XK} {x : Str} {p pos : Pos} {e : Expr} {es : List Expr} {t : TA}
def tCallSD (sp : Sp) (dvs : List V) (E : St → XK) (t : TA) : TE := fun σ H Q => t σ H fun vs H1 => sp (vs ++ dvs) H1 Q (E σ)
/-- f(e, ..) in a try, the last arguments left out -/
theorem pe_callSD (F : FnOk X.prog X.w X.K X.mg X.base CX k f fd ps sp) (hr : Room k X.A) (hg : Gl X x) (hm : X.mg x = some (.ref f)) (hk : PySem.W.keepIn X.K (.ref f) = true) (hb : Binds X.K fd ps ds) (hd : Vals dvs ds) (hx : ∀ σ, PassesAt CX X σ (E σ))
    (ha : PA X (e :: es) t) (hdb : (x == ("__debug__" : Str)) = false := by decide) (he : starEach (e :: es) X.env = (false, eval e X.env) :: starEach es X.env := by rfl) (hpl : (backTo pos (starEach es X.env)).any (·.1) = false := by rfl) :
    PE X (.Call (.Name x p) (e :: es) [] pos) (tCallSD sp dvs E t) := by
  refine ⟨fun pins s σ H Q I h => ?_⟩
  refine wpAny_Call_Name_kw (ld_glob I hg hm ?_ hdb)
  refine PySem.W.callWith_K (h₀ := X.base) I.ok.mod.kin hk (thn (ha.run pos pins s σ H _ I h) fun us s1 ⟨vs, H1, I1, r, q⟩ => ⟨I1.kIn, ?_⟩) he hpl
  have r2 : Vals (vs ++ dvs) (us ++ ds) := r.append hd
  have hl : (us ++ ds).length = ps.length := by rw [← r2.length]; exact F.len _ _ _ _ q
  refine wpAny_call (codeAny_mono (F.run X.A X.stack s1 H1 ⟨us, []⟩ (us ++ ds) (vs ++ dvs) Q (E σ) hr I1.env0 (hb s1 us I1.kIn hl) r2 q) fun r s' hq => ?_)
  cases r with
  | error e => exact hx σ pins H1 s1 e s' I1 hq
  | ok fl =>
    cases fl with
    | ret u => exact I1.after hq
    | next => exact False.elim hq
    | brk => exact False.elim hq
    | cont => exact False.elim hq
end
end L2

set_option Elab.async false
set_option linter.all false
set_option maxRecDepth 100000
set_option maxHeartbeats 4000000
/-! enumerate of a tuple from a count on; get of a written dict -/
namespace L2
open PySem PySem.Spec PySem.Calls PyProof.Rows
/-- count and item of the tuple at a, in a new pair each turn -/
def ItC (K : PySem.W.Frag) (a : Addr) (c : Int) : It where
  go i H := ∃ (us : List V) (u : V), SqT K H a us ∧ us[i]? = some u
  yld i H v H' := ∃ p u, v = .ref p ∧ H p = none ∧ H' = upd H p (.tup [.int (c + (i : Nat)), u]) ∧ ∀ us, SqT K H a us → us[i]? = some u
  stop i H := ∃ us : List V, SqT K H a us ∧ us.length = i
def CtSt (a e j : Addr) (c : Int) (i : Nat) (h : Heap) : Prop := (∃ old, IsEnum h e j (c + (i : Int)) old) ∧ h.IsTupleIter j a i ∧ e ≠ j
theorem tupNe {h : Heap} {a j : Addr} {i : Nat} {us : Array Value} (p : h.IsTuple a us) (q : h.IsTupleIter j a i) : a ≠ j := fun z => by
  obtain ⟨o, ho, hc, _⟩ := p
  obtain ⟨o2, ho2, hc2, _⟩ := q
  rw [← z, ho] at ho2
  cases ho2
  rw [hc] at hc2
  injection hc2 with z2
  exact absurd z2 (by decide)
theorem tupNeE {h : Heap} {a e j : Addr} {c : Int} {old : Value} {us : Array Value} (p : h.IsTuple a us) (q : IsEnum h e j c old) : e ≠ a := fun z => by
  obtain ⟨o, ho, hc, _⟩ := p
  have q' : h.get? e = some _ := q
  rw [z, ho] at q'
  cases q'
  injection hc with z2
  exact absurd z2 (by decide)
theorem turn_count {P : Program} {w : World} {K : PySem.W.Frag} {es : List Expr} {n : Nat} {pos : Pos} (a e j : Addr) (c : Int) : Turn P w K (.Tuple es n pos) (ItC K a c) [e, j] e (CtSt a e j c) where
  mem := List.mem_cons_self
  obj := fun i h ⟨⟨old, he⟩, ⟨o, ho, _, hd⟩, _⟩ b hb => by
    have hb : b = e ∨ b = j := by simpa using hb
    rcases hb with rfl | rfl
    · exact ⟨_, he, fun v q => nomatch q⟩
    · exact ⟨o, ho, fun v q => by rw [hd] at q; cases q⟩
  keep := fun i h h' ⟨⟨old, he⟩, hj, ne⟩ k => ⟨⟨old, k e (by simp) _ he⟩, hj.at fun o q => k j (by simp) o q, ne⟩
  item := by
    intro X hP hw hK calm i pins s σ H E I free st go
    subst hP hw hK
    obtain ⟨⟨old, he⟩, hj, ne⟩ := st
    obtain ⟨us, u, hus, hu⟩ := go
    obtain ⟨ws, rv, pt, hz⟩ := I.tuple hus
    have pt' : s.heap.IsTuple a ws.toArray := pt
    obtain ⟨v, hv, ru⟩ := rv.get hu
    have aj := tupNe pt' hj
    have ea := tupNeE pt' he
    have le : e < s.heap.objs.size := Heap.lt_size he
    have lj : j < s.heap.objs.size := by
      obtain ⟨_, q, _⟩ := hj
      exact Heap.lt_size q
    have hi : i < ws.toArray.size := by
      rw [List.size_toArray]
      exact (List.getElem?_eq_some_iff.mp hv).1
    have D := Draws.tuple (prog := X.prog) (w := X.w) (A := X.A.in1) (show X.A.in1.handled = none from I.ok.hd calm) j a aj ws.toArray
    refine wpAny_pyNext_enum_itemC D he ⟨hj, pt'⟩ hi ne (by simpa using ⟨ne, ea⟩) fun x h1 tk hx he1 hj1 hT hsz keep => ?_
    have hxv : x = v := by
      have hx : ws.toArray[i]? = some x := hx
      rw [List.getElem?_toArray, hv] at hx
      exact (Option.some.inj hx).symm
    subst hxv
    refine ⟨_, rfl, wpAny_letOwnedTupleGo_enum (s := { s with heap := h1, toks := tk + 1 }) he1 fun h2 he2 sb => ?_⟩
    have hT2 : h2.get? s.heap.objs.size = some { cls := .type "tuple", data := .seq #[.int (c + (i : Int)) tk, x] } := (sb.2 _ (Nat.ne_of_gt le)).trans hT
    have made : ObjOk X.prog X.w (upd H s.heap.objs.size (.tup [.int (c + (i : Nat)), u])) h2 s.heap.objs.size (.tup [.int (c + (i : Nat)), u]) :=
      ⟨by show 2 ≤ sizeLine; decide, [.int (c + (i : Int)) tk, x], .cons ⟨_, rfl⟩ (.cons ru .nil), ⟨_, hT2, rfl, _, rfl⟩⟩
    have I1 : Inv X pins σ (upd H s.heap.objs.size (.tup [.int (c + (i : Nat)), u])) { s with heap := h2, toks := tk + 1 } :=
      I.turnedNew (ch := [e, j]) (fun b ob hb q => (sb.2 b fun z => hb (by simp [z])).trans (keep b ob (fun z => hb (by simp [z])) (fun z => hb (by simp [z])) q)) free (Nat.le_refl _) made
    refine ⟨.ref s.heap.objs.size, _, I1, rfl, ⟨_, u, rfl, I.hok.fresh (Nat.le_refl _), rfl, fun ys hy => by rw [I.tuple_inj hy hus]; exact hu⟩, ⟨⟨x, ?_⟩, hj1.1.at fun o q => (sb.2 j (Ne.symm ne)).trans q, ne⟩, fun b hb => ?_⟩
    · have e1 : c + ((i + 1 : Nat) : Int) = c + (i : Int) + 1 := by omega
      rw [e1]
      exact he2
    · have lb : b < s.heap.objs.size := by
        have hb : b = e ∨ b = j := by simpa using hb
        rcases hb with q | q <;> rw [q] <;> assumption
      rw [upd_ne (Nat.ne_of_lt lb)]
      exact (free b hb).1
  done := by
    intro X hP hw hK calm i pins s σ H E I free st stop
    subst hP hw hK
    obtain ⟨⟨old, he⟩, hj, ne⟩ := st
    obtain ⟨us, hus, hi⟩ := stop
    obtain ⟨ws, rv, pt, hz⟩ := I.tuple hus
    have pt' : s.heap.IsTuple a ws.toArray := pt
    obtain ⟨f0, f1, f2, f3, f4, f5⟩ := free j (by simp)
    have aj := tupNe pt' hj
    have hi' : i = ws.toArray.size := by
      rw [List.size_toArray, ← rv.length]
      exact hi.symm
    subst hi'
    exact wpAny_pyNext_enum_endD (Draws.tuple (prog := X.prog) (w := X.w) (A := X.A.in1) (show X.A.in1.handled = none from I.ok.hd calm) j a aj ws.toArray) he ⟨hj, pt'⟩ fun h1 kp => ⟨rfl, I.turned (t' := s.toks) (fun b o hb q => kp b o hb q) f0 f1 f3 f4 f5⟩
  self := fun A i s Q E st h => let ⟨⟨_, he⟩, _⟩ := st; wpAny_pyIter_enum he h
def iCnt (K : PySem.W.Frag) (c : Int) (ta : TA) : TI := fun σ H R => ta σ H fun vs H1 => ∃ a, vs = [.ref a] ∧ (∃ us, SqT K H1 a us) ∧ R (ItC K a c) H1
/-- for i, x in enumerate(t, start=c), t a tuple, c written -/
theorem pi_count {X : Cx} {e : Expr} {ta : TA} {c : Int} {p pos tpos : Pos} {es : List Expr} {n : Nat} {kws : List Keyword} (hg : Gl X "enumerate") (hm : X.mg "enumerate" = none) (ha : PA X [e] ta) (hk : PK X kws (tCons (tC (.int c)) tNil)) (hc : -(2 ^ 63) ≤ c ∧ c < 2 ^ 63)
    (he : backTo pos (starEach [e] X.env) = (false, eval e X.env) :: backTo pos (starEach [] X.env) := by rfl) (hp : (backTo pos (starEach [e] X.env)).any (·.1) = false := by rfl)
    (hall : (backToKw pos (keywordEach kws X.env)).all (·.1.isSome) = true := by rfl) (hnone : (backToKw pos (keywordEach kws X.env)).any (·.1.isNone) = false := by rfl) (hks : (backToKw pos (keywordEach kws X.env)).filterMap (·.1) = [Str.ofString "start"] := by rfl) :
    PI X (.Tuple es n tpos) (.Call (.Name "enumerate" p) [e] kws pos) (iCnt X.K c ta) := by
  refine ⟨fun pins s σ H R I h => ?_⟩
  refine wpAny_Call_Name_kw (ld_blt I hg hm boot_enumerate ?_)
  refine Z.callTyS (thn (ha.run pos pins s σ H _ I h) fun us s1 ⟨vs, H1, I1, r1, a, ev, ⟨zs, hz⟩, k⟩ => thn (hk.run pos pins s1 σ H1 (fun vs H2 => vs = [.int c] ∧ H2 = H1) I1 ⟨rfl, rfl⟩) fun ws s2 ⟨zs2, H2, I2, r2, ez, eH⟩ => ?_) he hp hall hnone
  subst ev ez eH
  rw [hks]
  cases r1 with
  | cons ra rr =>
    cases rr
    cases ra
    cases r2 with
    | cons rc rr =>
      cases rr
      obtain ⟨tk, rfl⟩ := rc
      obtain ⟨its, rv, pt, _⟩ := I2.tuple hz
      have pt' : s2.heap.IsTuple a its.toArray := pt
      refine enum_begins_start (begins_tuple a its.toArray) pt' hc.1 hc.2 fun h1 he1 hj hsz kp => wpAny_pyIter_enum he1 ?_
      have I3 : Inv X pins σ H2 { s2 with heap := h1 } := I2.kept (t' := s2.toks) kp
      have e0 : c + ((0 : Nat) : Int) = c := by omega
      refine ⟨s2.heap.objs.size + 1, [s2.heap.objs.size + 1, s2.heap.objs.size], CtSt a (s2.heap.objs.size + 1) s2.heap.objs.size c, _, H2, rfl, I3, turn_count a (s2.heap.objs.size + 1) s2.heap.objs.size c, ⟨⟨.none, by rw [e0]; exact he1⟩, ⟨_, hj, rfl, rfl⟩, Nat.succ_ne_self _⟩, fun b hb => ?_, k⟩
      have le : s2.heap.objs.size ≤ b := by
        have hb : b = s2.heap.objs.size + 1 ∨ b = s2.heap.objs.size := by simpa using hb
        rcases hb with q | q <;> rw [q] <;> first | exact Nat.le_add_right _ _ | exact Nat.le_refl _
      exact I2.fpOk le (I2.hok.fresh le)
theorem walk_count {K : PySem.W.Frag} {a : Addr} {c : Int} {xs : List V} : Walk (ItC K a c) xs.length (fun H => SqT K H a xs) (YPair (fun i => some (.int (c + (i : Nat)))) (fun i => xs[i]?)) := by
  refine ⟨fun i _ hi q => ⟨xs, xs[i], q, by simp [hi]⟩, fun _ q => ⟨xs, q, rfl⟩, fun i H v H' _ q y => ?_⟩
  obtain ⟨p, u, h1, h2, h3, h4⟩ := y
  exact ⟨p, .int (c + (i : Nat)), u, h1, h2, h3, rfl, h4 xs q⟩
theorem s_iCnt {K : PySem.W.Frag} {c : Int} {ta : TA} {σ : St} {H : Hp} {R : It → Hp → Prop} (k : ta σ H fun vs H1 => ∃ a, vs = [.ref a] ∧ (∃ us, SqT K H1 a us) ∧ R (ItC K a c) H1) : iCnt K c ta σ H R := k
/-! get of a written dict -/
/-- a dict that stands in the module, its keys texts -/
def KDic (K : PySem.W.Frag) (w : World) (a : Addr) : Prop := ∃ es n, K.lookup a = some ⟨.type "dict", none, .dict es n, #[]⟩ ∧ PySem.W.KeysLit w.params es.toList ∧ (a == sysModules) = false
def tKGet (K : PySem.W.Frag) (w : World) (td tk : TE) : TE := fun σ H Q => td σ H fun x H1 => ∃ a, x = .ref a ∧ KDic K w a ∧ tk σ H1 fun y H2 => ∃ z, y = .str z ∧ ((∃ v, KDct K w a z v ∧ Q v H2) ∨ (KMiss K w a z ∧ Q .non H2))
theorem pe_kget {X : Cx} {d k : Expr} {td tk : TE} {apos cpos : Pos} (hd : PE X d td) (hk : PE X k tk) (m : M1 X d "get" apos k cpos) : PE X (.Call (.Attribute d "get" apos) [k] [] cpos) (tKGet X.K X.w td tk) := by
  refine ⟨fun pins s σ H Q I h => ?_⟩
  refine wpAny_Call_method m.base m.few m.line PySem.F.plainAttrs_dict PySem.F.slot_dict_get PySem.F.type_dict_get (thn (hd.run pins s σ H _ I h) fun u s1 ⟨x, H1, I1, rx, a, ex, ⟨es, n, hl, hkl, low⟩, q1⟩ => ?_)
  subst ex
  obtain rfl : u = Value.ref a := rx
  have mp := PySem.W.mapOf_K (prog := X.prog) (w := X.w) I1.kIn hl hkl
  refine ⟨mp.typeIs, fun b q => ?_, ?_⟩
  · cases q
    obtain ⟨o, _, _, h1, h2, _⟩ := mp
    exact ⟨o, h1, h2.2.1⟩
  rw [m.trees]
  refine Calls.callWith_builtin rfl (Calls.evalArgs_plain (Calls.spliced_cons (thn (hk.run pins s1 σ H1 _ I1 q1) fun iv s2 ⟨y, H2, I2, ry, z, ey, g⟩ => Calls.spliced_nil ?_)))
  subst ey
  obtain ⟨t, rfl⟩ := (show ∃ t, iv = Value.str z t from ry)
  have mp2 := PySem.W.mapOf_K (prog := X.prog) (w := X.w) I2.kIn hl hkl
  refine call_meetsIn PySem.F.slot_dict_get mp2.typeIs PySem.F.entry_dict_get (PySem.F.args_dict_get_2 _ _) (meets_dict_get (strKind X.prog X.w) a (strKind_is X.prog X.w z t) low) ⟨_, mp2, ?_⟩
  rcases g with ⟨v, ⟨es2, n2, u0, hl2, _, e, ru⟩, q⟩ | ⟨⟨es2, n2, hl2, _, _, e⟩, q⟩
  · rw [PySem.W.find_K hl e]
    exact ⟨v, H2, I2.tok _, ru, q⟩
  · rw [PySem.W.find_K hl e]
    exact ⟨.non, H2, I2.tok _, rfl, q⟩
/-! d.update(e): both tracked, their keys ints and texts -/
def tDUpd (td te : TE) : TE := fun σ H Q => td σ H fun x H1 => ∃ a, x = .ref a ∧ IsD H1 a ∧ te σ H1 fun y H2 => ∃ b kvs more, y = .ref b ∧ a ≠ b ∧ H2 a = some (.dK kvs) ∧ H2 b = some (.dK more) ∧ kvs.length + more.length ≤ 10000 ∧ Q .non (upd H2 a (.dK (mergeK kvs more)))
theorem pe_dupd {X : Cx} {d e : Expr} {td te : TE} {apos cpos : Pos} (hd : PE X d td) (he : PE X e te) (m : M1 X d "update" apos e cpos) : PE X (.Call (.Attribute d "update" apos) [e] [] cpos) (tDUpd td te) := by
  refine ⟨fun pins s σ H Q I h => ?_⟩
  refine wpAny_Call_method m.base m.few m.line PySem.F.plainAttrs_dict PySem.F.slot_dict_update PySem.F.type_dict_update (thn (hd.run pins s σ H _ I h) fun u s1 ⟨x, H1, I1, rx, a, ex, dd, q1⟩ => ?_)
  subst ex
  obtain rfl : u = Value.ref a := rx
  obtain ⟨t1, t2, _⟩ := isD_at I1 dd
  refine ⟨t1, t2, ?_⟩
  rw [m.trees]
  refine Calls.callWith_builtin rfl (Calls.evalArgs_plain (Calls.spliced_cons (thn (he.run pins s1 σ H1 _ I1 q1) fun iv s2 ⟨y, H2, I2, ry, b, kvs, more, ey, ne, ha, hb, hz, q2⟩ => Calls.spliced_nil ?_)))
  subst ey
  obtain rfl : iv = Value.ref b := ry
  obtain ⟨_, lowA, va, ra, da⟩ := dk_of I2.hok ha
  obtain ⟨_, lowB, vb, rb, db⟩ := dk_of I2.hok hb
  have zl : (mergeK kvs more).length ≤ sizeLine := Nat.le_trans (length_mergeK more kvs) (Nat.le_trans hz (by decide))
  refine call_meetsIn PySem.F.slot_dict_update da.typeIs PySem.F.entry_dict_update (PySem.F.args_dict_update_2 _ _) (meets_dict_update (mixKind X.prog X.w) a b ne lowB)
    ⟨va, vb, da, db, by rw [← ra.length, ← rb.length]; exact Nat.le_trans hz (by decide), fun h' da' db' sb => ?_⟩
  have hex : ∃ q, h'.get? a = some q := let ⟨q, _, _, hq, _⟩ := da'; ⟨q, hq⟩
  exact ⟨.non, _, d_write (t' := s2.toks) I2 (by rw [ha]; exact True.intro) sb hex (dk_new zl lowA (rb.merge ra) da'), rfl, q2⟩
theorem s_dupd {td te : TE} {σ : St} {H : Hp} {Q : VK} (k : td σ H fun x H1 => ∃ a, x = .ref a ∧ IsD H1 a ∧ te σ H1 fun y H2 => ∃ b kvs more, y = .ref b ∧ a ≠ b ∧ H2 a = some (.dK kvs) ∧ H2 b = some (.dK more) ∧ kvs.length + more.length ≤ 10000 ∧ Q .non (upd H2 a (.dK (mergeK kvs more)))) : tDUpd td te σ H Q := k
theorem s_kget {K : PySem.W.Frag} {w : World} {td tk : TE} {σ : St} {H : Hp} {Q : VK} (k : td σ H fun x H1 => ∃ a, x = .ref a ∧ KDic K w a ∧ tk σ H1 fun y H2 => ∃ z, y = .str z ∧ ((∃ v, KDct K w a z v ∧ Q v H2) ∨ (KMiss K w a z ∧ Q .non H2))) : tKGet K w td tk σ H Q := k
end L2
namespace Z
open L2 PySem PySem.Spec
section
variable {K : PySem.W.Frag} {nx : L2.St → Hp → Prop} {rt : VK} {ts : TS} {σ : L2.St} {H : Hp} {g : TG} {a : Addr} {c : Int}
theorem l_cnt (xs : List V) (Pv : Nat → L2.St → Hp → Prop) (h0 : Pv 0 σ H) (hG : ∀ i σ H, i ≤ xs.length → Pv i σ H → SqT K H a xs)
    (hs : ∀ (i : Nat) x t σ H H', xs[i]? = some x → Pv i σ H → H t = none → Ex H H' → H' t = some (.tup [.int (c + (i : Nat)), x]) → g (.ref t) σ H' fun σ2 H2 => ts ⟨Pv (i + 1), rt, nx, Pv (i + 1)⟩ σ2 H2) (hd : ∀ σ H, Pv xs.length σ H → nx σ H) :
    ∃ a', [V.ref a] = [.ref a'] ∧ (∃ us, SqT K H a' us) ∧ Loops (ItC K a' c) g ts nx rt σ H :=
  ⟨a, rfl, ⟨xs, hG 0 σ H (Nat.zero_le _) h0⟩, loops_of walk_count Pv h0 hG (fun i x σ H H' hi p y => by
    obtain ⟨t, u, v, rfl, ht, rfl, hx, hy⟩ := y
    cases hx
    exact hs i v t σ H _ hy p ht (Ex.new ht) upd_same) hd⟩
theorem c_cnt {tt : TT} {te : TE} {vs : List Nat} {Q : VK} (xs : List V) (h : SqT K H a xs) (Iv : Addr → Hp → Prop) (R : Addr → Nat → List V → Hp → Prop)
    (h0 : ∀ D H', H D = none → Ex H H' → H' D = some (.lst []) → Iv D H' ∧ R D 0 [] H') (hG : ∀ D H', Iv D H' → SqT K H' a xs)
    (hs : ∀ D (i : Nat) l H1 H2 t x, xs[i]? = some x → Iv D H1 → H1 D = some (.lst l) → l.length ≤ i → R D i l H1 → H1 t = none → Ex H1 H2 → H2 t = some (.tup [.int (c + (i : Nat)), x]) → g (.ref t) (wipe σ vs) H2 fun σ2 H2 => wipe σ2 vs = wipe σ vs ∧ tt σ2 H2 fun b H3 =>
      if b = true then te σ2 H3 fun y H4 => ∃ acc, H4 D = some (.lst acc) ∧ acc.length < sizeLine ∧ Cv Iv R D (i + 1) (upd H4 D (.lst (acc ++ [y]))) else Cv Iv R D (i + 1) H3)
    (hd : ∀ D l H', Iv D H' → H' D = some (.lst l) → l.length ≤ xs.length → R D xs.length l H' → Q (.ref D) H') :
    ∃ a', [V.ref a] = [.ref a'] ∧ (∃ us, SqT K H a' us) ∧ LcW (ItC K a' c) g tt te vs σ H Q :=
  ⟨a, rfl, ⟨xs, h⟩, c_it walk_count Iv R h0 hG (fun D i l H1 x H1' hi a hl hz r y => by
    obtain ⟨t, u, v, rfl, ht, rfl, hx, hy⟩ := y
    cases hx
    exact hs D i l H1 _ t v hy a hl hz r ht (Ex.new ht) upd_same) hd⟩
end
end Z

set_option Elab.async false
set_option linter.all false
set_option maxRecDepth 100000
set_option maxHeartbeats 4000000
/-! a call of what a list of defs holds -/
namespace L2
open PySem PySem.Spec PySem.Calls PyProof.Rows
/-- the def at f keeps sp, at most n deep -/
structure HeldX (P : Program) (w : World) (K : PySem.W.Frag) (mg : Str → Option Value) (base : Heap) (CX : CXT) (n : Nat) (f : Addr) (sp : Sp) : Prop where
  ex : ∃ (k : Nat) (fd : FuncData) (ps : List Str), k ≤ n ∧ FnOk P w K mg base CX k f fd ps sp ∧ PySem.W.keepIn K (.ref f) = true ∧ Binds K fd ps []
def tCallV (S : Addr → Sp → Prop) (E : St → XK) (tf : TE) (t : TA) : TE := fun σ H Q => tf σ H fun x H1 => ∃ f sp, x = .ref f ∧ S f sp ∧ t σ H1 fun vs H2 => sp vs H2 Q (E σ)
theorem call_sub (a b : Expr) (p : Pos) (args : List Expr) (kws : List Keyword) (pos : Pos) (env : Env) : eval (.Call (.Subscript a b p) args kws pos) env = (do
    callWith pos (← eval (.Subscript a b p) env) [] (backTo pos (starEach args env)) (backToKw pos (keywordEach kws env))) := rfl
theorem pe_callV {X : Cx} {CX : CXT} {n : Nat} {S : Addr → Sp → Prop} {E : St → XK} {a b e : Expr} {es : List Expr} {p pos : Pos} {tf : TE} {t : TA} (hf : PE X (.Subscript a b p) tf) (A : ∀ f sp, S f sp → HeldX X.prog X.w X.K X.mg X.base CX n f sp)
    (hr : Room n X.A) (hx : ∀ σ, PassesAt CX X σ (E σ)) (ha : PA X (e :: es) t) (he : starEach (e :: es) X.env = (false, eval e X.env) :: starEach es X.env := by rfl) (hpl : (backTo pos (starEach es X.env)).any (·.1) = false := by rfl) :
    PE X (.Call (.Subscript a b p) (e :: es) [] pos) (tCallV S E tf t) := by
  refine ⟨fun pins s σ H Q I h => ?_⟩
  rw [call_sub]
  refine wpAny_bind (thn (hf.run pins s σ H _ I h) fun u s1 ⟨x, H1, I1, r1, f, sp, ex, hS, q1⟩ => ?_)
  subst ex
  obtain rfl : u = Value.ref f := r1
  obtain ⟨k, fd, ps, hkn, F, hk, hb⟩ := (A f sp hS).ex
  refine PySem.W.callWith_K (h₀ := X.base) I1.ok.mod.kin hk (thn (ha.run pos pins s1 σ H1 _ I1 q1) fun us s2 ⟨vs, H2, I2, r, q⟩ => ⟨I2.kIn, ?_⟩) he hpl
  exact run_fnS F (hr.mono hkn) hb (hx σ) I2 r q
theorem s_callV {S : Addr → Sp → Prop} {E : St → XK} {tf : TE} {t : TA} {σ : St} {H : Hp} {Q : VK} (k : tf σ H fun x H1 => ∃ f sp, x = .ref f ∧ S f sp ∧ t σ H1 fun vs H2 => sp vs H2 Q (E σ)) : tCallV S E tf t σ H Q := k
end L2

set_option Elab.async false
set_option linter.all false
set_option maxRecDepth 100000
set_option maxHeartbeats 2000000
namespace Z
open PySem PySem.Spec PyProof.Rows L2
/-! sorted of a dict whose keys are ints, any number of them -/
def rSortDG : List V → Hp → VK → Prop := fun xs H Q => ∃ (a : Addr) (kvs : List (Key × V)) (ks : List Int), xs = [.ref a] ∧ Rd H a (.dK kvs) ∧ kvs.map (·.1) = ks.map Sum.inl ∧ ks.length ≤ 10000 ∧
    ∀ (ys : List Int) p, ys.Perm ks → ys.Pairwise (· ≤ ·) → H p = none → Q (.ref p) (upd H p (.lst (ys.map V.int)))
theorem cr_sortDG {X : Cx} (calm : X.calm = true) : CallR X (.builtin "sorted") rSortDG := by
  intro pins s σ H xs us Q I r q
  obtain ⟨a, kvs, ks, rfl, hd, hks, few, q⟩ := q
  obtain ⟨u, rfl, rx⟩ := vals1 r
  cases rx
  obtain ⟨z, lo, vs, rel, dd⟩ := dk_rd I.hok hd
  obtain ⟨ep, at_⟩ := dd.dictAt
  have keys : vs.map (·.1) = ks.map Sum.inl := rel.keys.symm.trans hks
  have lv : vs.length = ks.length := by
    have e := congrArg List.length keys
    simpa using e
  refine Calls.call_function_entry kind_sorted plain_sorted entry_sorted (args_sorted1 _) ?_
  unfold Builtin.«sorted»
  refine wpAny_bind (m := checkCount "sorted" 1 1 _) (wpAny_pure ?_)
  refine wpAny_bind (PySem.W.kdu_collect (A := X.A.in1) (PySem.W.kdl_dict (knd := mixKind X.prog X.w) (kvs := vs) (ep := ep) lo) (I.ok.hd calm) at_ (by rw [lv, sizeLine_eq]; omega) fun h' tk acc keep got => ?_)
  have la : acc.toList.length = ks.length := by rw [Array.length_toList, got.1, lv]
  have hI : IntsAre acc.toList ks := ints_each la fun j v e => by
    obtain ⟨k, x, e1, e2⟩ := got.2 j v (by rw [← Array.getElem?_toList]; exact e)
    have e3 : (vs.map (·.1))[j]? = some k := by
      rw [List.getElem?_map, e1]
      rfl
    rw [keys, List.getElem?_map] at e3
    obtain ⟨y, e4, e5⟩ := Option.map_eq_some_iff.mp e3
    subst e5
    rcases keyIs_shape (show keyIs (Sum.inl y) v = true from e2) with ⟨i, t, ek, ev⟩ | ⟨i, t, ek, ev⟩
    · cases ek
      exact ⟨y, t, e4, ev⟩
    · cases ek
  have J : Inv X pins σ H { s with heap := h', toks := tk } := I.kept keep
  refine wpAny_bind (wpAny_newList ?_ (by rw [la, sizeLine_eq]; omega))
  have oL : (h'.push (seqObj "list" acc.toList.toArray 0)).get? h'.objs.size = some (seqObj "list" acc.toList.toArray 0) := Heap.get?_push_size _ rfl
  show wpAny _ _ _ _ _ { s with heap := h'.push (seqObj "list" acc.toList.toArray 0), toks := tk }
  refine wpAny_bind (wpAny_holding (wpAny_call_entry slot_list_sort ⟨_, oL, rfl⟩ entry_list_sort (SrtO.list_sort_ord (s := { s with heap := h'.push (seqObj "list" acc.toList.toArray 0), toks := tk }) SrtO.swo_int oL (by rw [la, sizeLine_eq]; omega) (fun h2 => SrtO.ints_sortable hI h2) fun out h1 h2 => ⟨_, rfl, ?_⟩) (args_list_sort _)))
  obtain ⟨g1, g2, g3⟩ := SrtO.ints_out hI h1 h2
  obtain ⟨e', he'⟩ := sortedHeap_at (vs := acc.toList) (out := out.toArray) oL
  have lz : ((out.map SrtO.iv).map V.int).length ≤ sizeLine := by rw [List.length_map, g2.length_eq, sizeLine_eq]; omega
  refine wpAny_pure ⟨_, rfl, .ref h'.objs.size, upd H h'.objs.size (.lst ((out.map SrtO.iv).map V.int)), J.laid (t' := tk) (fun b u e => ?_) (Nat.le_refl _)
    (show ObjOk X.prog X.w _ _ _ (.lst ((out.map SrtO.iv).map V.int)) from ⟨lz, out, e', vals_of_ints g1, he'⟩), rfl, q _ _ g2 g3 (J.hok.fresh (Nat.le_refl _))⟩
  have lt : b < h'.objs.size := Heap.lt_size e
  rw [sortedHeap_old (Nat.ne_of_lt lt) (by rw [size_push']; exact Nat.lt_succ_of_lt lt)]
  exact Heap.get?_push_of_some _ e
theorem s_sortDG {H : Hp} {Q : VK} {a : Addr} {kvs : List (Key × V)} {ks : List Int} (h : H a = some (.dK kvs)) (hk : kvs.map (·.1) = ks.map Sum.inl) (z : ks.length ≤ 10000) (k : ∀ (ys : List Int) p H', ys.Perm ks → ys.Pairwise (· ≤ ·) → H p = none → Ex H H' → H' p = some (.lst (ys.map V.int)) → Q (.ref p) H') : rSortDG [.ref a] H Q :=
  ⟨a, kvs, ks, rfl, .inl h, hk, z, fun ys p h1 h2 h3 => k ys p _ h1 h2 h3 (Ex.new h3) upd_same⟩
end Z

set_option Elab.async false
set_option linter.all false
set_option maxRecDepth 100000
set_option maxHeartbeats 2000000
namespace Z
open PySem L2
/-! len(o) by the own __len__ -/
section
open PySem.W PyProof.Rows
variable {P : Program} {w : World} {A : Around} {E : Value → Shared → Prop} {s : Shared} {K : Frag} {x C f : Addr} {ox : Obj} {od : Option Obj}
open Builtin in
theorem len_own {Q : Value → Shared → Prop} (X : K.In s.heap) (I : InstAt s.heap x ox C od) (hs : findIn K (.ref C) "__len__" = some (some (.ref f))) (hf : isFn K (.ref f) = true)
    (h : wpAny (model P w) A.in1 (call (.ref f) [.ref x]) (fun v s' => ∃ (n : Int) (t : Tok), v = .int n t ∧ 0 ≤ n ∧ n < 2 ^ 63 ∧ ∀ t2 t3, Q (.int n t2) { s' with toks := t3 }) E s) : wpAny (model P w) A (call (.builtin "len") [.ref x]) Q E s := by
  refine Calls.call_function_entry kind_len plain_len entry_len (args_len1 _) ?_
  unfold Builtin.«len»
  refine wpAny_bind (m := oneArg "len" _) (wpAny_pure ?_)
  refine wpAny_bind (m := callSpecial? (.ref x) (Str.ofString "__len__")) ?_
  simp only [callSpecial?]
  refine wpAny_bind (m := specialOf (.ref x) (Str.ofString "__len__")) (wpAny_bind (I.type.here ((looks_findIn X hs).here ?_)))
  refine wpAny_holding (wpAny_bind ((bind_fn X _ (beq_iff_eq.mp hf)).here ?_))
  refine wpAny_bind (wpAny_mono (show wpAny _ _ (call (.ref f) ([.ref x] ++ [])) _ _ s from h) (fun v s' z => ?_) fun _ _ z => z)
  obtain ⟨n, t, rfl, n0, n1, q⟩ := z
  refine wpAny_pure ?_
  dsimp only
  refine wpAny_bind (wpAny_holding (wpAny_pure ?_))
  refine wpAny_bind (wpAny_letGo ?_)
  show wpAny _ _ (if n < 0 then _ else _) _ _ _
  rw [if_neg (by omega)]
  show wpAny _ _ (if n ≥ 2 ^ 63 then _ else _) _ _ _
  rw [if_neg (by omega)]
  exact wpAny_bind (wpAny_mkInt (wpAny_pure ⟨_, rfl, q _ _⟩))
end
def rLenO (C : Addr) (sp : Sp) (E : XK) : List V → Hp → VK → Prop := fun vs H Q => ∃ a dx fs, vs = [V.ref a] ∧ H a = some (.ins C dx fs) ∧ sp [.ref a] H (fun v H' => ∃ n : Nat, v = .int (n : Nat) ∧ n ≤ 1000000 ∧ Q v H') E
section
variable {X : Cx} {n : Nat} {CX : CXT} {f : Addr} {fd : FuncData} {ps : List Str} {sp : Sp} {E : XK} {C : Addr}
theorem cr_lenO (F : FnOk X.prog X.w X.K X.mg X.base CX n f fd ps sp) (hr : Room (n + 1) X.A) (hb : Binds X.K fd ps []) (hx : Passes CX X E) (hs : PySem.W.findIn X.K (.ref C) "__len__" = some (some (.ref f))) (hf : PySem.W.isFn X.K (.ref f) = true) : CallR X (.builtin "len") (rLenO C sp E) := by
  intro pins s σ H vs us Q I r h
  obtain ⟨a, dx, fs, rfl, ha, hq⟩ := h
  rw [Vals.ref1 r]
  obtain ⟨ox, od, J⟩ := own_at I ha
  have sb : Sub X n X.A.in1 := Sub.in1 (X := X) (A := X.A) ⟨hr, rfl⟩
  refine len_own I.kIn J hs hf (wpAny_mono (own_call (vs := [.ref a]) F hb hx sb I (.cons (show Value.ref a = Value.ref a from rfl) .nil) hq) (fun r s' z => ?_) fun _ _ e => e)
  obtain ⟨w, H', I', rw', m, rfl, hm, hw⟩ := z
  obtain ⟨t, rfl⟩ := rw'
  refine ⟨m, t, rfl, by omega, by omega, fun t2 t3 => ⟨.int m, H', ?_, ⟨t2, rfl⟩, hw⟩⟩
  exact I'.kept (h' := s'.heap) (t' := t3) fun _ _ e => e
end
end Z
namespace L2
open PySem PySem.Spec PyProof.Rows
section
variable {X : Cx} {CX : CXT} {k : Nat} {C f : Addr} {m : Str} {fd : FuncData} {ps : List Str} {sp : Sp} {ds : List Value} {dvs : List V} {E : St → XK} {apos pos : Pos} {o e : Expr} {es : List Expr} {ta : TE} {t : TA}
/-- o.m(e, ..) in a try -/
def tMethT (C : Addr) (m : Str) (sp : Sp) (dvs : List V) (E : St → XK) (ta : TE) (t : TA) : TE := fun σ H Q => ta σ H fun x H1 => ∃ a dx fs, x = .ref a ∧ H1 a = some (.ins C dx fs) ∧ fs.lookup m = none ∧ t σ H1 fun vs H2 => sp (x :: (vs ++ dvs)) H2 Q (E σ)
theorem run_fnT {pins : List (Addr × Obj)} {σ : St} {H : Hp} {s : Shared} {us : List Value} {vs : List V} {Q : VK} (F : FnOk X.prog X.w X.K X.mg X.base CX k f fd ps sp) (hr : Room k X.A) (hb : Binds X.K fd ps ds) (hd : Vals dvs ds) (hx : ∀ σ, PassesAt CX X σ (E σ)) (I : Inv X pins σ H s) (r : Vals vs us) (q : sp (vs ++ dvs) H Q (E σ)) :
    wpAny (model X.prog X.w) X.A (call (.ref f) us) (EP X pins σ Q) X.xe s := by
  have r2 : Vals (vs ++ dvs) (us ++ ds) := r.append hd
  have hl : (us ++ ds).length = ps.length := by rw [← r2.length]; exact F.len _ _ _ _ q
  refine wpAny_call (codeAny_mono (F.run X.A X.stack s H ⟨us, []⟩ (us ++ ds) (vs ++ dvs) Q (E σ) hr I.env0 (hb s us I.kIn hl) r2 q) fun r s' hq => ?_)
  cases r with
  | error e => exact hx σ pins H s e s' I hq
  | ok fl =>
    cases fl with
    | ret u => exact I.after hq
    | next => exact False.elim hq
    | brk => exact False.elim hq
    | cont => exact False.elim hq
theorem pe_methT {pl : Sem Bool} (he : PE X o ta) (c : Cls X.K C) (hm : Meth X.K C m f) (F : FnOk X.prog X.w X.K X.mg X.base CX k f fd ps sp) (hr : Room k X.A) (hb : Binds X.K fd ps ds) (hd : Vals dvs ds) (hx : ∀ σ, PassesAt CX X σ (E σ)) (ha : PA X (e :: es) t)
    (hst : starEach (e :: es) X.env = (false, eval e X.env) :: starEach es X.env := by rfl) (hpl : (backTo pos (starEach es X.env)).any (·.1) = false := by rfl)
    (ht : eval (.Call (.Attribute o m apos) (e :: es) [] pos) X.env = (do
      let ov ← eval o X.env
      standAt apos.atName
      let (g, first) ← holding [ov] (getMethod ov m pl)
      callWith pos g first (backTo pos (starEach (e :: es) X.env)) (backToKw pos (keywordEach [] X.env))) := by rfl) :
    PE X (.Call (.Attribute o m apos) (e :: es) [] pos) (tMethT C m sp dvs E ta t) := by
  refine ⟨fun pins s σ H Q I h => ?_⟩
  refine PySem.W.methodCall_KW (pl := pl) (thn (he.run pins s σ H _ I h) fun u s1 ⟨x, H1, I1, rx, a, dx, fs, ex, ea, l, q⟩ => ?_) ht
  subst ex
  obtain rfl : u = Value.ref a := rx
  refine getmeth_ok I1 ea c hm l ?_
  refine PySem.W.callWith_K (first := [.ref a]) (h₀ := X.base) I.ok.mod.kin hm.kp (thn (ha.run pos pins s1 σ H1 _ I1 q) fun us s2 ⟨vs, H2, I2, r, q2⟩ => ⟨I2.kIn, ?_⟩) hst hpl
  exact run_fnT (us := .ref a :: us) (vs := .ref a :: vs) F hr hb hd hx I2 (.cons rfl r) q2
end
end L2

set_option Elab.async false
set_option linter.all false
set_option maxRecDepth 100000
set_option maxHeartbeats 2000000
namespace L2
open PySem PySem.Spec PyProof.Rows
section
variable {X : Cx} {CX : CXT} {k : Nat} {C f : Addr} {m : Str} {fd : FuncData} {ps : List Str} {sp : Sp} {ds : List Value} {dvs : List V} {E : St → XK} {apos pos : Pos} {o : Expr} {ta : TE}
/-- o.m() in a try -/
theorem pe_methT0 {pl : Sem Bool} (he : PE X o ta) (c : Cls X.K C) (hm : Meth X.K C m f) (F : FnOk X.prog X.w X.K X.mg X.base CX k f fd ps sp) (hr : Room k X.A) (hb : Binds X.K fd ps ds) (hd : Vals dvs ds) (hx : ∀ σ, PassesAt CX X σ (E σ))
    (ht : eval (.Call (.Attribute o m apos) [] [] pos) X.env = (do
      let ov ← eval o X.env
      standAt apos.atName
      let (g, first) ← holding [ov] (getMethod ov m pl)
      callWith pos g first (backTo pos (starEach [] X.env)) (backToKw pos (keywordEach [] X.env))) := by rfl) :
    PE X (.Call (.Attribute o m apos) [] [] pos) (tMethT C m sp dvs E ta tNil) := by
  refine ⟨fun pins s σ H Q I h => ?_⟩
  refine PySem.W.methodCall_KW (pl := pl) (thn (he.run pins s σ H _ I h) fun u s1 ⟨x, H1, I1, rx, a, dx, fs, ex, ea, l, q⟩ => ?_) ht
  subst ex
  obtain rfl : u = Value.ref a := rx
  refine getmeth_ok I1 ea c hm l ?_
  exact PySem.W.callWith_K0 (first := [.ref a]) I1.kIn hm.kp (run_fnT (us := [.ref a]) (vs := [.ref a]) F hr hb hd hx I1 (.cons rfl .nil) q)
end
end L2
namespace Z
open PySem PySem.Spec PyProof.Rows L2
/-- dict(d) of keys that are whole numbers or texts: a copy -/
def rDictC : List V → Hp → VK → Prop := fun vs H Q => ∃ a kvs, vs = [.ref a] ∧ H a = some (.dK kvs) ∧ NewO (.dK kvs) H Q
theorem cr_dictC {X : Cx} : CallR X (.type "dict") rDictC := by
  intro pins s σ H vs us Q I r h
  obtain ⟨a, kvs, rfl, ha, q⟩ := h
  rw [Vals.ref1 r]
  refine d_copyOf I (.inl ha) fun p s' np I' => ⟨.ref p, _, I', rfl, ?_⟩
  exact q p np
theorem s_dictC {H : Hp} {Q : VK} {a : Addr} {kvs : List (Key × V)} (h : H a = some (.dK kvs)) (k : NewO (.dK kvs) H Q) : rDictC [.ref a] H Q := ⟨a, kvs, rfl, h, k⟩
end Z

set_option Elab.async false
set_option linter.all false
set_option maxRecDepth 100000
set_option maxHeartbeats 2000000
namespace Z
open PySem PySem.Spec PyProof.Rows L2
/-- str(x) of a text or a whole number -/
def rStrB : List V → Hp → VK → Prop := fun vs H Q => (∃ a : Str, vs = [.str a] ∧ Q (.str a) H) ∨ ∃ i : Int, vs = [.int i] ∧ i.natAbs.log2 < 1920 ∧ Q (.str (toString i)) H
theorem cr_strB {X : Cx} : CallR X (.type "str") rStrB := by
  intro pins s σ H vs us Q I r h
  rcases h with ⟨a, rfl, q⟩ | ⟨i, rfl, hz, q⟩
  · exact SkE.call_str_str pins s σ H _ us Q I r ⟨a, rfl, q⟩
  · exact cz_strInt pins s σ H _ us Q I r ⟨i, rfl, hz, q⟩
theorem s_strBS {a : Str} {H : Hp} {Q : VK} (k : Q (.str a) H) : rStrB [.str a] H Q := .inl ⟨a, rfl, k⟩
theorem s_strBI {i : Int} {H : Hp} {Q : VK} (h : i.natAbs.log2 < 1920) (k : Q (.str (toString i)) H) : rStrB [.int i] H Q := .inr ⟨i, rfl, h, k⟩
theorem s_extend {l b : Addr} {xs zs : List V} {H : Hp} {Q : VK} (h1 : H l = some (.lst xs)) (h2 : H b = some (.lst zs)) (hz : xs.length + zs.length ≤ sizeLine) (k : ∀ H', Fr l H H' → H' l = some (.lst (xs ++ zs)) → Q .non H') : rExtend (.ref l) [.ref b] H Q :=
  ⟨l, b, xs, zs, rfl, rfl, h1, h2, hz, k _ Fr.upd upd_same⟩
theorem joinT_len (y : Str) (ys : List Str) : (Txt.join y ys).length ≤ (ys.map (·.length)).sum + ys.length * y.length := by
  rw [TL.join_eq]
  exact StrLaws.join_length_le y ys
theorem Str_empty_app (a : Str) : Str.empty ++ a = a := by
  show (⟨#[] ++ a.cps⟩ : Str) = a
  rw [Array.empty_append]
end Z

set_option Elab.async false
set_option linter.all false
set_option maxRecDepth 100000
set_option maxHeartbeats 2000000
namespace L2
open PySem PySem.Spec PyProof.Rows
/-- a list taken apart by a target with one star: i names ahead of it, m behind -/
def gStar (K : PySem.W.Frag) (i m : Nat) (t : TGs) : TG := fun v σ H Q => ∃ a xs, v = .ref a ∧ SqL K H a xs ∧ i + m ≤ xs.length ∧ xs.length ≤ 16384 ∧ ∀ p, H p = none → t (xs.take i ++ [.ref p] ++ (xs.drop i).drop (xs.length - m - i)) σ (upd H p (.lst ((xs.drop i).take (xs.length - m - i)))) Q
section
variable {X : Cx} {pos : Pos}
theorem pgs_star {e : Expr} {q : Pos} {es : List Expr} {t : TG} {u : TGs} (h1 : PG X e t) (h2 : PGs X es u)
    (hs : (assignEach (.Starred e q :: es) X.env).map (·.2) = assign e X.env :: (assignEach es X.env).map (·.2) := by rfl) : PGs X (.Starred e q :: es) (gCons t u) := by
  refine ⟨fun pins s σ H vs us Q I r h => ?_⟩
  obtain ⟨v, vr, e1, h⟩ := h
  subst e1
  cases r with
  | cons r rr =>
    rw [hs]
    refine assignInOrder_cons (thn (h1.run pins s σ H _ _ _ I r h) fun _ s1 ⟨σ1, H1, I1, q1⟩ => ?_)
    exact h2.run pins s1 σ1 H1 _ _ Q I1 rr q1
theorem pg_star {es : List Expr} {k i m : Nat} {t : TGs} (hc : X.calm = true) (h : PGs X es t)
    (hn : (assignEach es X.env).length = i + 1 + m := by rfl) (hst : (assignEach es X.env).findIdx? (·.1) = some i := by rfl) : PG X (.Tuple es k pos) (gStar X.K i m t) := by
  refine ⟨fun pins s σ H v u Q I r hw => ?_⟩
  obtain ⟨a, xs, e1, hq, hl, hz, hw⟩ := hw
  subst e1
  cases r
  obtain ⟨its, rv, ht, hzz⟩ := I.list hq
  have hlist := ht.isList
  have hlen := rv.length
  have hh := I.ok.hd hc
  have hlt : a ≠ s.heap.objs.size := by
    obtain ⟨o, ho, _⟩ := hlist
    exact Nat.ne_of_lt (Heap.lt_size ho)
  rw [assign_Tuple]
  refine wpAny_bind (wpAny_standAt ?_)
  unfold unpack
  rw [hn, hst]
  refine wpAny_bind (wpAny_holding ?_)
  unfold unpackItems
  refine wpAny_bind ?_
  unfold notIterableAtAll
  refine wpAny_bind (wpAny_specialOf hlist.typeIs slot_list_iter.lookup ?_)
  refine wpAny_pure ?_
  simp only [Bool.false_eq_true, if_false]
  refine wpAny_bind (wpAny_holding (wpAny_pyIter_list hlist ?_))
  refine wpAny_bind (wpAny_holding (PySem.W.kun_draw hlt i 0 _ _ ⟨_, Heap.get?_push_size _ rfl, rfl, rfl⟩ (hlist.push _) (by simp; omega) fun h₁ hit₁ hs₁ => ?_))
  have hl₁ : h₁.IsList a its.toArray := (hlist.push _).extBut hs₁.extBut hlt
  rw [Nat.zero_add] at hit₁
  obtain ⟨oi, hoi, _⟩ := id hit₁
  obtain ⟨ol, hol, _⟩ := id hl₁
  rw [List.drop_zero]
  have hfl : (its.toArray.toList.take i).length = i := by rw [List.length_take]; simp; omega
  rw [if_neg (show ¬ ((its.toArray.toList.take i).length < i) by rw [hfl]; omega)]
  refine wpAny_bind (wpAny_holding (PySem.W.kun_collect (s := { s with heap := h₁ }) (T := "list_iterator") (.inr (.inr (.inl rfl))) (Walks.list (A := X.A.in1) hh s.heap.objs.size a hlt its.toArray) (fun j u st => st.1.typeIs) (k := i) (by simp; omega) ⟨hit₁, hl₁⟩ (Heap.lt_size hoi) (Heap.lt_size hol) (fun h₂ tk hk => ?_) (by rw [sizeLine_eq]; simp; omega)))
  have hrl : (its.toArray.toList.drop i).length = its.length - i := by rw [List.length_drop]
  have hmid : (its.toArray.toList.drop i).length - (i + 1 + m - 1 - i) = xs.length - m - i := by rw [hrl]; omega
  show wpAny _ _ (if (its.toArray.toList.drop i).length < i + 1 + m - 1 - i then _ else _) _ _ _
  rw [if_neg (by rw [hrl]; omega)]
  show wpAny _ _ (newList ((its.toArray.toList.drop i).take ((its.toArray.toList.drop i).length - (i + 1 + m - 1 - i))) >>= fun d => pure (its.toArray.toList.take i ++ [d] ++ (its.toArray.toList.drop i).drop ((its.toArray.toList.drop i).length - (i + 1 + m - 1 - i)))) _ _ _
  rw [hmid]
  have hk2 : ∀ b o, s.heap.get? b = some o → h₂.get? b = some o := fun b o e => hk b o (Nat.ne_of_lt (Heap.lt_size e)) (hs₁.extBut b o (Nat.ne_of_lt (Heap.lt_size e)) (Heap.get?_push_of_some _ e))
  refine wpAny_bind (wpAny_newList (wpAny_pure ?_) (by rw [List.length_take, hrl, sizeLine_eq]; omega))
  have hf : H h₂.objs.size = none := (I.hok.kept hk2).fresh (Nat.le_refl _)
  have hp : s.heap.get? h₂.objs.size = none := by
    cases q : s.heap.get? h₂.objs.size with
    | none => rfl
    | some o => exact absurd (Heap.lt_size (hk2 _ _ q)) (Nat.lt_irrefl _)
  have vt : Vals ((xs.drop i).take (xs.length - m - i)) ((its.drop i).take (xs.length - m - i)) := (rv.drop i).take _
  have I1 : Inv X pins σ (upd H h₂.objs.size (.lst ((xs.drop i).take (xs.length - m - i)))) { s with heap := h₂.push { cls := .type "list", data := .seq ((its.drop i).take (xs.length - m - i)).toArray }, toks := tk } :=
    I.laidN (fun b u e => Heap.get?_push_of_some _ (hk2 b u e)) hp hf ⟨by rw [List.length_take, List.length_drop, sizeLine_eq]; omega, _, 0, vt, Heap.get?_push_size _ rfl⟩
  exact h.run pins _ σ _ (xs.take i ++ [.ref h₂.objs.size] ++ (xs.drop i).drop (xs.length - m - i)) _ Q I1 (((rv.take i).append (show Vals [V.ref h₂.objs.size] [Value.ref h₂.objs.size] from .cons (show RelV (.ref _) (Value.ref _) from rfl) .nil)).append ((rv.drop i).drop _)) (hw _ hf)
end
end L2

set_option Elab.async false
set_option linter.all false
set_option maxRecDepth 100000
set_option maxHeartbeats 2000000
namespace L2
open PySem PySem.Spec PySem.Calls PyProof.Rows
/-! k in a dict of the module -/
def rInK (K : PySem.W.Frag) (w : World) (ni : Bool) : R2 := fun x y H Q => ∃ z p, x = .str z ∧ y = .ref p ∧ ((∃ v, KDct K w p z v ∧ (p == sysModules) = false ∧ Q (.bl (!ni)) H) ∨ (KMiss K w p z ∧ Q (.bl ni) H))
section
variable {X : Cx}
theorem op_inK : OpR X (compareOp .In) (rInK X.K X.w false) := by
  intro pins s σ H x y v u Q I rx ry h
  obtain ⟨z, p, rfl, rfl, h⟩ := h
  obtain ⟨t, rfl⟩ := rx
  obtain rfl : u = Value.ref p := ry
  rcases h with ⟨r, ⟨es, n, u0, hl, hk, e, ru⟩, low, q⟩ | ⟨⟨es, n, hl, hk, low, hm⟩, q⟩
  · refine wpAny_in_of (strKind_is X.prog X.w z t) low (PySem.W.mapOf_K I.kIn hl hk) ?_
    rw [PySem.W.find_K hl e]
    exact ⟨.bl true, H, I.tok _, rfl, q⟩
  · refine wpAny_in_of (strKind_is X.prog X.w z t) low (PySem.W.mapOf_K I.kIn hl hk) ?_
    rw [PySem.W.find_K hl hm]
    exact ⟨.bl false, H, I.tok _, rfl, q⟩
theorem op_notInK : OpR X (compareOp .NotIn) (rInK X.K X.w true) := by
  intro pins s σ H x y v u Q I rx ry h
  obtain ⟨z, p, rfl, rfl, h⟩ := h
  obtain ⟨t, rfl⟩ := rx
  obtain rfl : u = Value.ref p := ry
  rcases h with ⟨r, ⟨es, n, u0, hl, hk, e, ru⟩, low, q⟩ | ⟨⟨es, n, hl, hk, low, hm⟩, q⟩
  · refine wpAny_notIn_of (strKind_is X.prog X.w z t) low (PySem.W.mapOf_K I.kIn hl hk) ?_
    rw [PySem.W.find_K hl e]
    exact ⟨.bl false, H, I.tok _, rfl, q⟩
  · refine wpAny_notIn_of (strKind_is X.prog X.w z t) low (PySem.W.mapOf_K I.kIn hl hk) ?_
    rw [PySem.W.find_K hl hm]
    exact ⟨.bl true, H, I.tok _, rfl, q⟩
end
/-- a try whose suite raises nothing -/
theorem ps_try_calm {X : Cx} {body : List Stmt} {hds : List ExceptHandler} {h₀ : ExceptHandler} {pos : Pos} {tb : WX → TS} (hs : X.stack = X.env :: X.outer)
    (hb : ∀ (W : WX) (pn : List (Addr × Obj)) (xe : Value → Shared → Prop), Takes (X.tr pn xe) W → PassesOwn (model X.prog X.w) X.A X.env xe → PSs (X.tr pn xe) body (tb W)) : PS X (.Try body (h₀ :: hds) [] [] pos) (fun D σ H => tb (fun _ _ _ _ => False) D σ H) := by
  refine ⟨fun pins s σ H D I h => wpAny_Try_except ?_⟩
  have ok := I.ok
  refine wpAny_mono ((hb (fun _ _ _ _ => False) (X.pn ++ pins) (fun e s₁ => wpAny (model X.prog X.w) X.A (noteFrame e X.env) (fun _ s₂ => wpAny (model X.prog X.w) X.A (setFlight e none) (fun _ s₃ =>
    wpAny (model X.prog X.w) X.A (handleBy e X.env (h₀ :: hds)) (SP X pins D) X.xe s₃) X.xe s₂) X.xe s₁) (fun u s' xx => ?_) PassesOwn.looking).run [] s σ H D (I.toTry _) h) (fun f s1 q => ?_) (fun e s1 he => he)
  · obtain ⟨a, B, sI, pins', σ', H', cls, d, rfl, J', nb, up, sky, na, os, ag, w⟩ := xx
    exact False.elim w
  · cases f with
    | next =>
      obtain ⟨σ', H', J', q⟩ := q
      exact wpAny_execs_nil ⟨σ', H', J'.ofTry ok, q⟩
    | ret u =>
      obtain ⟨v, σ', H', J', r, q⟩ := q
      exact ⟨v, σ', H', J'.ofTry ok, r, q⟩
    | brk =>
      obtain ⟨σ', H', J', q⟩ := q
      exact ⟨σ', H', J'.ofTry ok, q⟩
    | cont =>
      obtain ⟨σ', H', J', q⟩ := q
      exact ⟨σ', H', J'.ofTry ok, q⟩
end L2
namespace Z
open PySem PySem.Spec PyProof.Rows L2 TL
def rIntS : List V → Hp → VK → Prop := fun xs H Q => ∃ a n, xs = [.str a] ∧ PySem.intText? a = some n ∧ a.length ≤ 640 ∧ Q (.int n) H
theorem cz_intS {X : Cx} : CallR X (.type "int") rIntS := call_int_str
def rBoolS (g : Str → Bool) : V → List V → Hp → VK → Prop := fun x xs H Q => ∃ a, x = .str a ∧ xs = [] ∧ True ∧ Q (.bl (g a)) H
theorem mz_isascii {X : Cx} : MtR X "str.isascii" (rBoolS Txt.isascii) := mt_isascii
theorem mz_isdigit {X : Cx} : MtR X "str.isdigit" (rBoolS Txt.isdigit) := mt_isdigit
theorem s_boolS {g : Str → Bool} {a : Str} {H : Hp} {Q : VK} (k : Q (.bl (g a)) H) : rBoolS g (.str a) [] H Q := ⟨a, rfl, rfl, trivial, k⟩
def rStartsS : V → List V → Hp → VK → Prop := fun x xs H Q => ∃ a b, x = .str a ∧ xs = [.str b] ∧ Q (.bl (Txt.startswith a b)) H
theorem mz_startswith {X : Cx} : MtR X "str.startswith" rStartsS := mt_startswith
theorem s_startsS {a b : Str} {H : Hp} {Q : VK} (k : Q (.bl (Txt.startswith a b)) H) : rStartsS (.str a) [.str b] H Q := ⟨a, b, rfl, rfl, k⟩
def rSplitS : V → List V → Hp → VK → Prop := fun x xs H Q => ∃ a b, x = .str a ∧ xs = [.str b] ∧ (b.length == 0) = false ∧ a.length + 2 ≤ sizeLine ∧ rNewStrs (Txt.split a b) H Q
theorem mz_split {X : Cx} : MtR X "str.split" rSplitS := mt_split
theorem s_splitS {a b : Str} {ys : List Str} {H : Hp} {Q : VK} (h1 : (b.length == 0) = false) (h2 : a.length + 2 ≤ sizeLine) (e : Txt.split a b = ys) (k : NewO (.lst (ys.map V.str)) H Q) : rSplitS (.str a) [.str b] H Q := ⟨a, b, rfl, rfl, h1, h2, by rw [e]; exact k⟩
theorem s_intS {a : Str} {n : Int} {H : Hp} {Q : VK} (h1 : PySem.intText? a = some n) (h2 : a.length ≤ 640) (k : Q (.int n) H) : rIntS [.str a] H Q := ⟨a, n, rfl, h1, h2, k⟩
/-! the text of a number -/
theorem numL_head (n : Nat) : (numL n).head? = some 48 → n = 0 := by
  induction n using Nat.strongRecOn with
  | _ n ih =>
    by_cases h : n < 10
    · rw [numL_lt h]
      intro e
      simp at e
      exact e
    · rw [numL_step (by omega)]
      intro e
      have hne := numL_ne (n / 10)
      cases hc : numL (n / 10) with
      | nil => exact absurd hc hne
      | cons c r =>
        rw [hc] at e
        have := ih (n / 10) (by omega) (by rw [hc]; simpa using e)
        omega
theorem digit_u : ∀ c : Nat, c < 58 → 48 ≤ c → Unicode.isDigit c = true := by decide +kernel
theorem num_digit (n : Nat) : Txt.isdigit (Str.ofString (toString ((n : Nat) : Int))) = true := by
  have h1 := tl_num n
  unfold Txt.isdigit
  rw [Bool.and_eq_true]
  constructor
  · have h2 := numL_ne n
    rw [← h1] at h2
    have : (tl (Str.ofString (toString ((n : Nat) : Int)))).length ≠ 0 := fun e => h2 (List.length_eq_zero_iff.mp e)
    rw [← len_tl] at this
    exact decide_eq_true (by omega)
  · rw [Array.all_eq_true_iff_forall_mem]
    intro c hc
    have hm : c ∈ numL n := by
      rw [← h1]
      exact Array.mem_toList_iff.mpr hc
    have := numL_digits n c hm
    exact digit_u c (by omega) (by omega)
theorem num_ascii (n : Nat) : Txt.isascii (Str.ofString (toString ((n : Nat) : Int))) = true := by
  have h1 := tl_num n
  unfold Txt.isascii
  rw [Array.all_eq_true_iff_forall_mem]
  intro c hc
  have hm : c ∈ numL n := by
    rw [← h1]
    exact Array.mem_toList_iff.mpr hc
  have := numL_digits n c hm
  exact decide_eq_true (by omega)
theorem num_starts {n : Nat} (hn : n ≠ 0) : Txt.startswith (Str.ofString (toString ((n : Nat) : Int))) "0" = false := by
  have h1 := tl_num n
  cases e : Txt.startswith (Str.ofString (toString ((n : Nat) : Int))) "0" with
  | false => rfl
  | true =>
    exfalso
    unfold Txt.startswith Builtin.Str.subAt at e
    rw [Bool.and_eq_true] at e
    have e2 := beq_iff_eq.mp e.2
    refine hn (numL_head n ?_)
    have e3 := congrArg Array.toList e2
    rw [Array.toList_extract, List.extract_eq_take_drop, List.drop_zero] at e3
    rw [← h1]
    show (Str.ofString (toString ((n : Nat) : Int))).cps.toList.head? = some 48
    cases hc : (Str.ofString (toString ((n : Nat) : Int))).cps.toList with
    | nil =>
      rw [hc] at e3
      exact absurd e3 (by decide +kernel)
    | cons c r =>
      rw [hc] at e3
      rw [show (0 + (Str.ofString "0").length - 0) = 1 from by decide +kernel, show (Str.ofString "0").cps.toList = [48] from by decide +kernel] at e3
      simpa using e3
end Z

set_option Elab.async false
set_option linter.all false
set_option maxRecDepth 100000
set_option maxHeartbeats 2000000
namespace Z
open PySem PySem.Spec PyProof.Rows L2
section
open PySem.SeqAt PySem.SeqRoads2 PySem.MeetsSeq AutoSeq1 PyProof.Rows
variable {P : Program} {w : World} {A : Around}
theorem notin_own {E : Value → Shared → Prop} {l : Addr} {x : Value} {N : Nat} {e : Nat → Bool} {I : Nat → Shared → Prop} {Q : Value → Shared → Prop}
    (turn : ∀ i s, I i s → ∃ (its : Array Value) (n : Nat), s.heap.get? l = some { cls := .type "list", data := .seq its n } ∧ its.size = N ∧ ∀ h : i < its.size, wpAny (model P w) A.in1 (eqBool its[i] x) (fun r s' => r = e i ∧ I (i + 1) s') E s)
    (fin : ∀ i s b, I i s → (b = true ↔ ∃ j, j < N ∧ e j = true) → Q (.bool (!b)) s) {s : Shared} (h : I 0 s) : wpAny (model P w) A (compareOp .NotIn x (.ref l)) Q E s := by
  obtain ⟨its, n, hl, hn, _⟩ := turn _ _ h
  show wpAny _ A (do return .bool (!(← contains (.ref l) x))) Q E s
  refine wpAny_bind (wpAny_contains_slot ⟨_, hl, rfl⟩ F.slot_list_contains (wpAny_mono (GQ.call_here F.slot_list_contains ⟨_, hl, rfl⟩ F.entry_list_contains (F.args_list_contains_2 _ _)
    (Q := fun v s' => ∃ b, v = .bool b ∧ Q (.bool (!b)) s') (E := E) ?_) (fun v s' hv => ?_) fun _ _ z => z))
  · have first := has_loop (A := A) (R := wants (fun v s' => ∃ b, v = .bool b ∧ Q (.bool (!b)) s') E) turn (fun i s' b hI hb => ⟨b, rfl, fin i s' b hI hb⟩) _ 0 rfl (Nat.zero_le _) (fun j hj => absurd hj (Nat.not_lt_zero j)) s h
    obtain ⟨hp, g, d, tk, os⟩ := s
    wp_walk using wpAny_loadPart' hl
    exact ⟨plainId_quiet plain_contains_loop _, codeAny_builtin entry_contains_loop (by
      rw [Around.under_plainId plain_contains_loop _]
      exact first)⟩
  · obtain ⟨b, rfl, hq⟩ := hv
    exact wpAny_truthy_bool (wpAny_pure hq)
end
def rNotInO (C : Addr) (Rl : Addr → Addr → Hp → Bool → Prop) : R2 := fun x y H Q => ∃ (a : Addr) (dx : Addr) (fs : List (Str × V)) (p : Addr) (bs : List Addr) (e : Nat → Bool), x = .ref a ∧ y = .ref p ∧ H a = some (.ins C dx fs) ∧ H p = some (.lst (bs.map V.ref)) ∧
  (∀ i b, bs[i]? = some b → (∃ dy gs, H b = some (.ins C dy gs)) ∧ (∀ H', Ex H H' → Rl b a H' (e i)) ∧ (b = a → e i = true)) ∧ ∀ H' r, Ex H H' → (r = true ↔ ∃ j, j < bs.length ∧ e j = true) → Q (.bl (!r)) H'
section
variable {X : Cx} {n : Nat} {CX : CXT} {f C : Addr} {fd : FuncData} {ps : List Str} {sp : Sp} {E : XK} {Rl : Addr → Addr → Hp → Bool → Prop}
theorem op_notInO (F : FnOk X.prog X.w X.K X.mg X.base CX n f fd ps sp) (hsp : ∀ a b H r, Rl a b H r → ∀ Q : VK, (∀ H', Ex H H' → Q (.bl r) H') → sp [.ref a, .ref b] H Q E) (hr : Room (n + 1) X.A) (hb : Binds X.K fd ps []) (hx : Passes CX X E) (O : OwnE X.K C f)
    (ty : ∀ {H : Hp} {a dx : Addr} {fs : List (Str × V)}, H a = some (.ins C dx fs) → TyX X.K H (.ref a) (.ref C)) (nf : PySem.W.notFirst X.K C (.ref C) = true) : OpR X (compareOp .NotIn) (rNotInO C Rl) := by
  intro pins s σ H x y v u Q I rx ry h
  obtain ⟨a, dx, fs, p, bs, e, rfl, rfl, ha, hp, hbs, q⟩ := h
  obtain rfl : v = Value.ref a := rx
  obtain rfl : u = Value.ref p := ry
  have sb : Sub X n X.A.in1 := Sub.in1 (X := X) (A := X.A) ⟨hr, rfl⟩
  refine notin_own (N := bs.length) (e := e) (I := fun i s' => ∃ H', Inv X pins σ H' s' ∧ Ex H H') (fun i s' h => ?_) (fun i s' b h hb => ?_) ⟨H, I, Ex.refl⟩
  · obtain ⟨H1, I1, e1⟩ := h
    obtain ⟨z, its, m, rv, hl⟩ := (show ObjOk X.prog X.w H1 s'.heap p (.lst (bs.map V.ref)) from I1.hok p _ (e1 _ _ hp))
    have len : its.toArray.size = bs.length := by rw [List.size_toArray, ← rv.length, List.length_map]
    refine ⟨its.toArray, m, hl, len, fun hi => ?_⟩
    have hi2 : i < bs.length := by omega
    obtain ⟨u, hu, ru⟩ := rv.get (show (bs.map V.ref)[i]? = some (.ref bs[i]) from by rw [List.getElem?_map, List.getElem?_eq_getElem hi2]; rfl)
    obtain rfl : u = Value.ref bs[i] := ru
    have en : its.toArray[i] = Value.ref bs[i] := by
      have : its[i]? = some its.toArray[i] := by
        have : i < its.length := by simpa using hi
        rw [List.getElem?_eq_getElem this] <;> simp
      rw [this] at hu
      exact Option.some.inj hu
    rw [en]
    obtain ⟨⟨dy, gs, hy⟩, hR, hself⟩ := hbs i bs[i] (List.getElem?_eq_getElem hi2)
    by_cases hab : bs[i] = a
    · rw [hab, hself hab]
      exact SeqAt.EqAt.same (A := X.A.in1) (s := s') (.ref a) X.prog X.w X.xe _ ⟨rfl, H1, I1, e1⟩
    · refine GQ.eqBool_refG hab ?_
      refine wpAny_mono (rc_own (sb := sb) (x := .ref bs[i]) (y := .ref a) (Q := fun v H' => v = .bl (e i) ∧ Ex H1 H') F hb hx O I1 rfl rfl ⟨bs[i], dy, gs, _, rfl, e1 _ _ hy, ty (e1 _ _ ha), nf, hsp _ _ _ _ (hR H1 e1) _ fun H' e' => ⟨rfl, e'⟩⟩) (fun r s2 z => ?_) fun _ _ z => z
      obtain ⟨v, H2, I2, rv2, rfl, e2⟩ := z
      exact ⟨e i, rv2, rfl, H2, I2, e1.trans e2⟩
  · obtain ⟨H1, I1, e1⟩ := h
    exact ⟨.bl (!b), H1, I1, rfl, q H1 b e1 hb⟩
end
end Z

set_option Elab.async false
set_option linter.all false
set_option maxRecDepth 100000
set_option maxHeartbeats 4000000
/-! except (A, B) as e; a call of what a local name holds, with *args -/
namespace L2
open PySem PySem.Spec PySem.Calls PyProof.Rows
section
variable {X : Cx} {pins : List (Addr × Obj)} {σ : St} {H : Hp} {sI s : Shared} {B : Heap} {a : Addr} {cls : Value} {d : Option Addr} {D : Ends} {Wout : WX}
theorem Air.keeps (C : Air X pins σ H sI B a cls d s) {h' : Heap} (k : ∀ b o, s.heap.get? b = some o → h'.get? b = some o) : Air X pins σ H sI B a cls d { s with heap := h' } := by
  obtain ⟨f1, f2, f3, oe, vs, T, oT, ts, g1, g2, g3, g4, g5, g6, g7, g8, g9⟩ := C.fl
  exact ⟨C.inv, C.nb, C.up.trans (.of_keeps k), ⟨fun b o e => k _ _ (f1 b o e), f2, f3.of_keeps (fun b o e _ => ⟨o, k _ _ e, rfl⟩), oe, vs, T, oT, ts, k _ _ g1, g2, g3, g4, g5, g6, k _ _ g7, g8, g9⟩, C.na, C.os, C.ag⟩
theorem name_at (C : Air X pins σ H sI B a cls d s) (hf : X.env.frame = some X.env.locals) {x : Str} {c : Value} {np : Pos} {R : Value → Shared → Prop} {E : Value → Shared → Prop} (hc : Names X x c) (k : R c s) :
    wpAny (model X.prog X.w) (X.A.mark (some (.ref a))) (eval (.Name x np) X.env) R E s := by
  obtain ⟨oe, hz, _, he, S⟩ := C.in_ hf
  obtain ⟨hg, hdb, hm | ⟨hm, hv, hn⟩⟩ := hc
  · exact ld_glob (X := X.suite a ((a, oe) :: (X.pn ++ pins))) S hg hm k hdb
  · exact ld_blt (X := X.suite a ((a, oe) :: (X.pn ++ pins))) S hg hm hv k hn hdb
theorem Air.asks2 (C : Air X pins σ H sI B a cls d s) (hf : X.env.frame = some X.env.locals) {x1 x2 : Str} {c1 c2 : Value} {p1 p2 tpos : Pos} {kk : Nat} {b : Bool} {R : Bool → Shared → Prop} {E : Value → Shared → Prop} (hc1 : Names X x1 c1) (hc2 : Names X x2 c2) (hb : PySem.W.exmAny X.K cls [c1, c2] = some b)
    (k : ∀ h', (∀ b o, s.heap.get? b = some o → h'.get? b = some o) → R b { s with heap := h' }) :
    wpAny (model X.prog X.w) (X.A.mark (some (.ref a))) (eval (.Tuple [.Name x1 p1, .Name x2 p2] kk tpos) X.env) (fun t s1 => wpAny (model X.prog X.w) (X.A.mark (some (.ref a))) (excMatches (.ref a) t) R E s1) E s := by
  obtain ⟨oe, hz, _, he, S⟩ := C.in_ hf
  have LT : PySem.W.Looks (model X.prog X.w) s.heap (typeOf (.ref a)) cls := fun A Q E s k q => wpAny_typeOf_ref (k _ _ he) (by rw [hz.1]; exact q)
  refine wpAny_Tuple ?_
  refine wpAny_items_cons (name_at C hf hc1 ?_)
  refine wpAny_items_cons (name_at C hf hc2 ?_)
  refine wpAny_items_nil ⟨by size_fits, ?_⟩
  have kp : ∀ q o, s.heap.get? q = some o → (s.heap.push { cls := .type "tuple", data := .seq [c1, c2].toArray }).get? q = some o := fun _ _ z => Heap.get?_push_of_some _ z
  exact (PySem.W.exm_tup2 (C.land.kIn.keeps kp) (LT.keeps kp) (Heap.get?_push_size s.heap rfl) hb).here (k _ kp)
end
section
variable {X : Cx} {body suite : List Stmt} {b₀ : Stmt} {x1 x2 n : Str} {c1 c2 : Value} {p1 p2 tpos p' pos : Pos} {kk i : Nat} {tb : WX → TS} {ts : TsX} {Wout : WX}
def wTup2 (K : PySem.W.Frag) (Wout : WX) (D : Ends) (c1 c2 : Value) (i : Nat) (ts : TsX) : WX := fun cls d σ H => ∃ b, PySem.W.exmAny K cls [c1, c2] = some b ∧ (b = true → ∀ a, H a = none → ts a cls d (D.unnamed i) (σ.set i (some (.ref a))) H) ∧ (b = false → Wout cls d σ H)
theorem ps_try_tup2 (hs : X.stack = X.env :: X.outer) (hf : X.env.frame = some X.env.locals) (hN : X.N.Nodup) (hi : X.N[i]? = some n) (hl : X.env.kindOf n = some .local) (hc1 : Names X x1 c1) (hc2 : Names X x2 c2) (tk : Takes X Wout)
    (hb : ∀ (W : WX) (pn : List (Addr × Obj)) (xe : Value → Shared → Prop), Takes (X.tr pn xe) W → PassesOwn (model X.prog X.w) X.A X.env xe → PSs (X.tr pn xe) body (tb W))
    (hsu : ∀ (a : Addr) (oe : Obj) (cls : Value) (d : Option Addr) (pn : List (Addr × Obj)), Zc cls d oe → (∃ vs, oe.data = .fields vs) → PSs (X.suite a ((a, oe) :: pn)) (b₀ :: suite) (ts a cls d)) :
    PS X (.Try body [.ExceptHandler (some (.Tuple [.Name x1 p1, .Name x2 p2] kk tpos)) (some n) (b₀ :: suite) p'] [] [] pos) (fun D σ H => tb (wTup2 X.K Wout D c1 c2 i ts) D σ H) := by
  refine ⟨fun pins s σ H D I h => wpAny_Try_except ?_⟩
  have ok := I.ok
  have hfr : X.A.frames = some (X.env :: X.outer) := by rw [ok.frames, hs]
  refine wpAny_mono ((hb (wTup2 X.K Wout D c1 c2 i ts) (X.pn ++ pins) (fun e s₁ => wpAny (model X.prog X.w) X.A (noteFrame e X.env) (fun _ s₂ => wpAny (model X.prog X.w) X.A (setFlight e none) (fun _ s₃ =>
    wpAny (model X.prog X.w) X.A (handleBy e X.env [.ExceptHandler (some (.Tuple [.Name x1 p1, .Name x2 p2] kk tpos)) (some n) (b₀ :: suite) p']) (SP X pins D) X.xe s₃) X.xe s₂) X.xe s₁) (fun u s' xx => ?_) PassesOwn.looking).run [] s σ H D (I.toTry _) h) (fun f s1 q => ?_) (fun e s1 he => he)
  · obtain ⟨a, B, sI, pins', σ', H', cls, d, rfl, J', nb, up, sky, na, os, ag, w⟩ := xx
    refine Sky.land (outer := X.outer) Zc.steady hfr hf (by rw [← hs]; exact sky) fun h3 fl3 up3 => ?_
    have C : Air X pins σ' H' sI B a cls d { s' with heap := h3 } := ⟨J'.ofTry ok, nb, up.trans up3, fl3, na, os, ag⟩
    obtain ⟨b, hb', hy, hn⟩ := w
    refine wpAny_handleBy_cons (codeAny_handlers_test (C.asks2 hf hc1 hc2 hb' fun h' k => ?_)) (by intro q; cases q)
    have C' := C.keeps k
    cases b with
    | false => exact C'.out hs hf tk (hn rfl)
    | true =>
      refine codeAny_handlers_suite_as (HandSPX.lands_againZ C'.fl fun h4 fl4 up4 => ?_)
      have C4 : Air X pins σ' H' sI B a cls d { s' with heap := h4 } := ⟨C'.inv, C'.nb, C'.up.trans up4, fl4, C'.na, C'.os, C'.ag⟩
      obtain ⟨oe, hz, hd, _, S⟩ := C4.in_ hf
      refine store_ok (X := X.suite a ((a, oe) :: (X.pn ++ pins))) (v := .ref a) S hN hi (.inl hl) rfl (fun s5 S5 => ?_) (.inr hl)
      refine wpAny_mono ((hsu a oe cls d (X.pn ++ pins) hz hd).run [] s5 _ H' _ S5 (hy rfl a C.na)) (fun f s6 q => ?_) fun _ _ z => False.elim z
      cases f with
      | ret u =>
        obtain ⟨v, σ6, H6, S6, r6, q⟩ := q
        exact gone_ok (S6.unsuite ok) hN hi hl fun s7 J7 => ⟨v, _, H6, J7, r6, q⟩
      | _ =>
        obtain ⟨σ6, H6, S6, q⟩ := q
        exact gone_ok (S6.unsuite ok) hN hi hl fun s7 J7 => ⟨_, H6, J7, q⟩
  · cases f with
    | next =>
      obtain ⟨σ', H', J', q⟩ := q
      exact wpAny_execs_nil ⟨σ', H', J'.ofTry ok, q⟩
    | ret u =>
      obtain ⟨v, σ', H', J', r, q⟩ := q
      exact ⟨v, σ', H', J'.ofTry ok, r, q⟩
    | brk =>
      obtain ⟨σ', H', J', q⟩ := q
      exact ⟨σ', H', J'.ofTry ok, q⟩
    | cont =>
      obtain ⟨σ', H', J', q⟩ := q
      exact ⟨σ', H', J'.ofTry ok, q⟩
end
/-! x(e, *y), x a local name that holds one of several defs -/
def tCallVS (i : Nat) (S : Addr → Sp → Prop) (E : XK) (t : TA) : TE := fun σ H Q => ∃ f sp, σ[i]? = some (some (.ref f)) ∧ S f sp ∧ t σ H fun vs H1 => sp vs H1 Q E
theorem pe_callVS {X : Cx} {CX : CXT} {n i : Nat} {S : Addr → Sp → Prop} {E : XK} {x : Str} {e : Expr} {es : List Expr} {p pos : Pos} {t : TA} (A : ∀ f sp, S f sp → HeldX X.prog X.w X.K X.mg X.base CX n f sp) (hr : Room n X.A) (hN : X.N[i]? = some x) (hv : Vis X.env.scope x) (hx : Passes CX X E) (ha : PA X (e :: es) t)
    (hdb : (x == ("__debug__" : Str)) = false := by decide) (hcd : (x == ("__classdict__" : Str)) = false := by decide)
    (he : starEach (e :: es) X.env = (false, eval e X.env) :: starEach es X.env := by rfl) (hst : (backTo pos (starEach es X.env)).any (·.1) = true := by rfl) : PE X (.Call (.Name x p) (e :: es) [] pos) (tCallVS i S E t) := by
  refine ⟨fun pins s σ H Q I h => ?_⟩
  obtain ⟨f, sp, hs, hS, ht⟩ := h
  obtain ⟨k, fd, ps, hkn, F, hk, hb⟩ := (A f sp hS).ex
  refine wpAny_Call_Name_kw (thn ((pe_var (pos := p) hN hv hdb hcd).run pins s σ H (fun v H1 => v = .ref f ∧ H1 = H) I ⟨.ref f, hs, rfl, rfl⟩) fun u s1 ⟨v, H1, I1, r1, q1⟩ => ?_)
  obtain ⟨rfl, rfl⟩ := q1
  cases r1
  have e0 : (fun (vs : List V) (H1 : Hp) => sp (vs ++ []) H1 Q E) = fun vs H1 => sp vs H1 Q E := by
    funext vs H1
    rw [List.append_nil]
  refine PySem.W.callWith_S2 (h₀ := X.base) I1.ok.mod.kin hk (thn (ha.run pos pins s1 σ _ _ I1 ht) fun us s2 ⟨vs, H2, I2, r, q⟩ => ⟨I2.kIn, ?_⟩) he hst
  refine run_fn F (hr.mono hkn) hb .nil hx I2 r ?_
  rw [List.append_nil]
  exact q
theorem s_callVS {i : Nat} {S : Addr → Sp → Prop} {E : XK} {t : TA} {σ : St} {H : Hp} {Q : VK} (k : ∃ f sp, σ[i]? = some (some (.ref f)) ∧ S f sp ∧ t σ H fun vs H1 => sp vs H1 Q E) : tCallVS i S E t σ H Q := k
end L2
namespace L2
open PySem PySem.Spec PySem.Calls PyProof.Rows
/-- e.f, e caught, of whichever class -/
def tXfA (K : PySem.W.Frag) (a : Addr) (cls : Value) (d : Option Addr) (f : Str) (te : TE) : TE := fun σ H Q => ∃ C : Addr, XfC K C ∧ PySem.W.findIn K (.ref C) f = some none ∧ tXf a cls d C f te σ H Q
theorem pe_xfA {X : Cx} {a : Addr} {oe : Obj} {cls : Value} {d : Option Addr} {pn : List (Addr × Obj)} {e : Expr} {te : TE} {pos : Pos} {n : Str}
    (hz : Zc cls d oe) (hf : ∃ vs, oe.data = .fields vs) (he : PE (X.suite a ((a, oe) :: pn)) e te) (hb : attributeBase e n X.env (eval e X.env) = eval e X.env := by rfl) :
    PE (X.suite a ((a, oe) :: pn)) (.Attribute e n pos) (tXfA X.K a cls d n te) := by
  refine ⟨fun pins s σ H Q I h => ?_⟩
  obtain ⟨C, T, hno, h⟩ := h
  exact (pe_xf T hno hz hf he hb).run pins s σ H Q I h
theorem s_xfA {K : PySem.W.Frag} {a : Addr} {cls : Value} {d : Option Addr} {f : Str} {te : TE} {σ : St} {H : Hp} {Q : VK} {C : Addr} (T : XfC K C) (no : PySem.W.findIn K (.ref C) f = some none) (k : tXf a cls d C f te σ H Q) : tXfA K a cls d f te σ H Q := ⟨C, T, no, k⟩
theorem s_xf {a : Addr} {cls : Value} {d : Option Addr} {C : Addr} {f : Str} {te : TE} {σ : St} {H : Hp} {Q : VK} (k : te σ H fun x H1 => x = .ref a ∧ cls = .ref C ∧ ∃ (dd : Addr) (fs : List (Str × V)) (v : V), d = some dd ∧ H1 dd = some (.xd fs) ∧ fs.lookup f = some v ∧ Q v H1) : tXf a cls d C f te σ H Q := k
end L2
namespace L2
open PySem PySem.Spec PySem.Calls PyProof.Rows
theorem pe_fldK {X : Cx} {K : PySem.W.Frag} {e : Expr} {f : Str} {pos : Pos} {ta : TE} (hK : X.K = K) (he : PE X e ta) (hb : attributeBase e f X.env (eval e X.env) = eval e X.env) : PE X (.Attribute e f pos) (tFld K ta f) := by
  subst hK
  exact pe_fld he hb
end L2
namespace L2
open PySem PySem.Spec PySem.Calls PyProof.Rows
theorem pe_revLK {X : Cx} {K : PySem.W.Frag} (hK : X.K = K) {e : Expr} {te : TE} {k : Nat} {p1 p2 p3 pos : Pos} (he : PE X e te) : PE X (.Subscript e (.Slice none none (some (.UnaryOp .USub (.Constant (.int 1) k p1) p2)) p3) pos) (tRevL K te) := by
  subst hK
  exact pe_revL he
theorem pi_listK {X : Cx} {K : PySem.W.Frag} (hK : X.K = K) {tg l : Expr} {tl : TE} (hl : PE X l tl) : PI X tg l (iList K tl) := by
  subst hK
  exact pi_list hl
theorem pt_truthK {X : Cx} {K : PySem.W.Frag} (hK : X.K = K) {a : Expr} {ta : TE} (ha : PE X a ta) (he : ∀ whole, isTrue a X.env whole = (do let v ← whole; standAt a.pos; holding [v] (truthy v))) : PT X a (fun σ H Q => ta σ H fun x H' => ∃ k, TruV K x H' k ∧ Q k H') := by
  subst hK
  exact pt_truth ha he
end L2

set_option Elab.async false
set_option linter.all false
set_option maxRecDepth 100000
/-! any key in a dict of the module: what its keys are -/
namespace L2
open PySem PySem.Spec PyProof.Rows
def keyS : Value → Option Str
  | .str x _ => some x
  | _ => none
theorem miss_of {K : PySem.W.Frag} {B : Addr} {es : Array DictEntry} {n : Nat} {c : Value} {d : Option Addr} {sl : Array (Option Value)} {ks : List Str} {z : Str} (ld : K.lookup B = some ⟨c, d, .dict es n, sl⟩) (hk : es.toList.map (fun e => keyS e.key) = ks.map some) (hz : z ∉ ks) : PySem.W.nsIn K B z = some none := by
  have key : ∀ e ∈ es.toList, ∃ x t, e.key = .str x t ∧ x ∈ ks := fun e he => by
    have h1 : keyS e.key ∈ ks.map some := by
      rw [← hk]
      exact List.mem_map.mpr ⟨e, he, rfl⟩
    obtain ⟨x, hx, hxe⟩ := List.mem_map.mp h1
    cases hv : e.key with
    | str y t =>
      rw [hv] at hxe
      cases hxe
      exact ⟨_, t, rfl, hx⟩
    | _ =>
      rw [hv] at hxe
      cases hxe
  unfold PySem.W.nsIn
  rw [ld]
  dsimp only
  have h1 : es.toList.find? (·.key.isStr z) = none := by
    rw [List.find?_eq_none]
    intro e he
    obtain ⟨x, t, e1, e2⟩ := key e he
    rw [e1]
    intro q
    have : x = z := by simpa [Value.isStr] using q
    exact hz (this ▸ e2)
  rw [h1]
  dsimp only
  have h2 : es.toList.any (·.refKey) = false := by
    rw [List.any_eq_false]
    intro e he
    obtain ⟨x, t, e1, e2⟩ := key e he
    unfold DictEntry.refKey
    rw [e1]
    simp
  rw [h2]
  rfl
end L2

set_option Elab.async false
set_option maxRecDepth 100000
set_option maxHeartbeats 4000000
set_option linter.all false
namespace Q
open PySem L2 Z
def top (i : Nat) : Stmt := PySem.Challenge.pw_pikeroll_k34_lines_that_a_desk_knows_not.main.body.getD i (.Pass ⟨0, 0, 0, 0⟩)
abbrev s_p_is_number : Stmt := top 22
abbrev s_p_is_good : Stmt := top 23
abbrev s_p_are_rising : Stmt := top 24
abbrev s_p_need_fact : Stmt := top 25
abbrev s_p_fact_text : Stmt := top 56
abbrev s_p_page_of : Stmt := top 57
abbrev s_p_is_number_text : Stmt := top 58
abbrev s_p_read_numbers : Stmt := top 59
abbrev s_p_read_fact : Stmt := top 60
abbrev s_p_strike_line : Stmt := top 63
abbrev s_p_undo_line : Stmt := top 64
abbrev s_p_redo_line : Stmt := top 65
abbrev s_p_row_line : Stmt := top 66
abbrev s_p_why_line : Stmt := top 67
abbrev s_p_owes_line : Stmt := top 68
abbrev s_p_trusts_line : Stmt := top 69
abbrev s_p_right_line : Stmt := top 72
abbrev s_p_numbers_line : Stmt := top 73
abbrev s_p_answer : Stmt := top 74
abbrev s_l_bag : Stmt := top 77
abbrev s_l_pull : Stmt := top 78
abbrev s_l_like : Stmt := top 79
abbrev s_l_gate : Stmt := top 80
abbrev s_l_day : Stmt := top 81
abbrev s_l_board : Stmt := top 82
abbrev s_l_passing : Stmt := top 83
abbrev s_l_stretch : Stmt := top 84
abbrev s_l_fact : Stmt := top 85
abbrev s_l_text : Stmt := top 86
abbrev s_l_number_read : Stmt := top 87
abbrev s_l_fact_read : Stmt := top 88
abbrev s_l_words_bent : Stmt := top 89
abbrev s_l_sign : Stmt := top 90
abbrev s_l_text_bent : Stmt := top 91
abbrev s_l_is_line : Stmt := top 92
abbrev s_c_Roll_init : Stmt := inClass (top 53) 0
abbrev s_c_Roll_len : Stmt := inClass (top 53) 2
abbrev s_c_Roll_need_standing : Stmt := inClass (top 53) 3
abbrev s_c_Roll_enter : Stmt := inClass (top 53) 4
abbrev s_c_Roll_replace_fact : Stmt := inClass (top 53) 5
abbrev s_c_Roll_tell : Stmt := inClass (top 53) 6
abbrev s_c_Roll_right : Stmt := inClass (top 53) 7
abbrev s_c_Roll_strike : Stmt := inClass (top 53) 8
abbrev s_c_Roll_undo : Stmt := inClass (top 53) 9
abbrev s_c_Roll_redo : Stmt := inClass (top 53) 10
abbrev s_c_Roll_facts : Stmt := inClass (top 53) 11
abbrev s_c_Roll_told : Stmt := inClass (top 53) 12
abbrev s_c_Roll_deeds : Stmt := inClass (top 53) 13
abbrev s_c_Roll_twin : Stmt := inClass (top 53) 15
abbrev s_c_Desk_init : Stmt := inClass (top 75) 0
abbrev s_c_Desk_say : Stmt := inClass (top 75) 1
abbrev s_c_Desk_roll : Stmt := inClass (top 75) 2
abbrev s_c_PikeError_init : Stmt := inClass (top 1) 0
abbrev s_c_Missing_init : Stmt := inClass (top 8) 0
abbrev s_c_BadFact_init : Stmt := inClass (top 2) 0
abbrev s_law : Stmt := top 93

local macro_rules | `(tactic| walk_at "z0") => `(tactic| try dsimp only [L2.cxOf, L2.Cx.nox, L2.Cx.wish])
local macro_rules | `(tactic| walk_at "zside") => `(tactic| first
  | decide | omega | exact ⟨by omega, by omega⟩ | exact Or.inr ⟨by omega, by omega⟩ | exact Or.inl ⟨by omega, by omega⟩ | exact ⟨by decide, by decide⟩ | exact ⟨by decide, by decide, by decide⟩ | (dsimp only; omega))
local macro_rules | `(tactic| walk_at "zex") => `(tactic| first | assumption | exact Ex.refl | (refine Ex.trans ?_ (by assumption); walk_at "zex"))
local macro_rules | `(tactic| walk_at "zbag") => `(tactic| first | assumption | (apply Bag.ext; assumption; walk_at "zex"))
local macro_rules | `(tactic| walk_at "zne") => `(tactic| first | assumption | exact Ne.symm (by assumption) | (apply neb_of; assumption; walk_at "zbag") | (apply nec_of; assumption; walk_at "zbag"))
local macro_rules | `(tactic| walk_at "zhp") => `(tactic| first | assumption | exact upd_same | (refine upd_at ?_ ?_; (focus (walk_at "zne")); walk_at "zhp") | (apply ex_at; assumption; walk_at "zhp") | (apply fr_at; assumption; (focus (walk_at "zne")); walk_at "zhp"))
local macro_rules | `(tactic| walk_at "zkb") => `(tactic| first | with_reducible exact kb_int_tuple | with_reducible exact kb_int_list | with_reducible exact kb_int_bool | with_reducible exact kb_int_int | with_reducible exact kb_str_tuple | with_reducible exact kb_str_list | with_reducible exact kb_str_bool | with_reducible exact kb_str_int | with_reducible exact kb_bool_tuple | with_reducible exact kb_bool_list | with_reducible exact kb_bool_bool | with_reducible exact kb_bool_int | with_reducible exact kb_NoneType_tuple | with_reducible exact kb_NoneType_list | with_reducible exact kb_NoneType_bool | with_reducible exact kb_NoneType_int | with_reducible exact kb_tuple_tuple | with_reducible exact kb_tuple_list | with_reducible exact kb_tuple_bool | with_reducible exact kb_tuple_int | with_reducible exact kb_list_tuple | with_reducible exact kb_list_list | with_reducible exact kb_list_bool | with_reducible exact kb_list_int)
local macro_rules | `(tactic| walk_at "zsz") => `(tactic| first | exact sz (by decide) | exact sz (by simp) | exact sz (by omega))
local macro_rules | `(tactic| walk_at "zex") => `(tactic| first | assumption | exact Ex.refl | (refine Ex.trans ?_ (by assumption); walk_at "zex"))
local macro_rules | `(tactic| walk_at "zsL") => `(tactic| first | exact SqL.of (by walk_at "zhp") | assumption | (apply sqL_ex; assumption; walk_at "zex"))
local macro_rules | `(tactic| walk_at "zsT") => `(tactic| first | exact SqT.of (by walk_at "zhp") | assumption | (apply sqT_ex; assumption; walk_at "zex"))
local macro_rules | `(tactic| walk_at "zsq") => `(tactic| first | walk_at "zsL" | walk_at "zsT" | (apply Or.inl; walk_at "zsL") | (apply Or.inr; walk_at "zsT"))
local macro_rules | `(tactic| walk_at "zty") => `(tactic| first | assumption | exact .base (.int _) | exact .base (.bl _) | exact .base (.str _) | exact .base .non | exact ty_sqT (by walk_at "zsq") | exact ty_sqL (by walk_at "zsq"))
local macro_rules | `(tactic| walk_at "zbag") => `(tactic| first | assumption | (apply Bag.ext; assumption; walk_at "zex"))
local macro_rules | `(tactic| walk_at "zpull") => `(tactic| (apply use_pull; (focus (walk_at "zbag")); (focus (first | exact ⟨by decide, by decide⟩ | exact ⟨by omega, by omega⟩ | (exact ⟨by simp; omega, by simp; omega⟩))); intro _ _ _ _ _ _))
local macro_rules | `(tactic| walk_at "zin") => `(tactic| repeat (first | exact intIn_nil | (refine intIn_cons ⟨?_, ?_⟩ ?_; (focus omega); (focus omega)) | (refine intIn_cons ?_ ?_; (focus (first | assumption | exact ⟨by omega, by omega⟩)))))
local macro_rules | `(tactic| walk_at "zfr") => `(tactic| first | assumption | exact Fr.refl | (refine Fr.trans ?_ (by assumption); walk_at "zfr") | (refine Fr.trans ?_ (Ex.fr _ (by assumption)); walk_at "zfr"))
local macro_rules | `(tactic| walk_at "zdp") => `(tactic| repeat' (first | exact DpAll.nil | apply DpAll.cons | exact Dp.int _ | exact Dp.str _ | exact Dp.bl _ | exact Dp.non | assumption))
local macro_rules | `(tactic| walk_at "zR") => `(tactic| first | assumption | exact ⟨by omega, by omega⟩)
local macro_rules | `(tactic| walk_at "z1") => `(tactic| first
  | ((with_reducible apply s_var); exact rfl)
  | with_reducible refine s_C ?_
  | with_reducible refine s_op ?_
  | ((with_reducible apply s_rI); (focus (walk_at "zside")))
  | with_reducible refine s_rI0 ?_
  | with_reducible refine s_rEqI ?_
  | with_reducible refine s_rNeI ?_
  | with_reducible refine s_rEqS ?_
  | with_reducible refine s_rNeS ?_
  | with_reducible refine s_rEqB ?_
  | with_reducible refine s_rNeB ?_
  | ((with_reducible apply s_ixL); (focus (walk_at "zsq")); (focus (exact rfl)))
  | ((with_reducible apply s_ixT); (focus (walk_at "zsq")); (focus (exact rfl)))
  | ((with_reducible apply s_rLen); (focus (walk_at "zsq")))
  | with_reducible refine s_rAbs ?_
  | with_reducible refine s_rMax2 ?_
  | with_reducible refine s_rMin2 ?_
  | with_reducible refine s_rInt1 ?_
  | with_reducible refine s_rIntB ?_
  | with_reducible refine s_rIsN ?_
  | with_reducible refine s_rNotN ?_
  | with_reducible refine s_rFind ?_
  | ((with_reducible apply s_newS); (focus (walk_at "zsz")); intro _ _ _ _ _)
  | ((with_reducible apply s_new); intro _ _ _ _ _)
  | ((with_reducible apply s_slL); (focus (walk_at "zsq")))
  | ((with_reducible apply s_isi); (focus (walk_at "zty")); (focus (walk_at "zkb")))
  | ((with_reducible apply s_isiTL); (focus (walk_at "zhp")); (focus (walk_at "zty")); (focus (walk_at "zkb")); (focus (walk_at "zkb")))
  | ((with_reducible apply s_rListOf); (focus (walk_at "zsq")))
  | ((with_reducible apply s_rTupleOf); (focus (walk_at "zsq")))
  | ((with_reducible apply s_rDivmod); (focus (walk_at "zside")))
  | ((with_reducible apply s_rRjust); (focus (exact rfl)))
  | ((with_reducible apply s_rEq); (focus (exact rfl)))
  | ((with_reducible apply s_rNe); (focus (exact rfl)))
  | with_reducible refine s_tB ?_
  | with_reducible refine s_tTest ?_
  | with_reducible refine s_bl ?_
  | with_reducible refine s_nil ?_
  | with_reducible refine s_cons ?_
  | with_reducible refine s_CB ?_
  | with_reducible refine s_call ?_
  | walk_at "zpull"
  | ((with_reducible apply use_int); (focus (walk_at "zbag")); intro _ _ _ _ _ _)
  | with_reducible refine s_seq ?_
  | ((with_reducible refine s_set ?_); try dsimp only [List.set_cons_zero, List.set_cons_succ])
  | with_reducible refine s_ifS ?_
  | with_reducible refine s_ret ?_
  | with_reducible refine s_drop ?_
  | with_reducible refine s_next ?_
  | with_reducible refine s_and ?_
  | with_reducible refine s_or ?_
  | with_reducible refine s_not ?_
  | with_reducible refine s_andV ?_
  | with_reducible refine s_orV ?_
  | with_reducible refine s_notV ?_
  | with_reducible refine s_ifE ?_
  | with_reducible refine s_un ?_
  | with_reducible refine s_rU ?_
  | with_reducible refine s_chain ?_
  | with_reducible refine s_tup ?_
  | with_reducible refine s_lst ?_
  | with_reducible refine s_sl ?_
  | with_reducible refine s_noPart ?_
  | with_reducible refine s_part ?_
  | with_reducible refine s_partI ?_
  | ((with_reducible refine s_gName ?_); try dsimp only [List.set_cons_zero, List.set_cons_succ])
  | with_reducible refine s_gSub ?_
  | ((with_reducible apply s_gTup); (focus (walk_at "zsq")); (focus (exact rfl)))
  | with_reducible refine s_gCons ?_
  | with_reducible refine s_gNil ?_
  | with_reducible refine s_asg ?_
  | with_reducible refine s_par ?_
  | ((with_reducible refine s_parI ?_); try dsimp only [List.set_cons_zero, List.set_cons_succ])
  | with_reducible refine s_fld ?_
  | with_reducible refine s_bm ?_
  | with_reducible refine s_bm0 ?_
  | with_reducible refine s_m0 ?_
  | with_reducible refine s_m1 ?_
  | with_reducible refine s_for ?_
  | with_reducible refine s_iRng1 ?_
  | with_reducible refine s_iRng2 ?_
  | with_reducible refine s_iList ?_
  | with_reducible refine s_iTup ?_
  | with_reducible refine s_iStr ?_
  | with_reducible refine s_iEnum ?_
  | with_reducible refine ite_t ?_
  | with_reducible refine ite_f ?_
  | with_reducible refine s_isStr ?_
  | with_reducible refine s_callS ?_
  | with_reducible refine s_rNotInS ?_
  | with_reducible refine s_rInS ?_
  | with_reducible refine s_tFmt ?_
  | with_reducible refine s_tFS ?_
  | with_reducible refine s_jsNil ?_
  | with_reducible refine s_jsCons ?_
  | with_reducible refine s_tRevL ?_
  | ((with_reducible apply s_revV); (focus (walk_at "zsq")))
  | with_reducible refine s_tyS ?_
  | ((with_reducible apply s_tyL); (focus (walk_at "zsq")))
  | ((with_reducible apply s_rRjust2); (focus (exact ⟨by decide, by decide⟩)))
  | with_reducible refine s_lc ?_
  | with_reducible refine s_yes ?_
  | ((with_reducible apply ite_fE); (focus (exact rfl)))
  | ((with_reducible apply ite_tE); (focus (exact rfl))))
local macro_rules | `(tactic| walk_at "z") => `(tactic| repeat (walk_at "z1"))

structure Tx (P : Program) (K : PySem.W.Frag) (mg : Str → Option Value) (w : World) where
  f_p_is_number : Addr
  d_p_is_number : FuncData
  F_p_is_number : Fun K "is_number" "is_number" s_p_is_number f_p_is_number d_p_is_number
  g_p_is_number : mg "is_number" = some (.ref f_p_is_number)
  b_p_is_number : Binds K d_p_is_number ["thing"] []
  f_p_is_good : Addr
  d_p_is_good : FuncData
  F_p_is_good : Fun K "is_good" "is_good" s_p_is_good f_p_is_good d_p_is_good
  g_p_is_good : mg "is_good" = some (.ref f_p_is_good)
  b_p_is_good : Binds K d_p_is_good ["kind", "number"] []
  f_p_are_rising : Addr
  d_p_are_rising : FuncData
  F_p_are_rising : Fun K "are_rising" "are_rising" s_p_are_rising f_p_are_rising d_p_are_rising
  g_p_are_rising : mg "are_rising" = some (.ref f_p_are_rising)
  b_p_are_rising : Binds K d_p_are_rising ["kind", "numbers"] []
  f_p_need_fact : Addr
  d_p_need_fact : FuncData
  F_p_need_fact : Fun K "need_fact" "need_fact" s_p_need_fact f_p_need_fact d_p_need_fact
  g_p_need_fact : mg "need_fact" = some (.ref f_p_need_fact)
  b_p_need_fact : Binds K d_p_need_fact ["fact"] []
  f_p_fact_text : Addr
  d_p_fact_text : FuncData
  F_p_fact_text : Fun K "fact_text" "fact_text" s_p_fact_text f_p_fact_text d_p_fact_text
  g_p_fact_text : mg "fact_text" = some (.ref f_p_fact_text)
  b_p_fact_text : Binds K d_p_fact_text ["fact"] []
  f_p_page_of : Addr
  d_p_page_of : FuncData
  F_p_page_of : Fun K "page_of" "page_of" s_p_page_of f_p_page_of d_p_page_of
  g_p_page_of : mg "page_of" = some (.ref f_p_page_of)
  b_p_page_of : Binds K d_p_page_of ["roll"] []
  f_p_is_number_text : Addr
  d_p_is_number_text : FuncData
  F_p_is_number_text : Fun K "is_number_text" "is_number_text" s_p_is_number_text f_p_is_number_text d_p_is_number_text
  g_p_is_number_text : mg "is_number_text" = some (.ref f_p_is_number_text)
  b_p_is_number_text : Binds K d_p_is_number_text ["word"] []
  f_p_read_numbers : Addr
  d_p_read_numbers : FuncData
  F_p_read_numbers : Fun K "read_numbers" "read_numbers" s_p_read_numbers f_p_read_numbers d_p_read_numbers
  g_p_read_numbers : mg "read_numbers" = some (.ref f_p_read_numbers)
  b_p_read_numbers : Binds K d_p_read_numbers ["words"] []
  f_p_read_fact : Addr
  d_p_read_fact : FuncData
  F_p_read_fact : Fun K "read_fact" "read_fact" s_p_read_fact f_p_read_fact d_p_read_fact
  g_p_read_fact : mg "read_fact" = some (.ref f_p_read_fact)
  b_p_read_fact : Binds K d_p_read_fact ["words"] []
  f_p_strike_line : Addr
  d_p_strike_line : FuncData
  F_p_strike_line : Fun K "strike_line" "strike_line" s_p_strike_line f_p_strike_line d_p_strike_line
  g_p_strike_line : mg "strike_line" = some (.ref f_p_strike_line)
  b_p_strike_line : Binds K d_p_strike_line ["roll", "number"] []
  f_p_undo_line : Addr
  d_p_undo_line : FuncData
  F_p_undo_line : Fun K "undo_line" "undo_line" s_p_undo_line f_p_undo_line d_p_undo_line
  g_p_undo_line : mg "undo_line" = some (.ref f_p_undo_line)
  b_p_undo_line : Binds K d_p_undo_line ["roll"] []
  f_p_redo_line : Addr
  d_p_redo_line : FuncData
  F_p_redo_line : Fun K "redo_line" "redo_line" s_p_redo_line f_p_redo_line d_p_redo_line
  g_p_redo_line : mg "redo_line" = some (.ref f_p_redo_line)
  b_p_redo_line : Binds K d_p_redo_line ["roll"] []
  f_p_row_line : Addr
  d_p_row_line : FuncData
  F_p_row_line : Fun K "row_line" "row_line" s_p_row_line f_p_row_line d_p_row_line
  g_p_row_line : mg "row_line" = some (.ref f_p_row_line)
  b_p_row_line : Binds K d_p_row_line ["roll", "number"] []
  f_p_why_line : Addr
  d_p_why_line : FuncData
  F_p_why_line : Fun K "why_line" "why_line" s_p_why_line f_p_why_line d_p_why_line
  g_p_why_line : mg "why_line" = some (.ref f_p_why_line)
  b_p_why_line : Binds K d_p_why_line ["roll", "number"] []
  f_p_owes_line : Addr
  d_p_owes_line : FuncData
  F_p_owes_line : Fun K "owes_line" "owes_line" s_p_owes_line f_p_owes_line d_p_owes_line
  g_p_owes_line : mg "owes_line" = some (.ref f_p_owes_line)
  b_p_owes_line : Binds K d_p_owes_line ["roll", "carriage", "day"] []
  f_p_trusts_line : Addr
  d_p_trusts_line : FuncData
  F_p_trusts_line : Fun K "trusts_line" "trusts_line" s_p_trusts_line f_p_trusts_line d_p_trusts_line
  g_p_trusts_line : mg "trusts_line" = some (.ref f_p_trusts_line)
  b_p_trusts_line : Binds K d_p_trusts_line ["roll", "day"] []
  f_p_right_line : Addr
  d_p_right_line : FuncData
  F_p_right_line : Fun K "right_line" "right_line" s_p_right_line f_p_right_line d_p_right_line
  g_p_right_line : mg "right_line" = some (.ref f_p_right_line)
  b_p_right_line : Binds K d_p_right_line ["roll", "words"] []
  f_p_numbers_line : Addr
  d_p_numbers_line : FuncData
  F_p_numbers_line : Fun K "numbers_line" "numbers_line" s_p_numbers_line f_p_numbers_line d_p_numbers_line
  g_p_numbers_line : mg "numbers_line" = some (.ref f_p_numbers_line)
  b_p_numbers_line : Binds K d_p_numbers_line ["roll", "word", "words"] []
  f_p_answer : Addr
  d_p_answer : FuncData
  F_p_answer : Fun K "answer" "answer" s_p_answer f_p_answer d_p_answer
  g_p_answer : mg "answer" = some (.ref f_p_answer)
  b_p_answer : Binds K d_p_answer ["roll", "words"] []
  f_l_bag : Addr
  d_l_bag : FuncData
  F_l_bag : Fun K "_law_bag" "_law_bag" s_l_bag f_l_bag d_l_bag
  g_l_bag : mg "_law_bag" = some (.ref f_l_bag)
  b_l_bag : Binds K d_l_bag ["_law_script"] []
  f_l_pull : Addr
  d_l_pull : FuncData
  F_l_pull : Fun K "_law_pull" "_law_pull" s_l_pull f_l_pull d_l_pull
  g_l_pull : mg "_law_pull" = some (.ref f_l_pull)
  b_l_pull : Binds K d_l_pull ["_law_bag_here", "_law_amount"] []
  f_l_like : Addr
  d_l_like : FuncData
  F_l_like : Fun K "_law_like" "_law_like" s_l_like f_l_like d_l_like
  g_l_like : mg "_law_like" = some (.ref f_l_like)
  b_l_like : Binds K d_l_like ["_law_found", "_law_due"] []
  f_l_gate : Addr
  d_l_gate : FuncData
  F_l_gate : Fun K "_law_gate" "_law_gate" s_l_gate f_l_gate d_l_gate
  g_l_gate : mg "_law_gate" = some (.ref f_l_gate)
  b_l_gate : Binds K d_l_gate ["_law_bag_here"] []
  f_l_day : Addr
  d_l_day : FuncData
  F_l_day : Fun K "_law_day" "_law_day" s_l_day f_l_day d_l_day
  g_l_day : mg "_law_day" = some (.ref f_l_day)
  b_l_day : Binds K d_l_day ["_law_bag_here"] []
  f_l_board : Addr
  d_l_board : FuncData
  F_l_board : Fun K "_law_board" "_law_board" s_l_board f_l_board d_l_board
  g_l_board : mg "_law_board" = some (.ref f_l_board)
  b_l_board : Binds K d_l_board ["_law_bag_here"] []
  f_l_passing : Addr
  d_l_passing : FuncData
  F_l_passing : Fun K "_law_passing" "_law_passing" s_l_passing f_l_passing d_l_passing
  g_l_passing : mg "_law_passing" = some (.ref f_l_passing)
  b_l_passing : Binds K d_l_passing ["_law_bag_here"] []
  f_l_stretch : Addr
  d_l_stretch : FuncData
  F_l_stretch : Fun K "_law_stretch" "_law_stretch" s_l_stretch f_l_stretch d_l_stretch
  g_l_stretch : mg "_law_stretch" = some (.ref f_l_stretch)
  b_l_stretch : Binds K d_l_stretch ["_law_bag_here"] []
  f_l_fact : Addr
  d_l_fact : FuncData
  F_l_fact : Fun K "_law_fact" "_law_fact" s_l_fact f_l_fact d_l_fact
  g_l_fact : mg "_law_fact" = some (.ref f_l_fact)
  b_l_fact : Binds K d_l_fact ["_law_bag_here", "_law_amount"] []
  f_l_text : Addr
  d_l_text : FuncData
  F_l_text : Fun K "_law_text" "_law_text" s_l_text f_l_text d_l_text
  g_l_text : mg "_law_text" = some (.ref f_l_text)
  b_l_text : Binds K d_l_text ["_law_fact_here"] []
  f_l_number_read : Addr
  d_l_number_read : FuncData
  F_l_number_read : Fun K "_law_number_read" "_law_number_read" s_l_number_read f_l_number_read d_l_number_read
  g_l_number_read : mg "_law_number_read" = some (.ref f_l_number_read)
  b_l_number_read : Binds K d_l_number_read ["_law_word"] []
  f_l_fact_read : Addr
  d_l_fact_read : FuncData
  F_l_fact_read : Fun K "_law_fact_read" "_law_fact_read" s_l_fact_read f_l_fact_read d_l_fact_read
  g_l_fact_read : mg "_law_fact_read" = some (.ref f_l_fact_read)
  b_l_fact_read : Binds K d_l_fact_read ["_law_words"] []
  f_l_words_bent : Addr
  d_l_words_bent : FuncData
  F_l_words_bent : Fun K "_law_words_bent" "_law_words_bent" s_l_words_bent f_l_words_bent d_l_words_bent
  g_l_words_bent : mg "_law_words_bent" = some (.ref f_l_words_bent)
  b_l_words_bent : Binds K d_l_words_bent ["_law_bag_here", "_law_row"] []
  f_l_sign : Addr
  d_l_sign : FuncData
  F_l_sign : Fun K "_law_sign" "_law_sign" s_l_sign f_l_sign d_l_sign
  g_l_sign : mg "_law_sign" = some (.ref f_l_sign)
  b_l_sign : Binds K d_l_sign ["_law_bag_here"] []
  f_l_text_bent : Addr
  d_l_text_bent : FuncData
  F_l_text_bent : Fun K "_law_text_bent" "_law_text_bent" s_l_text_bent f_l_text_bent d_l_text_bent
  g_l_text_bent : mg "_law_text_bent" = some (.ref f_l_text_bent)
  b_l_text_bent : Binds K d_l_text_bent ["_law_bag_here", "_law_text_here"] []
  f_l_is_line : Addr
  d_l_is_line : FuncData
  F_l_is_line : Fun K "_law_is_line" "_law_is_line" s_l_is_line f_l_is_line d_l_is_line
  g_l_is_line : mg "_law_is_line" = some (.ref f_l_is_line)
  b_l_is_line : Binds K d_l_is_line ["_law_line"] []
  z_len : mg "len" = none
  z_isinstance : mg "isinstance" = none
  z_tuple : mg "tuple" = none
  z_list : mg "list" = none
  z_bool : mg "bool" = none
  z_range : mg "range" = none
  z_int : mg "int" = none
  z_set : mg "set" = none
  z_sorted : mg "sorted" = none
  z_all : mg "all" = none
  z_enumerate : mg "enumerate" = none
  z_str : mg "str" = none
  z_dict : mg "dict" = none
  z_min : mg "min" = none
  t_MOST_FACTS : Tok
  k_MOST_FACTS : mg "MOST_FACTS" = some (.int 120 t_MOST_FACTS)
  t_MOST_FIGURES : Tok
  k_MOST_FIGURES : mg "MOST_FIGURES" = some (.int 30 t_MOST_FIGURES)
  t_DONE : Tok
  k_DONE : mg "DONE" = some (.str "done" t_DONE)
  B_BOUNDS : Addr
  g_BOUNDS : mg "BOUNDS" = some (.ref B_BOUNDS)
  t_BOUNDS_gate : Addr
  kd_BOUNDS_gate : KDct K w B_BOUNDS "gate" (.ref t_BOUNDS_gate)
  kt_BOUNDS_gate : ∀ {H : Hp}, SqT K H t_BOUNDS_gate [.int 0, .int 7]
  t_BOUNDS_carriage : Addr
  kd_BOUNDS_carriage : KDct K w B_BOUNDS "carriage" (.ref t_BOUNDS_carriage)
  kt_BOUNDS_carriage : ∀ {H : Hp}, SqT K H t_BOUNDS_carriage [.int 0, .int 9]
  t_BOUNDS_trust : Addr
  kd_BOUNDS_trust : KDct K w B_BOUNDS "trust" (.ref t_BOUNDS_trust)
  kt_BOUNDS_trust : ∀ {H : Hp}, SqT K H t_BOUNDS_trust [.int 0, .int 3]
  t_BOUNDS_day : Addr
  kd_BOUNDS_day : KDct K w B_BOUNDS "day" (.ref t_BOUNDS_day)
  kt_BOUNDS_day : ∀ {H : Hp}, SqT K H t_BOUNDS_day [.int 0, .int 999]
  t_BOUNDS_minute : Addr
  kd_BOUNDS_minute : KDct K w B_BOUNDS "minute" (.ref t_BOUNDS_minute)
  kt_BOUNDS_minute : ∀ {H : Hp}, SqT K H t_BOUNDS_minute [.int 0, .int 1439]
  t_BOUNDS_toll : Addr
  kd_BOUNDS_toll : KDct K w B_BOUNDS "toll" (.ref t_BOUNDS_toll)
  kt_BOUNDS_toll : ∀ {H : Hp}, SqT K H t_BOUNDS_toll [.int 0, .int 48]
  t_BOUNDS_payment : Addr
  kd_BOUNDS_payment : KDct K w B_BOUNDS "payment" (.ref t_BOUNDS_payment)
  kt_BOUNDS_payment : ∀ {H : Hp}, SqT K H t_BOUNDS_payment [.int 0, .int 100000]
  t_BOUNDS_horses : Addr
  kd_BOUNDS_horses : KDct K w B_BOUNDS "horses" (.ref t_BOUNDS_horses)
  kt_BOUNDS_horses : ∀ {H : Hp}, SqT K H t_BOUNDS_horses [.int 1, .int 8]
  t_BOUNDS_number : Addr
  kd_BOUNDS_number : KDct K w B_BOUNDS "number" (.ref t_BOUNDS_number)
  kt_BOUNDS_number : ∀ {H : Hp}, SqT K H t_BOUNDS_number [.int 1, .non]
  B_SHAPES : Addr
  g_SHAPES : mg "SHAPES" = some (.ref B_SHAPES)
  t_SHAPES_toll : Addr
  kd_SHAPES_toll : KDct K w B_SHAPES "toll" (.ref t_SHAPES_toll)
  kt_SHAPES_toll : ∀ {H : Hp}, SqT K H t_SHAPES_toll [.str "gate", .str "day", .str "toll"]
  t_SHAPES_board : Addr
  kd_SHAPES_board : KDct K w B_SHAPES "board" (.ref t_SHAPES_board)
  kt_SHAPES_board : ∀ {H : Hp}, SqT K H t_SHAPES_board [.str "gate", .str "day", .str "gates"]
  t_SHAPES_trust : Addr
  kd_SHAPES_trust : KDct K w B_SHAPES "trust" (.ref t_SHAPES_trust)
  kt_SHAPES_trust : ∀ {H : Hp}, SqT K H t_SHAPES_trust [.str "gate", .str "day", .str "trust"]
  t_SHAPES_folk : Addr
  kd_SHAPES_folk : KDct K w B_SHAPES "folk" (.ref t_SHAPES_folk)
  kt_SHAPES_folk : ∀ {H : Hp}, SqT K H t_SHAPES_folk [.str "carriage", .str "day", .str "day"]
  t_SHAPES_bargain : Addr
  kd_SHAPES_bargain : KDct K w B_SHAPES "bargain" (.ref t_SHAPES_bargain)
  kt_SHAPES_bargain : ∀ {H : Hp}, SqT K H t_SHAPES_bargain [.str "gate", .str "carriage", .str "day", .str "day"]
  t_SHAPES_pass : Addr
  kd_SHAPES_pass : KDct K w B_SHAPES "pass" (.ref t_SHAPES_pass)
  kt_SHAPES_pass : ∀ {H : Hp}, SqT K H t_SHAPES_pass [.str "day", .str "minute", .str "gate", .str "carriage", .str "horses"]
  t_SHAPES_lost : Addr
  kd_SHAPES_lost : KDct K w B_SHAPES "lost" (.ref t_SHAPES_lost)
  kt_SHAPES_lost : ∀ {H : Hp}, SqT K H t_SHAPES_lost [.str "number", .str "minute"]
  t_SHAPES_paid : Addr
  kd_SHAPES_paid : KDct K w B_SHAPES "paid" (.ref t_SHAPES_paid)
  kt_SHAPES_paid : ∀ {H : Hp}, SqT K H t_SHAPES_paid [.str "carriage", .str "day", .str "payment"]
  dic_SHAPES : KDic K w B_SHAPES
  ms0_SHAPES : KMiss K w B_SHAPES ""
  ms1_SHAPES : KMiss K w B_SHAPES "Pass"
  ms2_SHAPES : KMiss K w B_SHAPES "tolls"
  ms3_SHAPES : KMiss K w B_SHAPES "gate"
  ms4_SHAPES : KMiss K w B_SHAPES "pass "
  B_ANSWERS : Addr
  g_ANSWERS : mg "ANSWERS" = some (.ref B_ANSWERS)
  kd_ANSWERS_strike : KDct K w B_ANSWERS "strike" (.ref f_p_strike_line)
  kd_ANSWERS_undo : KDct K w B_ANSWERS "undo" (.ref f_p_undo_line)
  kd_ANSWERS_redo : KDct K w B_ANSWERS "redo" (.ref f_p_redo_line)
  kd_ANSWERS_row : KDct K w B_ANSWERS "row" (.ref f_p_row_line)
  kd_ANSWERS_why : KDct K w B_ANSWERS "why" (.ref f_p_why_line)
  kd_ANSWERS_owes : KDct K w B_ANSWERS "owes" (.ref f_p_owes_line)
  kd_ANSWERS_trusts : KDct K w B_ANSWERS "trusts" (.ref f_p_trusts_line)
  dic_ANSWERS : KDic K w B_ANSWERS
  ms0_ANSWERS : KMiss K w B_ANSWERS "toll"
  ms1_ANSWERS : KMiss K w B_ANSWERS "board"
  ms2_ANSWERS : KMiss K w B_ANSWERS "trust"
  ms3_ANSWERS : KMiss K w B_ANSWERS "folk"
  ms4_ANSWERS : KMiss K w B_ANSWERS "bargain"
  ms5_ANSWERS : KMiss K w B_ANSWERS "pass"
  ms6_ANSWERS : KMiss K w B_ANSWERS "lost"
  ms7_ANSWERS : KMiss K w B_ANSWERS "paid"
  B_COUNTS : Addr
  g_COUNTS : mg "COUNTS" = some (.ref B_COUNTS)
  kd_COUNTS_strike : KDct K w B_COUNTS "strike" (.int 1)
  kd_COUNTS_undo : KDct K w B_COUNTS "undo" (.int 0)
  kd_COUNTS_redo : KDct K w B_COUNTS "redo" (.int 0)
  kd_COUNTS_row : KDct K w B_COUNTS "row" (.int 1)
  kd_COUNTS_why : KDct K w B_COUNTS "why" (.int 1)
  kd_COUNTS_owes : KDct K w B_COUNTS "owes" (.int 2)
  kd_COUNTS_trusts : KDct K w B_COUNTS "trusts" (.int 1)
  dic_COUNTS : KDic K w B_COUNTS
  ka_SHAPES : ∀ z : Str, z ∉ (["toll", "board", "trust", "folk", "bargain", "pass", "lost", "paid"] : List Str) → KMiss K w B_SHAPES z
  ka_ANSWERS : ∀ z : Str, z ∉ (["strike", "undo", "redo", "row", "why", "owes", "trusts"] : List Str) → KMiss K w B_ANSWERS z
  C_PikeError : Addr
  g_PikeError : mg "PikeError" = some (.ref C_PikeError)
  C_Missing : Addr
  g_Missing : mg "Missing" = some (.ref C_Missing)
  C_BadFact : Addr
  g_BadFact : mg "BadFact" = some (.ref C_BadFact)
  C_NoFact : Addr
  g_NoFact : mg "NoFact" = some (.ref C_NoFact)
  C_Other : Addr
  g_Other : mg "Other" = some (.ref C_Other)
  C_Full : Addr
  g_Full : mg "Full" = some (.ref C_Full)
  C_Nothing : Addr
  g_Nothing : mg "Nothing" = some (.ref C_Nothing)
  f_c_PikeError_init : Addr
  d_c_PikeError_init : FuncData
  cda_c_PikeError_init : Addr
  cc_c_PikeError_init : Addr
  FS_c_PikeError_init : FunS P K mg "__init__" "PikeError.__init__" s_c_PikeError_init f_c_PikeError_init d_c_PikeError_init cda_c_PikeError_init cc_c_PikeError_init C_PikeError
  b_c_PikeError_init : Binds K d_c_PikeError_init ["self", "reason"] []
  f_c_Missing_init : Addr
  d_c_Missing_init : FuncData
  cda_c_Missing_init : Addr
  cc_c_Missing_init : Addr
  FS_c_Missing_init : FunS P K mg "__init__" "Missing.__init__" s_c_Missing_init f_c_Missing_init d_c_Missing_init cda_c_Missing_init cc_c_Missing_init C_Missing
  b_c_Missing_init : Binds K d_c_Missing_init ["self", "number"] []
  f_c_BadFact_init : Addr
  d_c_BadFact_init : FuncData
  cda_c_BadFact_init : Addr
  cc_c_BadFact_init : Addr
  FS_c_BadFact_init : FunS P K mg "__init__" "BadFact.__init__" s_c_BadFact_init f_c_BadFact_init d_c_BadFact_init cda_c_BadFact_init cc_c_BadFact_init C_BadFact
  b_c_BadFact_init : Binds K d_c_BadFact_init ["self", "place"] []
  pk_BadFact : PkC K false C_PikeError C_BadFact "BadFact"
  in_BadFact : PySem.W.findIn K (.ref C_BadFact) "__init__" = some (some (.ref f_c_BadFact_init))
  sc_BadFact : SupC K C_BadFact C_BadFact
  so_BadFact : PySem.W.ks_superIn K C_BadFact C_BadFact "__init__" = some (some (.ref f_c_PikeError_init))
  no_BadFact : PySem.W.findIn K (.ref C_BadFact) "place" = some none
  e_BadFact : PySem.W.exmOne K (.ref C_BadFact) (.ref C_BadFact) = some true
  xf_BadFact : XfC K C_BadFact
  pk_NoFact : PkC K true C_Missing C_NoFact "NoFact"
  in_NoFact : PySem.W.findIn K (.ref C_NoFact) "__init__" = some (some (.ref f_c_Missing_init))
  no_NoFact : PySem.W.findIn K (.ref C_NoFact) "number" = some none
  e_NoFact : PySem.W.exmOne K (.ref C_NoFact) (.ref C_NoFact) = some true
  xf_NoFact : XfC K C_NoFact
  pk_Other : PkC K false C_PikeError C_Other "Other"
  in_Other : PySem.W.findIn K (.ref C_Other) "__init__" = some (some (.ref f_c_PikeError_init))
  e_Other : PySem.W.exmOne K (.ref C_Other) (.ref C_Other) = some true
  xf_Other : XfC K C_Other
  pk_Full : PkC K false C_PikeError C_Full "Full"
  in_Full : PySem.W.findIn K (.ref C_Full) "__init__" = some (some (.ref f_c_PikeError_init))
  e_Full : PySem.W.exmOne K (.ref C_Full) (.ref C_Full) = some true
  xf_Full : XfC K C_Full
  pk_Nothing : PkC K false C_PikeError C_Nothing "Nothing"
  in_Nothing : PySem.W.findIn K (.ref C_Nothing) "__init__" = some (some (.ref f_c_PikeError_init))
  e_Nothing : PySem.W.exmOne K (.ref C_Nothing) (.ref C_Nothing) = some true
  xf_Nothing : XfC K C_Nothing
  e_NoFact_PikeError : PySem.W.exmOne K (.ref C_NoFact) (.ref C_PikeError) = some false
  e_BadFact_PikeError : PySem.W.exmOne K (.ref C_BadFact) (.ref C_PikeError) = some true
  e_Other_PikeError : PySem.W.exmOne K (.ref C_Other) (.ref C_PikeError) = some true
  e_Full_PikeError : PySem.W.exmOne K (.ref C_Full) (.ref C_PikeError) = some true
  e_Nothing_PikeError : PySem.W.exmOne K (.ref C_Nothing) (.ref C_PikeError) = some true
  e_NoFact_Missing : PySem.W.exmOne K (.ref C_NoFact) (.ref C_Missing) = some true
  e_BadFact_Missing : PySem.W.exmOne K (.ref C_BadFact) (.ref C_Missing) = some false
  e_Other_Missing : PySem.W.exmOne K (.ref C_Other) (.ref C_Missing) = some false
  e_Full_Missing : PySem.W.exmOne K (.ref C_Full) (.ref C_Missing) = some false
  e_Nothing_Missing : PySem.W.exmOne K (.ref C_Nothing) (.ref C_Missing) = some false
  C_Roll : Addr
  g_Roll : mg "Roll" = some (.ref C_Roll)
  cls_Roll : Cls K C_Roll
  f_c_Roll_init : Addr
  d_c_Roll_init : FuncData
  F_c_Roll_init : Fun K "__init__" "Roll.__init__" s_c_Roll_init f_c_Roll_init d_c_Roll_init
  b_c_Roll_init : Binds K d_c_Roll_init ["self"] []
  at_c_Roll_init : PySem.W.findIn K (.ref C_Roll) "__init__" = some (some (.ref f_c_Roll_init))
  fn_c_Roll_init : PySem.W.isFn K (.ref f_c_Roll_init) = true
  mk_Roll : Mk K C_Roll f_c_Roll_init
  f_c_Roll_len : Addr
  d_c_Roll_len : FuncData
  F_c_Roll_len : Fun K "__len__" "Roll.__len__" s_c_Roll_len f_c_Roll_len d_c_Roll_len
  b_c_Roll_len : Binds K d_c_Roll_len ["self"] []
  at_c_Roll_len : PySem.W.findIn K (.ref C_Roll) "__len__" = some (some (.ref f_c_Roll_len))
  fn_c_Roll_len : PySem.W.isFn K (.ref f_c_Roll_len) = true
  f_c_Roll_need_standing : Addr
  d_c_Roll_need_standing : FuncData
  F_c_Roll_need_standing : Fun K "need_standing" "Roll.need_standing" s_c_Roll_need_standing f_c_Roll_need_standing d_c_Roll_need_standing
  b_c_Roll_need_standing : Binds K d_c_Roll_need_standing ["self", "number"] []
  at_c_Roll_need_standing : PySem.W.findIn K (.ref C_Roll) "need_standing" = some (some (.ref f_c_Roll_need_standing))
  fn_c_Roll_need_standing : PySem.W.isFn K (.ref f_c_Roll_need_standing) = true
  f_c_Roll_enter : Addr
  d_c_Roll_enter : FuncData
  F_c_Roll_enter : Fun K "enter" "Roll.enter" s_c_Roll_enter f_c_Roll_enter d_c_Roll_enter
  b_c_Roll_enter : Binds K d_c_Roll_enter ["self", "state"] []
  at_c_Roll_enter : PySem.W.findIn K (.ref C_Roll) "enter" = some (some (.ref f_c_Roll_enter))
  fn_c_Roll_enter : PySem.W.isFn K (.ref f_c_Roll_enter) = true
  f_c_Roll_replace_fact : Addr
  d_c_Roll_replace_fact : FuncData
  F_c_Roll_replace_fact : Fun K "replace_fact" "Roll.replace_fact" s_c_Roll_replace_fact f_c_Roll_replace_fact d_c_Roll_replace_fact
  b_c_Roll_replace_fact : Binds K d_c_Roll_replace_fact ["self", "number", "fact"] []
  at_c_Roll_replace_fact : PySem.W.findIn K (.ref C_Roll) "replace_fact" = some (some (.ref f_c_Roll_replace_fact))
  fn_c_Roll_replace_fact : PySem.W.isFn K (.ref f_c_Roll_replace_fact) = true
  f_c_Roll_tell : Addr
  d_c_Roll_tell : FuncData
  F_c_Roll_tell : Fun K "tell" "Roll.tell" s_c_Roll_tell f_c_Roll_tell d_c_Roll_tell
  b_c_Roll_tell : Binds K d_c_Roll_tell ["self", "fact"] []
  at_c_Roll_tell : PySem.W.findIn K (.ref C_Roll) "tell" = some (some (.ref f_c_Roll_tell))
  fn_c_Roll_tell : PySem.W.isFn K (.ref f_c_Roll_tell) = true
  f_c_Roll_right : Addr
  d_c_Roll_right : FuncData
  F_c_Roll_right : Fun K "right" "Roll.right" s_c_Roll_right f_c_Roll_right d_c_Roll_right
  b_c_Roll_right : Binds K d_c_Roll_right ["self", "number", "fact"] []
  at_c_Roll_right : PySem.W.findIn K (.ref C_Roll) "right" = some (some (.ref f_c_Roll_right))
  fn_c_Roll_right : PySem.W.isFn K (.ref f_c_Roll_right) = true
  f_c_Roll_strike : Addr
  d_c_Roll_strike : FuncData
  F_c_Roll_strike : Fun K "strike" "Roll.strike" s_c_Roll_strike f_c_Roll_strike d_c_Roll_strike
  b_c_Roll_strike : Binds K d_c_Roll_strike ["self", "number"] []
  at_c_Roll_strike : PySem.W.findIn K (.ref C_Roll) "strike" = some (some (.ref f_c_Roll_strike))
  fn_c_Roll_strike : PySem.W.isFn K (.ref f_c_Roll_strike) = true
  f_c_Roll_undo : Addr
  d_c_Roll_undo : FuncData
  F_c_Roll_undo : Fun K "undo" "Roll.undo" s_c_Roll_undo f_c_Roll_undo d_c_Roll_undo
  b_c_Roll_undo : Binds K d_c_Roll_undo ["self"] []
  at_c_Roll_undo : PySem.W.findIn K (.ref C_Roll) "undo" = some (some (.ref f_c_Roll_undo))
  fn_c_Roll_undo : PySem.W.isFn K (.ref f_c_Roll_undo) = true
  f_c_Roll_redo : Addr
  d_c_Roll_redo : FuncData
  F_c_Roll_redo : Fun K "redo" "Roll.redo" s_c_Roll_redo f_c_Roll_redo d_c_Roll_redo
  b_c_Roll_redo : Binds K d_c_Roll_redo ["self"] []
  at_c_Roll_redo : PySem.W.findIn K (.ref C_Roll) "redo" = some (some (.ref f_c_Roll_redo))
  fn_c_Roll_redo : PySem.W.isFn K (.ref f_c_Roll_redo) = true
  f_c_Roll_facts : Addr
  d_c_Roll_facts : FuncData
  F_c_Roll_facts : Fun K "facts" "Roll.facts" s_c_Roll_facts f_c_Roll_facts d_c_Roll_facts
  b_c_Roll_facts : Binds K d_c_Roll_facts ["self"] []
  at_c_Roll_facts : PySem.W.findIn K (.ref C_Roll) "facts" = some (some (.ref f_c_Roll_facts))
  fn_c_Roll_facts : PySem.W.isFn K (.ref f_c_Roll_facts) = true
  f_c_Roll_told : Addr
  d_c_Roll_told : FuncData
  F_c_Roll_told : Fun K "told" "Roll.told" s_c_Roll_told f_c_Roll_told d_c_Roll_told
  b_c_Roll_told : Binds K d_c_Roll_told ["self"] []
  at_c_Roll_told : PySem.W.findIn K (.ref C_Roll) "told" = some (some (.ref f_c_Roll_told))
  fn_c_Roll_told : PySem.W.isFn K (.ref f_c_Roll_told) = true
  f_c_Roll_deeds : Addr
  d_c_Roll_deeds : FuncData
  F_c_Roll_deeds : Fun K "deeds" "Roll.deeds" s_c_Roll_deeds f_c_Roll_deeds d_c_Roll_deeds
  b_c_Roll_deeds : Binds K d_c_Roll_deeds ["self"] []
  at_c_Roll_deeds : PySem.W.findIn K (.ref C_Roll) "deeds" = some (some (.ref f_c_Roll_deeds))
  fn_c_Roll_deeds : PySem.W.isFn K (.ref f_c_Roll_deeds) = true
  f_c_Roll_twin : Addr
  d_c_Roll_twin : FuncData
  F_c_Roll_twin : Fun K "twin" "Roll.twin" s_c_Roll_twin f_c_Roll_twin d_c_Roll_twin
  b_c_Roll_twin : Binds K d_c_Roll_twin ["self"] []
  at_c_Roll_twin : PySem.W.findIn K (.ref C_Roll) "twin" = some (some (.ref f_c_Roll_twin))
  fn_c_Roll_twin : PySem.W.isFn K (.ref f_c_Roll_twin) = true
  na_Roll_states : NoAttr K C_Roll "states"
  na_Roll_undone : NoAttr K C_Roll "undone"
  ty_Roll : ∀ {H : Hp} {a dx : Addr} {fs : List (Str × V)}, H a = some (.ins C_Roll dx fs) → TyX K H (.ref a) (.ref C_Roll)
  ko_Roll : PySem.W.kitOne K (.ref C_Roll) (.ref C_Roll) = some true
  nf_Roll : PySem.W.notFirst K C_Roll (.ref C_Roll) = true
  C_Desk : Addr
  g_Desk : mg "Desk" = some (.ref C_Desk)
  cls_Desk : Cls K C_Desk
  f_c_Desk_init : Addr
  d_c_Desk_init : FuncData
  F_c_Desk_init : FunD K "__init__" "Desk.__init__" (defArgs s_c_Desk_init) (defBody s_c_Desk_init) (defScope s_c_Desk_init) [.non] [] f_c_Desk_init d_c_Desk_init
  at_c_Desk_init : PySem.W.findIn K (.ref C_Desk) "__init__" = some (some (.ref f_c_Desk_init))
  fn_c_Desk_init : PySem.W.isFn K (.ref f_c_Desk_init) = true
  mk_Desk : Mk K C_Desk f_c_Desk_init
  f_c_Desk_say : Addr
  d_c_Desk_say : FuncData
  F_c_Desk_say : Fun K "say" "Desk.say" s_c_Desk_say f_c_Desk_say d_c_Desk_say
  b_c_Desk_say : Binds K d_c_Desk_say ["self", "line"] []
  at_c_Desk_say : PySem.W.findIn K (.ref C_Desk) "say" = some (some (.ref f_c_Desk_say))
  fn_c_Desk_say : PySem.W.isFn K (.ref f_c_Desk_say) = true
  f_c_Desk_roll : Addr
  d_c_Desk_roll : FuncData
  F_c_Desk_roll : Fun K "roll" "Desk.roll" s_c_Desk_roll f_c_Desk_roll d_c_Desk_roll
  b_c_Desk_roll : Binds K d_c_Desk_roll ["self"] []
  at_c_Desk_roll : PySem.W.findIn K (.ref C_Desk) "roll" = some (some (.ref f_c_Desk_roll))
  fn_c_Desk_roll : PySem.W.isFn K (.ref f_c_Desk_roll) = true
  na_Desk_held : NoAttr K C_Desk "held"
  ty_Desk : ∀ {H : Hp} {a dx : Addr} {fs : List (Str × V)}, H a = some (.ins C_Desk dx fs) → TyX K H (.ref a) (.ref C_Desk)
  ko_Desk : PySem.W.kitOne K (.ref C_Desk) (.ref C_Desk) = some true
  nf_Desk : PySem.W.notFirst K C_Desk (.ref C_Desk) = true
section
variable {P : Program} {w : World} {K : PySem.W.Frag} {mg : Str → Option Value} {base : Heap}
/-! own exceptions: what their __init__ leave -/
theorem sc_c_PikeError_init : NdefX.NScope ["self", "reason", "__class__"] ["self", "reason"] ["__class__"] (defScope s_c_PikeError_init) := NdefX.nscope_by (by decide +kernel)
theorem ok_c_PikeError_init (T : Tx P K mg w) : FnOk P w K mg base CX0 1 T.f_c_PikeError_init T.d_c_PikeError_init ["self", "reason"] (spPike K T.C_PikeError) := by
  refine T.FS_c_PikeError_init.ok (N := ["self", "reason", "__class__"]) (k := 0) rfl sc_c_PikeError_init (fun vs H Q E h => ?_) (fun A outer s H vs Q E hr h => ?_)
  · obtain ⟨a, C, nm, v, rfl, _⟩ := h
    rfl
  · obtain ⟨a, C, nm, v, rfl, ea, T1, k⟩ := h
    refine ⟨_, _, ps_supB (T.FS_c_PikeError_init.sup (sf := "self") (i := 0) (j := 2) rfl rfl rfl rfl rfl rfl) (pa_cons (pv 1) pa_nil), pss_one (ps_osX (pv 0) (pe_cnm (pv 0))), ?_⟩
    refine ⟨a, C, _, false, rfl, rfl, ea, T1.ox, T1.sc, T1.si, T1.sb, ?_⟩
    refine ⟨v, rfl, by show 1 ≤ 1000; decide, ea, ?_⟩
    refine ⟨.ref a, rfl, a, C, nm, rfl, ea, T1.nc, ?_⟩
    exact ⟨.ref a, rfl, a, C, false, rfl, T1.ox, T1.no, .inl ⟨ea, fun dx n ne => k dx n ne⟩⟩
theorem sc_c_Missing_init : NdefX.NScope ["self", "number", "__class__"] ["self", "number"] ["__class__"] (defScope s_c_Missing_init) := NdefX.nscope_by (by decide +kernel)
theorem ok_c_Missing_init (T : Tx P K mg w) : FnOk P w K mg base CX0 1 T.f_c_Missing_init T.d_c_Missing_init ["self", "number"] (spMiss K T.C_Missing) := by
  refine T.FS_c_Missing_init.ok (N := ["self", "number", "__class__"]) (k := 0) rfl sc_c_Missing_init (fun vs H Q E h => ?_) (fun A outer s H vs Q E hr h => ?_)
  · obtain ⟨a, C, nm, n, rfl, _⟩ := h
    rfl
  · obtain ⟨a, C, nm, n, rfl, ea, T1, hno, hz, k⟩ := h
    have hn := PyProof.Rows.int_text_len_1921 hz
    refine ⟨_, _, ps_supB (T.FS_c_Missing_init.sup (sf := "self") (i := 0) (j := 2) rfl rfl rfl rfl rfl rfl) (pa_cons (pz_fstr (PJ.cons pe_str (PJ.cons (pe_fmt (pv 1)) PJ.nil))) pa_nil), pss_cons (ps_osX (pv 0) (pe_cnm (pv 0))) (pss_one (ps_osX (pv 0) (pv 1))), ?_⟩
    refine ⟨a, C, _, true, rfl, rfl, ea, T1.ox, T1.sc, T1.si, T1.sb, ?_⟩
    walk_at "z"
    refine s_jsV (by rw [Str_len_app]; exact sz (by decide +kernel)) ?_
    walk_at "z"
    refine s_fmtI hz ?_
    refine s_jsV (by rw [Str_len_app, Str_len_app, show Str.empty.length + (Str.ofString "there is no ").length = 12 from by decide +kernel]; exact sz (by omega)) ?_
    walk_at "z"
    refine ⟨by show 1 ≤ 1000; decide, ea, ?_⟩
    refine ⟨.ref a, rfl, a, C, nm, rfl, ea, T1.nc, ?_⟩
    refine ⟨.ref a, rfl, a, C, true, rfl, T1.ox, T1.no, .inl ⟨ea, fun dx n1 ne => ?_⟩⟩
    refine ⟨.int n, rfl, .ref a, rfl, a, C, true, rfl, T1.ox, hno, .inr ⟨dx, _, upd_same, ?_, by show 1 ≤ 900; decide, k dx n1 ne⟩⟩
    rw [upd_ne ne, upd_same]
theorem sc_c_BadFact_init : NdefX.NScope ["self", "place", "__class__"] ["self", "place"] ["__class__"] (defScope s_c_BadFact_init) := NdefX.nscope_by (by decide +kernel)
theorem ok_c_BadFact_init (T : Tx P K mg w) : FnOk P w K mg base CX0 2 T.f_c_BadFact_init T.d_c_BadFact_init ["self", "place"] (spPlace K T.C_PikeError T.C_BadFact T.f_c_PikeError_init "place") := by
  refine T.FS_c_BadFact_init.ok (N := ["self", "place", "__class__"]) (k := 1) rfl sc_c_BadFact_init (fun vs H Q E h => ?_) (fun A outer s H vs Q E hr h => ?_)
  · obtain ⟨a, C, nm, n, rfl, _⟩ := h
    rfl
  · obtain ⟨a, C, nm, n, rfl, ea, T1, sc, so, hno, hz, k⟩ := h
    have hn := PyProof.Rows.int_text_len_1921 hz
    refine ⟨_, _, ps_supO (T.FS_c_BadFact_init.sup (sf := "self") (i := 0) (j := 2) rfl rfl rfl rfl rfl rfl) ((ok_c_PikeError_init T).raw T.b_c_PikeError_init .nil) hr pass0 T.FS_c_PikeError_init.ty T.FS_c_PikeError_init.fn (pa_cons (pz_fstr (PJ.cons pe_str (PJ.cons (pe_fmt (pv 1)) (PJ.cons pe_str PJ.nil)))) pa_nil), pss_one (ps_osX (pv 0) (pv 1)), ?_⟩
    refine ⟨a, C, _, rfl, rfl, ea, sc, so, ?_⟩
    walk_at "z"
    refine s_jsV (by rw [Str_len_app]; exact sz (by decide +kernel)) ?_
    walk_at "z"
    refine s_fmtI hz ?_
    refine s_jsV (by rw [Str_len_app, Str_len_app, show Str.empty.length + (Str.ofString "no good fact: place ").length = 20 from by decide +kernel]; exact sz (by omega)) ?_
    walk_at "z"
    refine s_jsV (by rw [Str_len_app, Str_len_app, Str_len_app, show Str.empty.length + (Str.ofString "no good fact: place ").length = 20 from by decide +kernel, show (Str.ofString " is wrong").length = 9 from by decide +kernel]; exact sz (by omega)) ?_
    walk_at "z"
    refine ⟨a, C, nm, _, rfl, ea, T1, fun dx n1 ne => ?_⟩
    refine ⟨.int n, rfl, .ref a, rfl, a, C, false, rfl, T1.ox, hno, .inr ⟨dx, _, upd_same, ?_, by show 1 ≤ 900; decide, k dx n1 ne⟩⟩
    rw [upd_ne ne, upd_same]

theorem sc_l_pull : FnScope ["_law_bag_here", "_law_amount", "_law_cell", "_law_got", "_law_seed"] ["_law_bag_here", "_law_amount"] (defScope s_l_pull) :=
  ⟨rfl, rfl, rfl, by decide +kernel, rfl, by decide +kernel, by decide +kernel⟩
theorem ok_l_pull (T : Tx P K mg w) : FnOk P w K mg base CX0 1 T.f_l_pull T.d_l_pull ["_law_bag_here", "_law_amount"] spPull := by
  refine T.F_l_pull.ok sc_l_pull (fun vs H Q E h => ?_) (fun cdv A outer s H vs Q E hr h => ?_)
  · obtain ⟨b, c, n, rfl, _⟩ := h
    rfl
  · obtain ⟨b, c, n, rfl, B, n0, n1, k⟩ := h
    have cb : c ≠ b := B.cb
    obtain ⟨cells, i, big, salt, hb, hc, hi, hg, hs0, hs1⟩ := B.ex
    refine ⟨_, (Evl.pss_cut (ps_if (PW.pt (pw_and (pt_cmpR op_eq (pe_ix (r := rIxL K) ix_list (pv 0) pe_int (fun _ _ => rfl)) pe_int (nomark _)) (pw_and1 (pt_cmpR op_lt (pe_ix (r := rIxL K) ix_list (pv 0) pe_int (fun _ _ => rfl)) (pe_callB (r := Z.rLen K) cz_len (by rfl) T.z_len PySem.boot_len (pa_cons (pe_ix (r := rIxL K) ix_list (pv 0) pe_int (fun _ _ => rfl)) pa_nil)) (nomark _))))) (pss_cons (ps_set (i := 2) sc_l_pull.nd rfl (Or.inl rfl) (pe_ix (r := rIxL K) ix_list (pe_ix (r := rIxL K) ix_list (pv 0) pe_int (fun _ _ => rfl)) (pe_ix (r := rIxL K) ix_list (pv 0) pe_int (fun _ _ => rfl)) (fun _ _ => rfl))) (pss_cons (ps_asg (pe_op op_add (pe_ix (r := rIxL K) ix_list (pv 0) pe_int (fun _ _ => rfl)) pe_int) (pg_sub (pv 0) pe_int set_list)) (pss_one (ps_if (pt_cmpR op_ge (pv 2) (pe_op op_pow pe_int pe_int) (nomark _)) (pss_one (ps_asg (pv 2) (pg_sub (pv 0) pe_int set_list))) (pss_one (ps_asg (pe_op op_mod (pe_op op_add (pe_op op_add (pe_op op_mul (pe_ix (r := rIxL K) ix_list (pv 0) pe_int (fun _ _ => rfl)) pe_int) (pe_op op_mul (pe_op op_mod (pv 2) pe_int) pe_int)) pe_int) pe_int) (pg_sub (pv 0) pe_int set_list))))))) pss_nil) (pss_cons (ps_if (pt_cmpR op_gt (pe_ix (r := rIxL K) ix_list (pv 0) pe_int (fun _ _ => rfl)) pe_int (nomark _)) (pss_cons (ps_set (i := 3) sc_l_pull.nd rfl (Or.inl rfl) (pe_op op_mod (pe_ix (r := rIxL K) ix_list (pv 0) pe_int (fun _ _ => rfl)) (pv 1))) (pss_cons (ps_asg (pe_op op_fdivW (pe_ix (r := rIxL K) ix_list (pv 0) pe_int (fun _ _ => rfl)) (pv 1)) (pg_sub (pv 0) pe_int set_list)) (pss_one (ps_ret (pv 3))))) pss_nil) (pss_cons (ps_set (i := 4) sc_l_pull.nd rfl (Or.inl rfl) (pe_ix (r := rIxL K) ix_list (pv 0) pe_int (fun _ _ => rfl))) (pss_cons (ps_asg (pe_op op_mod (pe_op op_add (pe_op op_add (pe_op op_mul (pv 4) pe_int) (pe_op op_mul (pe_op op_fdiv (pv 4) pe_int) pe_int)) pe_int) pe_int) (pg_sub (pv 0) pe_int set_list)) (pss_one (ps_ret (pe_op op_mod (pe_op op_add (pe_op op_fdiv (pe_ix (r := rIxL K) ix_list (pv 0) pe_int (fun _ _ => rfl)) pe_int) (pe_op op_mul (pe_op op_mod (pe_ix (r := rIxL K) ix_list (pv 0) pe_int (fun _ _ => rfl)) pe_int) pe_int)) (pv 1)))))))), ?_⟩
    refine at_start (ρ' := [some _, some _, none, none, none]) rfl ?_
    walk_at "z0"
    refine s_cut (fun ρ H' => ∃ v, ρ = [some (.ref b), some (.int n), v, none, none] ∧ Bag H' b c ∧ Fr b H H') ?_ ?_
    · walk_at "z"
      refine ite_dec (fun h0 => ?_) (fun h0 => ?_)
      · walk_at "z"
        refine ite_dec (fun h1 => ?_) (fun h1 => ?_)
        · rw [List.length_map] at h1
          have h2 : i < cells.length := by omega
          walk_at "z"
          refine s_ixL (SqL.of hc) (atI_nat (v := .int (cells[i])) (by rw [List.getElem?_map, List.getElem?_eq_getElem h2]; rfl)) ?_
          walk_at "z"
          refine s_setN hb (m := 1) rfl [.ref c, .int ((i + 1 : Nat) : Int), .int big, .int salt] rfl fun H1 e1 hb1 => ?_
          have hc1 := e1 _ _ cb hc
          walk_at "z"
          refine ite_dec (fun h3 => ?_) (fun h3 => ?_)
          · walk_at "z"
            refine s_setN hb1 (m := 2) rfl [.ref c, .int ((i + 1 : Nat) : Int), .int (cells[i]), .int salt] rfl fun H2 e2 hb2 => ?_
            have h3 : (10 : Int) ^ 18 ≤ cells[i] := h3
            exact ⟨_, rfl, .mk' hb2 (e2 _ _ cb hc1) h2 (by omega) ⟨hs0, hs1⟩, e1.trans e2⟩
          · walk_at "z"
            refine s_setN hb1 (m := 3) rfl [.ref c, .int ((i + 1 : Nat) : Int), .int big, .int _] rfl fun H2 e2 hb2 => ?_
            exact ⟨_, rfl, .mk' hb2 (e2 _ _ cb hc1) h2 hg ⟨Int.emod_nonneg _ (by decide), Int.emod_lt_of_pos _ (by decide)⟩, e1.trans e2⟩
        · walk_at "z"
          exact ⟨_, rfl, B, Fr.refl⟩
      · walk_at "z"
        exact ⟨_, rfl, B, Fr.refl⟩
    · rintro ρ H1 ⟨v, rfl, B1, e1⟩
      obtain ⟨cells, i, big, salt, hb, hc, hi, hg, hs0, hs1⟩ := B1.ex
      walk_at "z"
      refine ite_dec (fun h0 => ?_) (fun h0 => ?_)
      · walk_at "z"
        refine s_rI (wide_div n0 (b := 200) (by omega) (by decide) (by decide)) ?_
        walk_at "z"
        refine s_setN hb (m := 2) rfl [.ref c, .int (i : Int), .int (big / n), .int salt] rfl fun H2 e2 hb2 => ?_
        walk_at "z"
        exact k _ _ (Int.emod_nonneg _ (by omega)) (Int.emod_lt_of_pos _ n0) (.mk' hb2 (e2 _ _ cb hc) hi (Int.ediv_nonneg hg (by omega)) ⟨hs0, hs1⟩) (e1.trans e2)
      · walk_at "z"
        refine s_setN hb (m := 3) rfl [.ref c, .int (i : Int), .int big, .int _] rfl fun H2 e2 hb2 => ?_
        walk_at "z"
        exact k _ _ (Int.emod_nonneg _ (by omega)) (Int.emod_lt_of_pos _ n0) (.mk' hb2 (e2 _ _ cb hc) hi hg ⟨Int.emod_nonneg _ (by decide), Int.emod_lt_of_pos _ (by decide)⟩) (e1.trans e2)

theorem sc_l_bag : FnScope ["_law_script", "_law_salt", "_law_cell"] ["_law_script"] (defScope s_l_bag) :=
  ⟨rfl, rfl, rfl, by decide +kernel, rfl, by decide +kernel, by decide +kernel⟩
theorem ok_l_bag (T : Tx P K mg w) : FnOk P w K mg base CX0 1 T.f_l_bag T.d_l_bag ["_law_script"] (spBag K) := by
  refine T.F_l_bag.ok sc_l_bag (fun vs H Q E h => ?_) (fun cdv A outer s H vs Q E hr h => ?_)
  · obtain ⟨a, ns, rfl, _⟩ := h
    rfl
  · obtain ⟨a, ns, rfl, hS, hl, k⟩ := h
    refine ⟨_, (pss_cons (ps_set (i := 1) sc_l_bag.nd rfl (Or.inl rfl) pe_int) (pss_cons (ps_for PassesOwn.never rfl (pi_list (pe_slice (r := rSlL K) sl_list (pv 0) po_none (po_some pe_int))) (pg_name (i := 2) sc_l_bag.nd rfl (Or.inl rfl)) (pss_one (ps_set (i := 1) sc_l_bag.nd rfl (Or.inl rfl) (pe_op op_mod (pe_op op_add (pe_op op_add (pe_op op_mul (pv 1) pe_int) (pe_op op_mod (pv 2) pe_int)) pe_int) pe_int)))) (pss_one (ps_ret (pe_lst (pa_cons (pe_callTy (r := rListOf K) cz_listOf (by rfl) T.z_list (by decide +kernel) (pa_cons (pe_slice (r := rSlL K) sl_list (pv 0) po_none (po_some pe_int)) pa_nil)) (pa_cons pe_int (pa_cons pe_int (pa_cons (pv 1) pa_nil))))))))), ?_⟩
    refine at_start (ρ' := [some _, none, none]) rfl ?_
    walk_at "z0"
    walk_at "z"
    rename_i p H1 _ e1 hp
    rw [cut63 (by rw [List.length_map]; exact hl)] at hp
    refine l_list (ns.map V.int) (fun i σ H' => ∃ (z : Int) (v : Option V), σ = [some (.ref a), some (.int z), v] ∧ H' = H1 ∧ 0 ≤ z ∧ z < 2147483647) ⟨977, none, rfl, rfl, by decide, by decide⟩ (fun i σ H' _ h => by
      obtain ⟨_, _, _, rfl, _⟩ := h
      exact .of hp) (fun i x σ H' hx h => ?_) (fun σ H' h => ?_)
    · obtain ⟨z, v, rfl, rfl, h0, h1⟩ := h
      obtain ⟨y, rfl⟩ := map_int_get hx
      walk_at "z"
      exact ⟨_, _, rfl, rfl, Int.emod_nonneg _ (by decide), Int.emod_lt_of_pos _ (by decide)⟩
    · obtain ⟨z, v, rfl, rfl, h0, h1⟩ := h
      walk_at "z"
      rename_i q H2 nq e2 hq c H3 nc e3 hc b H4 nb e4 hb
      rw [cut63 (by rw [List.length_map]; exact hl)] at hc
      refine k b c H4 (Ex.back (by walk_at "zex") nb) (Ex.back (by walk_at "zex") nc) (by walk_at "zex") (.mk' (i := 0) hb (e4 _ _ hc) (Nat.zero_le _) (Int.le_refl _) ⟨h0, h1⟩)

theorem sc_l_like : FnScope ["_law_found", "_law_due", "_law_k"] ["_law_found", "_law_due"] (defScope s_l_like) :=
  ⟨rfl, rfl, rfl, by decide +kernel, rfl, by decide +kernel, by decide +kernel⟩
theorem ok_l_like (T : Tx P K mg w) : ∀ n, FnOk P w K mg base CX0 n T.f_l_like T.d_l_like ["_law_found", "_law_due"] (spLike K n)
  | 0 => fnOk_no like_no
  | n + 1 => by
    have IH := ok_l_like T n
    refine T.F_l_like.ok sc_l_like (fun vs H Q E h => ?_) (fun cdv A outer s H vs Q E hr h => ?_)
    · obtain ⟨x, y, d, rfl, _⟩ := h
      rfl
    · obtain ⟨x, y, d, rfl, dx, dy, ok, k⟩ := h
      refine ⟨_, (pss_cons (ps_if (PW.pt (pw_or (pt_cmpR op_ne (pe_callB (r := rIsi K) call_isi (by rfl) T.z_isinstance (by decide +kernel) (pa_cons (pv 1) (pa_cons (pe_bltn (v := .ty "tuple") rfl T.z_tuple (by decide +kernel) rfl) pa_nil))) (pe_callB (r := rIsi K) call_isi (by rfl) T.z_isinstance (by decide +kernel) (pa_cons (pv 0) (pa_cons (pe_bltn (v := .ty "tuple") rfl T.z_tuple (by decide +kernel) rfl) pa_nil))) (nomark _)) (pw_or1 (pt_cmpR op_ne (pe_callB (r := rIsi K) call_isi (by rfl) T.z_isinstance (by decide +kernel) (pa_cons (pv 1) (pa_cons (pe_bltn (v := .ty "list") rfl T.z_list (by decide +kernel) rfl) pa_nil))) (pe_callB (r := rIsi K) call_isi (by rfl) T.z_isinstance (by decide +kernel) (pa_cons (pv 0) (pa_cons (pe_bltn (v := .ty "list") rfl T.z_list (by decide +kernel) rfl) pa_nil))) (nomark _))))) (pss_one (ps_ret pe_bl)) pss_nil) (pss_cons (ps_if (pt_not (pt_val (pe_callB (r := rIsiT K) call_isiT (by rfl) T.z_isinstance (by decide +kernel) (pa_cons (pv 1) (pa_cons (pe_tup (pa_cons (pe_bltn (v := .ty "tuple") rfl T.z_tuple (by decide +kernel) rfl) (pa_cons (pe_bltn (v := .ty "list") rfl T.z_list (by decide +kernel) rfl) pa_nil))) pa_nil))))) (pss_one (ps_ret (pe_and (pe_cmpR op_eq (pe_callB (r := rIsi K) call_isi (by rfl) T.z_isinstance (by decide +kernel) (pa_cons (pv 0) (pa_cons (pe_bltn (v := .ty "bool") rfl T.z_bool (by decide +kernel) rfl) pa_nil))) (pe_callB (r := rIsi K) call_isi (by rfl) T.z_isinstance (by decide +kernel) (pa_cons (pv 1) (pa_cons (pe_bltn (v := .ty "bool") rfl T.z_bool (by decide +kernel) rfl) pa_nil))) (nomark _)) (pe_one (pe_cmpR op_eq (pv 0) (pv 1) (nomark _)))))) pss_nil) (pss_one (ps_ret (pe_and (pe_cmpR op_eq (pe_callB (r := Z.rLen K) cz_len (by rfl) T.z_len PySem.boot_len (pa_cons (pv 0) pa_nil)) (pe_callB (r := Z.rLen K) cz_len (by rfl) T.z_len PySem.boot_len (pa_cons (pv 1) pa_nil)) (nomark _)) (pe_one (pe_callB (r := rAll K) (cr_all rfl) (by rfl) T.z_all (by decide +kernel) (pa_cons (pe_lc (own := [("_law_k", 2)]) (by rfl) sc_l_like.nd (pi_range1 (by rfl) T.z_range (pa_cons (pe_callB (r := Z.rLen K) cz_len (by rfl) T.z_len PySem.boot_len (pa_cons (pv 1) pa_nil)) pa_nil)) (blkOk_by (own := [("_law_k", 2)]) (N := ["_law_found", "_law_due", "_law_k"]) (sc := defScope s_l_like) (by decide +kernel)) (fun _ _ _ _ _ => (pg_name (i := 2) sc_l_like.nd rfl (Or.inl rfl))) (fun _ _ _ _ _ => pts_nil) (fun _ _ _ _ _ => (pe_call IH hr rfl T.g_l_like T.F_l_like.kp T.b_l_like .nil pass0 (pa_cons (pe_ix (r := rIx K) ix_seq (pv 0) (pv 2) (fun _ _ => rfl)) (pa_cons (pe_ix (r := rIx K) ix_seq (pv 1) (pv 2) (fun _ _ => rfl)) pa_nil))))) pa_nil)))))))), ?_⟩
      refine at_start (ρ' := [some _, some _, none]) rfl ?_
      walk_at "z0"
      cases dx with
      | int i =>
        cases dy
        walk_at "z"
        exact ev_blT (by simp) (k _ (by walk_at "zex"))
      | bl i =>
        cases dy
        walk_at "z"
        exact ev_blT (by simp) (k _ (by walk_at "zex"))
      | str i =>
        cases dy
        walk_at "z"
        exact ev_blT (by simp) (k _ (by walk_at "zex"))
      | non =>
        cases dy
        walk_at "z"
        exact ev_blT (by simp) (k _ (by walk_at "zex"))
      | lst hx rx =>
        rename_i a xs ds
        cases dy with
        | lst hy ry =>
        rename_i b ys
        obtain ⟨hlen, hds⟩ := ok
        have l1 := dpAll_len rx
        have l2 := dpAll_len ry
        walk_at "z"
        refine ite_pos (by omega) ?_
        walk_at "z"
        rename_i H1 _ e1 _
        refine c_range (by omega) (fun D H' => H1 D = none ∧ Ex H1 H') (fun D i l H' => l = List.replicate i (.bl true)) (fun D H' n e _ => ⟨⟨n, e⟩, rfl⟩) (fun D i l H2 hi e2 hl hz r => ?_) (fun D l H2 e2 hl hz r => ?_)
        · obtain ⟨nD, e2⟩ := e2
          have i1 : i < xs.length := by omega
          have i2 : i < ys.length := by omega
          have i3 : i < ds.length := by omega
          walk_at "z"
          refine ⟨rfl, ?_⟩
          walk_at "z"
          refine Or.inl ⟨_, _, _, _, rfl, rfl, (Ex.sqL (by walk_at "zex") hx), atI_nat (List.getElem?_eq_getElem i1), ?_⟩
          walk_at "z"
          refine Or.inl ⟨_, _, _, _, rfl, rfl, (Ex.sqL (by walk_at "zex") hy), atI_nat (List.getElem?_eq_getElem i2), ?_⟩
          walk_at "z"
          refine ⟨_, _, ds[i], rfl, dp_ex (by walk_at "zex") (dpAll_get rx (List.getElem?_eq_getElem i1) (List.getElem?_eq_getElem i3)), dp_ex (by walk_at "zex") (dpAll_get ry (List.getElem?_eq_getElem i2) (List.getElem?_eq_getElem i3)), hds _ (List.getElem_mem i3), fun H3 e3 => ?_⟩
          exact c_put (e3 _ _ hl) (by omega) fun H5 f5 _ => ⟨⟨nD, fun q o hq => f5 _ _ (ne_of_none hq nD) (e3 _ _ (e2 _ _ hq))⟩, by rw [r, List.replicate_succ']⟩
        · obtain ⟨nD, e2⟩ := e2
          walk_at "z"
          refine s_rAll (List.replicate ys.length true) (SqL.of hl) (by rw [r, List.map_replicate]; simp) ?_
          exact ev_blT (by simp) (k _ (by walk_at "zex"))
      | tup hx rx =>
        rename_i a xs ds
        cases dy with
        | tup hy ry =>
        rename_i b ys
        obtain ⟨hlen, hds⟩ := ok
        have l1 := dpAll_len rx
        have l2 := dpAll_len ry
        walk_at "z"
        refine ite_pos (by omega) ?_
        walk_at "z"
        rename_i H1 _ e1 _
        refine c_range (by omega) (fun D H' => H1 D = none ∧ Ex H1 H') (fun D i l H' => l = List.replicate i (.bl true)) (fun D H' n e _ => ⟨⟨n, e⟩, rfl⟩) (fun D i l H2 hi e2 hl hz r => ?_) (fun D l H2 e2 hl hz r => ?_)
        · obtain ⟨nD, e2⟩ := e2
          have i1 : i < xs.length := by omega
          have i2 : i < ys.length := by omega
          have i3 : i < ds.length := by omega
          walk_at "z"
          refine ⟨rfl, ?_⟩
          walk_at "z"
          refine Or.inr (Or.inl ⟨_, _, _, _, rfl, rfl, (Ex.sqT (by walk_at "zex") hx), atI_nat (List.getElem?_eq_getElem i1), ?_⟩)
          walk_at "z"
          refine Or.inr (Or.inl ⟨_, _, _, _, rfl, rfl, (Ex.sqT (by walk_at "zex") hy), atI_nat (List.getElem?_eq_getElem i2), ?_⟩)
          walk_at "z"
          refine ⟨_, _, ds[i], rfl, dp_ex (by walk_at "zex") (dpAll_get rx (List.getElem?_eq_getElem i1) (List.getElem?_eq_getElem i3)), dp_ex (by walk_at "zex") (dpAll_get ry (List.getElem?_eq_getElem i2) (List.getElem?_eq_getElem i3)), hds _ (List.getElem_mem i3), fun H3 e3 => ?_⟩
          exact c_put (e3 _ _ hl) (by omega) fun H5 f5 _ => ⟨⟨nD, fun q o hq => f5 _ _ (ne_of_none hq nD) (e3 _ _ (e2 _ _ hq))⟩, by rw [r, List.replicate_succ']⟩
        · obtain ⟨nD, e2⟩ := e2
          walk_at "z"
          refine s_rAll (List.replicate ys.length true) (SqL.of hl) (by rw [r, List.map_replicate]; simp) ?_
          exact ev_blT (by simp) (k _ (by walk_at "zex"))

/-! facts as data -/
inductive Arg where
  | i (n : Int)
  | t (l : List Int)
def Arg.enc : Arg → PyData
  | .i n => .int n
  | .t l => .tuple (l.map PyData.int)
structure Fct where
  w : Str
  xs : List Arg
def Fct.enc (f : Fct) : PyData := .tuple (.str f.w :: f.xs.map Arg.enc)
def Rising (l : List Int) : Prop := l.Pairwise (· < ·)
inductive GF : Fct → Prop
  | toll {g d h : Int} : R 0 7 g → R 0 999 d → R 0 48 h → GF ⟨"toll", [.i g, .i d, .i h]⟩
  | board {g d : Int} {gs : List Int} : R 0 7 g → R 0 999 d → Rising gs → (∀ x ∈ gs, R 0 7 x) → GF ⟨"board", [.i g, .i d, .t gs]⟩
  | trust {g d t : Int} : R 0 7 g → R 0 999 d → R 0 3 t → GF ⟨"trust", [.i g, .i d, .i t]⟩
  | folk {c a b : Int} : R 0 9 c → R 0 999 a → R 0 999 b → GF ⟨"folk", [.i c, .i a, .i b]⟩
  | bargain {g c a b : Int} : R 0 7 g → R 0 9 c → R 0 999 a → R 0 999 b → GF ⟨"bargain", [.i g, .i c, .i a, .i b]⟩
  | pass {d m g c h : Int} : R 0 999 d → R 0 1439 m → R 0 7 g → R 0 9 c → R 1 8 h → GF ⟨"pass", [.i d, .i m, .i g, .i c, .i h]⟩
  | lost {n m : Int} : 1 ≤ n → R 0 1439 m → GF ⟨"lost", [.i n, .i m]⟩
  | paid {c d h : Int} : R 0 9 c → R 0 999 d → R 0 100000 h → GF ⟨"paid", [.i c, .i d, .i h]⟩
/-- a lost ticket's number is no far one -/
def LB (f : Fct) : Prop := ∀ n m, f.xs = [.i n, .i m] → n ≤ 2000
def spFct (K : PySem.W.Frag) : Sp := fun vs H Q _ => ∃ b c : Addr, vs = [.ref b] ∧ Bag H b c ∧ ∀ v f H', GF f → Dp K H' v f.enc → Bag H' b c → Fr b H H' → LB f → Q v H'
theorem b01 (c : Bool) : (if c = true then (1 : Int) else 0) = 1 ∨ (if c = true then (1 : Int) else 0) = 0 := by cases c <;> simp
theorem i4 {z : Int} (h0 : 0 ≤ z) (h1 : z < 4) : z = 0 ∨ z = 1 ∨ z = 2 ∨ z = 3 := by omega
theorem i3 {z : Int} (h0 : 0 ≤ z) (h1 : z < 3) : z = 0 ∨ z = 1 ∨ z = 2 := by omega
theorem i2 {z : Int} (h0 : 0 ≤ z) (h1 : z < 2) : z = 0 ∨ z = 1 := by omega
theorem sc_l_gate : FnScope ["_law_bag_here"] ["_law_bag_here"] (defScope s_l_gate) :=
  ⟨rfl, rfl, rfl, by decide +kernel, rfl, by decide +kernel, by decide +kernel⟩
theorem ok_l_gate (T : Tx P K mg w) : FnOk P w K mg base CX0 2 T.f_l_gate T.d_l_gate ["_law_bag_here"] (spInt 0 7) := by
  refine T.F_l_gate.ok sc_l_gate (fun vs H Q E h => ?_) (fun cdv A outer s H vs Q E hr h => ?_)
  · obtain ⟨b, c, rfl, _⟩ := h
    rfl
  · obtain ⟨b, c, rfl, B, k⟩ := h
    refine ⟨_, (pss_one (ps_ret (pe_call (ok_l_pull T) (hr.mono (by decide)) rfl T.g_l_pull T.F_l_pull.kp T.b_l_pull .nil pass0 (pa_cons (pv 0) (pa_cons (pe_ix (r := rIxT K) ix_tup (pe_tup (pa_cons pe_int (pa_cons pe_int pa_nil))) (pe_callTy cz_int1 (by rfl) T.z_int (by decide +kernel) (pa_cons (pe_cmpR op_eq (pe_call (ok_l_pull T) (hr.mono (by decide)) rfl T.g_l_pull T.F_l_pull.kp T.b_l_pull .nil pass0 (pa_cons (pv 0) (pa_cons pe_int pa_nil))) pe_int (nomark _)) pa_nil)) (fun _ _ => rfl)) pa_nil))))), ?_⟩
    refine at_start (ρ' := [some _]) rfl ?_
    walk_at "z0"
    walk_at "z"
    refine s_ixPT (IntIn 4 8) (by walk_at "zsq") (by split <;> decide) (by walk_at "zin") fun v ⟨n, e, hn⟩ => ?_
    subst e
    obtain ⟨n0, n1⟩ := hn
    walk_at "z"
    exact k _ _ (by assumption) (by omega) (by walk_at "zbag") (by walk_at "zfr")
theorem sc_l_day : FnScope ["_law_bag_here", "_law_some"] ["_law_bag_here"] (defScope s_l_day) :=
  ⟨rfl, rfl, rfl, by decide +kernel, rfl, by decide +kernel, by decide +kernel⟩
theorem ok_l_day (T : Tx P K mg w) : FnOk P w K mg base CX0 2 T.f_l_day T.d_l_day ["_law_bag_here"] (spInt 0 999) := by
  refine T.F_l_day.ok sc_l_day (fun vs H Q E h => ?_) (fun cdv A outer s H vs Q E hr h => ?_)
  · obtain ⟨b, c, rfl, _⟩ := h
    rfl
  · obtain ⟨b, c, rfl, B, k⟩ := h
    refine ⟨_, (pss_cons (ps_set (i := 1) sc_l_day.nd rfl (Or.inl rfl) (pe_ix (r := rIxL K) ix_list (pe_lst (pa_cons pe_int (pa_cons pe_int (pa_cons pe_int (pa_cons pe_int pa_nil))))) (pe_call (ok_l_pull T) (hr.mono (by decide)) rfl T.g_l_pull T.F_l_pull.kp T.b_l_pull .nil pass0 (pa_cons (pv 0) (pa_cons pe_int pa_nil))) (fun _ _ => rfl))) (pss_one (ps_ret (pe_ix (r := rIxL K) ix_list (pe_lst (pa_cons (pe_call (ok_l_pull T) (hr.mono (by decide)) rfl T.g_l_pull T.F_l_pull.kp T.b_l_pull .nil pass0 (pa_cons (pv 0) (pa_cons pe_int pa_nil))) (pa_cons (pv 1) (pa_cons (pe_op op_add pe_int (pe_call (ok_l_pull T) (hr.mono (by decide)) rfl T.g_l_pull T.F_l_pull.kp T.b_l_pull .nil pass0 (pa_cons (pv 0) (pa_cons pe_int pa_nil)))) (pa_cons (pe_call (ok_l_pull T) (hr.mono (by decide)) rfl T.g_l_pull T.F_l_pull.kp T.b_l_pull .nil pass0 (pa_cons (pv 0) (pa_cons pe_int pa_nil))) pa_nil))))) (pe_call (ok_l_pull T) (hr.mono (by decide)) rfl T.g_l_pull T.F_l_pull.kp T.b_l_pull .nil pass0 (pa_cons (pv 0) (pa_cons pe_int pa_nil))) (fun _ _ => rfl))))), ?_⟩
    refine at_start (ρ' := [some _, none]) rfl ?_
    walk_at "z0"
    walk_at "z"
    refine s_ixP (IntIn 0 999) (by walk_at "zsq") ⟨by assumption, by assumption⟩ (by walk_at "zin") fun v ⟨n, e, hn⟩ => ?_
    subst e
    obtain ⟨n0, n1⟩ := hn
    walk_at "z"
    refine s_ixP (IntIn 0 999) (by walk_at "zsq") ⟨by assumption, by assumption⟩ (by walk_at "zin") fun v ⟨m, e, hm⟩ => ?_
    subst e
    exact k _ _ hm.1 hm.2 (by walk_at "zbag") (by walk_at "zfr")

theorem dp_ints {K : PySem.W.Frag} {H : Hp} : ∀ l : List Int, DpAll K H (l.map V.int) (l.map PyData.int)
  | [] => .nil
  | _ :: l => .cons (.int _) (dp_ints l)
theorem use_fct {K : PySem.W.Frag} {H : Hp} {b c : Addr} {Q : VK} {E : XK} (B : Bag H b c) (k : ∀ v f H', GF f → Dp K H' v f.enc → Bag H' b c → Fr b H H' → LB f → Q v H') : spFct K ([.ref b] ++ []) H Q E := ⟨b, c, rfl, B, k⟩
theorem sc_l_passing : FnScope ["_law_bag_here", "_law_minute", "_law_carriage"] ["_law_bag_here"] (defScope s_l_passing) :=
  ⟨rfl, rfl, rfl, by decide +kernel, rfl, by decide +kernel, by decide +kernel⟩
theorem ok_l_passing (T : Tx P K mg w) : FnOk P w K mg base CX0 3 T.f_l_passing T.d_l_passing ["_law_bag_here"] (spFct K) := by
  refine T.F_l_passing.ok sc_l_passing (fun vs H Q E h => ?_) (fun cdv A outer s H vs Q E hr h => ?_)
  · obtain ⟨b, c, rfl, _⟩ := h
    rfl
  · obtain ⟨b, c, rfl, B, k⟩ := h
    refine ⟨_, (pss_cons (ps_set (i := 1) sc_l_passing.nd rfl (Or.inl rfl) (pe_ix (r := rIxL K) ix_list (pe_lst (pa_cons (pe_call (ok_l_pull T) (hr.mono (by decide)) rfl T.g_l_pull T.F_l_pull.kp T.b_l_pull .nil pass0 (pa_cons (pv 0) (pa_cons pe_int pa_nil))) (pa_cons (pe_call (ok_l_pull T) (hr.mono (by decide)) rfl T.g_l_pull T.F_l_pull.kp T.b_l_pull .nil pass0 (pa_cons (pv 0) (pa_cons pe_int pa_nil))) (pa_cons pe_int pa_nil)))) (pe_call (ok_l_pull T) (hr.mono (by decide)) rfl T.g_l_pull T.F_l_pull.kp T.b_l_pull .nil pass0 (pa_cons (pv 0) (pa_cons pe_int pa_nil))) (fun _ _ => rfl))) (pss_cons (ps_set (i := 2) sc_l_passing.nd rfl (Or.inl rfl) (pe_call (ok_l_pull T) (hr.mono (by decide)) rfl T.g_l_pull T.F_l_pull.kp T.b_l_pull .nil pass0 (pa_cons (pv 0) (pa_cons (pe_ix (r := rIxT K) ix_tup (pe_tup (pa_cons pe_int (pa_cons pe_int pa_nil))) (pe_callTy cz_int1 (by rfl) T.z_int (by decide +kernel) (pa_cons (pe_cmpR op_eq (pe_call (ok_l_pull T) (hr.mono (by decide)) rfl T.g_l_pull T.F_l_pull.kp T.b_l_pull .nil pass0 (pa_cons (pv 0) (pa_cons pe_int pa_nil))) pe_int (nomark _)) pa_nil)) (fun _ _ => rfl)) pa_nil)))) (pss_one (ps_ret (pe_tup (pa_cons pe_str (pa_cons (pe_call (ok_l_day T) (hr.mono (by decide)) rfl T.g_l_day T.F_l_day.kp T.b_l_day .nil pass0 (pa_cons (pv 0) pa_nil)) (pa_cons (pv 1) (pa_cons (pe_call (ok_l_gate T) (hr.mono (by decide)) rfl T.g_l_gate T.F_l_gate.kp T.b_l_gate .nil pass0 (pa_cons (pv 0) pa_nil)) (pa_cons (pv 2) (pa_cons (pe_op op_add pe_int (pe_call (ok_l_pull T) (hr.mono (by decide)) rfl T.g_l_pull T.F_l_pull.kp T.b_l_pull .nil pass0 (pa_cons (pv 0) (pa_cons pe_int pa_nil)))) pa_nil))))))))))), ?_⟩
    refine at_start (ρ' := [some _, none, none]) rfl ?_
    walk_at "z0"
    walk_at "z"
    refine s_ixP (IntIn 0 1439) (by walk_at "zsq") ⟨by assumption, by assumption⟩ (by walk_at "zin") fun v ⟨m, e, m0, m1⟩ => ?_
    subst e
    walk_at "z"
    refine s_ixPT (IntIn 3 10) (by walk_at "zsq") (by split <;> decide) (by walk_at "zin") fun v ⟨n, e, n0, n1⟩ => ?_
    subst e
    walk_at "z"
    rename_i ca _ _ _ _ _ d _ _ _ _ _ g _ _ _ _ _ h _ _ _ _ _ t H1 _ _ ht
    exact k _ ⟨"pass", [.i d, .i m, .i g, .i ca, .i (1 + h)]⟩ _ (.pass ⟨by omega, by omega⟩ ⟨m0, m1⟩ ⟨by omega, by omega⟩ ⟨by omega, by omega⟩ ⟨by omega, by omega⟩) (.tup (SqT.of ht) (by walk_at "zdp")) (by walk_at "zbag") (by walk_at "zfr") (fun n m e => by cases e)
def spStretch (K : PySem.W.Frag) : Sp := fun vs H Q _ => ∃ b c : Addr, vs = [.ref b] ∧ Bag H b c ∧ ∀ t x y H', R 0 999 x → R 0 999 y → H' t = some (.tup [.int x, .int y]) → Bag H' b c → Fr b H H' → Q (.ref t) H'
theorem use_stretch {K : PySem.W.Frag} {H : Hp} {b c : Addr} {Q : VK} {E : XK} (B : Bag H b c) (k : ∀ t x y H', R 0 999 x → R 0 999 y → H' t = some (.tup [.int x, .int y]) → Bag H' b c → Fr b H H' → Q (.ref t) H') : spStretch K ([.ref b] ++ []) H Q E := ⟨b, c, rfl, B, k⟩
theorem sc_l_stretch : FnScope ["_law_bag_here", "_law_first"] ["_law_bag_here"] (defScope s_l_stretch) :=
  ⟨rfl, rfl, rfl, by decide +kernel, rfl, by decide +kernel, by decide +kernel⟩
theorem ok_l_stretch (T : Tx P K mg w) : FnOk P w K mg base CX0 3 T.f_l_stretch T.d_l_stretch ["_law_bag_here"] (spStretch K) := by
  refine T.F_l_stretch.ok sc_l_stretch (fun vs H Q E h => ?_) (fun cdv A outer s H vs Q E hr h => ?_)
  · obtain ⟨b, c, rfl, _⟩ := h
    rfl
  · obtain ⟨b, c, rfl, B, k⟩ := h
    refine ⟨_, (pss_cons (ps_set (i := 1) sc_l_stretch.nd rfl (Or.inl rfl) (pe_call (ok_l_day T) (hr.mono (by decide)) rfl T.g_l_day T.F_l_day.kp T.b_l_day .nil pass0 (pa_cons (pv 0) pa_nil))) (pss_one (ps_ret (pe_tup (pa_cons (pv 1) (pa_cons (pe_op op_mod (pe_ix (r := rIxL K) ix_list (pe_lst (pa_cons (pv 1) (pa_cons pe_int (pa_cons (pe_op op_add (pv 1) (pe_call (ok_l_pull T) (hr.mono (by decide)) rfl T.g_l_pull T.F_l_pull.kp T.b_l_pull .nil pass0 (pa_cons (pv 0) (pa_cons pe_int pa_nil)))) (pa_cons (pe_call (ok_l_day T) (hr.mono (by decide)) rfl T.g_l_day T.F_l_day.kp T.b_l_day .nil pass0 (pa_cons (pv 0) pa_nil)) pa_nil))))) (pe_call (ok_l_pull T) (hr.mono (by decide)) rfl T.g_l_pull T.F_l_pull.kp T.b_l_pull .nil pass0 (pa_cons (pv 0) (pa_cons pe_int pa_nil))) (fun _ _ => rfl)) pe_int) pa_nil)))))), ?_⟩
    refine at_start (ρ' := [some _, none]) rfl ?_
    walk_at "z0"
    walk_at "z"
    refine s_ixP (IntIn 0 2000) (by walk_at "zsq") ⟨by assumption, by assumption⟩ (by walk_at "zin") fun v ⟨m, e, m0, m1⟩ => ?_
    subst e
    walk_at "z"
    rename_i t H1 _ _ ht
    exact k _ _ _ _ ⟨by assumption, by assumption⟩ ⟨by omega, by omega⟩ ht (by walk_at "zbag") (by walk_at "zfr")
theorem sc_l_board : FnScope ["_law_bag_here", "_law_gates", "_law_gate_here"] ["_law_bag_here"] (defScope s_l_board) :=
  ⟨rfl, rfl, rfl, by decide +kernel, rfl, by decide +kernel, by decide +kernel⟩
theorem ok_l_board (T : Tx P K mg w) : FnOk P w K mg base CX0 3 T.f_l_board T.d_l_board ["_law_bag_here"] (spFct K) := by
  refine T.F_l_board.ok sc_l_board (fun vs H Q E h => ?_) (fun cdv A outer s H vs Q E hr h => ?_)
  · obtain ⟨b, c, rfl, _⟩ := h
    rfl
  · obtain ⟨b, c, rfl, B, k⟩ := h
    refine ⟨_, (pss_cons (ps_set (i := 1) sc_l_board.nd rfl (Or.inl rfl) (pe_callTy (r := rTupleOf K) cz_tupleOf (by rfl) T.z_tuple (by decide +kernel) (pa_cons (pe_lc (own := [("_law_gate_here", 2)]) (by rfl) sc_l_board.nd (pi_range1 (by rfl) T.z_range (pa_cons pe_int pa_nil)) (blkOk_by (own := [("_law_gate_here", 2)]) (N := ["_law_bag_here", "_law_gates", "_law_gate_here"]) (sc := defScope s_l_board) (by decide +kernel)) (fun _ _ _ _ _ => (pg_name (i := 2) sc_l_board.nd rfl (Or.inl rfl))) (fun _ _ _ _ _ => (pts_one (pt_cmpR op_eq (pe_call (ok_l_pull T) (hr.mono (by decide)) rfl T.g_l_pull T.F_l_pull.kp T.b_l_pull .nil pass0 (pa_cons (pv 0) (pa_cons pe_int pa_nil))) pe_int (nomark _)))) (fun _ _ _ _ _ => (pv 2))) pa_nil))) (pss_one (ps_ret (pe_tup (pa_cons pe_str (pa_cons (pe_call (ok_l_gate T) (hr.mono (by decide)) rfl T.g_l_gate T.F_l_gate.kp T.b_l_gate .nil pass0 (pa_cons (pv 0) pa_nil)) (pa_cons (pe_call (ok_l_day T) (hr.mono (by decide)) rfl T.g_l_day T.F_l_day.kp T.b_l_day .nil pass0 (pa_cons (pv 0) pa_nil)) (pa_cons (pv 1) pa_nil)))))))), ?_⟩
    refine at_start (ρ' := [some _, none, none]) rfl ?_
    walk_at "z0"
    walk_at "z"
    refine c_range (by decide) (fun D H' => D ≠ b ∧ D ≠ c ∧ H D = none ∧ Bag H' b c ∧ Fr b H H') (fun D i l H' => ∃ gs : List Int, l = gs.map V.int ∧ Rising gs ∧ ∀ x ∈ gs, R 0 (i - 1) x) (fun D H' n e _ => ⟨⟨B.neb n, B.nec n, n, B.ext e, e.fr b⟩, [], rfl, List.Pairwise.nil, fun _ h => by cases h⟩) (fun D i l H1 hi Iv hl hz r => ?_) (fun D l H1 Iv hl hz r => ?_)
    · obtain ⟨nb, nc, nD, B1, f1⟩ := Iv
      obtain ⟨gs, rfl, hr, hb⟩ := r
      walk_at "z"
      refine ⟨rfl, ?_⟩
      walk_at "z"
      refine ite_dec (fun h0 => ?_) (fun h0 => ?_)
      · walk_at "z"
        refine c_put (by walk_at "zhp") (by omega) fun H5 f5 _ => ⟨⟨nb, nc, nD, Bag.frs (by assumption) nb nc f5, ?_⟩, gs ++ [(i : Int)], by rw [List.map_append]; rfl, ?_, ?_⟩
        · exact fun a o n h => f5 a o (ne_of_none h nD) ((f1.trans (by assumption)) a o n h)
        · refine List.pairwise_append.mpr ⟨hr, List.pairwise_singleton _ _, fun x hx y hy => ?_⟩
          rw [List.mem_singleton] at hy
          have := (hb x hx).2
          omega
        · intro x hx
          rcases List.mem_append.mp hx with hx | hx
          · have := hb x hx
            exact ⟨this.1, by have := this.2; omega⟩
          · rw [List.mem_singleton] at hx
            exact ⟨by omega, by omega⟩
      · walk_at "z"
        refine c_skip (by walk_at "zhp") hz ⟨nb, nc, nD, by assumption, f1.trans (by assumption)⟩ ⟨gs, rfl, hr, fun x hx => ?_⟩
        have := hb x hx
        exact ⟨this.1, by have := this.2; omega⟩
    · obtain ⟨nb, nc, nD, B1, f1⟩ := Iv
      obtain ⟨gs, rfl, hr, hb⟩ := r
      walk_at "z"
      rename_i q H2 _ e2 hq g H3 g0 g1 B3 f3 d H4 d0 d1 B4 f4 t H5 _ e5 ht
      have qb : q ≠ b := B1.neb (by assumption)
      have hq5 := e5 _ _ (f4 _ _ qb (f3 _ _ qb hq))
      exact k _ ⟨"board", [.i g, .i d, .t gs]⟩ _ (.board ⟨by omega, by omega⟩ ⟨by omega, by omega⟩ hr fun x hx => by
        have h := hb x hx
        exact ⟨h.1, by have := h.2; omega⟩) (.tup (SqT.of ht) (.cons (.str _) (.cons (.int _) (.cons (.int _) (.cons (.tup (SqT.of hq5) (dp_ints _)) .nil))))) (by walk_at "zbag") (by walk_at "zfr") (fun n m e => by cases e)
def spFact (K : PySem.W.Frag) : Sp := fun vs H Q _ => ∃ (b c : Addr) (n : Int), vs = [.ref b, .int n] ∧ 0 ≤ n ∧ n ≤ 1000 ∧ Bag H b c ∧ ∀ v f H', GF f → Dp K H' v f.enc → Bag H' b c → Fr b H H' → LB f → Q v H'
theorem dp_two {K : PySem.W.Frag} {H : Hp} {v : V} {d e : PyData} (h : DpAll K H [v] [d, e]) : False := by
  cases h with
  | cons _ r => cases r
theorem sc_l_fact : FnScope ["_law_bag_here", "_law_amount", "_law_turn", "_law_coins"] ["_law_bag_here", "_law_amount"] (defScope s_l_fact) :=
  ⟨rfl, rfl, rfl, by decide +kernel, rfl, by decide +kernel, by decide +kernel⟩
theorem ok_l_fact (T : Tx P K mg w) : FnOk P w K mg base CX0 4 T.f_l_fact T.d_l_fact ["_law_bag_here", "_law_amount"] (spFact K) := by
  refine T.F_l_fact.ok sc_l_fact (fun vs H Q E h => ?_) (fun cdv A outer s H vs Q E hr h => ?_)
  · obtain ⟨b, c, n, rfl, _⟩ := h
    rfl
  · obtain ⟨b, c, n, rfl, n0, n1, B, k⟩ := h
    refine ⟨_, (pss_cons (ps_set (i := 2) sc_l_fact.nd rfl (Or.inl rfl) (pe_call (ok_l_pull T) (hr.mono (by decide)) rfl T.g_l_pull T.F_l_pull.kp T.b_l_pull .nil pass0 (pa_cons (pv 0) (pa_cons pe_int pa_nil)))) (pss_cons (ps_if (pt_cmpR op_lt (pv 2) pe_int (nomark _)) (pss_one (ps_ret (pe_call (ok_l_passing T) (hr.mono (by decide)) rfl T.g_l_passing T.F_l_passing.kp T.b_l_passing .nil pass0 (pa_cons (pv 0) pa_nil)))) pss_nil) (pss_cons (ps_if (pt_cmpR op_lt (pv 2) pe_int (nomark _)) (pss_one (ps_ret (pe_tup (pa_cons pe_str (pa_cons (pe_call (ok_l_gate T) (hr.mono (by decide)) rfl T.g_l_gate T.F_l_gate.kp T.b_l_gate .nil pass0 (pa_cons (pv 0) pa_nil)) (pa_cons (pe_call (ok_l_day T) (hr.mono (by decide)) rfl T.g_l_day T.F_l_day.kp T.b_l_day .nil pass0 (pa_cons (pv 0) pa_nil)) (pa_cons (pe_call (ok_l_pull T) (hr.mono (by decide)) rfl T.g_l_pull T.F_l_pull.kp T.b_l_pull .nil pass0 (pa_cons (pv 0) (pa_cons pe_int pa_nil))) pa_nil))))))) pss_nil) (pss_cons (ps_if (pt_cmpR op_lt (pv 2) pe_int (nomark _)) (pss_one (ps_ret (pe_call (ok_l_board T) (hr.mono (by decide)) rfl T.g_l_board T.F_l_board.kp T.b_l_board .nil pass0 (pa_cons (pv 0) pa_nil)))) pss_nil) (pss_cons (ps_if (pt_cmpR op_lt (pv 2) pe_int (nomark _)) (pss_one (ps_ret (pe_tup (pa_cons pe_str (pa_cons (pe_call (ok_l_gate T) (hr.mono (by decide)) rfl T.g_l_gate T.F_l_gate.kp T.b_l_gate .nil pass0 (pa_cons (pv 0) pa_nil)) (pa_cons (pe_call (ok_l_day T) (hr.mono (by decide)) rfl T.g_l_day T.F_l_day.kp T.b_l_day .nil pass0 (pa_cons (pv 0) pa_nil)) (pa_cons (pe_call (ok_l_pull T) (hr.mono (by decide)) rfl T.g_l_pull T.F_l_pull.kp T.b_l_pull .nil pass0 (pa_cons (pv 0) (pa_cons pe_int pa_nil))) pa_nil))))))) pss_nil) (pss_cons (ps_if (pt_cmpR op_lt (pv 2) pe_int (nomark _)) (pss_one (ps_ret (pe_op (r := rCatA K) op_catA (pe_tup (pa_cons pe_str (pa_cons (pe_call (ok_l_pull T) (hr.mono (by decide)) rfl T.g_l_pull T.F_l_pull.kp T.b_l_pull .nil pass0 (pa_cons (pv 0) (pa_cons pe_int pa_nil))) pa_nil))) (pe_call (ok_l_stretch T) (hr.mono (by decide)) rfl T.g_l_stretch T.F_l_stretch.kp T.b_l_stretch .nil pass0 (pa_cons (pv 0) pa_nil))))) pss_nil) (pss_cons (ps_if (pt_cmpR op_lt (pv 2) pe_int (nomark _)) (pss_one (ps_ret (pe_op (r := rCatA K) op_catA (pe_tup (pa_cons pe_str (pa_cons (pe_call (ok_l_gate T) (hr.mono (by decide)) rfl T.g_l_gate T.F_l_gate.kp T.b_l_gate .nil pass0 (pa_cons (pv 0) pa_nil)) (pa_cons (pe_call (ok_l_pull T) (hr.mono (by decide)) rfl T.g_l_pull T.F_l_pull.kp T.b_l_pull .nil pass0 (pa_cons (pv 0) (pa_cons pe_int pa_nil))) pa_nil)))) (pe_call (ok_l_stretch T) (hr.mono (by decide)) rfl T.g_l_stretch T.F_l_stretch.kp T.b_l_stretch .nil pass0 (pa_cons (pv 0) pa_nil))))) pss_nil) (pss_cons (ps_if (pt_cmpR op_lt (pv 2) pe_int (nomark _)) (pss_one (ps_ret (pe_tup (pa_cons pe_str (pa_cons (pe_op op_add pe_int (pe_call (ok_l_pull T) (hr.mono (by decide)) rfl T.g_l_pull T.F_l_pull.kp T.b_l_pull .nil pass0 (pa_cons (pv 0) (pa_cons (pe_op op_add (pv 1) pe_int) pa_nil)))) (pa_cons (pe_ix (r := rIxL K) ix_list (pe_lst (pa_cons pe_int (pa_cons (pe_call (ok_l_pull T) (hr.mono (by decide)) rfl T.g_l_pull T.F_l_pull.kp T.b_l_pull .nil pass0 (pa_cons (pv 0) (pa_cons pe_int pa_nil))) (pa_cons pe_int pa_nil)))) (pe_call (ok_l_pull T) (hr.mono (by decide)) rfl T.g_l_pull T.F_l_pull.kp T.b_l_pull .nil pass0 (pa_cons (pv 0) (pa_cons pe_int pa_nil))) (fun _ _ => rfl)) pa_nil)))))) pss_nil) (pss_cons (ps_set (i := 3) sc_l_fact.nd rfl (Or.inl rfl) (pe_ix (r := rIxL K) ix_list (pe_lst (pa_cons (pe_call (ok_l_pull T) (hr.mono (by decide)) rfl T.g_l_pull T.F_l_pull.kp T.b_l_pull .nil pass0 (pa_cons (pv 0) (pa_cons pe_int pa_nil))) (pa_cons (pe_call (ok_l_pull T) (hr.mono (by decide)) rfl T.g_l_pull T.F_l_pull.kp T.b_l_pull .nil pass0 (pa_cons (pv 0) (pa_cons pe_int pa_nil))) (pa_cons (pe_op op_add pe_int (pe_call (ok_l_pull T) (hr.mono (by decide)) rfl T.g_l_pull T.F_l_pull.kp T.b_l_pull .nil pass0 (pa_cons (pv 0) (pa_cons pe_int pa_nil)))) pa_nil)))) (pe_call (ok_l_pull T) (hr.mono (by decide)) rfl T.g_l_pull T.F_l_pull.kp T.b_l_pull .nil pass0 (pa_cons (pv 0) (pa_cons pe_int pa_nil))) (fun _ _ => rfl))) (pss_one (ps_ret (pe_tup (pa_cons pe_str (pa_cons (pe_call (ok_l_pull T) (hr.mono (by decide)) rfl T.g_l_pull T.F_l_pull.kp T.b_l_pull .nil pass0 (pa_cons (pv 0) (pa_cons (pe_ix (r := rIxT K) ix_tup (pe_tup (pa_cons pe_int (pa_cons pe_int pa_nil))) (pe_callTy cz_int1 (by rfl) T.z_int (by decide +kernel) (pa_cons (pe_cmpR op_eq (pe_call (ok_l_pull T) (hr.mono (by decide)) rfl T.g_l_pull T.F_l_pull.kp T.b_l_pull .nil pass0 (pa_cons (pv 0) (pa_cons pe_int pa_nil))) pe_int (nomark _)) pa_nil)) (fun _ _ => rfl)) pa_nil))) (pa_cons (pe_call (ok_l_day T) (hr.mono (by decide)) rfl T.g_l_day T.F_l_day.kp T.b_l_day .nil pass0 (pa_cons (pv 0) pa_nil)) (pa_cons (pv 3) pa_nil)))))))))))))))), ?_⟩
    refine at_start (ρ' := [some _, some _, none, none]) rfl ?_
    walk_at "z0"
    walk_at "z"
    refine ite_dec (fun h1 => ?_) (fun h1 => ?_)
    · walk_at "z"
      refine use_fct (by assumption) fun v f H' gf dv B' f' lb => k v f H' gf dv B' (by walk_at "zfr") lb
    walk_at "z"
    refine ite_dec (fun h2 => ?_) (fun h2 => ?_)
    · walk_at "z"
      rename_i g _ _ _ _ _ d _ _ _ _ _ h _ _ _ _ _ t _ _ _ ht
      exact k _ ⟨"toll", [.i g, .i d, .i h]⟩ _ (.toll ⟨by omega, by omega⟩ ⟨by omega, by omega⟩ ⟨by omega, by omega⟩) (.tup (SqT.of ht) (by walk_at "zdp")) (by walk_at "zbag") (by walk_at "zfr") (fun n m e => by cases e)
    walk_at "z"
    refine ite_dec (fun h3 => ?_) (fun h3 => ?_)
    · walk_at "z"
      refine use_fct (by assumption) fun v f H' gf dv B' f' lb => k v f H' gf dv B' (by walk_at "zfr") lb
    walk_at "z"
    refine ite_dec (fun h4 => ?_) (fun h4 => ?_)
    · walk_at "z"
      rename_i g _ _ _ _ _ d _ _ _ _ _ h _ _ _ _ _ t _ _ _ ht
      exact k _ ⟨"trust", [.i g, .i d, .i h]⟩ _ (.trust ⟨by omega, by omega⟩ ⟨by omega, by omega⟩ ⟨by omega, by omega⟩) (.tup (SqT.of ht) (by walk_at "zdp")) (by walk_at "zbag") (by walk_at "zfr") (fun n m e => by cases e)
    walk_at "z"
    refine ite_dec (fun h5 => ?_) (fun h5 => ?_)
    · walk_at "z"
      refine use_stretch (by walk_at "zbag") fun t x y H5 hx hy ht B5 f5 => ?_
      refine s_catA (by walk_at "zsq") (SqT.of ht) (by simp) (by simp) (sz (by simp)) ?_
      refine s_new fun q H6 nq e6 hq => ?_
      exact k _ ⟨"folk", [.i _, .i x, .i y]⟩ _ (.folk ⟨by assumption, by omega⟩ hx hy) (.tup (SqT.of hq) (by walk_at "zdp")) (by walk_at "zbag") (by walk_at "zfr") (fun n m e => by cases e)
    walk_at "z"
    refine ite_dec (fun h6 => ?_) (fun h6 => ?_)
    · walk_at "z"
      rename_i g _ _ _ _ _ ca _ _ _ _ _ p _ _ _ hp
      refine use_stretch (by walk_at "zbag") fun t x y H5 hx hy ht B5 f5 => ?_
      refine s_catA (SqT.of (by walk_at "zhp")) (SqT.of ht) (by simp) (by simp) (sz (by simp)) ?_
      refine s_new fun q H6 nq e6 hq => ?_
      exact k _ ⟨"bargain", [.i g, .i ca, .i x, .i y]⟩ _ (.bargain ⟨by omega, by omega⟩ ⟨by omega, by omega⟩ hx hy) (.tup (SqT.of hq) (by walk_at "zdp")) (by walk_at "zbag") (by walk_at "zfr") (fun n m e => by cases e)
    walk_at "z"
    refine ite_dec (fun h7 => ?_) (fun h7 => ?_)
    · walk_at "z"
      rename_i nn Hn nn0 nn1 _ _ mi Hm _ _ _ _ pl Hl _ _ _ ix Hi _ _ _ _
      refine s_ixP (IntIn 0 1439) (by walk_at "zsq") ⟨by assumption, by assumption⟩ (by walk_at "zin") fun v ⟨m, e, m0, m1⟩ => ?_
      subst e
      walk_at "z"
      rename_i t _ _ _ ht
      exact k _ ⟨"lost", [.i (1 + nn), .i m]⟩ _ (.lost (by omega) ⟨m0, m1⟩) (.tup (SqT.of ht) (by walk_at "zdp")) (by walk_at "zbag") (by walk_at "zfr") (fun n m e => by cases e; omega)
    walk_at "z"
    refine s_ixP (IntIn 0 100000) (by walk_at "zsq") ⟨by assumption, by assumption⟩ (by walk_at "zin") fun v ⟨m, e, m0, m1⟩ => ?_
    subst e
    walk_at "z"
    refine s_ixPT (IntIn 3 10) (by walk_at "zsq") (by split <;> decide) (by walk_at "zin") fun v ⟨n, e, n0, n1⟩ => ?_
    subst e
    walk_at "z"
    rename_i ca _ _ _ _ _ d _ _ _ _ _ t _ _ _ ht
    exact k _ ⟨"paid", [.i ca, .i d, .i m]⟩ _ (.paid ⟨by omega, by omega⟩ ⟨by omega, by omega⟩ ⟨m0, m1⟩) (.tup (SqT.of ht) (by walk_at "zdp")) (by walk_at "zbag") (by walk_at "zfr") (fun n m e => by cases e)

/-! facts as they lie in the heap: tuples alone -/
theorem sqT_fr {K : PySem.W.Frag} {b a : Addr} {H H' : Hp} {xs ys : List V} (e : Fr b H H') (hb : H b = some (.lst ys)) (h : SqT K H a xs) : SqT K H' a xs := by
  rcases h with (h | ⟨o, h⟩) | h
  · exact .inl (.inl (e _ _ (ne_of h hb (fun z => by cases z)) h))
  · exact .inl (.inr ⟨o, e _ _ (ne_of h hb (fun z => by cases z)) h⟩)
  · exact .inr h
inductive FD (K : PySem.W.Frag) (H : Hp) : V → Arg → Prop
  | i (n : Int) : FD K H (.int n) (.i n)
  | t {a : Addr} {l : List Int} : SqT K H a (l.map V.int) → FD K H (.ref a) (.t l)
inductive FDs (K : PySem.W.Frag) (H : Hp) : List V → List Arg → Prop
  | nil : FDs K H [] []
  | cons {v : V} {x : Arg} {vs : List V} {xs : List Arg} : FD K H v x → FDs K H vs xs → FDs K H (v :: vs) (x :: xs)
/-- v is the fact f -/
def RF (K : PySem.W.Frag) (H : Hp) (v : V) (f : Fct) : Prop := ∃ a vs, v = .ref a ∧ SqT K H a (.str f.w :: vs) ∧ FDs K H vs f.xs
inductive RFs (K : PySem.W.Frag) (H : Hp) : List V → List (Int × Fct) → Prop
  | nil : RFs K H [] []
  | cons {p : Addr} {n : Int} {v : V} {f : Fct} {vs : List V} {fs : List (Int × Fct)} : SqT K H p [.int n, v] → RF K H v f → RFs K H vs fs → RFs K H (.ref p :: vs) ((n, f) :: fs)
section
variable {K : PySem.W.Frag} {H H' : Hp}
theorem fd_map (g : ∀ {a xs}, SqT K H a xs → SqT K H' a xs) {v : V} {x : Arg} (h : FD K H v x) : FD K H' v x := by
  cases h with
  | i n => exact .i n
  | t h => exact .t (g h)
theorem fds_map (g : ∀ {a xs}, SqT K H a xs → SqT K H' a xs) : ∀ {vs : List V} {xs : List Arg}, FDs K H vs xs → FDs K H' vs xs
  | _, _, .nil => .nil
  | _, _, .cons h r => .cons (fd_map g h) (fds_map g r)
theorem rf_map (g : ∀ {a xs}, SqT K H a xs → SqT K H' a xs) {v : V} {f : Fct} (h : RF K H v f) : RF K H' v f := by
  obtain ⟨a, vs, e, h1, h2⟩ := h
  exact ⟨a, vs, e, g h1, fds_map g h2⟩
theorem rfs_map (g : ∀ {a xs}, SqT K H a xs → SqT K H' a xs) : ∀ {vs : List V} {fs : List (Int × Fct)}, RFs K H vs fs → RFs K H' vs fs
  | _, _, .nil => .nil
  | _, _, .cons h q r => .cons (g h) (rf_map g q) (rfs_map g r)
theorem rf_ex (e : Ex H H') {v : V} {f : Fct} (h : RF K H v f) : RF K H' v f := rf_map (fun z => e.sqT z) h
theorem rfs_ex (e : Ex H H') {vs : List V} {fs : List (Int × Fct)} (h : RFs K H vs fs) : RFs K H' vs fs := rfs_map (fun z => e.sqT z) h
theorem rf_fr {b : Addr} {ys : List V} (e : Fr b H H') (hb : H b = some (.lst ys)) {v : V} {f : Fct} (h : RF K H v f) : RF K H' v f := rf_map (fun z => sqT_fr e hb z) h
theorem rfs_fr {b : Addr} {ys : List V} (e : Fr b H H') (hb : H b = some (.lst ys)) {vs : List V} {fs : List (Int × Fct)} (h : RFs K H vs fs) : RFs K H' vs fs := rfs_map (fun z => sqT_fr e hb z) h
theorem rf_pull {b c : Addr} (e : Fr b H H') (B : Bag H b c) {v : V} {f : Fct} (h : RF K H v f) : RF K H' v f := by
  obtain ⟨ys, hb⟩ := B.getb
  exact rf_fr e hb h
theorem rfs_pull {b c : Addr} (e : Fr b H H') (B : Bag H b c) {vs : List V} {fs : List (Int × Fct)} (h : RFs K H vs fs) : RFs K H' vs fs := by
  obtain ⟨ys, hb⟩ := B.getb
  exact rfs_fr e hb h
theorem rfs_snoc {p : Addr} {n : Int} {v : V} {f : Fct} (h1 : SqT K H p [.int n, v]) (h2 : RF K H v f) : ∀ {vs : List V} {fs : List (Int × Fct)}, RFs K H vs fs → RFs K H (vs ++ [.ref p]) (fs ++ [(n, f)])
  | _, _, .nil => .cons h1 h2 .nil
  | _, _, .cons a b r => .cons a b (rfs_snoc h1 h2 r)
theorem rfs_len : ∀ {vs : List V} {fs : List (Int × Fct)}, RFs K H vs fs → vs.length = fs.length
  | _, _, .nil => rfl
  | _, _, .cons _ _ r => congrArg Nat.succ (rfs_len r)
theorem rfs_get : ∀ {vs : List V} {fs : List (Int × Fct)} {i : Nat} {x : V}, RFs K H vs fs → vs[i]? = some x → ∃ p n v f, fs[i]? = some (n, f) ∧ x = .ref p ∧ SqT K H p [.int n, v] ∧ RF K H v f
  | _, _, 0, _, .cons a b _, e => by
    cases e
    exact ⟨_, _, _, _, rfl, rfl, a, b⟩
  | _, _, i + 1, _, .cons _ _ r, e => rfs_get (i := i) r (by simpa using e)
theorem dp_ints_inv : ∀ {vs : List V} {l : List Int}, DpAll K H vs (l.map PyData.int) → vs = l.map V.int
  | _, [], h => by cases h; rfl
  | _, _ :: l, h => by
    cases h with
    | cons a r =>
      cases a
      rw [dp_ints_inv r]
      rfl
theorem fds_dp : ∀ {vs : List V} {xs : List Arg}, FDs K H vs xs → DpAll K H vs (xs.map Arg.enc)
  | _, _, .nil => .nil
  | _, _, .cons h r => .cons (by
    cases h with
    | i n => exact .int n
    | t h => exact .tup h (dp_ints _)) (fds_dp r)
theorem rf_dp {v : V} {f : Fct} (h : RF K H v f) : Dp K H v f.enc := by
  obtain ⟨a, vs, rfl, h1, h2⟩ := h
  exact .tup h1 (.cons (.str _) (fds_dp h2))
theorem dp_fds : ∀ {vs : List V} {xs : List Arg}, DpAll K H vs (xs.map Arg.enc) → FDs K H vs xs
  | _, [], h => by cases h; exact .nil
  | _, x :: xs, h => by
    cases h with
    | cons a r =>
      refine .cons ?_ (dp_fds r)
      cases x with
      | i n => cases a; exact .i n
      | t l =>
        cases a with
        | tup h1 h2 =>
          rw [dp_ints_inv h2] at h1
          exact .t h1
theorem dp_rf {v : V} {f : Fct} (h : Dp K H v f.enc) : RF K H v f := by
  obtain ⟨w, xs⟩ := f
  cases h with
  | tup h1 h2 =>
    cases h2 with
    | cons a r =>
      cases a
      exact ⟨_, _, rfl, h1, dp_fds r⟩
def encP (p : Int × Fct) : PyData := .tuple [.int p.1, p.2.enc]
theorem rfs_dp : ∀ {vs : List V} {fs : List (Int × Fct)}, RFs K H vs fs → DpAll K H vs (fs.map encP)
  | _, _, .nil => .nil
  | _, _, .cons h q r => .cons (.tup h (.cons (.int _) (.cons (rf_dp q) .nil))) (rfs_dp r)
/-- a list of facts at l -/
def RL (K : PySem.W.Frag) (H : Hp) (l : Addr) (fs : List (Int × Fct)) : Prop := ∃ vs, SqL K H l vs ∧ RFs K H vs fs
theorem rl_ex (e : Ex H H') {l : Addr} {fs : List (Int × Fct)} (h : RL K H l fs) : RL K H' l fs := by
  obtain ⟨vs, h1, h2⟩ := h
  exact ⟨vs, e.sqL h1, rfs_ex e h2⟩
theorem rl_dp {l : Addr} {fs : List (Int × Fct)} (h : RL K H l fs) : Dp K H (.ref l) (.list (fs.map encP)) := by
  obtain ⟨vs, h1, h2⟩ := h
  exact .lst h1 (rfs_dp h2)
end
/-- facts as the document wants them: good ones, their numbers rising from 1 -/
structure GFs (fs : List (Int × Fct)) : Prop where
  good : ∀ p ∈ fs, GF p.2
  rise : (fs.map (·.1)).Pairwise (· < ·)
  one : ∀ p ∈ fs, 1 ≤ p.1
def spFacts (K : PySem.W.Frag) : Sp := fun vs H Q _ => ∃ (b c : Addr) (n : Int), vs = [.ref b, .int n] ∧ 0 ≤ n ∧ n ≤ 1000 ∧ Bag H b c ∧ ∀ l vs fs H', H l = none → H' l = some (.lst vs) → RFs K H' vs fs → GFs fs → (fs.length : Int) ≤ n → Bag H' b c → Fr b H H' → Q (.ref l) H'
theorem use_fact {K : PySem.W.Frag} {H : Hp} {b c : Addr} {n : Int} {Q : VK} {E : XK} (B : Bag H b c) (hn : 0 ≤ n ∧ n ≤ 1000) (k : ∀ v f H', GF f → RF K H' v f → Bag H' b c → Fr b H H' → Q v H') : spFact K ([.ref b, .int n] ++ []) H Q E := ⟨b, c, n, rfl, hn.1, hn.2, B, fun v f H' g d B' f' _ => k v f H' g (dp_rf d) B' f'⟩
theorem use_factL {K : PySem.W.Frag} {H : Hp} {b c : Addr} {n : Int} {Q : VK} {E : XK} (B : Bag H b c) (hn : 0 ≤ n ∧ n ≤ 1000) (k : ∀ v f H', GF f → RF K H' v f → Bag H' b c → Fr b H H' → LB f → Q v H') : spFact K ([.ref b, .int n] ++ []) H Q E := ⟨b, c, n, rfl, hn.1, hn.2, B, fun v f H' g d B' f' lb => k v f H' g (dp_rf d) B' f' lb⟩
theorem gf_pass {f : Fct} (h : GF f) (e : f.w = "pass") : ∃ d m g c h, f = ⟨"pass", [.i d, .i m, .i g, .i c, .i h]⟩ ∧ R 0 999 d ∧ R 0 1439 m ∧ R 0 7 g ∧ R 0 9 c ∧ R 1 8 h := by
  cases h with
  | pass a b c d h => exact ⟨_, _, _, _, _, rfl, a, b, c, d, h⟩
  | _ =>
    dsimp only at e
    exact absurd e (by decide +kernel)
theorem gf_three {f : Fct} (h : GF f) (e : f.w = "toll" ∨ f.w = "board") : ∃ g d x, f = ⟨f.w, [.i g, .i d, x]⟩ ∧ R 0 999 d ∧ ∀ d', R 0 999 d' → GF ⟨f.w, [.i g, .i d', x]⟩ := by
  cases h with
  | toll a b c => exact ⟨_, _, _, rfl, b, fun d' h => .toll a h c⟩
  | board a b c d => exact ⟨_, _, _, rfl, b, fun d' h => .board a h c d⟩
  | _ =>
    dsimp only at e
    exact absurd e (by decide +kernel)


theorem rising_ext : ∀ {a b : List Int}, Rising a → Rising b → (∀ x, x ∈ a ↔ x ∈ b) → a = b
  | [], [], _, _, _ => rfl
  | [], y :: b, _, _, h => absurd ((h y).mpr List.mem_cons_self) (by simp)
  | x :: a, [], _, _, h => absurd ((h x).mp List.mem_cons_self) (by simp)
  | x :: a, y :: b, ha, hb, h => by
    unfold Rising at ha hb
    rw [List.pairwise_cons] at ha hb
    have e : x = y := by
      have h1 := (h x).mp List.mem_cons_self
      have h2 := (h y).mpr List.mem_cons_self
      rw [List.mem_cons] at h1 h2
      rcases h1 with h1 | h1
      · exact h1
      · rcases h2 with h2 | h2
        · exact h2.symm
        · have := hb.1 x h1
          have := ha.1 y h2
          omega
    subst e
    rw [rising_ext ha.2 hb.2 fun z => ?_]
    constructor
    · intro hz
      have h1 := (h z).mp (List.mem_cons_of_mem _ hz)
      rw [List.mem_cons] at h1
      rcases h1 with rfl | h1
      · have := ha.1 z hz
        omega
      · exact h1
    · intro hz
      have h1 := (h z).mpr (List.mem_cons_of_mem _ hz)
      rw [List.mem_cons] at h1
      rcases h1 with rfl | h1
      · have := hb.1 z hz
        omega
      · exact h1

/-! numbers within their bounds -/
def within (lo : Int) (hi : Option Int) (n : Int) : Bool := decide (lo ≤ n) && (match hi with | none => true | some h => decide (n ≤ h))
def optV (b : Option Int) : V := match b with | none => .non | some n => .int n
def optD (b : Option Int) : PyData := match b with | none => .none | some n => .int n
def spGood (K : PySem.W.Frag) (w : World) (B : Addr) : Sp := fun vs H Q _ => ∃ (kind : Str) (n lo : Int) (hi : Option Int) (t : Addr), vs = [.str kind, .int n] ∧ KDct K w B kind (.ref t) ∧ (∀ {H : Hp}, SqT K H t [.int lo, optV hi]) ∧ Q (.bl (within lo hi n)) H
def spNum : Sp := fun vs H Q _ => ∃ n : Int, vs = [.int n] ∧ Q (.bl true) H
theorem sc_p_is_number : FnScope ["thing"] ["thing"] (defScope s_p_is_number) :=
  ⟨rfl, rfl, rfl, by decide +kernel, rfl, by decide +kernel, by decide +kernel⟩
theorem ok_p_is_number (T : Tx P K mg w) : FnOk P w K mg base CX0 1 T.f_p_is_number T.d_p_is_number ["thing"] spNum := by
  refine T.F_p_is_number.ok sc_p_is_number (fun vs H Q E h => ?_) (fun cdv A outer s H vs Q E hr h => ?_)
  · obtain ⟨n, rfl, _⟩ := h
    rfl
  · obtain ⟨n, rfl, k⟩ := h
    refine ⟨_, (pss_one (ps_ret (pe_and (pe_callB (r := rIsi K) call_isi (by rfl) T.z_isinstance (by decide +kernel) (pa_cons (pv 0) (pa_cons (pe_bltn (v := .ty "int") rfl T.z_int (by decide +kernel) rfl) pa_nil))) (pe_one (pe_not (pe_callB (r := rIsi K) call_isi (by rfl) T.z_isinstance (by decide +kernel) (pa_cons (pv 0) (pa_cons (pe_bltn (v := .ty "bool") rfl T.z_bool (by decide +kernel) rfl) pa_nil)))))))), ?_⟩
    refine at_start (ρ' := [some _]) rfl ?_
    walk_at "z0"
    walk_at "z"
    exact k
theorem sc_p_is_good : FnScope ["kind", "number", "least", "greatest"] ["kind", "number"] (defScope s_p_is_good) :=
  ⟨rfl, rfl, rfl, by decide +kernel, rfl, by decide +kernel, by decide +kernel⟩
theorem ok_p_is_good (T : Tx P K mg w) : FnOk P w K mg base CX0 2 T.f_p_is_good T.d_p_is_good ["kind", "number"] (spGood K w T.B_BOUNDS) := by
  refine T.F_p_is_good.ok sc_p_is_good (fun vs H Q E h => ?_) (fun cdv A outer s H vs Q E hr h => ?_)
  · obtain ⟨kind, n, lo, hi, t, rfl, _⟩ := h
    rfl
  · obtain ⟨kind, n, lo, hi, t, rfl, hk, ht, k⟩ := h
    refine ⟨_, (pss_cons (ps_if (pt_not (pt_val (pe_call (ok_p_is_number T) (hr.mono (by decide)) rfl T.g_p_is_number T.F_p_is_number.kp T.b_p_is_number .nil pass0 (pa_cons (pv 1) pa_nil)))) (pss_one (ps_ret pe_bl)) pss_nil) (pss_cons (ps_asg (pe_ix (r := rIxD K w) ix_kdict (pe_glob (v := .ref T.B_BOUNDS) rfl T.g_BOUNDS rfl) (pv 0) (fun _ _ => rfl)) (pg_tup (by rfl) (pgs_cons (pg_name (i := 2) sc_p_is_good.nd rfl (Or.inl rfl)) (pgs_cons (pg_name (i := 3) sc_p_is_good.nd rfl (Or.inl rfl)) pgs_nil)))) (pss_one (ps_ret (pe_and (pe_cmpR op_le (pv 2) (pv 1) (nomark _)) (pe_one (pe_or (pe_cmpR op_isN1 (pv 3) pe_non (nomark _)) (pe_one (pe_cmpR op_le (pv 1) (pv 3) (nomark _)))))))))), ?_⟩
    refine at_start (ρ' := [some _, some _, none, none]) rfl ?_
    walk_at "z0"
    walk_at "z"
    refine ⟨n, rfl, ?_⟩
    walk_at "z"
    refine s_kix hk ?_
    refine s_gTup ht rfl ?_
    walk_at "z"
    by_cases h1 : lo ≤ n
    · refine ite_pos h1 ?_
      walk_at "z"
      unfold within at k
      rw [decide_eq_true h1, Bool.true_and] at k
      cases hi with
      | none =>
        refine ite_tE rfl ?_
        exact k
      | some m =>
        refine ite_fE rfl ?_
        walk_at "z"
        exact s_rI0 (a := n) (b := m) k
    · refine ite_neg h1 ?_
      unfold within at k
      rw [decide_eq_false h1, Bool.false_and] at k
      exact k
def spNeed (lo hi : Int) : Sp := fun vs H Q _ => ∃ n : Int, vs = [.int n] ∧ lo ≤ n ∧ n ≤ hi ∧ Q .non H
theorem within_in {lo hi n : Int} (h1 : lo ≤ n) (h2 : n ≤ hi) : within lo (some hi) n = true := by
  unfold within
  rw [decide_eq_true h1, Bool.true_and]
  exact decide_eq_true h2

/-! defs that raise: what they leave where they do -/
theorem s_mkO {C : Addr} {sp : Sp} {dvs : List V} {ta : TA} {σ : L2.St} {H : Hp} {Q : XK} (k : ta σ H fun vs H1 => vs.length ≤ 1000 ∧ ∀ a, H1 a = none → sp (.ref a :: (vs ++ dvs)) (upd H1 a (exo a C none))
  (fun v H2 => v = .non ∧ ∃ (d : Addr) (fs : List (Str × V)), H2 a = some (exo a C (some d)) ∧ H2 d = some (exd d fs) ∧ H1 d = none ∧ Q (.ref C) (some d) (upd (del H2 a) d (.xd fs))) (fun _ _ _ => False)) : tMkO C sp dvs ta σ H Q := k
theorem len_bad {vs : List V} {H : Hp} {Q : VK} {E : XK} {lo hi : Int} {C : Addr} {fs : Int → List (Str × V)} (h : spBad lo hi C fs vs H Q E) : vs.length = 1 := by
  obtain ⟨n, rfl, _⟩ := h
  rfl
def spBadPass (K : PySem.W.Frag) (C : Addr) : Sp := fun vs H _ E => ∃ (l : Addr) (n : Int) (fs : List (Int × Fct)), vs = [.ref l, .int n] ∧ RL K H l fs ∧ GFs fs ∧ (∀ f, (n, f) ∈ fs → f.w ≠ "pass") ∧ n.natAbs.log2 < 1920 ∧
  ∀ d, H d = none → E (.ref C) (some d) (upd H d (.xd [("number", .int n), ("called", .str "NoPassing")]))
theorem len_p_need_passing {C : Addr} {vs : List V} {H : Hp} {Q : VK} {E : XK} (h : spBadPass K C vs H Q E) : vs.length = 2 := by
  obtain ⟨l, n, fs, rfl, _⟩ := h
  rfl
theorem len_p_row_of {C : Addr} {vs : List V} {H : Hp} {Q : VK} {E : XK} (h : spBadPass K C vs H Q E) : vs.length = 2 := len_p_need_passing h
theorem len_p_why {C : Addr} {vs : List V} {H : Hp} {Q : VK} {E : XK} (h : spBadPass K C vs H Q E) : vs.length = 2 := len_p_need_passing h
theorem within_out {lo hi n : Int} (h : ¬ (lo ≤ n ∧ n ≤ hi)) : within lo (some hi) n = false := by
  unfold within
  by_cases h1 : lo ≤ n
  · rw [decide_eq_true h1, Bool.true_and]
    exact decide_eq_false fun z => h ⟨h1, z⟩
  · rw [decide_eq_false h1, Bool.false_and]
theorem len_p_need_carriage {vs : List V} {H : Hp} {Q : VK} {E : XK} {lo hi : Int} {C : Addr} {fs : Int → List (Str × V)} (h : spBad lo hi C fs vs H Q E) : vs.length = 1 := len_bad h
theorem len_p_need_day {vs : List V} {H : Hp} {Q : VK} {E : XK} {lo hi : Int} {C : Addr} {fs : Int → List (Str × V)} (h : spBad lo hi C fs vs H Q E) : vs.length = 1 := len_bad h
/-- facts, a carriage and a day, one of the two is none -/
def spBadDW (Cn Cb : Addr) : Sp := fun vs H _ E => (∃ (l : Addr) (c d : Int), vs = [.ref l, .int c, .int d] ∧ ¬ (0 ≤ c ∧ c ≤ 9) ∧ c.natAbs.log2 < 1920 ∧ ∀ x, H x = none → E (.ref Cn) (some x) (upd H x (.xd [("number", .int c), ("called", .str "NoCarriage")]))) ∨
  ∃ (l : Addr) (c d : Int), vs = [.ref l, .int c, .int d] ∧ R 0 9 c ∧ ¬ (0 ≤ d ∧ d ≤ 999) ∧ d.natAbs.log2 < 1920 ∧ ∀ x, H x = none → E (.ref Cb) (some x) (upd H x (.xd [("called", .str "BadDay")]))
theorem len_p_day_walk {Cn Cb : Addr} {vs : List V} {H : Hp} {Q : VK} {E : XK} (h : spBadDW Cn Cb vs H Q E) : vs.length = 3 := by
  rcases h with ⟨l, c, d, rfl, _⟩ | ⟨l, c, d, rfl, _⟩ <;> rfl
theorem len_p_owes {Cn Cb : Addr} {vs : List V} {H : Hp} {Q : VK} {E : XK} (h : spBadDW Cn Cb vs H Q E) : vs.length = 3 := len_p_day_walk h
/-- facts and a day that is none -/
def spBadB (Cb : Addr) : Sp := fun vs H _ E => ∃ (l : Addr) (d : Int), vs = [.ref l, .int d] ∧ ¬ (0 ≤ d ∧ d ≤ 999) ∧ d.natAbs.log2 < 1920 ∧ ∀ x, H x = none → E (.ref Cb) (some x) (upd H x (.xd [("called", .str "BadDay")]))
theorem len_p_balances {Cb : Addr} {vs : List V} {H : Hp} {Q : VK} {E : XK} (h : spBadB Cb vs H Q E) : vs.length = 2 := by
  obtain ⟨l, d, rfl, _⟩ := h
  rfl

/-! which facts are good: the kinds of their things -/
def kindsOf : List Str := ["gate", "day", "toll", "trust", "carriage", "minute", "horses", "number", "payment"]
def wordsOf : List Str := ["toll", "board", "trust", "folk", "bargain", "pass", "lost", "paid", "", "Pass", "tolls", "gate", "pass "]
def shapeOf (z : Str) : Option (List Str) :=
  if z = "toll" then some ["gate", "day", "toll"] else if z = "board" then some ["gate", "day", "gates"] else if z = "trust" then some ["gate", "day", "trust"] else if z = "folk" then some ["carriage", "day", "day"]
  else if z = "bargain" then some ["gate", "carriage", "day", "day"] else if z = "pass" then some ["day", "minute", "gate", "carriage", "horses"] else if z = "lost" then some ["number", "minute"] else if z = "paid" then some ["carriage", "day", "payment"] else none
def bndOf (k : Str) : Int × Option Int :=
  if k = "gate" then (0, some 7) else if k = "day" then (0, some 999) else if k = "toll" then (0, some 48) else if k = "trust" then (0, some 3) else if k = "carriage" then (0, some 9) else if k = "minute" then (0, some 1439)
  else if k = "horses" then (1, some 8) else if k = "number" then (1, none) else if k = "payment" then (0, some 100000) else (0, none)
def riseOk (l : List Int) : Bool := l.all (within 0 (some 7)) && decide (l.Pairwise (· < ·))
def argOk (k : Str) : Arg → Bool
  | .i n => within (bndOf k).1 (bndOf k).2 n
  | .t l => riseOk l
/-- the place of the first wrong thing, from i on -/
def firstBad : Nat → List Str → List Arg → Option Nat
  | i, k :: ks, x :: xs => if argOk k x = true then firstBad (i + 1) ks xs else some i
  | _, _, _ => none
def placeF (f : Fct) : Option Nat := match shapeOf f.w with | none => some 0 | some ks => if ks.length = f.xs.length then firstBad 1 ks f.xs else some 0
/-- a thing is a tuple just where gates are due -/
def Suits (k : Str) : Arg → Prop
  | .i n => k ∈ kindsOf ∧ -(2 ^ 80) ≤ n ∧ n ≤ 10 ^ 30 - 1
  | .t l => k = "gates" ∧ l.length ≤ 60
structure Bent (f : Fct) : Prop where
  word : f.w ∈ wordsOf
  few : f.xs.length ≤ 8
  suits : ∀ ks, shapeOf f.w = some ks → ks.length = f.xs.length → ∀ (i : Nat) k x, ks[i]? = some k → f.xs[i]? = some x → Suits k x
theorem T_shape (T : Tx P K mg w) {z : Str} (hz : z ∈ wordsOf) : (∃ ks t, shapeOf z = some ks ∧ ks.length ≤ 5 ∧ KDct K w T.B_SHAPES z (.ref t) ∧ ∀ {H : Hp}, SqT K H t (ks.map V.str)) ∨ (shapeOf z = none ∧ KMiss K w T.B_SHAPES z) := by
  simp only [wordsOf, List.mem_cons, List.not_mem_nil, or_false] at hz
  rcases hz with rfl | rfl | rfl | rfl | rfl | rfl | rfl | rfl | rfl | rfl | rfl | rfl | rfl
  · exact .inl ⟨["gate", "day", "toll"], _, by decide +kernel, by decide, T.kd_SHAPES_toll, T.kt_SHAPES_toll⟩
  · exact .inl ⟨["gate", "day", "gates"], _, by decide +kernel, by decide, T.kd_SHAPES_board, T.kt_SHAPES_board⟩
  · exact .inl ⟨["gate", "day", "trust"], _, by decide +kernel, by decide, T.kd_SHAPES_trust, T.kt_SHAPES_trust⟩
  · exact .inl ⟨["carriage", "day", "day"], _, by decide +kernel, by decide, T.kd_SHAPES_folk, T.kt_SHAPES_folk⟩
  · exact .inl ⟨["gate", "carriage", "day", "day"], _, by decide +kernel, by decide, T.kd_SHAPES_bargain, T.kt_SHAPES_bargain⟩
  · exact .inl ⟨["day", "minute", "gate", "carriage", "horses"], _, by decide +kernel, by decide, T.kd_SHAPES_pass, T.kt_SHAPES_pass⟩
  · exact .inl ⟨["number", "minute"], _, by decide +kernel, by decide, T.kd_SHAPES_lost, T.kt_SHAPES_lost⟩
  · exact .inl ⟨["carriage", "day", "payment"], _, by decide +kernel, by decide, T.kd_SHAPES_paid, T.kt_SHAPES_paid⟩
  · exact .inr ⟨by decide +kernel, T.ms0_SHAPES⟩
  · exact .inr ⟨by decide +kernel, T.ms1_SHAPES⟩
  · exact .inr ⟨by decide +kernel, T.ms2_SHAPES⟩
  · exact .inr ⟨by decide +kernel, T.ms3_SHAPES⟩
  · exact .inr ⟨by decide +kernel, T.ms4_SHAPES⟩
theorem T_bnd (T : Tx P K mg w) {k : Str} (hk : k ∈ kindsOf) : ∃ t, KDct K w T.B_BOUNDS k (.ref t) ∧ ∀ {H : Hp}, SqT K H t [.int (bndOf k).1, optV (bndOf k).2] := by
  simp only [kindsOf, List.mem_cons, List.not_mem_nil, or_false] at hk
  rcases hk with rfl | rfl | rfl | rfl | rfl | rfl | rfl | rfl | rfl
  · exact ⟨_, T.kd_BOUNDS_gate, T.kt_BOUNDS_gate⟩
  · exact ⟨_, T.kd_BOUNDS_day, T.kt_BOUNDS_day⟩
  · exact ⟨_, T.kd_BOUNDS_toll, T.kt_BOUNDS_toll⟩
  · exact ⟨_, T.kd_BOUNDS_trust, T.kt_BOUNDS_trust⟩
  · exact ⟨_, T.kd_BOUNDS_carriage, T.kt_BOUNDS_carriage⟩
  · exact ⟨_, T.kd_BOUNDS_minute, T.kt_BOUNDS_minute⟩
  · exact ⟨_, T.kd_BOUNDS_horses, T.kt_BOUNDS_horses⟩
  · exact ⟨_, T.kd_BOUNDS_number, T.kt_BOUNDS_number⟩
  · exact ⟨_, T.kd_BOUNDS_payment, T.kt_BOUNDS_payment⟩
theorem eqvAll_il : ∀ a b : List Int, PyData.eqvAll (a.map PyData.int) (b.map PyData.int) = decide (a = b)
  | [], [] => rfl
  | [], _ :: _ => rfl
  | _ :: _, [] => rfl
  | x :: a, y :: b => by
    rw [List.map_cons, List.map_cons]
    unfold PyData.eqvAll
    rw [eqvAll_il a b]
    unfold PyData.eqv
    by_cases h : x = y <;> by_cases h2 : a = b <;> simp [h, h2]
theorem eqv_il (a b : List Int) : PyData.eqv (.list (a.map PyData.int)) (.list (b.map PyData.int)) = decide (a = b) := by
  unfold PyData.eqv
  exact eqvAll_il a b
theorem lay_ints : ∀ l : List Int, PyData.canLayAll0 (l.map PyData.int) = true ∧ PyData.depthAll (l.map PyData.int) ≤ 1
  | [] => ⟨rfl, by decide⟩
  | x :: l => by
    obtain ⟨h1, h2⟩ := lay_ints l
    rw [List.map_cons]
    refine ⟨by unfold PyData.canLayAll0; rw [h1]; rfl, ?_⟩
    unfold PyData.depthAll
    simp only [PyData.depth]
    omega
theorem shaped_ints (l : List Int) : SeqAt.shaped (.list (l.map PyData.int)) = true := by
  obtain ⟨h1, h2⟩ := lay_ints l
  unfold SeqAt.shaped
  rw [Bool.and_eq_true]
  refine ⟨h1, decide_eq_true ?_⟩
  unfold PyData.depth
  omega
theorem s_eqInts {H : Hp} {Q : VK} {p q : Addr} {a b : List Int} (h1 : SqL K H p (a.map V.int)) (h2 : SqL K H q (b.map V.int)) (k : Q (.bl (decide (a = b))) H) : rEqD K (.ref p) (.ref q) H Q :=
  ⟨_, _, .lst h1 (dp_ints _), .lst h2 (dp_ints _), shaped_ints _, shaped_ints _, by rw [eqv_il]; exact k⟩
theorem rise_iff {l ns : List Int} (h1 : ns.Pairwise (· < ·)) (h2 : ∀ x, x ∈ ns ↔ x ∈ l) : (l = ns) ↔ l.Pairwise (· < ·) :=
  ⟨fun e => by rw [e]; exact h1, fun h => rising_ext h h1 fun x => (h2 x).symm⟩
def spRise (K : PySem.W.Frag) : Sp := fun vs H Q _ => ∃ (a : Addr) (l : List Int), vs = [.str "gate", .ref a] ∧ SqT K H a (l.map V.int) ∧ l.length ≤ 60 ∧ ∀ H', Ex H H' → Q (.bl (riseOk l)) H'
theorem sc_p_are_rising : FnScope ["kind", "numbers", "number"] ["kind", "numbers"] (defScope s_p_are_rising) :=
  ⟨rfl, rfl, rfl, by decide +kernel, rfl, by decide +kernel, by decide +kernel⟩
theorem ok_p_are_rising (T : Tx P K mg w) : FnOk P w K mg base CX0 3 T.f_p_are_rising T.d_p_are_rising ["kind", "numbers"] (spRise K) := by
  refine T.F_p_are_rising.ok sc_p_are_rising (fun vs H Q E h => ?_) (fun cdv A outer s H vs Q E hr h => ?_)
  · obtain ⟨a, l, rfl, _⟩ := h
    rfl
  · obtain ⟨a, l, rfl, ha, hz, k⟩ := h
    refine ⟨_, (pss_cons (ps_if (pt_not (pt_val (pe_callB (r := rIsi K) call_isi (by rfl) T.z_isinstance (by decide +kernel) (pa_cons (pv 1) (pa_cons (pe_bltn (v := .ty "tuple") rfl T.z_tuple (by decide +kernel) rfl) pa_nil))))) (pss_one (ps_ret pe_bl)) pss_nil) (pss_cons (ps_if (pt_not (pt_val (pe_callB (r := rAll K) (cr_all rfl) (by rfl) T.z_all (by decide +kernel) (pa_cons (pe_lc (own := [("number", 2)]) (by rfl) sc_p_are_rising.nd (pi_tup (pv 1)) (blkOk_by (own := [("number", 2)]) (N := ["kind", "numbers", "number"]) (sc := defScope s_p_are_rising) (by decide +kernel)) (fun _ _ _ _ _ => (pg_name (i := 2) sc_p_are_rising.nd rfl (Or.inl rfl))) (fun _ _ _ _ _ => pts_nil) (fun _ _ _ _ _ => (pe_call (ok_p_is_good T) (hr.mono (by decide)) rfl T.g_p_is_good T.F_p_is_good.kp T.b_p_is_good .nil pass0 (pa_cons (pv 0) (pa_cons (pv 2) pa_nil))))) pa_nil)))) (pss_one (ps_ret pe_bl)) pss_nil) (pss_one (ps_ret (pe_cmpR (r := rEqD K) (op_eqD hr.units) (pe_callTy (r := rListOf K) cz_listOf (by rfl) T.z_list (by decide +kernel) (pa_cons (pv 1) pa_nil)) (pe_callB (cr_sortedSet rfl) (by rfl) T.z_sorted (by decide +kernel) (pa_cons (pe_callTy (cr_setT rfl) (by rfl) T.z_set (by decide +kernel) (pa_cons (pv 1) pa_nil)) pa_nil)) (nomark _)))))), ?_⟩
    refine at_start (ρ' := [some _, some _, none]) rfl ?_
    walk_at "z0"
    walk_at "z"
    refine c_tup (l.map V.int) ha (fun D H' => H D = none ∧ Ex H H') (fun D i acc H' => acc = (l.take i).map fun n => V.bl (within 0 (some 7) n)) (fun D H' n e _ => ⟨⟨n, e⟩, rfl⟩) (fun D H' Iv => Iv.2.sqT ha) (fun D i acc H1 x hx Iv hD hn r => ?_) (fun D acc H1 Iv hD hn r => ?_)
    · obtain ⟨nD, e1⟩ := Iv
      rw [List.getElem?_map] at hx
      obtain ⟨n, hn1, rfl⟩ := Option.map_eq_some_iff.mp hx
      have hi : i < l.length := (List.getElem?_eq_some_iff.mp hn1).1
      walk_at "z"
      refine ⟨rfl, ?_⟩
      walk_at "z"
      refine ⟨_, n, 0, some 7, _, rfl, T.kd_BOUNDS_gate, T.kt_BOUNDS_gate, ?_⟩
      refine c_put hD ⟨hn, by omega⟩ fun H3 f3 _ => ⟨⟨nD, e1.fr2 nD f3⟩, ?_⟩
      rw [r, List.take_succ, hn1, List.map_append]
      rfl
    · obtain ⟨nD, e1⟩ := Iv
      rw [List.length_map, List.take_length] at r
      walk_at "z"
      refine s_rAll (l.map (within 0 (some 7))) (SqL.of hD) (by rw [r, List.map_map]; rfl) ?_
      have hal : (l.map (within 0 (some 7))).all id = l.all (within 0 (some 7)) := by rw [List.all_map]; rfl
      rw [hal]
      refine ⟨_, rfl, ?_⟩
      cases hb : l.all (within 0 (some 7)) with
      | false =>
        walk_at "z"
        have := k H1 e1
        unfold riseOk at this
        rw [hb] at this
        exact this
      | true =>
        walk_at "z"
        rename_i p H2 np e2 hp
        refine s_setOfT (e2.sqT (e1.sqT ha)) (show l.length + 1 < 4096 by omega) fun q S m H3 nq e3 hq hm hS => ?_
        walk_at "z"
        refine s_sortedSet hq (by omega) fun ns r2 H4 hns hns2 hl4 _ e4 hr4 => ?_
        refine s_eqInts (SqL.of (e4 _ _ (e3 _ _ hp))) (SqL.of hr4) ?_
        have := k H4 (((e1.trans e2).trans e3).trans e4)
        unfold riseOk at this
        rw [hb, Bool.true_and] at this
        rw [show decide (l = ns) = decide (l.Pairwise (· < ·)) from decide_eq_decide.mpr (rise_iff hns fun x => (hns2 x).trans (hS x))]
        exact this
/-- a fact is let by, or it is refused with the place of the first wrong thing -/
def spNeedF (K : PySem.W.Frag) (C : Addr) : Sp := fun vs H Q E => ∃ (v : V) (f : Fct), vs = [v] ∧ RF K H v f ∧ Bent f ∧ (placeF f = none → ∀ H', Ex H H' → Q .non H') ∧
  ∀ p, placeF f = some p → ∀ H' d, Ex H H' → H' d = none → E (.ref C) (some d) (upd H' d (.xd [("place", .int (p : Nat)), ("called", .str "BadFact")]))
theorem firstBad_lt : ∀ {ks : List Str} {xs : List Arg} {i p : Nat}, firstBad i ks xs = some p → p ≤ i + ks.length
  | [], _, _, _, h => by simp [firstBad] at h
  | k :: ks, [], _, _, h => by simp [firstBad] at h
  | k :: ks, x :: xs, i, p, h => by
    unfold firstBad at h
    split at h
    · have := firstBad_lt h
      rw [List.length_cons]
      omega
    · cases h
      omega
/-- from the i-th thing on, all ahead being good -/
theorem firstBad_drop {ks : List Str} {xs : List Arg} {i : Nat} {k : Str} {x : Arg} (hk : ks[i]? = some k) (hx : xs[i]? = some x) : firstBad (i + 1) (ks.drop i) (xs.drop i) = if argOk k x = true then firstBad (i + 2) (ks.drop (i + 1)) (xs.drop (i + 1)) else some (i + 1) := by
  obtain ⟨h1, h2⟩ := List.getElem?_eq_some_iff.mp hk
  obtain ⟨h3, h4⟩ := List.getElem?_eq_some_iff.mp hx
  rw [List.drop_eq_getElem_cons h1, List.drop_eq_getElem_cons h3, h2, h4]
  rfl
theorem fds_get {H : Hp} : ∀ {vs : List V} {xs : List Arg} {i : Nat} {x : Arg}, FDs K H vs xs → xs[i]? = some x → ∃ v, vs[i]? = some v ∧ FD K H v x
  | _, _, 0, _, .cons h _, e => by
    cases e
    exact ⟨_, rfl, h⟩
  | _, _, i + 1, _, .cons _ r, e => fds_get (i := i) r (by simpa using e)
theorem fds_len {H : Hp} : ∀ {vs : List V} {xs : List Arg}, FDs K H vs xs → vs.length = xs.length
  | _, _, .nil => rfl
  | _, _, .cons _ r => congrArg Nat.succ (fds_len r)
theorem sc_p_need_fact : FnScope ["fact", "kinds", "place", "kind", "thing", "good"] ["fact"] (defScope s_p_need_fact) :=
  ⟨rfl, rfl, rfl, by decide +kernel, rfl, by decide +kernel, by decide +kernel⟩
theorem ok_p_need_fact (T : Tx P K mg w) : FnOk P w K mg base (CX P w) 4 T.f_p_need_fact T.d_p_need_fact ["fact"] (spNeedF K T.C_BadFact) := by
  refine T.F_p_need_fact.okX sc_p_need_fact (fun vs H Q E h => ?_) (fun cdv A outer s H vs Q E hr h => ?_)
  · obtain ⟨v, f, rfl, _⟩ := h
    rfl
  · obtain ⟨v, f, rfl, rf, bt, kg, kb⟩ := h
    obtain ⟨a, us, rfl, ha, hu⟩ := id rf
    have hul := fds_len hu
    have hf8 := bt.few
    refine ⟨_, (pss_cons (ps_set (i := 1) sc_p_need_fact.nd rfl (Or.inl rfl) (pe_kget (pe_glob (v := .ref T.B_SHAPES) rfl T.g_SHAPES rfl) (pe_ix (r := rIxT K) ix_tup (pv 0) pe_int (fun _ _ => rfl)) (by constructor <;> rfl))) (pss_cons (ps_if (PW.pt (pw_or (pt_cmpR op_isN1 (pv 1) pe_non (nomark _)) (pw_or1 (pt_cmpR op_ne (pe_callB (r := Z.rLen K) cz_len (by rfl) T.z_len PySem.boot_len (pa_cons (pv 0) pa_nil)) (pe_op op_add (pe_callB (r := Z.rLen K) cz_len (by rfl) T.z_len PySem.boot_len (pa_cons (pv 1) pa_nil)) pe_int) (nomark _))))) (pss_one (ps_raise rfl (takes_of rfl rfl rfl rfl) (pmk_ox T.pk_BadFact.ox T.in_BadFact T.FS_c_BadFact_init.ty (ok_c_BadFact_init T) (hr.mono (by decide)) T.b_c_BadFact_init .nil pass0 rfl T.g_BadFact (pa_cons pe_int pa_nil)))) pss_nil) (pss_one (ps_for (passes_of rfl) rfl (pi_count (by rfl) T.z_enumerate (pa_cons (pv 1) pa_nil) (pk_cons pe_int pk_nil) (by decide)) (pg_tup (by rfl) (pgs_cons (pg_name (i := 2) sc_p_need_fact.nd rfl (Or.inl rfl)) (pgs_cons (pg_name (i := 3) sc_p_need_fact.nd rfl (Or.inl rfl)) pgs_nil))) (pss_cons (ps_set (i := 4) sc_p_need_fact.nd rfl (Or.inl rfl) (pe_ix (r := rIxT K) ix_tup (pv 0) (pv 2) (fun _ _ => rfl))) (pss_cons (ps_set (i := 5) sc_p_need_fact.nd rfl (Or.inl rfl) (pe_ifExp (pt_cmpR op_eq (pv 3) pe_str (nomark _)) (pe_call (ok_p_are_rising T) (hr.mono (by decide)) rfl T.g_p_are_rising T.F_p_are_rising.kp T.b_p_are_rising .nil pass0 (pa_cons pe_str (pa_cons (pv 4) pa_nil))) (pe_call (ok_p_is_good T) (hr.mono (by decide)) rfl T.g_p_is_good T.F_p_is_good.kp T.b_p_is_good .nil pass0 (pa_cons (pv 3) (pa_cons (pv 4) pa_nil))))) (pss_one (ps_if (pt_not (pt_val (pv 5))) (pss_one (ps_raise rfl (takes_of rfl rfl rfl rfl) (pmk_ox T.pk_BadFact.ox T.in_BadFact T.FS_c_BadFact_init.ty (ok_c_BadFact_init T) (hr.mono (by decide)) T.b_c_BadFact_init .nil pass0 rfl T.g_BadFact (pa_cons (pv 2) pa_nil)))) pss_nil)))))))), ?_⟩
    refine at_start (ρ' := [some _, none, none, none, none, none]) rfl ?_
    walk_at "z0"
    walk_at "z"
    refine s_kget ?_
    walk_at "z"
    refine ⟨_, rfl, T.dic_SHAPES, ?_⟩
    walk_at "z"
    refine s_ixT ha (at0 _ _) ?_
    rcases T_shape T bt.word with ⟨ks, t, hs, h5, hk, ht⟩ | ⟨hs, hk⟩
    · refine ⟨_, rfl, .inl ⟨_, hk, ?_⟩⟩
      have ht0 : SqT K H t (ks.map V.str) := ht
      walk_at "z"
      rw [List.length_map, List.length_cons, hul]
      by_cases hl : ks.length = f.xs.length
      · have p1 : placeF f = firstBad 1 ks f.xs := by
          unfold placeF
          rw [hs]
          dsimp only
          rw [if_pos hl]
        refine ite_nneg (by omega) ?_
        walk_at "z"
        refine s_iCnt ?_
        walk_at "z"
        refine l_cnt (ks.map V.str) (fun i σ H' => ∃ v2 v3 v4 v5, σ = [some (.ref a), some (.ref t), v2, v3, v4, v5] ∧ Ex H H' ∧ placeF f = firstBad (i + 1) (ks.drop i) (f.xs.drop i)) ⟨_, _, _, _, rfl, Ex.refl, p1⟩ (fun i σ H' _ h => ht) (fun i x t2 σ H1 H2 hi h nt e2 ht2 => ?_) (fun σ H' h => ?_)
        · obtain ⟨v2, v3, v4, v5, rfl, e1, pi⟩ := h
          rw [List.getElem?_map] at hi
          obtain ⟨k, hk1, rfl⟩ := Option.map_eq_some_iff.mp hi
          have hik : i < ks.length := (List.getElem?_eq_some_iff.mp hk1).1
          obtain ⟨x0, hx0⟩ : ∃ x0, f.xs[i]? = some x0 := ⟨_, List.getElem?_eq_getElem (by omega)⟩
          obtain ⟨u, hu1, fd⟩ := fds_get hu hx0
          have st := bt.suits ks hs hl i k x0 hk1 hx0
          rw [firstBad_drop hk1 hx0] at pi
          have e3 := e1.trans e2
          have ha2 := e3.sqT ha
          have cast : (1 : Int) + (i : Int) = ((i + 1 : Nat) : Int) := by omega
          walk_at "z"
          rw [cast]
          refine s_ixT ha2 (atI_nat (xs := V.str f.w :: us) (j := i + 1) (by simpa using hu1)) ?_
          walk_at "z"
          cases fd with
          | i n =>
            obtain ⟨hkk, _, _⟩ := st
            have hng : k ≠ "gates" := fun z => by
              rw [z] at hkk
              exact absurd hkk (by decide +kernel)
            rw [decide_eq_false hng]
            walk_at "z"
            obtain ⟨tb, hb1, hb2⟩ := T_bnd T hkk
            refine ⟨_, n, _, _, tb, rfl, hb1, hb2, ?_⟩
            walk_at "z"
            have ea : argOk k (.i n) = within (bndOf k).1 (bndOf k).2 n := rfl
            rw [← ea]
            cases hok : argOk k (.i n) with
            | true =>
              rw [hok] at pi
              walk_at "z"
              exact ⟨_, _, _, _, rfl, e3, pi⟩
            | false =>
              rw [hok] at pi
              walk_at "z"
              refine s_mkO ?_
              walk_at "z"
              exact use_place T.pk_BadFact T.sc_BadFact T.so_BadFact T.no_BadFact (log_small (by omega) (by omega)) fun d hd => kb (i + 1) pi H2 d e3 hd
          | t hq =>
            rename_i q l
            obtain ⟨rfl, hl60⟩ := st
            walk_at "z"
            refine ⟨q, l, rfl, e3.sqT hq, hl60, fun H3 e4 => ?_⟩
            walk_at "z"
            have ea : argOk "gates" (.t l) = riseOk l := rfl
            rw [← ea]
            cases hok : argOk "gates" (.t l) with
            | true =>
              rw [hok] at pi
              walk_at "z"
              exact ⟨_, _, _, _, rfl, e3.trans e4, pi⟩
            | false =>
              rw [hok] at pi
              walk_at "z"
              refine s_mkO ?_
              walk_at "z"
              exact use_place T.pk_BadFact T.sc_BadFact T.so_BadFact T.no_BadFact (log_small (by omega) (by omega)) fun d hd => kb (i + 1) pi H3 d (e3.trans e4) hd
        · obtain ⟨v2, v3, v4, v5, rfl, e1, pi⟩ := h
          rw [List.length_map, List.drop_length] at pi
          exact kg pi H' e1
      · have p0 : placeF f = some 0 := by
          unfold placeF
          rw [hs]
          dsimp only
          rw [if_neg hl]
        refine ite_npos (by omega) ?_
        refine s_mkO ?_
        walk_at "z"
        exact use_place T.pk_BadFact T.sc_BadFact T.so_BadFact T.no_BadFact (by decide) fun d hd => kb 0 p0 H d Ex.refl hd
    · refine ⟨_, rfl, .inr ⟨hk, ?_⟩⟩
      walk_at "z"
      have p0 : placeF f = some 0 := by
        unfold placeF
        rw [hs]
      refine s_mkO ?_
      walk_at "z"
      exact use_place T.pk_BadFact T.sc_BadFact T.so_BadFact T.no_BadFact (by decide) fun d hd => kb 0 p0 H d Ex.refl hd

/-! the law's own reading of a fact -/
def placeI (f : Fct) : Int := match placeF f with | none => -1 | some p => (p : Nat)
def spPlaceL (K : PySem.W.Frag) : Sp := fun vs H Q _ => ∃ (v : V) (f : Fct), vs = [v] ∧ RF K H v f ∧ Bent f ∧ ∀ H', Ex H H' → Q (.int (placeI f)) H'
theorem s_pairC {z : Str} {tv : TE} {r : List (TE × TE)} {σ : L2.St} {H : Hp} {Q : List (V × V) → Hp → Prop} (k : tv σ H fun y H2 => tPairs r σ H2 fun ps H3 => Q ((.str z, y) :: ps) H3) : tPairs ((tC (.str z), tv) :: r) σ H Q := k
theorem s_pairN {σ : L2.St} {H : Hp} {Q : List (V × V) → Hp → Prop} (k : Q [] H) : tPairs [] σ H Q := k
theorem putK_new {kvs : List (Key × V)} {k : Key} {v : V} (h : k ∉ kvs.map (·.1)) : putK kvs k v = kvs ++ [(k, v)] := by
  unfold putK
  rw [if_neg]
  intro q
  obtain ⟨p, hp, e⟩ := List.any_eq_true.mp q
  exact h (List.mem_map.mpr ⟨p, hp, of_decide_eq_true e⟩)
theorem mergeK_new : ∀ {more kvs : List (Key × V)}, (kvs.map (·.1) ++ more.map (·.1)).Nodup → mergeK kvs more = kvs ++ more
  | [], kvs, _ => by rw [List.append_nil]; rfl
  | p :: r, kvs, h => by
    have h1 : p.1 ∉ kvs.map (·.1) := fun q => by
      have := (List.nodup_append.mp h).2.2 _ q p.1 (by simp)
      exact this rfl
    show mergeK (putK kvs p.1 p.2) r = _
    rw [putK_new h1, mergeK_new (by simpa using h)]
    simp
theorem s_dgetS {a : Addr} {z : Str} {kvs : List (Key × V)} {v : V} {H : Hp} {Q : VK} (h : H a = some (.dK kvs)) (e : valV kvs (Sum.inr z) = some v) (k : Q v H) : DGetR (.ref a) (.str z) H Q := ⟨a, v, rfl, by rw [← e]; exact DGet.k (k := Sum.inr z) h, k⟩
theorem s_dnotinS {a : Addr} {z : Str} {kvs : List (Key × V)} {H : Hp} {Q : VK} (h : H a = some (.dK kvs)) (k : Q (.bl (!(valV kvs (Sum.inr z)).isSome)) H) : DNotInR (.str z) (.ref a) H Q := ⟨a, _, rfl, DGet.k (k := Sum.inr z) h, k⟩
/-- the gates below j that stand in l, rising -/
def gatesIn (l : List Int) : Nat → List Int
  | 0 => []
  | j + 1 => if (j : Int) ∈ l then gatesIn l j ++ [(j : Int)] else gatesIn l j
theorem gatesIn_succ (l : List Int) (j : Nat) : gatesIn l (j + 1) = if (j : Int) ∈ l then gatesIn l j ++ [(j : Int)] else gatesIn l j := rfl
theorem gatesIn_mem (l : List Int) : ∀ (j : Nat) (x : Int), x ∈ gatesIn l j ↔ x ∈ l ∧ 0 ≤ x ∧ x < j
  | 0, x => by
    simp only [gatesIn, List.not_mem_nil, false_iff]
    omega
  | j + 1, x => by
    rw [gatesIn_succ]
    have ih := gatesIn_mem l j x
    split
    · rename_i h
      rw [List.mem_append, ih, List.mem_singleton]
      constructor
      · rintro (⟨a, b, c⟩ | rfl)
        · exact ⟨a, b, by omega⟩
        · exact ⟨h, by omega, by omega⟩
      · rintro ⟨a, b, c⟩
        by_cases e : x = j
        · exact .inr e
        · exact .inl ⟨a, b, by omega⟩
    · rename_i h
      rw [ih]
      constructor
      · rintro ⟨a, b, c⟩
        exact ⟨a, b, by omega⟩
      · rintro ⟨a, b, c⟩
        refine ⟨a, b, ?_⟩
        have : x ≠ j := fun z => h (z ▸ a)
        omega
theorem gatesIn_rise (l : List Int) : ∀ j : Nat, (gatesIn l j).Pairwise (· < ·)
  | 0 => List.Pairwise.nil
  | j + 1 => by
    rw [gatesIn_succ]
    split
    · refine List.pairwise_append.mpr ⟨gatesIn_rise l j, List.pairwise_singleton _ _, fun x hx y hy => ?_⟩
      rw [List.mem_singleton] at hy
      have := ((gatesIn_mem l j x).mp hx).2.2
      omega
    · exact gatesIn_rise l j
theorem within_gate (x : Int) : within 0 (some 7) x = true ↔ 0 ≤ x ∧ x ≤ 7 := by
  unfold within
  simp
theorem rise_law (l : List Int) : decide (l = gatesIn l (8 : Int).toNat) = argOk "gates" (.t l) := by
  show decide (l = gatesIn l 8) = riseOk l
  unfold riseOk
  by_cases h : l = gatesIn l 8
  · rw [decide_eq_true h]
    have h1 : l.all (within 0 (some 7)) = true := List.all_eq_true.mpr fun x hx => by
      rw [h] at hx
      have := (gatesIn_mem l 8 x).mp hx
      exact (within_gate x).mpr ⟨this.2.1, by omega⟩
    have h2 : l.Pairwise (· < ·) := by rw [h]; exact gatesIn_rise l 8
    rw [h1, decide_eq_true h2]
    rfl
  · rw [decide_eq_false h]
    cases h1 : l.all (within 0 (some 7)) with
    | false => rfl
    | true =>
      rw [Bool.true_and]
      refine (decide_eq_false (p := l.Pairwise (· < ·)) fun h2 => h (rising_ext h2 (gatesIn_rise l 8) fun x => ?_)).symm
      rw [gatesIn_mem]
      refine ⟨fun hx => ?_, fun hx => hx.1⟩
      have := (within_gate x).mp (List.all_eq_true.mp h1 x hx)
      exact ⟨hx, this.1, by omega⟩
theorem flat_intsP (l : List Int) : (l.map V.int).all flatV = true := List.all_eq_true.mpr fun x hx => by
  obtain ⟨n, _, rfl⟩ := List.mem_map.mp hx
  rfl
theorem inV_intsP (x : Int) (gs : List Int) : inV (.int x) (gs.map V.int) = decide (x ∈ gs) := by
  unfold inV
  rw [List.any_map]
  induction gs with
  | nil => rfl
  | cons y gs ih =>
    rw [List.any_cons, ih]
    show ((y == x) || _) = _
    by_cases h : y = x
    · subst h
      simp
    · have : ¬ x = y := fun z => h z.symm
      simp [h, this]
theorem s_neInts {H : Hp} {Q : VK} {p q : Addr} {a b : List Int} (h1 : SqL K H p (a.map V.int)) (h2 : SqL K H q (b.map V.int)) (k : Q (.bl (!decide (a = b))) H) : rNeD K (.ref p) (.ref q) H Q :=
  ⟨_, _, .lst h1 (dp_ints _), .lst h2 (dp_ints _), shaped_ints _, shaped_ints _, by rw [eqv_il]; exact k⟩
/-- the letter that the law has for a kind -/
def letterOf (k : Str) : Nat := if k = "gate" then 103 else if k = "day" then 100 else if k = "toll" then 104 else if k = "trust" then 116 else if k = "carriage" then 99 else if k = "minute" then 109 else if k = "horses" then 111 else if k = "number" then 110 else if k = "payment" then 112 else 98
def lettersOf (ks : List Str) : Str := ⟨(ks.map letterOf).toArray⟩
def lawKinds : List (Key × V) := [(.inr "toll", .str "gdh"), (.inr "board", .str "gdb"), (.inr "trust", .str "gdt"), (.inr "folk", .str "cdd"), (.inr "bargain", .str "gcdd"), (.inr "pass", .str "dmgco"), (.inr "lost", .str "nm"), (.inr "paid", .str "cdp")]
theorem valV_no {α : Type} [DecidableEq α] {p : α × V} {r : List (α × V)} {k : α} {o : Option V} (e : ¬ p.1 = k) (h : valV r k = o) : valV (p :: r) k = o := by rw [valV_neg e]; exact h
theorem valV_posK {k k' : Key} {v : V} {r : List (Key × V)} (e : k' = k) : valV ((k', v) :: r) k = some v := valV_pos (p := (k', v)) e
theorem valV_noK {k k' : Key} {v : V} {r : List (Key × V)} {o : Option V} (e : ¬ k' = k) (h : valV r k = o) : valV ((k', v) :: r) k = o := valV_no (p := (k', v)) e h
theorem letter_ne {k : Str} (hk : k ∈ kindsOf) : (⟨#[letterOf k]⟩ : Str) ≠ "b" := by
  simp only [kindsOf, List.mem_cons, List.not_mem_nil, or_false] at hk
  rcases hk with rfl | rfl | rfl | rfl | rfl | rfl | rfl | rfl | rfl <;> decide +kernel
theorem kinds_of {z : Str} (hz : z ∈ wordsOf) : (∀ ks, shapeOf z = some ks → valV lawKinds (Sum.inr z) = some (.str (lettersOf ks)) ∧ ks.length ≤ 5 ∧ ∀ k ∈ ks, k ∈ kindsOf ∨ k = "gates") ∧ (shapeOf z = none → valV lawKinds (Sum.inr z) = none) := by
  simp only [wordsOf, List.mem_cons, List.not_mem_nil, or_false] at hz
  have pos : ∀ (z : Str) (ks : List Str) (l : Str), shapeOf z = some ks → l = lettersOf ks → valV lawKinds (Sum.inr z) = some (.str l) → (ks.length ≤ 5 ∧ ∀ k ∈ ks, k ∈ kindsOf ∨ k = "gates") →
      (∀ ks, shapeOf z = some ks → valV lawKinds (Sum.inr z) = some (.str (lettersOf ks)) ∧ ks.length ≤ 5 ∧ ∀ k ∈ ks, k ∈ kindsOf ∨ k = "gates") ∧ (shapeOf z = none → valV lawKinds (Sum.inr z) = none) := by
    intro z ks l h1 h2 h3 h4
    refine ⟨fun ks' h => ?_, fun h => by rw [h1] at h; cases h⟩
    rw [h1] at h
    cases h
    rw [← h2]
    exact ⟨h3, h4⟩
  have neg : ∀ (z : Str), shapeOf z = none → valV lawKinds (Sum.inr z) = none →
      (∀ ks, shapeOf z = some ks → valV lawKinds (Sum.inr z) = some (.str (lettersOf ks)) ∧ ks.length ≤ 5 ∧ ∀ k ∈ ks, k ∈ kindsOf ∨ k = "gates") ∧ (shapeOf z = none → valV lawKinds (Sum.inr z) = none) := fun z h1 h2 => ⟨fun ks h => (by rw [h1] at h; cases h), fun _ => h2⟩
  rcases hz with rfl | rfl | rfl | rfl | rfl | rfl | rfl | rfl | rfl | rfl | rfl | rfl | rfl
  · exact pos _ ["gate", "day", "toll"] "gdh" (by decide +kernel) (by decide +kernel) (by repeat (first | exact valV_pos rfl | refine valV_no (by decide +kernel) ?_)) (by decide +kernel)
  · exact pos _ ["gate", "day", "gates"] "gdb" (by decide +kernel) (by decide +kernel) (by repeat (first | exact valV_pos rfl | refine valV_no (by decide +kernel) ?_)) (by decide +kernel)
  · exact pos _ ["gate", "day", "trust"] "gdt" (by decide +kernel) (by decide +kernel) (by repeat (first | exact valV_pos rfl | refine valV_no (by decide +kernel) ?_)) (by decide +kernel)
  · exact pos _ ["carriage", "day", "day"] "cdd" (by decide +kernel) (by decide +kernel) (by repeat (first | exact valV_pos rfl | refine valV_no (by decide +kernel) ?_)) (by decide +kernel)
  · exact pos _ ["gate", "carriage", "day", "day"] "gcdd" (by decide +kernel) (by decide +kernel) (by repeat (first | exact valV_pos rfl | refine valV_no (by decide +kernel) ?_)) (by decide +kernel)
  · exact pos _ ["day", "minute", "gate", "carriage", "horses"] "dmgco" (by decide +kernel) (by decide +kernel) (by repeat (first | exact valV_pos rfl | refine valV_no (by decide +kernel) ?_)) (by decide +kernel)
  · exact pos _ ["number", "minute"] "nm" (by decide +kernel) (by decide +kernel) (by repeat (first | exact valV_pos rfl | refine valV_no (by decide +kernel) ?_)) (by decide +kernel)
  · exact pos _ ["carriage", "day", "payment"] "cdp" (by decide +kernel) (by decide +kernel) (by repeat (first | exact valV_pos rfl | refine valV_no (by decide +kernel) ?_)) (by decide +kernel)
  all_goals exact neg _ (by decide +kernel) (by repeat (first | exact valV_nil | refine valV_no (by decide +kernel) ?_))
/-- the law's limits as they lie -/
structure Lims (K : PySem.W.Frag) (H : Hp) (lims : List (Key × V)) : Prop where
  at_ : ∀ k ∈ kindsOf, ∃ t hi, valV lims (Sum.inr ⟨#[letterOf k]⟩) = some (.ref t) ∧ SqT K H t [.int (bndOf k).1, .int hi] ∧ ∀ n, -(2 ^ 80) ≤ n → n ≤ 10 ^ 30 - 1 → decide ((bndOf k).1 ≤ n ∧ n ≤ hi) = within (bndOf k).1 (bndOf k).2 n
theorem Lims.ex {H H' : Hp} {lims : List (Key × V)} (h : Lims K H lims) (e : Ex H H') : Lims K H' lims := ⟨fun k hk => by
  obtain ⟨t, hi, h1, h2, h3⟩ := h.at_ k hk
  exact ⟨t, hi, h1, e.sqT h2, h3⟩⟩
theorem within_some {lo hi n : Int} : decide (lo ≤ n ∧ n ≤ hi) = within lo (some hi) n := by
  unfold within
  by_cases h1 : lo ≤ n <;> by_cases h2 : n ≤ hi <;> simp [h1, h2]
theorem sqT_updK {H : Hp} {D p : Addr} {kvs : List (Key × V)} {o : HO} {xs : List V} (hD : H D = some (.dK kvs)) (h : SqT K H p xs) : SqT K (upd H D o) p xs := by
  rcases h with (h | ⟨o2, h⟩) | h
  · exact .inl (.inl (by rw [upd_ne (ne_of h hD (fun z => by cases z))]; exact h))
  · exact .inl (.inr ⟨o2, by rw [upd_ne (ne_of h hD (fun z => by cases z))]; exact h⟩)
  · exact .inr h

/-! a fact, perhaps bent -/
theorem cut_take5 {xs : List V} {n : Nat} : cutV xs none (some (n : Int)) = xs.take n := by
  unfold cutV
  rw [HT.sIx_none, HT.sIx_nat, List.drop_zero, Nat.sub_zero]
  by_cases h : n ≤ xs.length
  · rw [Nat.min_eq_left h]
  · rw [Nat.min_eq_right (by omega), List.take_of_length_le (Nat.le_refl _), List.take_of_length_le (by omega)]
theorem cut_drop5 {xs : List V} {n : Nat} : cutV xs (some (n : Int)) none = xs.drop n := by
  unfold cutV
  rw [HT.sIx_none, HT.sIx_nat]
  by_cases h : n ≤ xs.length
  · rw [Nat.min_eq_left h]
    exact List.take_of_length_le (by rw [List.length_drop]; exact Nat.le_refl _)
  · rw [Nat.min_eq_right (by omega), List.drop_eq_nil_of_le (by omega : xs.length ≤ n), Nat.sub_self, List.take_zero]
theorem sIx_last (n d : Nat) : HT.sIx n d (some (-1)) = n - 1 := by
  show (if (-1 : Int) < 0 then ((-1 : Int) + (n : Int)).toNat else min (-1 : Int).toNat n) = n - 1
  rw [if_pos (by decide)]
  omega
theorem cut_last {x : V} {us : List V} (h : us ≠ []) : cutV (x :: us) none (some (-1)) = x :: us.dropLast := by
  unfold cutV
  rw [HT.sIx_none, sIx_last, List.drop_zero, Nat.sub_zero, ← List.dropLast_eq_take, List.dropLast_cons_of_ne_nil h]
theorem gatesIn_len (l : List Int) : ∀ j, (gatesIn l j).length ≤ j
  | 0 => Nat.le_refl _
  | j + 1 => by
    have := gatesIn_len l j
    rw [gatesIn_succ]
    split
    · rw [List.length_append]
      show _ + 1 ≤ _
      omega
    · omega
theorem rise_len {l : List Int} (h : Rising l) (h7 : ∀ x ∈ l, R 0 7 x) : l.length ≤ 8 := by
  have : l = gatesIn l 8 := rising_ext h (gatesIn_rise l 8) fun x => by
    rw [gatesIn_mem]
    exact ⟨fun hx => ⟨hx, (h7 x hx).1, by have := (h7 x hx).2; omega⟩, fun hx => hx.1⟩
  rw [this]
  exact gatesIn_len l 8
theorem gf_shaped {f : Fct} (g : GF f) (lb : LB f) : f.w ∈ wordsOf.take 8 ∧ 2 ≤ f.xs.length ∧ f.xs.length ≤ 5 ∧ ∃ ks, shapeOf f.w = some ks ∧ ks.length = f.xs.length ∧ All2 Suits ks f.xs := by
  have num : ∀ {k : Str} {n lo hi : Int}, k ∈ kindsOf → R lo hi n → -1000000 ≤ lo → hi ≤ 1000000 → Suits k (.i n) := fun hk h h1 h2 => ⟨hk, by have := h.1; omega, by have := h.2; omega⟩
  cases g with
  | toll a b c => exact ⟨by show ("toll" : Str) ∈ _; decide +kernel, by show 2 ≤ 3; decide, by show 3 ≤ 5; decide, ["gate", "day", "toll"], by show shapeOf "toll" = _; decide +kernel, rfl, .cons (num (by decide +kernel) a (by decide) (by decide)) (.cons (num (by decide +kernel) b (by decide) (by decide)) (.cons (num (by decide +kernel) c (by decide) (by decide)) .nil))⟩
  | board a b c d => exact ⟨by show ("board" : Str) ∈ _; decide +kernel, by show 2 ≤ 3; decide, by show 3 ≤ 5; decide, ["gate", "day", "gates"], by show shapeOf "board" = _; decide +kernel, rfl, .cons (num (by decide +kernel) a (by decide) (by decide)) (.cons (num (by decide +kernel) b (by decide) (by decide)) (.cons ⟨rfl, Nat.le_trans (rise_len c d) (by decide)⟩ .nil))⟩
  | trust a b c => exact ⟨by show ("trust" : Str) ∈ _; decide +kernel, by show 2 ≤ 3; decide, by show 3 ≤ 5; decide, ["gate", "day", "trust"], by show shapeOf "trust" = _; decide +kernel, rfl, .cons (num (by decide +kernel) a (by decide) (by decide)) (.cons (num (by decide +kernel) b (by decide) (by decide)) (.cons (num (by decide +kernel) c (by decide) (by decide)) .nil))⟩
  | folk a b c => exact ⟨by show ("folk" : Str) ∈ _; decide +kernel, by show 2 ≤ 3; decide, by show 3 ≤ 5; decide, ["carriage", "day", "day"], by show shapeOf "folk" = _; decide +kernel, rfl, .cons (num (by decide +kernel) a (by decide) (by decide)) (.cons (num (by decide +kernel) b (by decide) (by decide)) (.cons (num (by decide +kernel) c (by decide) (by decide)) .nil))⟩
  | bargain a b c d => exact ⟨by show ("bargain" : Str) ∈ _; decide +kernel, by show 2 ≤ 4; decide, by show 4 ≤ 5; decide, ["gate", "carriage", "day", "day"], by show shapeOf "bargain" = _; decide +kernel, rfl, .cons (num (by decide +kernel) a (by decide) (by decide)) (.cons (num (by decide +kernel) b (by decide) (by decide)) (.cons (num (by decide +kernel) c (by decide) (by decide)) (.cons (num (by decide +kernel) d (by decide) (by decide)) .nil)))⟩
  | pass a b c d e => exact ⟨by show ("pass" : Str) ∈ _; decide +kernel, by show 2 ≤ 5; decide, by show 5 ≤ 5; decide, ["day", "minute", "gate", "carriage", "horses"], by show shapeOf "pass" = _; decide +kernel, rfl, .cons (num (by decide +kernel) a (by decide) (by decide)) (.cons (num (by decide +kernel) b (by decide) (by decide)) (.cons (num (by decide +kernel) c (by decide) (by decide)) (.cons (num (by decide +kernel) d (by decide) (by decide)) (.cons (num (by decide +kernel) e (by decide) (by decide)) .nil))))⟩
  | @lost n m a b =>
    have hn := lb n m rfl
    exact ⟨by show ("lost" : Str) ∈ _; decide +kernel, by show 2 ≤ 2; decide, by show 2 ≤ 5; decide, ["number", "minute"], by show shapeOf "lost" = _; decide +kernel, rfl, .cons ⟨by decide +kernel, by omega, by omega⟩ (.cons (num (by decide +kernel) b (by decide) (by decide)) .nil)⟩
  | paid a b c => exact ⟨by show ("paid" : Str) ∈ _; decide +kernel, by show 2 ≤ 3; decide, by show 3 ≤ 5; decide, ["carriage", "day", "payment"], by show shapeOf "paid" = _; decide +kernel, rfl, .cons (num (by decide +kernel) a (by decide) (by decide)) (.cons (num (by decide +kernel) b (by decide) (by decide)) (.cons (num (by decide +kernel) c (by decide) (by decide)) .nil))⟩
theorem word_take {z : Str} (h : z ∈ wordsOf.take 8) : z ∈ wordsOf := List.mem_of_mem_take h
theorem suits_of {ks : List Str} {xs : List Arg} (h : All2 Suits ks xs) (i : Nat) (k : Str) (x : Arg) (h1 : ks[i]? = some k) (h2 : xs[i]? = some x) : Suits k x := by
  obtain ⟨b, hb, hs⟩ := h.get h1
  rw [h2] at hb
  cases hb
  exact hs
theorem bent_good {f : Fct} (g : GF f) (lb : LB f) : Bent f := by
  obtain ⟨h1, h2, h3, ks, h4, h5, h6⟩ := gf_shaped g lb
  exact ⟨word_take h1, by omega, fun ks' e _ => by
    rw [h4] at e
    cases e
    exact suits_of h6⟩
/-- of another length -/
theorem bent_len {f : Fct} (g : GF f) (lb : LB f) {ys : List Arg} (hl : ys.length ≠ f.xs.length) (h8 : ys.length ≤ 8) : Bent ⟨f.w, ys⟩ := by
  obtain ⟨h1, h2, h3, ks, h4, h5, h6⟩ := gf_shaped g lb
  exact ⟨word_take h1, h8, fun ks' e e2 => by
    rw [h4] at e
    cases e
    exact absurd (e2.symm.trans h5) hl⟩
/-- of no kind -/
theorem bent_word {z : Str} {ys : List Arg} (hz : z ∈ wordsOf) (hn : shapeOf z = none) (h8 : ys.length ≤ 8) : Bent ⟨z, ys⟩ :=
  ⟨hz, h8, fun ks e => by rw [hn] at e; cases e⟩
theorem shape_kinds {z : Str} (hz : z ∈ wordsOf) (hb : z ≠ "board") : ∀ ks, shapeOf z = some ks → ∀ k ∈ ks, k ∈ kindsOf := by
  simp only [wordsOf, List.mem_cons, List.not_mem_nil, or_false] at hz
  have go : ∀ (z : Str) (ks0 : List Str), shapeOf z = some ks0 → (∀ k ∈ ks0, k ∈ kindsOf) → ∀ ks, shapeOf z = some ks → ∀ k ∈ ks, k ∈ kindsOf := fun z ks0 h1 h2 ks h => by
    rw [h1] at h
    cases h
    exact h2
  have no : ∀ (z : Str), shapeOf z = none → ∀ ks, shapeOf z = some ks → ∀ k ∈ ks, k ∈ kindsOf := fun z h1 ks h => by
    rw [h1] at h
    cases h
  rcases hz with rfl | rfl | rfl | rfl | rfl | rfl | rfl | rfl | rfl | rfl | rfl | rfl | rfl
  · exact go _ ["gate", "day", "toll"] (by decide +kernel) (by decide +kernel)
  · exact absurd rfl hb
  · exact go _ ["gate", "day", "trust"] (by decide +kernel) (by decide +kernel)
  · exact go _ ["carriage", "day", "day"] (by decide +kernel) (by decide +kernel)
  · exact go _ ["gate", "carriage", "day", "day"] (by decide +kernel) (by decide +kernel)
  · exact go _ ["day", "minute", "gate", "carriage", "horses"] (by decide +kernel) (by decide +kernel)
  · exact go _ ["number", "minute"] (by decide +kernel) (by decide +kernel)
  · exact go _ ["carriage", "day", "payment"] (by decide +kernel) (by decide +kernel)
  all_goals exact no _ (by decide +kernel)
/-- one thing another number -/
theorem bent_set {f : Fct} (bt : Bent f) {i : Nat} {n : Int} (h0 : -(2 ^ 80) ≤ n) (h1 : n ≤ 10 ^ 30 - 1) (hk : ∀ ks k, shapeOf f.w = some ks → ks[i]? = some k → k ∈ kindsOf) : Bent ⟨f.w, f.xs.set i (.i n)⟩ := by
  refine ⟨bt.word, by rw [List.length_set]; exact bt.few, fun ks e hl j k x hj hx => ?_⟩
  rw [List.length_set] at hl
  by_cases hij : i = j
  · subst hij
    have hi : i < f.xs.length := by
      have := (List.getElem?_eq_some_iff.mp hx).1
      rw [List.length_set] at this
      exact this
    rw [List.getElem?_set_self hi] at hx
    cases hx
    exact ⟨hk ks k e hj, h0, h1⟩
  · rw [List.getElem?_set_ne hij] at hx
    exact bt.suits ks e hl j k x hj hx
theorem fds_set {H : Hp} {n : Int} {vs : List V} {xs : List Arg} (h : FDs K H vs xs) : ∀ i : Nat, FDs K H (vs.set i (.int n)) (xs.set i (.i n)) := by
  induction h with
  | nil => exact fun _ => .nil
  | cons h r ih =>
    intro i
    cases i with
    | zero => exact .cons (.i n) r
    | succ i => exact .cons h (ih i)
theorem fds_snoc {H : Hp} {v : V} {x : Arg} (hx : FD K H v x) {vs : List V} {xs : List Arg} (h : FDs K H vs xs) : FDs K H (vs ++ [v]) (xs ++ [x]) := by
  induction h with
  | nil => exact .cons hx .nil
  | cons h r ih => exact .cons h ih
theorem fds_init {H : Hp} {vs : List V} {xs : List Arg} (h : FDs K H vs xs) : FDs K H vs.dropLast xs.dropLast := by
  induction h with
  | nil => exact .nil
  | cons h r ih =>
    cases r with
    | nil => exact .nil
    | cons h2 r2 => exact .cons h ih
theorem sqT_pull {H H' : Hp} {b c a : Addr} {xs : List V} (f : Fr b H H') (B : Bag H b c) (h : SqT K H a xs) : SqT K H' a xs := by
  obtain ⟨ys, hb⟩ := B.getb
  exact sqT_fr f hb h
theorem s_catB {H : Hp} {Q : VK} {a b : Addr} {xs ys : List V} (h1 : SqT K H a xs) (h2 : SqT K H b ys) (hx : xs ≠ []) (hz : xs.length + ys.length ≤ 1000) (k : ∀ t H', Ex H H' → SqT K H' t (xs ++ ys) → Q (.ref t) H') : rCatA K (.ref a) (.ref b) H Q :=
  ⟨a, b, xs, ys, rfl, rfl, h1, h2, sz (by omega), fun e => absurd e hx, fun _ e => by
    subst e
    rw [List.append_nil] at k
    exact k a H Ex.refl h1, fun _ _ p hp => k p _ (Ex.new hp) (SqT.of upd_same)⟩
theorem fds_take {H : Hp} {vs : List V} {xs : List Arg} (h : FDs K H vs xs) : ∀ n : Nat, FDs K H (vs.take n) (xs.take n) := by
  induction h with
  | nil =>
    intro n
    rw [List.take_nil, List.take_nil]
    exact .nil
  | cons h r ih =>
    intro n
    cases n with
    | zero => exact .nil
    | succ n => exact .cons h (ih n)
theorem bent_board {f : Fct} (g : GF f) (hw : f.w = "board") {l : List Int} (hl : l.length ≤ 60) : f.xs.length = 3 ∧ Bent ⟨f.w, f.xs.take 2 ++ [.t l]⟩ := by
  cases g with
  | board a b c d =>
    refine ⟨rfl, (by show ("board" : Str) ∈ _; decide +kernel), by show 3 ≤ 8; decide, fun ks e _ => ?_⟩
    have e2 : shapeOf "board" = some ks := e
    rw [show shapeOf "board" = some (["gate", "day", "gates"] : List Str) from by decide +kernel] at e2
    cases e2
    exact suits_of (.cons ⟨by decide +kernel, by have := a.1; omega, by have := a.2; omega⟩ (.cons ⟨by decide +kernel, by have := b.1; omega, by have := b.2; omega⟩ (.cons ⟨rfl, hl⟩ .nil)))
  | _ =>
    dsimp only at hw
    exact absurd hw (by decide +kernel)
theorem board_kinds {z : Str} (h : z = "board") {i : Nat} (hi : i < 2) : ∀ ks k, shapeOf z = some ks → ks[i]? = some k → k ∈ kindsOf := fun ks k e hk => by
  rw [h, show shapeOf "board" = some (["gate", "day", "gates"] : List Str) from by decide +kernel] at e
  cases e
  match i, hi, hk with
  | 0, _, hk =>
    cases hk
    decide +kernel
  | 1, _, hk =>
    cases hk
    decide +kernel

/-! the roll: its states -/
abbrev Stt := List (Option Fct)
def OF (K : PySem.W.Frag) (H : Hp) (v : V) (o : Option Fct) : Prop := match o with
  | none => v = .non
  | some f => RF K H v f
def StA (K : PySem.W.Frag) (H : Hp) (v : V) (st : Stt) : Prop := ∃ p vs, v = .ref p ∧ SqT K H p vs ∧ All2 (OF K H) vs st
theorem of_tk {H H' : Hp} (e : Tk K H H') {v : V} {o : Option Fct} (h : OF K H v o) : OF K H' v o := by
  cases o with
  | none => exact h
  | some f => exact rf_map (fun z => e _ _ z) h
theorem StA.tk {H H' : Hp} (e : Tk K H H') {v : V} {st : Stt} (h : StA K H v st) : StA K H' v st := by
  obtain ⟨p, vs, h1, h2, h3⟩ := h
  exact ⟨p, vs, h1, e _ _ h2, h3.mono fun _ _ z => of_tk e z⟩
/-- all stays but two lists -/
def Fr2 (a b : Addr) (H H' : Hp) : Prop := ∀ c o, c ≠ a → c ≠ b → H c = some o → H' c = some o
theorem Fr2.refl {a b : Addr} {H : Hp} : Fr2 a b H H := fun _ _ _ _ h => h
theorem Fr2.trans {a b : Addr} {H H1 H2 : Hp} (f : Fr2 a b H H1) (g : Fr2 a b H1 H2) : Fr2 a b H H2 := fun c o n1 n2 h => g c o n1 n2 (f c o n1 n2 h)
theorem Ex.f2 {a b : Addr} {H H' : Hp} (e : Ex H H') : Fr2 a b H H' := fun c o _ _ h => e c o h
theorem Fr.f2l {a b : Addr} {H H' : Hp} (e : Fr a H H') : Fr2 a b H H' := fun c o n _ h => e c o n h
theorem Fr.f2r {a b : Addr} {H H' : Hp} (e : Fr b H H') : Fr2 a b H H' := fun c o _ n h => e c o n h
theorem tk_f2 {a b : Addr} {xs ys : List V} {H H' : Hp} (e : Fr2 a b H H') (ha : H a = some (.lst xs)) (hb : H b = some (.lst ys)) : Tk K H H' := fun p zs h => by
  have ne : ∀ {u}, H p = some u → (∀ xs, u ≠ .lst xs) → p ≠ a ∧ p ≠ b := fun h1 h2 => ⟨fun z => by
    subst z
    rw [h1] at ha
    exact h2 _ (Option.some.inj ha), fun z => by
    subst z
    rw [h1] at hb
    exact h2 _ (Option.some.inj hb)⟩
  rcases h with (h | ⟨q, h⟩) | h
  · have n := ne h (fun _ z => by cases z)
    exact .inl (.inl (e _ _ n.1 n.2 h))
  · have n := ne h (fun _ z => by cases z)
    exact .inl (.inr ⟨q, e _ _ n.1 n.2 h⟩)
  · exact .inr h
structure RollAt (K : PySem.W.Frag) (C : Addr) (H : Hp) (r S U : Addr) (sts uns : List Stt) : Prop where
  ob : ∃ dx, H r = some (.ins C dx [("states", .ref S), ("undone", .ref U)])
  st : ∃ sv, H S = some (.lst sv) ∧ All2 (StA K H) sv sts
  un : ∃ uv, H U = some (.lst uv) ∧ All2 (StA K H) uv uns
  ne : S ≠ U
theorem RollAt.ex {C r S U : Addr} {H H' : Hp} {sts uns : List Stt} (h : RollAt K C H r S U sts uns) (e : Ex H H') : RollAt K C H' r S U sts uns := by
  obtain ⟨⟨dx, h1⟩, ⟨sv, h2, h3⟩, ⟨uv, h4, h5⟩, h6⟩ := h
  exact ⟨⟨dx, e _ _ h1⟩, ⟨sv, e _ _ h2, h3.mono fun _ _ z => z.tk e.tk⟩, ⟨uv, e _ _ h4, h5.mono fun _ _ z => z.tk e.tk⟩, h6⟩
theorem RollAt.fr {C r S U b : Addr} {ys : List V} {H H' : Hp} {sts uns : List Stt} (h : RollAt K C H r S U sts uns) (f : Fr b H H') (hb : H b = some (.lst ys)) (n1 : S ≠ b) (n2 : U ≠ b) : RollAt K C H' r S U sts uns := by
  obtain ⟨⟨dx, h1⟩, ⟨sv, h2, h3⟩, ⟨uv, h4, h5⟩, h6⟩ := h
  have t := tk_lst (K := K) f hb
  exact ⟨⟨dx, f _ _ (ne_of h1 hb (fun z => by cases z)) h1⟩, ⟨sv, f _ _ n1 h2, h3.mono fun _ _ z => z.tk t⟩, ⟨uv, f _ _ n2 h4, h5.mono fun _ _ z => z.tk t⟩, h6⟩
theorem RollAt.frd {C r S U b : Addr} {kvs : List (Key × V)} {H H' : Hp} {sts uns : List Stt} (h : RollAt K C H r S U sts uns) (f : Fr b H H') (hb : H b = some (.dK kvs)) : RollAt K C H' r S U sts uns := by
  obtain ⟨⟨dx, h1⟩, ⟨sv, h2, h3⟩, ⟨uv, h4, h5⟩, h6⟩ := h
  have t := tk_dK (K := K) f hb
  exact ⟨⟨dx, f _ _ (ne_of h1 hb (fun z => by cases z)) h1⟩, ⟨sv, f _ _ (ne_of h2 hb (fun z => by cases z)) h2, h3.mono fun _ _ z => z.tk t⟩, ⟨uv, f _ _ (ne_of h4 hb (fun z => by cases z)) h4, h5.mono fun _ _ z => z.tk t⟩, h6⟩
/-- a new roll -/
def spRollI (K : PySem.W.Frag) (C : Addr) : Sp := fun vs H Q _ => ∃ (r dx : Addr), vs = [.ref r] ∧ H r = some (.ins C dx []) ∧ ∀ S U H', H S = none → H U = none → Fr r H H' → RollAt K C H' r S U [[]] [] → Q .non H'
theorem sc_c_Roll_init : FnScope ["self"] ["self"] (defScope s_c_Roll_init) :=
  ⟨rfl, rfl, rfl, by decide +kernel, rfl, by decide +kernel, by decide +kernel⟩
theorem ok_c_Roll_init (T : Tx P K mg w) : FnOk P w K mg base CX0 1 T.f_c_Roll_init T.d_c_Roll_init ["self"] (spRollI K T.C_Roll) := by
  refine T.F_c_Roll_init.ok sc_c_Roll_init (fun vs H Q E h => ?_) (fun cdv A outer s H vs Q E hr h => ?_)
  · obtain ⟨r, dx, rfl, _⟩ := h
    rfl
  · obtain ⟨r, dx, rfl, hr1, k⟩ := h
    refine ⟨_, (pss_cons (ps_fld (pv 0) (pe_lst (pa_cons (pe_tup pa_nil) pa_nil)) rfl) (pss_one (ps_fld (pv 0) (pe_lst pa_nil) rfl))), ?_⟩
    refine at_start (ρ' := [some _]) rfl ?_
    walk_at "z0"
    walk_at "z"
    refine s_sFldP ?_
    walk_at "z"
    rename_i t H1 nt e1 ht S H2 nS e2 hS
    refine s_fldPut [("states", .ref S)] (e2 _ _ (e1 _ _ hr1)) T.cls_Roll T.na_Roll_states (by show 0 < 1000; decide) rfl fun H3 f3 h3 => ?_
    walk_at "z"
    refine s_sFldP ?_
    walk_at "z"
    rename_i U H4 nU e4 hU
    refine s_fldPut [("states", .ref S), ("undone", .ref U)] (e4 _ _ h3) T.cls_Roll T.na_Roll_undone (by show 1 < 1000; decide) rfl fun H5 f5 h5 => ?_
    walk_at "z"
    have nSr : S ≠ r := ne_of hS (e2 _ _ (e1 _ _ hr1)) (fun z => by cases z)
    have ntr : t ≠ r := ne_of ht (e1 _ _ hr1) (fun z => by cases z)
    have nUr : U ≠ r := (ne_of_none h3 nU).symm
    have hS3 := f3 _ _ nSr hS
    have nSU : S ≠ U := ne_of_none hS3 nU
    have nU0 : H U = none := by
      cases z : H U with
      | none => rfl
      | some o =>
        rw [f3 _ _ nUr (e2 _ _ (e1 _ _ z))] at nU
        cases nU
    refine k S U H5 (Ex.back e1 nS) nU0 (((((e1.trans e2).fr r).trans f3).trans (e4.fr r)).trans f5) ⟨⟨dx, h5⟩, ⟨[.ref t], f5 _ _ nSr (e4 _ _ hS3), .cons ⟨t, [], rfl, SqT.of (f5 _ _ ntr (e4 _ _ (f3 _ _ ntr (e2 _ _ ht)))), .nil⟩ .nil⟩, ⟨[], f5 _ _ nUr hU, .nil⟩, nSU⟩
/-- a deed is done -/
def spEnter (K : PySem.W.Frag) (C : Addr) : Sp := fun vs H Q _ => ∃ (r S U : Addr) (v : V) (st : Stt) (sts uns : List Stt), vs = [.ref r, v] ∧ RollAt K C H r S U sts uns ∧ StA K H v st ∧ sts.length ≤ 10000 ∧ ∀ H', Fr2 S U H H' → RollAt K C H' r S U (sts ++ [st]) [] → Q .non H'
theorem sc_c_Roll_enter : FnScope ["self", "state"] ["self", "state"] (defScope s_c_Roll_enter) :=
  ⟨rfl, rfl, rfl, by decide +kernel, rfl, by decide +kernel, by decide +kernel⟩
theorem ok_c_Roll_enter (T : Tx P K mg w) : FnOk P w K mg base CX0 1 T.f_c_Roll_enter T.d_c_Roll_enter ["self", "state"] (spEnter K T.C_Roll) := by
  refine T.F_c_Roll_enter.ok sc_c_Roll_enter (fun vs H Q E h => ?_) (fun cdv A outer s H vs Q E hr h => ?_)
  · obtain ⟨r, S, U, v, st, sts, uns, rfl, _⟩ := h
    rfl
  · obtain ⟨r, S, U, v, st, sts, uns, rfl, hR, hv, hz, k⟩ := h
    obtain ⟨⟨dx, h1⟩, ⟨sv, h2, h3⟩, ⟨uv, h4, h5⟩, h6⟩ := id hR
    refine ⟨_, (pss_cons (ps_expr (pe_bm PySem.F.plainAttrs_list PySem.F.slot_list_append PySem.F.type_list_append mt_append (pe_fld (pv 0) rfl) (pa_cons (pv 1) pa_nil))) (pss_one (ps_expr (pe_bm0 PySem.F.plainAttrs_list PySem.F.slot_list_clear PySem.F.type_list_clear mt_clear (pe_fld (pv 0) rfl))))), ?_⟩
    refine at_start (ρ' := [some _, some _]) rfl ?_
    walk_at "z0"
    walk_at "z"
    have hsl := h3.len
    refine s_fldGet h1 T.cls_Roll T.na_Roll_states rfl ?_
    refine s_tyL (SqL.of h2) ?_
    walk_at "z"
    refine s_app h2 (szl (by omega)) fun H1 f1 hS1 => ?_
    walk_at "z"
    have nrS : r ≠ S := ne_of h1 h2 (fun z => by cases z)
    have nrU : r ≠ U := ne_of h1 h4 (fun z => by cases z)
    have hU1 := f1 _ _ h6.symm h4
    refine s_fldGet (f1 _ _ nrS h1) T.cls_Roll T.na_Roll_undone rfl ?_
    refine s_tyL (SqL.of hU1) ?_
    refine ⟨U, uv, rfl, rfl, hU1, ?_⟩
    have t1 := tk_lst (K := K) f1 h2
    have f2 : Fr U H1 (upd H1 U (.lst [])) := Fr.upd
    have t2 := tk_lst (K := K) f2 hU1
    walk_at "z"
    exact k _ ((Fr.f2l f1 : Fr2 S U H H1).trans (Fr.f2r f2)) ⟨⟨dx, f2 _ _ nrU (f1 _ _ nrS h1)⟩, ⟨_, f2 _ _ h6 hS1, (h3.mono fun _ _ z => (z.tk t1).tk t2).snoc ((hv.tk t1).tk t2)⟩, ⟨[], upd_same, .nil⟩, h6⟩
theorem last_at {α : Type} {xs : List α} {x : α} (h : xs.getLast? = some x) : atI xs (-1) = some x := by
  cases xs with
  | nil => cases h
  | cons a l =>
    rw [List.getLast?_eq_getElem?] at h
    unfold atI ixN
    rw [if_neg (by decide), if_pos (by rw [List.length_cons]; omega)]
    show (a :: l)[((-1 : Int) + ((a :: l).length : Int)).toNat]? = some x
    rw [show ((-1 : Int) + ((a :: l).length : Int)).toNat = (a :: l).length - 1 from by rw [List.length_cons]; omega]
    exact h
theorem all2_last {α β : Type} {R : α → β → Prop} : ∀ {as : List α} {bs : List β} {b : β}, All2 R as bs → bs.getLast? = some b → ∃ a, as.getLast? = some a ∧ R a b
  | _, _, _, .nil, h => by cases h
  | a :: as, b :: bs, c, .cons h r, e => by
    cases bs with
    | nil =>
      cases r
      cases e
      exact ⟨a, rfl, h⟩
    | cons b2 bs =>
      cases as with
      | nil => cases r
      | cons a2 as =>
        obtain ⟨x, h1, h2⟩ := all2_last r (b := c) (by simpa using e)
        exact ⟨x, by simpa using h1, h2⟩
/-- the last state -/
def spTold24 (K : PySem.W.Frag) (C : Addr) : Sp := fun vs H Q _ => ∃ (r S U : Addr) (st : Stt) (sts uns : List Stt), vs = [.ref r] ∧ RollAt K C H r S U sts uns ∧ sts.getLast? = some st ∧ Q (.int (st.length : Nat)) H
theorem sc_c_Roll_told : FnScope ["self"] ["self"] (defScope s_c_Roll_told) :=
  ⟨rfl, rfl, rfl, by decide +kernel, rfl, by decide +kernel, by decide +kernel⟩
theorem ok_c_Roll_told (T : Tx P K mg w) : FnOk P w K mg base CX0 1 T.f_c_Roll_told T.d_c_Roll_told ["self"] (spTold24 K T.C_Roll) := by
  refine T.F_c_Roll_told.ok sc_c_Roll_told (fun vs H Q E h => ?_) (fun cdv A outer s H vs Q E hr h => ?_)
  · obtain ⟨r, S, U, st, sts, uns, rfl, _⟩ := h
    rfl
  · obtain ⟨r, S, U, st, sts, uns, rfl, ⟨⟨dx, h1⟩, ⟨sv, h2, h3⟩, _, _⟩, hl, k⟩ := h
    obtain ⟨v, hv, p, vs, rfl, hp, hof⟩ := all2_last h3 hl
    refine ⟨_, (pss_one (ps_ret (pe_callB (r := Z.rLen K) cz_len (by rfl) T.z_len PySem.boot_len (pa_cons (pe_ix (r := rIxL K) ix_list (pe_fld (pv 0) rfl) (pe_un un_neg pe_int) (fun _ _ => rfl)) pa_nil)))), ?_⟩
    refine at_start (ρ' := [some _]) rfl ?_
    walk_at "z0"
    walk_at "z"
    refine s_fldGet h1 T.cls_Roll T.na_Roll_states rfl ?_
    walk_at "z"
    refine s_ixL (SqL.of h2) (last_at hv) ?_
    walk_at "z"
    rw [hof.len]
    exact k
def spDeeds24 (K : PySem.W.Frag) (C : Addr) : Sp := fun vs H Q _ => ∃ (r S U : Addr) (sts uns : List Stt), vs = [.ref r] ∧ RollAt K C H r S U sts uns ∧ Q (.int ((sts.length : Nat) - 1)) H
theorem sc_c_Roll_deeds : FnScope ["self"] ["self"] (defScope s_c_Roll_deeds) :=
  ⟨rfl, rfl, rfl, by decide +kernel, rfl, by decide +kernel, by decide +kernel⟩
theorem ok_c_Roll_deeds (T : Tx P K mg w) : FnOk P w K mg base CX0 1 T.f_c_Roll_deeds T.d_c_Roll_deeds ["self"] (spDeeds24 K T.C_Roll) := by
  refine T.F_c_Roll_deeds.ok sc_c_Roll_deeds (fun vs H Q E h => ?_) (fun cdv A outer s H vs Q E hr h => ?_)
  · obtain ⟨r, S, U, sts, uns, rfl, _⟩ := h
    rfl
  · obtain ⟨r, S, U, sts, uns, rfl, ⟨⟨dx, h1⟩, ⟨sv, h2, h3⟩, _, _⟩, k⟩ := h
    refine ⟨_, (pss_one (ps_ret (pe_op op_sub (pe_callB (r := Z.rLen K) cz_len (by rfl) T.z_len PySem.boot_len (pa_cons (pe_fld (pv 0) rfl) pa_nil)) pe_int))), ?_⟩
    refine at_start (ρ' := [some _]) rfl ?_
    walk_at "z0"
    walk_at "z"
    refine s_fldGet h1 T.cls_Roll T.na_Roll_states rfl ?_
    walk_at "z"
    rw [h3.len]
    exact k
/-- the pairs that stand -/
def pairsS : Nat → Stt → List (Int × Fct)
  | _, [] => []
  | i, none :: st => pairsS (i + 1) st
  | i, some f :: st => ((i : Int), f) :: pairsS (i + 1) st
def oneP (i : Nat) : Option Fct → List (Int × Fct)
  | none => []
  | some f => [((i : Int), f)]
theorem pairs_snoc : ∀ (st : Stt) (i : Nat) (o : Option Fct), pairsS i (st ++ [o]) = pairsS i st ++ oneP (i + st.length) o
  | [], i, none => rfl
  | [], i, some f => rfl
  | none :: st, i, o => by
    show pairsS (i + 1) (st ++ [o]) = pairsS (i + 1) st ++ _
    rw [pairs_snoc st (i + 1) o, List.length_cons, show i + 1 + st.length = i + (st.length + 1) from by omega]
  | some g :: st, i, o => by
    show _ :: pairsS (i + 1) (st ++ [o]) = _ :: pairsS (i + 1) st ++ _
    rw [pairs_snoc st (i + 1) o, List.length_cons, show i + 1 + st.length = i + (st.length + 1) from by omega, List.cons_append]
def spFacts24 (K : PySem.W.Frag) (C : Addr) : Sp := fun vs H Q _ => ∃ (r S U : Addr) (st : Stt) (sts uns : List Stt), vs = [.ref r] ∧ RollAt K C H r S U sts uns ∧ sts.getLast? = some st ∧ st.length ≤ 1000 ∧ ∀ p vs H', H p = none → Ex H H' → H' p = some (.lst vs) → RFs K H' vs (pairsS 1 st) → Q (.ref p) H'
theorem sc_c_Roll_facts : FnScope ["self", "number", "fact"] ["self"] (defScope s_c_Roll_facts) :=
  ⟨rfl, rfl, rfl, by decide +kernel, rfl, by decide +kernel, by decide +kernel⟩
theorem ok_c_Roll_facts (T : Tx P K mg w) : FnOk P w K mg base CX0 1 T.f_c_Roll_facts T.d_c_Roll_facts ["self"] (spFacts24 K T.C_Roll) := by
  refine T.F_c_Roll_facts.ok sc_c_Roll_facts (fun vs H Q E h => ?_) (fun cdv A outer s H vs Q E hr h => ?_)
  · obtain ⟨r, S, U, st, sts, uns, rfl, _⟩ := h
    rfl
  · obtain ⟨r, S, U, st, sts, uns, rfl, ⟨⟨dx, h1⟩, ⟨sv, h2, h3⟩, _, _⟩, hl, hz, k⟩ := h
    obtain ⟨v, hv, p, vs, rfl, hp, hof⟩ := all2_last h3 hl
    refine ⟨_, (pss_one (ps_ret (pe_lc (own := [("number", 1), ("fact", 2)]) (by rfl) sc_c_Roll_facts.nd (pi_count (by rfl) T.z_enumerate (pa_cons (pe_ix (r := rIxL K) ix_list (pe_fld (pv 0) rfl) (pe_un un_neg pe_int) (fun _ _ => rfl)) pa_nil) (pk_cons pe_int pk_nil) (by decide)) (blkOk_by (own := [("number", 1), ("fact", 2)]) (N := ["self", "number", "fact"]) (sc := defScope s_c_Roll_facts) (by decide +kernel)) (fun _ _ _ _ _ => (pg_tupK (K := K) 2 rfl (by rfl) (pgs_cons (pg_name (i := 1) sc_c_Roll_facts.nd rfl (Or.inl rfl)) (pgs_cons (pg_name (i := 2) sc_c_Roll_facts.nd rfl (Or.inl rfl)) pgs_nil)))) (fun _ _ _ _ _ => (pts_one (pt_cmpR op_notN1 (pv 2) pe_non (nomark _)))) (fun _ _ _ _ _ => (pe_tup (pa_cons (pv 1) (pa_cons (pv 2) pa_nil))))))), ?_⟩
    refine at_start (ρ' := [some _, none, none]) rfl ?_
    walk_at "z0"
    walk_at "z"
    refine s_iCnt ?_
    walk_at "z"
    refine s_fldGet h1 T.cls_Roll T.na_Roll_states rfl ?_
    walk_at "z"
    refine s_ixL (SqL.of h2) (last_at hv) ?_
    walk_at "z"
    have hvl := hof.len
    refine c_cnt vs hp (fun D H' => H D = none ∧ Ex H H') (fun D i acc H' => RFs K H' acc (pairsS 1 (st.take i))) (fun D H' n e _ => ⟨⟨n, e⟩, .nil⟩) (fun D H' Iv => Iv.2.sqT hp) (fun D i acc H1 H2 t x hx Iv hD hn r nt e2 ht => ?_) (fun D acc H1 Iv hD hn r => ?_)
    · obtain ⟨nD, e1⟩ := Iv
      obtain ⟨o, ho, hox⟩ := hof.get hx
      have hi : i < vs.length := (List.getElem?_eq_some_iff.mp hx).1
      have nx : pairsS 1 (st.take (i + 1)) = pairsS 1 (st.take i) ++ oneP (i + 1) o := by
        rw [List.take_succ, ho]
        show pairsS 1 (st.take i ++ [o]) = _
        rw [pairs_snoc, List.length_take, Nat.min_eq_left (by omega), Nat.add_comm]
      replace hox := of_tk (e1.trans e2).tk hox
      refine s_gTup (SqT.of ht) rfl ?_
      walk_at "z"
      refine ⟨rfl, ?_⟩
      walk_at "z"
      cases o with
      | none =>
        replace hox : x = .non := hox
        subst hox
        walk_at "z"
        refine c_skip (e2 _ _ hD) hn ⟨nD, e1.trans e2⟩ ?_
        rw [nx]
        show RFs K H2 acc (_ ++ [])
        rw [List.append_nil]
        exact rfs_ex e2 r
      | some f =>
        obtain ⟨a, zs, rfl, ha, hzs⟩ := id hox
        walk_at "z"
        rename_i q H3 nq e3 hq
        refine c_put (e3 _ _ (e2 _ _ hD)) ⟨hn, by omega⟩ fun H4 f4 _ => ⟨⟨nD, ((e1.trans e2).trans e3).fr2 nD f4⟩, ?_⟩
        have t4 := tk_lst (K := K) f4 (e3 _ _ (e2 _ _ hD))
        rw [nx]
        refine rfs_snoc (t4 _ _ (SqT.of (by rw [show ((i + 1 : Nat) : Int) = 1 + (i : Nat) from by omega]; exact hq))) (rf_map (fun z => t4 _ _ (e3.sqT z)) hox) (rfs_map (fun z => t4 _ _ z) (rfs_ex (e2.trans e3) r))
    · obtain ⟨nD, e1⟩ := Iv
      rw [List.take_of_length_le (by omega)] at r
      exact k D acc H1 nD e1 hD r
def spLen24 (K : PySem.W.Frag) (C : Addr) : Sp := fun vs H Q _ => ∃ (r S U : Addr) (st : Stt) (sts uns : List Stt), vs = [.ref r] ∧ RollAt K C H r S U sts uns ∧ sts.getLast? = some st ∧ st.length ≤ 1000 ∧ ∀ H', Ex H H' → Q (.int ((pairsS 1 st).length : Nat)) H'
theorem sc_c_Roll_len : FnScope ["self"] ["self"] (defScope s_c_Roll_len) :=
  ⟨rfl, rfl, rfl, by decide +kernel, rfl, by decide +kernel, by decide +kernel⟩
theorem ok_c_Roll_len (T : Tx P K mg w) : FnOk P w K mg base CX0 3 T.f_c_Roll_len T.d_c_Roll_len ["self"] (spLen24 K T.C_Roll) := by
  refine T.F_c_Roll_len.ok sc_c_Roll_len (fun vs H Q E h => ?_) (fun cdv A outer s H vs Q E hr h => ?_)
  · obtain ⟨r, S, U, st, sts, uns, rfl, _⟩ := h
    rfl
  · obtain ⟨r, S, U, st, sts, uns, rfl, hR, hl, hz, k⟩ := h
    obtain ⟨dx, h1⟩ := hR.ob
    refine ⟨_, (pss_one (ps_ret (pe_callB (r := Z.rLen K) cz_len (by rfl) T.z_len PySem.boot_len (pa_cons (pe_meth0 (pv 0) T.cls_Roll ⟨T.at_c_Roll_facts, T.fn_c_Roll_facts, T.F_c_Roll_facts.kp⟩ (ok_c_Roll_facts T) (hr.mono (by decide)) T.b_c_Roll_facts .nil pass0) pa_nil)))), ?_⟩
    refine at_start (ρ' := [some _]) rfl ?_
    walk_at "z0"
    walk_at "z"
    refine s_methA ?_
    walk_at "z"
    refine ⟨r, dx, _, rfl, h1, rfl, ?_⟩
    walk_at "z"
    refine ⟨r, S, U, st, sts, uns, rfl, hR, hl, hz, fun p vs H1 np e1 hp hvs => ?_⟩
    walk_at "z"
    rw [rfs_len hvs]
    exact k H1 e1
def standF (st : Stt) (n : Int) : Option Fct := if 1 ≤ n then (st[(n - 1).toNat]?).getD none else none
def spStand (K : PySem.W.Frag) (C Cn : Addr) : Sp := fun vs H Q E => ∃ (r S U : Addr) (n : Int) (st : Stt) (sts uns : List Stt), vs = [.ref r, .int n] ∧ RollAt K C H r S U sts uns ∧ sts.getLast? = some st ∧ st.length ≤ 1000 ∧ (standF st n = none → n.natAbs.log2 < 1920) ∧
  (∀ v f, standF st n = some f → RF K H v f → ∀ H', Ex H H' → Q v H') ∧ (standF st n = none → ∀ d, H d = none → E (.ref Cn) (some d) (upd H d (.xd [("number", .int n), ("called", .str "NoFact")])))
theorem sc_c_Roll_need_standing : FnScope ["self", "number", "state"] ["self", "number"] (defScope s_c_Roll_need_standing) :=
  ⟨rfl, rfl, rfl, by decide +kernel, rfl, by decide +kernel, by decide +kernel⟩
theorem ok_c_Roll_need_standing (T : Tx P K mg w) : FnOk P w K mg base (CX P w) 3 T.f_c_Roll_need_standing T.d_c_Roll_need_standing ["self", "number"] (spStand K T.C_Roll T.C_NoFact) := by
  refine T.F_c_Roll_need_standing.okX sc_c_Roll_need_standing (fun vs H Q E h => ?_) (fun cdv A outer s H vs Q E hr h => ?_)
  · obtain ⟨r, S, U, n, st, sts, uns, rfl, _⟩ := h
    rfl
  · obtain ⟨r, S, U, n, st, sts, uns, rfl, hR, hl, hz, hlog, k1, k2⟩ := h
    obtain ⟨⟨dx, h1⟩, ⟨sv, h2, h3⟩, _, _⟩ := id hR
    obtain ⟨v, hv, p, vs, rfl, hp, hof⟩ := all2_last h3 hl
    have hvl := hof.len
    refine ⟨_, (pss_cons (ps_set (i := 2) sc_c_Roll_need_standing.nd rfl (Or.inl rfl) (pe_ix (r := rIxL K) ix_list (pe_fld (pv 0) rfl) (pe_un un_neg pe_int) (fun _ _ => rfl))) (pss_cons (ps_if (PW.pt (pw_or (pt_not (pt_val (pe_call (ok_p_is_good T) (hr.mono (by decide)) rfl T.g_p_is_good T.F_p_is_good.kp T.b_p_is_good .nil pass0 (pa_cons pe_str (pa_cons (pv 1) pa_nil))))) (pw_or (pt_cmpR op_gt (pv 1) (pe_callB (r := Z.rLen K) cz_len (by rfl) T.z_len PySem.boot_len (pa_cons (pv 2) pa_nil)) (nomark _)) (pw_or1 (pt_cmpR op_isN1 (pe_ix (r := rIxT K) ix_tup (pv 2) (pe_op op_sub (pv 1) pe_int) (fun _ _ => rfl)) pe_non (nomark _)))))) (pss_one (ps_raise rfl (takes_of rfl rfl rfl rfl) (pmk_ox T.pk_NoFact.ox T.in_NoFact T.FS_c_Missing_init.ty (ok_c_Missing_init T) (hr.mono (by decide)) T.b_c_Missing_init .nil pass0 rfl T.g_NoFact (pa_cons (pv 1) pa_nil)))) pss_nil) (pss_one (ps_ret (pe_ix (r := rIxT K) ix_tup (pv 2) (pe_op op_sub (pv 1) pe_int) (fun _ _ => rfl)))))), ?_⟩
    refine at_start (ρ' := [some _, some _, none]) rfl ?_
    walk_at "z0"
    walk_at "z"
    refine s_fldGet h1 T.cls_Roll T.na_Roll_states rfl ?_
    walk_at "z"
    refine s_ixL (SqL.of h2) (last_at hv) ?_
    walk_at "z"
    refine ⟨_, _, 1, none, _, rfl, T.kd_BOUNDS_number, T.kt_BOUNDS_number, ?_⟩
    by_cases hn : (1 : Int) ≤ n
    · rw [show within 1 none n = true from by unfold within; rw [decide_eq_true hn]; rfl]
      walk_at "z"
      refine ite_dec (fun h8 => ?_) (fun h8 => ?_)
      · have hno : standF st n = none := by
          unfold standF
          rw [if_pos hn, List.getElem?_eq_none (by omega)]
          rfl
        refine (if_pos rfl).mpr ?_
        refine s_mkO ?_
        walk_at "z"
        exact use_miss T.pk_NoFact T.no_NoFact (hlog hno) (k2 hno)
      · have hlt : (n - 1).toNat < vs.length := by omega
        obtain ⟨x, hx⟩ : ∃ x, vs[(n - 1).toNat]? = some x := ⟨_, List.getElem?_eq_getElem hlt⟩
        obtain ⟨o, hso, hox⟩ := hof.get hx
        have hst : standF st n = o := by
          unfold standF
          rw [if_pos hn, hso]
          rfl
        have hix : atI vs (n - 1) = some x := by
          rw [show n - 1 = (((n - 1).toNat : Nat) : Int) from by omega]
          exact atI_nat hx
        walk_at "z"
        refine s_ixT hp hix ?_
        cases o with
        | none =>
          replace hox : x = .non := hox
          subst hox
          walk_at "z"
          refine s_mkO ?_
          walk_at "z"
          exact use_miss T.pk_NoFact T.no_NoFact (hlog hst) (k2 hst)
        | some f =>
          obtain ⟨a, zs, rfl, ha, hzs⟩ := id hox
          walk_at "z"
          refine s_ixT hp hix ?_
          exact k1 _ f hst hox H Ex.refl
    · have hno : standF st n = none := by
        unfold standF
        rw [if_neg hn]
      rw [show within 1 none n = false from by unfold within; rw [decide_eq_false hn]; rfl]
      walk_at "z"
      refine s_mkO ?_
      walk_at "z"
      exact use_miss T.pk_NoFact T.no_NoFact (hlog hno) (k2 hno)
theorem cut_to {xs : List V} {m : Int} (h0 : 0 ≤ m) (h : m ≤ xs.length) : cutV xs none (some m) = xs.take m.toNat := by
  unfold cutV HT.sIx
  dsimp only
  rw [if_neg (by omega), List.drop_zero, Nat.min_eq_left (by omega), Nat.sub_zero]
theorem cut_from {xs : List V} {m : Int} (h0 : 0 ≤ m) (h : m ≤ xs.length) : cutV xs (some m) none = xs.drop m.toNat := by
  unfold cutV HT.sIx
  dsimp only
  rw [if_neg (by omega), Nat.min_eq_left (by omega), List.take_of_length_le (by rw [List.length_drop]; exact Nat.le_refl _)]
theorem set_split {α : Type} {xs : List α} {i : Nat} {x : α} (h : i < xs.length) : xs.take i ++ (x :: xs.drop (i + 1)) = xs.set i x := by
  rw [List.set_eq_take_append_cons_drop, if_pos h]
theorem all2_set {α β : Type} {R : α → β → Prop} {a : α} {b : β} (hab : R a b) : ∀ {as : List α} {bs : List β} (i : Nat), All2 R as bs → All2 R (as.set i a) (bs.set i b)
  | _, _, _, .nil => .nil
  | _, _, 0, .cons _ r => .cons hab r
  | _, _, i + 1, .cons h r => .cons h (all2_set hab i r)
/-- a fact, or none, comes to stand under a number -/
def spRepl (K : PySem.W.Frag) (C : Addr) : Sp := fun vs H Q _ => ∃ (r S U : Addr) (n : Int) (v : V) (o : Option Fct) (st : Stt) (sts uns : List Stt), vs = [.ref r, .int n, v] ∧ RollAt K C H r S U sts uns ∧ sts.getLast? = some st ∧ st.length ≤ 1000 ∧ sts.length ≤ 1000 ∧ 1 ≤ n ∧ n ≤ st.length ∧ OF K H v o ∧
  ∀ H', Fr2 S U H H' → RollAt K C H' r S U (sts ++ [st.set (n - 1).toNat o]) [] → Q .non H'
theorem sc_c_Roll_replace_fact : FnScope ["self", "number", "fact", "state"] ["self", "number", "fact"] (defScope s_c_Roll_replace_fact) :=
  ⟨rfl, rfl, rfl, by decide +kernel, rfl, by decide +kernel, by decide +kernel⟩
theorem ok_c_Roll_replace_fact (T : Tx P K mg w) : FnOk P w K mg base CX0 2 T.f_c_Roll_replace_fact T.d_c_Roll_replace_fact ["self", "number", "fact"] (spRepl K T.C_Roll) := by
  refine T.F_c_Roll_replace_fact.ok sc_c_Roll_replace_fact (fun vs H Q E h => ?_) (fun cdv A outer s H vs Q E hr h => ?_)
  · obtain ⟨r, S, U, n, v, o, st, sts, uns, rfl, _⟩ := h
    rfl
  · obtain ⟨r, S, U, n, v, o, st, sts, uns, rfl, hR, hl, hz, hsz, n1, n2, ho, k⟩ := h
    obtain ⟨⟨dx, h1⟩, ⟨sv, h2, h3⟩, _, _⟩ := id hR
    obtain ⟨v0, hv, p, vs, rfl, hp, hof⟩ := all2_last h3 hl
    have hvl := hof.len
    refine ⟨_, (pss_cons (ps_set (i := 3) sc_c_Roll_replace_fact.nd rfl (Or.inl rfl) (pe_ix (r := rIxL K) ix_list (pe_fld (pv 0) rfl) (pe_un un_neg pe_int) (fun _ _ => rfl))) (pss_one (ps_expr (pe_meth (pv 0) T.cls_Roll ⟨T.at_c_Roll_enter, T.fn_c_Roll_enter, T.F_c_Roll_enter.kp⟩ (ok_c_Roll_enter T) (hr.mono (by decide)) T.b_c_Roll_enter .nil pass0 (pa_cons (pe_tup (pa_starT (pe_slice (r := rSlT K) sl_tup (pv 3) po_none (po_some (pe_op op_sub (pv 1) pe_int))) (pa_cons (pv 2) (pa_starT (pe_slice (r := rSlT K) sl_tup (pv 3) (po_some (pv 1)) po_none) pa_nil)))) pa_nil))))), ?_⟩
    refine at_start (ρ' := [some _, some _, some _, none]) rfl ?_
    walk_at "z0"
    walk_at "z"
    refine s_fldGet h1 T.cls_Roll T.na_Roll_states rfl ?_
    walk_at "z"
    refine s_ixL (SqL.of h2) (last_at hv) ?_
    walk_at "z"
    refine s_methA ?_
    walk_at "z"
    refine ⟨r, dx, _, rfl, h1, rfl, ?_⟩
    walk_at "z"
    refine s_star ?_
    walk_at "z"
    refine s_slT vs.length (vs.take (n - 1).toNat) hp rfl (fun z => ?_) (cut_to (by omega) (by omega)) ?_
    · have := z.2
      unfold HT.sIx at this
      dsimp only at this
      rw [if_neg (by omega)] at this
      omega
    walk_at "z"
    rename_i q1 H1 nq1 e1 hq1
    refine ⟨q1, _, rfl, SqT.of hq1, ?_⟩
    walk_at "z"
    refine s_star ?_
    walk_at "z"
    refine s_slT vs.length (vs.drop n.toNat) (e1.sqT hp) rfl (fun z => ?_) (cut_from (by omega) (by omega)) ?_
    · have := z.1
      unfold HT.sIx at this
      dsimp only at this
      rw [if_neg (by omega)] at this
      omega
    walk_at "z"
    rename_i q2 H2 nq2 e2 hq2
    refine ⟨q2, _, rfl, SqT.of hq2, ?_⟩
    walk_at "z1"
    have hset : vs.take (n - 1).toNat ++ (v :: (vs.drop n.toNat ++ [])) = vs.set (n - 1).toNat v := by
      rw [List.append_nil, show n.toNat = (n - 1).toNat + 1 from by omega]
      exact set_split (by omega)
    rw [hset]
    refine s_newS (sz (by rw [List.length_set]; omega)) fun q3 H3 nq3 e3 hq3 => ?_
    have e13 := (e1.trans e2).trans e3
    walk_at "z"
    refine ⟨r, S, U, .ref q3, st.set (n - 1).toNat o, sts, uns, rfl, hR.ex e13, ⟨q3, _, rfl, SqT.of hq3, all2_set (of_tk e13.tk ho) _ (hof.mono fun _ _ z => of_tk e13.tk z)⟩, by omega, fun H4 f4 hR4 => ?_⟩
    exact k H4 (Fr2.trans (Ex.f2 e13) f4) hR4
/-- a fact is told -/
def spTell (K : PySem.W.Frag) (C Cb Cf : Addr) : Sp := fun vs H Q E => ∃ (r S U : Addr) (v : V) (f : Fct) (st : Stt) (sts uns : List Stt), vs = [.ref r, v] ∧ RollAt K C H r S U sts uns ∧ sts.getLast? = some st ∧ st.length ≤ 1000 ∧ sts.length ≤ 1000 ∧ RF K H v f ∧ Bent f ∧
  (placeF f = none → st.length < 120 → ∀ H', Fr2 S U H H' → RollAt K C H' r S U (sts ++ [st ++ [some f]]) [] → Q (.int ((st.length : Nat) + 1)) H') ∧
  (∀ p, placeF f = some p → ∀ H' d, Ex H H' → H' d = none → E (.ref Cb) (some d) (upd H' d (.xd [("place", .int (p : Nat)), ("called", .str "BadFact")]))) ∧
  (placeF f = none → 120 ≤ st.length → ∀ H' d, Ex H H' → H' d = none → E (.ref Cf) (some d) (upd H' d (.xd [("called", .str "Full")])))
theorem sc_c_Roll_tell : FnScope ["self", "fact", "state"] ["self", "fact"] (defScope s_c_Roll_tell) :=
  ⟨rfl, rfl, rfl, by decide +kernel, rfl, by decide +kernel, by decide +kernel⟩
theorem ok_c_Roll_tell (T : Tx P K mg w) : FnOk P w K mg base (CX P w) 5 T.f_c_Roll_tell T.d_c_Roll_tell ["self", "fact"] (spTell K T.C_Roll T.C_BadFact T.C_Full) := by
  refine T.F_c_Roll_tell.okX sc_c_Roll_tell (fun vs H Q E h => ?_) (fun cdv A outer s H vs Q E hr h => ?_)
  · obtain ⟨r, S, U, v, f, st, sts, uns, rfl, _⟩ := h
    rfl
  · obtain ⟨r, S, U, v, f, st, sts, uns, rfl, hR, hl, hz, hsz, hv, hb, k1, k2, k3⟩ := h
    refine ⟨_, (pss_cons (ps_expr (pe_call (ok_p_need_fact T) (hr.mono (by decide)) rfl T.g_p_need_fact T.F_p_need_fact.kp T.b_p_need_fact .nil (passes_up (takes_of rfl rfl rfl rfl) fun _ _ _ _ h => h) (pa_cons (pv 1) pa_nil))) (pss_cons (ps_set (i := 2) sc_c_Roll_tell.nd rfl (Or.inl rfl) (pe_ix (r := rIxL K) ix_list (pe_fld (pv 0) rfl) (pe_un un_neg pe_int) (fun _ _ => rfl))) (pss_cons (ps_if (pt_cmpR op_ge (pe_callB (r := Z.rLen K) cz_len (by rfl) T.z_len PySem.boot_len (pa_cons (pv 2) pa_nil)) (pe_glob (v := .int 120) rfl T.k_MOST_FACTS ⟨_, rfl⟩) (nomark _)) (pss_one (ps_raise rfl (takes_of rfl rfl rfl rfl) (pmk_ox T.pk_Full.ox T.in_Full T.FS_c_PikeError_init.ty (ok_c_PikeError_init T) (hr.mono (by decide)) T.b_c_PikeError_init .nil pass0 rfl T.g_Full (pa_cons (pz_fstr (PJ.cons (pe_fmt (pe_glob (v := .int 120) rfl T.k_MOST_FACTS ⟨_, rfl⟩)) (PJ.cons pe_str PJ.nil))) pa_nil)))) pss_nil) (pss_cons (ps_expr (pe_meth (pv 0) T.cls_Roll ⟨T.at_c_Roll_enter, T.fn_c_Roll_enter, T.F_c_Roll_enter.kp⟩ (ok_c_Roll_enter T) (hr.mono (by decide)) T.b_c_Roll_enter .nil pass0 (pa_cons (pe_tup (pa_starT (pv 2) (pa_cons (pv 1) pa_nil))) pa_nil))) (pss_one (ps_ret (pe_op op_add (pe_callB (r := Z.rLen K) cz_len (by rfl) T.z_len PySem.boot_len (pa_cons (pv 2) pa_nil)) pe_int))))))), ?_⟩
    refine at_start (ρ' := [some _, some _, none]) rfl ?_
    walk_at "z0"
    walk_at "z"
    refine ⟨v, f, rfl, hv, hb, fun hpl H1 e1 => ?_, k2⟩
    replace hR := hR.ex e1
    replace hv := rf_map (fun z => e1.sqT z) hv
    obtain ⟨⟨dx, h1⟩, ⟨sv, h2, h3⟩, _, _⟩ := id hR
    obtain ⟨v0, hv0, p, vs, rfl, hp, hof⟩ := all2_last h3 hl
    have hvl := hof.len
    walk_at "z"
    refine s_fldGet h1 T.cls_Roll T.na_Roll_states rfl ?_
    walk_at "z"
    refine s_ixL (SqL.of h2) (last_at hv0) ?_
    walk_at "z"
    refine ite_dec (fun h8 => ?_) (fun h8 => ?_)
    · walk_at "z"
      refine s_mkO ?_
      walk_at "z"
      refine s_fmtI (log_small (by decide) (by decide)) ?_
      refine s_jsV (by rw [Str_len_app]; exact sz (by decide +kernel)) ?_
      walk_at "z"
      refine s_jsV (by rw [Str_len_app]; exact sz (by decide +kernel)) ?_
      walk_at "z"
      exact use_pike T.pk_Full fun d hd => k3 hpl (by omega) H1 d e1 hd
    · walk_at "z"
      refine s_methA ?_
      walk_at "z"
      refine ⟨r, dx, _, rfl, h1, rfl, ?_⟩
      walk_at "z"
      refine s_star ?_
      walk_at "z"
      refine ⟨p, _, rfl, hp, ?_⟩
      walk_at "z1"
      walk_at "z1"
      walk_at "z1"
      refine s_newS (sz (by rw [List.length_append]; show vs.length + 1 ≤ 100000; omega)) fun q3 H3 nq3 e3 hq3 => ?_
      walk_at "z"
      refine ⟨r, S, U, .ref q3, st ++ [some f], sts, uns, rfl, hR.ex e3, ⟨q3, _, rfl, SqT.of hq3, (hof.mono fun _ _ z => of_tk e3.tk z).snoc (rf_map (fun z => e3.sqT z) hv)⟩, by omega, fun H4 f4 hR4 => ?_⟩
      have t4 : Tk K H3 H4 := by
        obtain ⟨_, ⟨sv3, g1, _⟩, ⟨uv3, g2, _⟩, _⟩ := hR.ex e3
        exact tk_f2 f4 g1 g2
      have hp4 := t4 _ _ (e3.sqT hp)
      walk_at "z"
      rw [hvl]
      exact k1 hpl (by omega) H4 (Fr2.trans (Ex.f2 (e1.trans e3)) f4) hR4
/-- a fact is struck out -/
def spStrike (K : PySem.W.Frag) (C Cn : Addr) : Sp := fun vs H Q E => ∃ (r S U : Addr) (n : Int) (st : Stt) (sts uns : List Stt), vs = [.ref r, .int n] ∧ RollAt K C H r S U sts uns ∧ sts.getLast? = some st ∧ st.length ≤ 1000 ∧ sts.length ≤ 1000 ∧ (standF st n = none → n.natAbs.log2 < 1920) ∧
  (∀ v f, standF st n = some f → ∀ H', Fr2 S U H H' → RollAt K C H' r S U (sts ++ [st.set (n - 1).toNat none]) [] → RF K H' v f → Q v H') ∧
  (standF st n = none → ∀ d, H d = none → E (.ref Cn) (some d) (upd H d (.xd [("number", .int n), ("called", .str "NoFact")])))
theorem stand_in {st : Stt} {n : Int} {f : Fct} (h : standF st n = some f) : 1 ≤ n ∧ n ≤ st.length ∧ st[(n - 1).toNat]? = some (some f) := by
  unfold standF at h
  by_cases h1 : 1 ≤ n
  · rw [if_pos h1] at h
    cases e : st[(n - 1).toNat]? with
    | none =>
      rw [e] at h
      cases h
    | some o =>
      rw [e] at h
      have : o = some f := h
      subst this
      have := (List.getElem?_eq_some_iff.mp e).1
      exact ⟨h1, by omega, rfl⟩
  · rw [if_neg h1] at h
    cases h
theorem RollAt.tk2 {C r S U : Addr} {H H' : Hp} {sts uns : List Stt} (h : RollAt K C H r S U sts uns) (f : Fr2 S U H H') : Tk K H H' := by
  obtain ⟨_, ⟨sv, g1, _⟩, ⟨uv, g2, _⟩, _⟩ := h
  exact tk_f2 f g1 g2
theorem sc_c_Roll_strike : FnScope ["self", "number", "stood"] ["self", "number"] (defScope s_c_Roll_strike) :=
  ⟨rfl, rfl, rfl, by decide +kernel, rfl, by decide +kernel, by decide +kernel⟩
theorem ok_c_Roll_strike (T : Tx P K mg w) : FnOk P w K mg base (CX P w) 4 T.f_c_Roll_strike T.d_c_Roll_strike ["self", "number"] (spStrike K T.C_Roll T.C_NoFact) := by
  refine T.F_c_Roll_strike.okX sc_c_Roll_strike (fun vs H Q E h => ?_) (fun cdv A outer s H vs Q E hr h => ?_)
  · obtain ⟨r, S, U, n, st, sts, uns, rfl, _⟩ := h
    rfl
  · obtain ⟨r, S, U, n, st, sts, uns, rfl, hR, hl, hz, hsz, hlog, k1, k2⟩ := h
    refine ⟨_, (pss_cons (ps_set (i := 2) sc_c_Roll_strike.nd rfl (Or.inl rfl) (pe_meth (pv 0) T.cls_Roll ⟨T.at_c_Roll_need_standing, T.fn_c_Roll_need_standing, T.F_c_Roll_need_standing.kp⟩ (ok_c_Roll_need_standing T) (hr.mono (by decide)) T.b_c_Roll_need_standing .nil (passes_up (takes_of rfl rfl rfl rfl) fun _ _ _ _ h => h) (pa_cons (pv 1) pa_nil))) (pss_cons (ps_expr (pe_meth (pv 0) T.cls_Roll ⟨T.at_c_Roll_replace_fact, T.fn_c_Roll_replace_fact, T.F_c_Roll_replace_fact.kp⟩ (ok_c_Roll_replace_fact T) (hr.mono (by decide)) T.b_c_Roll_replace_fact .nil pass0 (pa_cons (pv 1) (pa_cons pe_non pa_nil)))) (pss_one (ps_ret (pv 2))))), ?_⟩
    refine at_start (ρ' := [some _, some _, none]) rfl ?_
    obtain ⟨dx, h1⟩ := hR.ob
    walk_at "z0"
    walk_at "z"
    refine s_methA ?_
    walk_at "z"
    refine ⟨r, dx, _, rfl, h1, rfl, ?_⟩
    walk_at "z"
    refine ⟨r, S, U, n, st, sts, uns, rfl, hR, hl, hz, hlog, fun v f hs hv H1 e1 => ?_, k2⟩
    obtain ⟨n1, n2, _⟩ := stand_in hs
    replace hR := hR.ex e1
    replace h1 := e1 _ _ h1
    replace hv := rf_map (fun z => e1.sqT z) hv
    walk_at "z"
    refine s_methA ?_
    walk_at "z"
    refine ⟨r, dx, _, rfl, h1, rfl, ?_⟩
    walk_at "z"
    refine ⟨r, S, U, n, .non, none, st, sts, uns, rfl, hR, hl, hz, hsz, n1, n2, rfl, fun H2 f2 hR2 => ?_⟩
    walk_at "z"
    exact k1 v f hs H2 (Fr2.trans (Ex.f2 e1) f2) hR2 (rf_map (fun z => hR.tk2 f2 _ _ z) hv)
theorem words_len : ∀ z ∈ wordsOf, z.length ≤ 20 := by decide +kernel
/-- a fact is put right -/
def spRight (K : PySem.W.Frag) (C Cn Cb Co : Addr) : Sp := fun vs H Q E => ∃ (r S U : Addr) (n : Int) (v : V) (f : Fct) (st : Stt) (sts uns : List Stt), vs = [.ref r, .int n, v] ∧ RollAt K C H r S U sts uns ∧ sts.getLast? = some st ∧ st.length ≤ 1000 ∧ sts.length ≤ 1000 ∧ RF K H v f ∧ Bent f ∧ (∀ g, standF st n = some g → Bent g) ∧ (standF st n = none → n.natAbs.log2 < 1920) ∧
  (∀ u g, standF st n = some g → placeF f = none → f.w = g.w → ∀ H', Fr2 S U H H' → RollAt K C H' r S U (sts ++ [st.set (n - 1).toNat (some f)]) [] → RF K H' u g → Q u H') ∧
  (standF st n = none → ∀ d, H d = none → E (.ref Cn) (some d) (upd H d (.xd [("number", .int n), ("called", .str "NoFact")]))) ∧
  (∀ g p, standF st n = some g → placeF f = some p → ∀ H' d, Ex H H' → H' d = none → E (.ref Cb) (some d) (upd H' d (.xd [("place", .int (p : Nat)), ("called", .str "BadFact")]))) ∧
  (∀ g, standF st n = some g → placeF f = none → f.w ≠ g.w → ∀ H' d, Ex H H' → H' d = none → E (.ref Co) (some d) (upd H' d (.xd [("called", .str "Other")])))
theorem sc_c_Roll_right : FnScope ["self", "number", "fact", "stood"] ["self", "number", "fact"] (defScope s_c_Roll_right) :=
  ⟨rfl, rfl, rfl, by decide +kernel, rfl, by decide +kernel, by decide +kernel⟩
theorem ok_c_Roll_right (T : Tx P K mg w) : FnOk P w K mg base (CX P w) 5 T.f_c_Roll_right T.d_c_Roll_right ["self", "number", "fact"] (spRight K T.C_Roll T.C_NoFact T.C_BadFact T.C_Other) := by
  refine T.F_c_Roll_right.okX sc_c_Roll_right (fun vs H Q E h => ?_) (fun cdv A outer s H vs Q E hr h => ?_)
  · obtain ⟨r, S, U, n, v, f, st, sts, uns, rfl, _⟩ := h
    rfl
  · obtain ⟨r, S, U, n, v, f, st, sts, uns, rfl, hR, hl, hz, hsz, hv, hb, hbg, hlog, k1, k2, k3, k4⟩ := h
    refine ⟨_, (pss_cons (ps_set (i := 3) sc_c_Roll_right.nd rfl (Or.inl rfl) (pe_meth (pv 0) T.cls_Roll ⟨T.at_c_Roll_need_standing, T.fn_c_Roll_need_standing, T.F_c_Roll_need_standing.kp⟩ (ok_c_Roll_need_standing T) (hr.mono (by decide)) T.b_c_Roll_need_standing .nil (passes_up (takes_of rfl rfl rfl rfl) fun _ _ _ _ h => h) (pa_cons (pv 1) pa_nil))) (pss_cons (ps_expr (pe_call (ok_p_need_fact T) (hr.mono (by decide)) rfl T.g_p_need_fact T.F_p_need_fact.kp T.b_p_need_fact .nil (passes_up (takes_of rfl rfl rfl rfl) fun _ _ _ _ h => h) (pa_cons (pv 2) pa_nil))) (pss_cons (ps_if (pt_cmpR op_ne (pe_ix (r := rIxT K) ix_tup (pv 2) pe_int (fun _ _ => rfl)) (pe_ix (r := rIxT K) ix_tup (pv 3) pe_int (fun _ _ => rfl)) (nomark _)) (pss_one (ps_raise rfl (takes_of rfl rfl rfl rfl) (pmk_ox T.pk_Other.ox T.in_Other T.FS_c_PikeError_init.ty (ok_c_PikeError_init T) (hr.mono (by decide)) T.b_c_PikeError_init .nil pass0 rfl T.g_Other (pa_cons (pz_fstr (PJ.cons (pe_fmt (pe_ix (r := rIxT K) ix_tup (pv 2) pe_int (fun _ _ => rfl))) (PJ.cons pe_str (PJ.cons (pe_fmt (pe_ix (r := rIxT K) ix_tup (pv 3) pe_int (fun _ _ => rfl))) PJ.nil)))) pa_nil)))) pss_nil) (pss_cons (ps_expr (pe_meth (pv 0) T.cls_Roll ⟨T.at_c_Roll_replace_fact, T.fn_c_Roll_replace_fact, T.F_c_Roll_replace_fact.kp⟩ (ok_c_Roll_replace_fact T) (hr.mono (by decide)) T.b_c_Roll_replace_fact .nil pass0 (pa_cons (pv 1) (pa_cons (pv 2) pa_nil)))) (pss_one (ps_ret (pv 3))))))), ?_⟩
    refine at_start (ρ' := [some _, some _, some _, none]) rfl ?_
    obtain ⟨dx, h1⟩ := hR.ob
    walk_at "z0"
    walk_at "z"
    refine s_methA ?_
    walk_at "z"
    refine ⟨r, dx, _, rfl, h1, rfl, ?_⟩
    walk_at "z"
    refine ⟨r, S, U, n, st, sts, uns, rfl, hR, hl, hz, hlog, fun u g hs hu H1 e1 => ?_, k2⟩
    obtain ⟨n1, n2, _⟩ := stand_in hs
    replace hR := hR.ex e1
    replace h1 := e1 _ _ h1
    replace hu := rf_map (fun z => e1.sqT z) hu
    replace hv := rf_map (fun z => e1.sqT z) hv
    walk_at "z"
    refine ⟨v, f, rfl, hv, hb, fun hpl H2 e2 => ?_, fun p hp H2 d e2 hd => k3 g p hs hp H2 d (e1.trans e2) hd⟩
    replace hR := hR.ex e2
    replace h1 := e2 _ _ h1
    replace hu := rf_map (fun z => e2.sqT z) hu
    replace hv := rf_map (fun z => e2.sqT z) hv
    obtain ⟨va, vz, rfl, hva, hvz⟩ := id hv
    obtain ⟨ua, uz, rfl, hua, huz⟩ := id hu
    walk_at "z"
    refine s_ixT hva (at0 _ _) ?_
    walk_at "z"
    refine s_ixT hua (at0 _ _) ?_
    walk_at "z"
    refine ite_ndec (fun hne => ?_) (fun heq => ?_)
    · have l1 := words_len _ hb.word
      have l2 := words_len _ (hbg g hs).word
      walk_at "z"
      refine s_mkO ?_
      walk_at "z"
      refine s_ixT hva (at0 _ _) ?_
      walk_at "z"
      refine s_fmtS (sz (by omega)) ?_
      refine s_jsV (by rw [Str_len_app, show Str.empty.length = 0 from rfl]; exact sz (by omega)) ?_
      walk_at "z"
      refine s_jsV (by rw [Str_len_app, Str_len_app, show Str.empty.length = 0 from rfl, show (Str.ofString " in place of ").length = 13 from by decide +kernel]; exact sz (by omega)) ?_
      walk_at "z"
      refine s_ixT hua (at0 _ _) ?_
      walk_at "z"
      refine s_fmtS (sz (by omega)) ?_
      refine s_jsV (by rw [Str_len_app, Str_len_app, Str_len_app, show Str.empty.length = 0 from rfl, show (Str.ofString " in place of ").length = 13 from by decide +kernel]; exact sz (by omega)) ?_
      walk_at "z"
      exact use_pike T.pk_Other fun d hd => k4 g hs hpl hne H2 d (e1.trans e2) hd
    · walk_at "z"
      refine s_methA ?_
      walk_at "z"
      refine ⟨r, dx, _, rfl, h1, rfl, ?_⟩
      walk_at "z"
      refine ⟨r, S, U, n, _, some f, st, sts, uns, rfl, hR, hl, hz, hsz, n1, n2, hv, fun H3 f3 hR3 => ?_⟩
      walk_at "z"
      exact k1 _ g hs hpl heq H3 (Fr2.trans (Ex.f2 (e1.trans e2)) f3) hR3 (rf_map (fun z => hR.tk2 f3 _ _ z) hu)

/-! the law's own roll: a dict of two -/
theorem pairs_from : ∀ (st : Stt) (i : Nat) (n : Int) (f : Fct), (n, f) ∈ pairsS i st ↔ ∃ j : Nat, st[j]? = some (some f) ∧ n = ((i + j : Nat) : Int)
  | [], i, n, f => ⟨fun h => (by cases h), fun ⟨j, h, _⟩ => (by cases h)⟩
  | none :: st, i, n, f => by
    show (n, f) ∈ pairsS (i + 1) st ↔ _
    rw [pairs_from st (i + 1) n f]
    constructor
    · rintro ⟨j, h, e⟩
      exact ⟨j + 1, h, by omega⟩
    · rintro ⟨j, h, e⟩
      cases j with
      | zero => cases h
      | succ j => exact ⟨j, h, by omega⟩
  | some g :: st, i, n, f => by
    show (n, f) ∈ _ :: pairsS (i + 1) st ↔ _
    rw [List.mem_cons, pairs_from st (i + 1) n f]
    constructor
    · rintro (h | ⟨j, h, e⟩)
      · cases h
        exact ⟨0, rfl, by omega⟩
      · exact ⟨j + 1, h, by omega⟩
    · rintro ⟨j, h, e⟩
      cases j with
      | zero =>
        cases h
        exact .inl (by rw [e]; rfl)
      | succ j => exact .inr ⟨j, h, by omega⟩
theorem pairs_mem {st : Stt} {n : Int} {f : Fct} : (n, f) ∈ pairsS 1 st ↔ standF st n = some f := by
  rw [pairs_from]
  constructor
  · rintro ⟨j, h, e⟩
    unfold standF
    rw [if_pos (by omega), show (n - 1).toNat = j from by omega, h]
    rfl
  · intro h
    obtain ⟨h1, h2, h3⟩ := stand_in h
    exact ⟨_, h3, by omega⟩
theorem pairs_rise : ∀ (st : Stt) (i : Nat), ((pairsS i st).map (·.1)).Pairwise (· < ·) ∧ ∀ x ∈ (pairsS i st).map (·.1), (i : Int) ≤ x
  | [], i => ⟨.nil, fun x h => (by cases h)⟩
  | none :: st, i => by
    obtain ⟨h1, h2⟩ := pairs_rise st (i + 1)
    exact ⟨h1, fun x hx => by have := h2 x hx; omega⟩
  | some f :: st, i => by
    obtain ⟨h1, h2⟩ := pairs_rise st (i + 1)
    refine ⟨.cons (fun x hx => by have := h2 x hx; show (i : Int) < x; omega) h1, fun x hx => ?_⟩
    rcases List.mem_cons.mp hx with rfl | hx
    · exact Int.le_refl _
    · have := h2 x hx
      omega
theorem pairs_len : ∀ (st : Stt) (i : Nat), (pairsS i st).length ≤ st.length
  | [], _ => Nat.le_refl _
  | none :: st, i => Nat.le_succ_of_le (pairs_len st (i + 1))
  | some f :: st, i => Nat.succ_le_succ (pairs_len st (i + 1))
theorem stand_set {st : Stt} {n m : Int} {o : Option Fct} (h1 : 1 ≤ n) (h2 : n ≤ st.length) : standF (st.set (n - 1).toNat o) m = if m = n then o else standF st m := by
  unfold standF
  by_cases hm : 1 ≤ m
  · rw [if_pos hm, if_pos hm, List.getElem?_set]
    by_cases e : m = n
    · rw [if_pos e, e, if_pos rfl, if_pos (by omega)]
      rfl
    · rw [if_neg e, if_neg (by omega)]
  · rw [if_neg hm, if_neg hm, if_neg (by omega)]
theorem stand_snoc {st : Stt} {m : Int} {o : Option Fct} : standF (st ++ [o]) m = if m = (st.length : Nat) + 1 then o else standF st m := by
  unfold standF
  by_cases hm : 1 ≤ m
  · rw [if_pos hm, if_pos hm]
    by_cases e : m = (st.length : Nat) + 1
    · rw [if_pos e, List.getElem?_append_right (by omega), show (m - 1).toNat - st.length = 0 from by omega]
      rfl
    · rw [if_neg e]
      by_cases hl : (m - 1).toNat < st.length
      · rw [List.getElem?_append_left hl]
      · rw [List.getElem?_eq_none (by rw [List.length_append]; show st.length + 1 ≤ _; omega), List.getElem?_eq_none (by omega)]
  · rw [if_neg hm, if_neg hm, if_neg (by omega)]
/-- the dict of what stands -/
structure KeyS (K : PySem.W.Frag) (H : Hp) (kvs : List (Key × V)) (st : Stt) : Prop where
  keys : ∃ ks : List Int, kvs.map (·.1) = ks.map Sum.inl ∧ ks.Nodup
  val : ∀ n v, valV kvs (Sum.inl n) = some v → ∃ f, standF st n = some f ∧ RF K H v f
  all : ∀ n f, standF st n = some f → ∃ v, valV kvs (Sum.inl n) = some v
theorem KeyS.tk {H H' : Hp} {kvs : List (Key × V)} {st : Stt} (t : Tk K H H') (h : KeyS K H kvs st) : KeyS K H' kvs st :=
  ⟨h.keys, fun n v hv => by
    obtain ⟨f, h1, h2⟩ := h.val n v hv
    exact ⟨f, h1, rf_map (fun z => t _ _ z) h2⟩, h.all⟩
def mKvs (D : Addr) (n : Nat) : List (Key × V) := [(.inr "facts", .ref D), (.inr "told", .int (n : Nat))]
structure ModelAt (K : PySem.W.Frag) (H : Hp) (M D : Addr) (st : Stt) : Prop where
  cm : H M = some (.dK (mKvs D st.length))
  cd : ∃ kvs, H D = some (.dK kvs) ∧ KeyS K H kvs st
  ne : M ≠ D
theorem ModelAt.ex {H H' : Hp} {M D : Addr} {st : Stt} (h : ModelAt K H M D st) (e : Ex H H') : ModelAt K H' M D st := by
  obtain ⟨h1, ⟨kvs, h2, h3⟩, h4⟩ := h
  exact ⟨e _ _ h1, ⟨kvs, e _ _ h2, h3.tk e.tk⟩, h4⟩
theorem ModelAt.fr {H H' : Hp} {M D b : Addr} {ys : List V} {st : Stt} (h : ModelAt K H M D st) (f : Fr b H H') (hb : H b = some (.lst ys)) : ModelAt K H' M D st := by
  obtain ⟨h1, ⟨kvs, h2, h3⟩, h4⟩ := h
  exact ⟨f _ _ (ne_of h1 hb (fun z => by cases z)) h1, ⟨kvs, f _ _ (ne_of h2 hb (fun z => by cases z)) h2, h3.tk (tk_lst f hb)⟩, h4⟩
theorem ModelAt.f2 {H H' : Hp} {M D a b : Addr} {xs ys : List V} {st : Stt} (h : ModelAt K H M D st) (f : Fr2 a b H H') (ha : H a = some (.lst xs)) (hb : H b = some (.lst ys)) : ModelAt K H' M D st := by
  obtain ⟨h1, ⟨kvs, h2, h3⟩, h4⟩ := h
  exact ⟨f _ _ (ne_of h1 ha (fun z => by cases z)) (ne_of h1 hb (fun z => by cases z)) h1, ⟨kvs, f _ _ (ne_of h2 ha (fun z => by cases z)) (ne_of h2 hb (fun z => by cases z)) h2, h3.tk (tk_f2 f ha hb)⟩, h4⟩
theorem key_val {kvs : List (Key × V)} {ks : List Int} (h : kvs.map (·.1) = ks.map Sum.inl) {x : Int} (hx : x ∈ ks) : ∃ v, valV kvs (Sum.inl x) = some v := by
  have : (Sum.inl x : Key) ∈ kvs.map (·.1) := by
    rw [h]
    exact List.mem_map.mpr ⟨x, hx, rfl⟩
  obtain ⟨p, hp, he⟩ := List.mem_map.mp this
  unfold valV
  cases e : kvs.find? (fun p => decide (p.1 = (Sum.inl x : Key))) with
  | some q => exact ⟨q.2, rfl⟩
  | none => exact absurd (decide_eq_true he) (List.find?_eq_none.mp e p hp)
theorem val_key {kvs : List (Key × V)} {ks : List Int} (h : kvs.map (·.1) = ks.map Sum.inl) {x : Int} (hx : (valV kvs (Sum.inl x)).isSome = true) : x ∈ ks := by
  obtain ⟨v, hv⟩ := Option.isSome_iff_exists.mp hx
  unfold valV at hv
  obtain ⟨q, hq, _⟩ := Option.map_eq_some_iff.mp hv
  have h1 := List.mem_of_find?_eq_some hq
  have h2 := of_decide_eq_true (List.find?_some (p := fun p : Key × V => decide (p.1 = (Sum.inl x : Key))) hq)
  have : q.1 ∈ ks.map Sum.inl := by
    rw [← h]
    exact List.mem_map.mpr ⟨q, h1, rfl⟩
  rw [h2] at this
  obtain ⟨y, hy, e⟩ := List.mem_map.mp this
  injection e with e
  rw [← e]
  exact hy
theorem nodup_sub_len {α : Type} [DecidableEq α] : ∀ {l m : List α}, l.Nodup → (∀ x ∈ l, x ∈ m) → l.length ≤ m.length
  | [], m, _, _ => Nat.zero_le _
  | x :: l, m, nd, h => by
    have hx := h x List.mem_cons_self
    obtain ⟨n1, n2⟩ := List.nodup_cons.mp nd
    have ih := nodup_sub_len (l := l) (m := m.erase x) n2 fun y hy => (List.mem_erase_of_ne (fun z => n1 (by rw [← z]; exact hy))).mpr (h y (List.mem_cons_of_mem _ hy))
    rw [List.length_erase_of_mem hx] at ih
    have := List.length_pos_of_mem hx
    rw [List.length_cons]
    omega
theorem keys_put {kvs : List (Key × V)} {ks : List Int} (h : kvs.map (·.1) = ks.map Sum.inl) (nd : ks.Nodup) (n : Int) (v : V) : ∃ ks' : List Int, (putK kvs (Sum.inl n) v).map (·.1) = ks'.map Sum.inl ∧ ks'.Nodup ∧ ∀ x ∈ ks', x = n ∨ x ∈ ks := by
  unfold putK
  split
  · refine ⟨ks, ?_, nd, fun x hx => .inr hx⟩
    rw [List.map_map, ← h]
    refine List.map_congr_left fun kv _ => ?_
    show (if kv.1 = _ then (kv.1, v) else kv).1 = kv.1
    split <;> rfl
  · rename_i hno
    refine ⟨ks ++ [n], ?_, ?_, fun x hx => ?_⟩
    · rw [List.map_append, List.map_append, h]
      rfl
    · rw [List.nodup_append]
      refine ⟨nd, List.nodup_cons.mpr ⟨by simp, List.nodup_nil⟩, fun a ha b hb e => hno ?_⟩
      rw [List.mem_singleton.mp hb] at e
      have : (Sum.inl n : Key) ∈ kvs.map (·.1) := by
        rw [h]
        exact List.mem_map.mpr ⟨a, ha, by rw [e]⟩
      obtain ⟨kv, hk, e2⟩ := List.mem_map.mp this
      exact List.any_eq_true.mpr ⟨kv, hk, decide_eq_true e2⟩
    · rcases List.mem_append.mp hx with hx | hx
      · exact .inr hx
      · exact .inl (List.mem_singleton.mp hx)
/-- the sorted keys are the numbers that stand -/
theorem keys_sorted {H : Hp} {kvs : List (Key × V)} {st : Stt} {ks ys : List Int} (h : KeyS K H kvs st) (hk : kvs.map (·.1) = ks.map Sum.inl) (nd : ks.Nodup) (pm : ys.Perm ks) (so : ys.Pairwise (· ≤ ·)) : ys = (pairsS 1 st).map (·.1) := by
  refine rising_ext ?_ (pairs_rise st 1).1 fun x => ?_
  · have nd2 := pm.nodup_iff.mpr nd
    refine (so.and nd2).imp fun ⟨h1, h2⟩ => ?_
    omega
  · rw [pm.mem_iff]
    constructor
    · intro hx
      obtain ⟨v, hv⟩ := key_val hk hx
      obtain ⟨f, hf, _⟩ := h.val x v hv
      exact List.mem_map.mpr ⟨(x, f), pairs_mem.mpr hf, rfl⟩
    · intro hx
      obtain ⟨⟨n, f⟩, hm, rfl⟩ := List.mem_map.mp hx
      obtain ⟨v, hv⟩ := h.all n f (pairs_mem.mp hm)
      exact val_key hk (by rw [hv]; rfl)
def spNewM (K : PySem.W.Frag) : Sp := fun vs H Q _ => vs = [] ∧ ∀ M D H', H M = none → H D = none → Ex H H' → ModelAt K H' M D [] → Q (.ref M) H'
def spFList (K : PySem.W.Frag) : Sp := fun vs H Q _ => ∃ (M D : Addr) (st : Stt), vs = [.ref M] ∧ ModelAt K H M D st ∧ st.length ≤ 1000 ∧ ∀ p vs H', H p = none → Ex H H' → H' p = some (.lst vs) → RFs K H' vs (pairsS 1 st) → Q (.ref p) H'

/-! deeds and what comes of them -/
inductive Deed where
  | tell (f : Fct)
  | right (n : Int) (f : Fct)
  | strike (n : Int)
inductive Out where
  | num (n : Int)
  | fact (f : Fct)
  | noFact (n : Int)
  | badFact (p : Nat)
  | other
  | full
def Out.ds : Out → List PyData
  | .num n => [.str "", .int n]
  | .fact f => [.str "", f.enc]
  | .noFact n => [.str "NoFact", .int n]
  | .badFact p => [.str "BadFact", .int (p : Nat)]
  | .other => [.str "Other", .none]
  | .full => [.str "Full", .none]
def Out.ok : Out → Bool
  | .num _ => true
  | .fact _ => true
  | _ => false
def doF (st : Stt) : Deed → Out × Option Stt
  | .tell f => match placeF f with
    | some p => (.badFact p, none)
    | none => if st.length < 120 then (.num ((st.length : Nat) + 1), some (st ++ [some f])) else (.full, none)
  | .right n f => match standF st n with
    | none => (.noFact n, none)
    | some g => match placeF f with
      | some p => (.badFact p, none)
      | none => if f.w = g.w then (.fact g, some (st.set (n - 1).toNat (some f))) else (.other, none)
  | .strike n => match standF st n with
    | none => (.noFact n, none)
    | some g => (.fact g, some (st.set (n - 1).toNat none))
def DeedAt (K : PySem.W.Frag) (H : Hp) (v : V) : Deed → Prop
  | .tell f => ∃ a u, v = .ref a ∧ SqT K H a [.str "tell", u] ∧ RF K H u f
  | .right n f => ∃ a u, v = .ref a ∧ SqT K H a [.str "right", .int n, u] ∧ RF K H u f
  | .strike n => ∃ a, v = .ref a ∧ SqT K H a [.str "strike", .int n]
theorem DeedAt.tk {H H' : Hp} (t : Tk K H H') {v : V} {d : Deed} (h : DeedAt K H v d) : DeedAt K H' v d := by
  cases d with
  | tell f =>
    obtain ⟨a, u, h1, h2, h3⟩ := h
    exact ⟨a, u, h1, t _ _ h2, rf_map (fun z => t _ _ z) h3⟩
  | right n f =>
    obtain ⟨a, u, h1, h2, h3⟩ := h
    exact ⟨a, u, h1, t _ _ h2, rf_map (fun z => t _ _ z) h3⟩
  | strike n =>
    obtain ⟨a, h1, h2⟩ := h
    exact ⟨a, h1, t _ _ h2⟩
/-- a deed's fact is bent at most, its number no far one -/
def DeedOk : Deed → Prop
  | .tell f => Bent f
  | .right n f => Bent f ∧ -(2 ^ 200) ≤ n ∧ n ≤ 2 ^ 200
  | .strike n => -(2 ^ 200) ≤ n ∧ n ≤ 2 ^ 200
theorem rf_enc {H : Hp} {v : V} {f : Fct} (h : RF K H v f) : Dp K H v f.enc := by
  obtain ⟨a, vs, rfl, ha, hvs⟩ := h
  exact .tup ha (.cons (.str _) (fds_dp hvs))
theorem keyS_put {H : Hp} {kvs : List (Key × V)} {st st' : Stt} {n : Int} {v : V} {f : Fct} (h : KeyS K H kvs st) (hv : RF K H v f) (hs : ∀ m, standF st' m = if m = n then some f else standF st m) : KeyS K H (putK kvs (Sum.inl n) v) st' := by
  obtain ⟨ks, k1, k2⟩ := h.keys
  obtain ⟨ks', k3, k4, _⟩ := keys_put k1 k2 n v
  refine ⟨⟨ks', k3, k4⟩, fun m u hu => ?_, fun m g hg => ?_⟩
  · rw [valV_put] at hu
    by_cases e : m = n
    · rw [if_pos (by rw [e])] at hu
      cases hu
      exact ⟨f, by rw [hs, if_pos e], hv⟩
    · rw [if_neg (fun z => e (by injection z))] at hu
      obtain ⟨g, h1, h2⟩ := h.val m u hu
      exact ⟨g, by rw [hs, if_neg e]; exact h1, h2⟩
  · rw [valV_put]
    by_cases e : m = n
    · rw [if_pos (by rw [e])]
      exact ⟨_, rfl⟩
    · rw [if_neg (fun z => e (by injection z))]
      rw [hs, if_neg e] at hg
      exact h.all m g hg
theorem valV_drop {kvs : List (Key × V)} {k j : Key} : valV (dropK kvs k) j = if j = k then none else valV kvs j := by
  unfold valV dropK
  rw [List.find?_filter]
  by_cases e : j = k
  · rw [if_pos e, Option.map_eq_none_iff, List.find?_eq_none]
    intro x _
    subst e
    by_cases q : x.1 = j <;> simp [q]
  · rw [if_neg e]
    congr 2
    funext kv
    by_cases q : kv.1 = j
    · have : kv.1 ≠ k := by rw [q]; exact e
      simp [q, e]
    · simp [q]
theorem keyS_drop {H : Hp} {kvs : List (Key × V)} {st st' : Stt} {n : Int} (h : KeyS K H kvs st) (hs : ∀ m, standF st' m = if m = n then none else standF st m) : KeyS K H (dropK kvs (Sum.inl n)) st' := by
  obtain ⟨ks, k1, k2⟩ := h.keys
  refine ⟨⟨ks.filter fun x => decide (x ≠ n), ?_, k2.filter _⟩, fun m u hu => ?_, fun m g hg => ?_⟩
  · unfold dropK
    clear k2 h hs
    induction kvs generalizing ks with
    | nil =>
      cases ks with
      | nil => rfl
      | cons _ _ => cases k1
    | cons kv kvs ih =>
      cases ks with
      | nil => cases k1
      | cons x ks =>
        rw [List.map_cons, List.map_cons] at k1
        injection k1 with e1 e2
        have := ih ks e2
        rw [List.filter_cons, List.filter_cons, e1]
        by_cases q : x = n
        · subst q
          simpa using this
        · have q2 : ¬ (Sum.inl x : Key) = Sum.inl n := fun z => q (by injection z)
          simp only [q2, q, ne_eq, not_false_eq_true, decide_true, if_true, List.map_cons, e1]
          rw [this]
  · rw [valV_drop] at hu
    by_cases e : m = n
    · rw [if_pos (by rw [e])] at hu
      cases hu
    · rw [if_neg (fun z => e (by injection z))] at hu
      obtain ⟨g, h1, h2⟩ := h.val m u hu
      exact ⟨g, by rw [hs, if_neg e]; exact h1, h2⟩
  · rw [valV_drop]
    by_cases e : m = n
    · rw [hs, if_pos e] at hg
      cases hg
    · rw [if_neg (fun z => e (by injection z))]
      rw [hs, if_neg e] at hg
      exact h.all m g hg
theorem tk_f2d {a b : Addr} {xs ys : List (Key × V)} {H H' : Hp} (e : Fr2 a b H H') (ha : H a = some (.dK xs)) (hb : H b = some (.dK ys)) : Tk K H H' := fun p zs h => by
  have ne : ∀ {u}, H p = some u → (∀ xs, u ≠ .dK xs) → p ≠ a ∧ p ≠ b := fun h1 h2 => ⟨fun z => by
    subst z
    rw [h1] at ha
    exact h2 _ (Option.some.inj ha), fun z => by
    subst z
    rw [h1] at hb
    exact h2 _ (Option.some.inj hb)⟩
  rcases h with (h | ⟨q, h⟩) | h
  · have n := ne h (fun _ z => by cases z)
    exact .inl (.inl (e _ _ n.1 n.2 h))
  · have n := ne h (fun _ z => by cases z)
    exact .inl (.inr ⟨q, e _ _ n.1 n.2 h⟩)
  · exact .inr h
theorem s_dputS {a : Addr} {z : Str} {v : V} {kvs : List (Key × V)} {H : Hp} {R : Hp → Prop} (h : H a = some (.dK kvs)) (z1 : kvs.length < 100000) (k : ∀ H', Fr a H H' → H' a = some (.dK (putK kvs (Sum.inr z) v)) → R H') : DPutR (.ref a) (.str z) v H R :=
  ⟨a, _, rfl, DPut.k (k := Sum.inr z) h (szl (by omega)), k _ Fr.upd upd_same⟩
theorem s_dpop {td ty : TE} {σ : L2.St} {H : Hp} {Q : VK} (k : td σ H fun x H1 => ∃ a, x = .ref a ∧ IsD H1 a ∧ ty σ H1 fun y H2 => ∃ kvs k v, H2 a = some (.dK kvs) ∧ y = kV k ∧ valV kvs k = some v ∧ Q v (upd H2 a (.dK (dropK kvs k)))) : tDPop1 td ty σ H Q := k
theorem s_dnotinI2 {a : Addr} {n : Int} {kvs : List (Key × V)} {H : Hp} {Q : VK} (h : H a = some (.dK kvs)) (k : Q (.bl (!(valV kvs (Sum.inl n)).isSome)) H) : DNotInR (.int n) (.ref a) H Q := s_dnotinI h k
theorem fr2_back {a b q : Addr} {H H' : Hp} (f : Fr2 a b H H') (na : H' a ≠ none) (nb : H' b ≠ none) (n : H' q = none) : H q = none := by
  cases z : H q with
  | none => rfl
  | some o =>
    rw [f q o (fun e => na (by rw [← e]; exact n)) (fun e => nb (by rw [← e]; exact n)) z] at n
    cases n
theorem some_ne {α : Type} {o : Option α} {x : α} (h : o = some x) : o ≠ none := fun z => by
  rw [h] at z
  cases z
def spDone24 (K : PySem.W.Frag) : Sp := fun vs H Q _ => ∃ (M D : Addr) (v : V) (st : Stt) (d : Deed), vs = [.ref M, v] ∧ ModelAt K H M D st ∧ DeedAt K H v d ∧ DeedOk d ∧ st.length ≤ 200 ∧
  ∀ p xs H', H p = none → Fr2 M D H H' → H' p = some (.lst xs) → DpAll K H' xs (doF st d).1.ds → xs.length ≤ 2 → ModelAt K H' M D ((doF st d).2.getD st) → Q (.ref p) H'

/-! deeds taken back and done again -/
theorem all2_pop {α β : Type} {R : α → β → Prop} : ∀ {as : List α} {bs : List β} {b : β}, All2 R as (bs ++ [b]) → ∃ as' a, as = as' ++ [a] ∧ All2 R as' bs ∧ R a b
  | [], [], _, h => by cases h
  | [], _ :: _, _, h => by cases h
  | a :: as, [], b, h => by
    cases h with
    | cons h r =>
      cases r
      exact ⟨[], a, rfl, .nil, h⟩
  | a :: as, c :: bs, b, h => by
    cases h with
    | cons h r =>
      obtain ⟨as', a', rfl, r2, h2⟩ := all2_pop r
      exact ⟨a :: as', a', rfl, .cons h r2, h2⟩
def spUndo (K : PySem.W.Frag) (C Cn : Addr) : Sp := fun vs H Q E => ∃ (r S U : Addr) (sts uns : List Stt) (st : Stt), vs = [.ref r] ∧ RollAt K C H r S U (sts ++ [st]) uns ∧ sts.length ≤ 1000 ∧ uns.length ≤ 1000 ∧
  (sts ≠ [] → ∀ H', Fr2 S U H H' → RollAt K C H' r S U sts (uns ++ [st]) → Q .non H') ∧
  (sts = [] → ∀ d, H d = none → E (.ref Cn) (some d) (upd H d (.xd [("called", .str "Nothing")])))
theorem sc_c_Roll_undo : FnScope ["self"] ["self"] (defScope s_c_Roll_undo) :=
  ⟨rfl, rfl, rfl, by decide +kernel, rfl, by decide +kernel, by decide +kernel⟩
theorem ok_c_Roll_undo (T : Tx P K mg w) : FnOk P w K mg base (CX P w) 3 T.f_c_Roll_undo T.d_c_Roll_undo ["self"] (spUndo K T.C_Roll T.C_Nothing) := by
  refine T.F_c_Roll_undo.okX sc_c_Roll_undo (fun vs H Q E h => ?_) (fun cdv A outer s H vs Q E hr h => ?_)
  · obtain ⟨r, S, U, sts, uns, st, rfl, _⟩ := h
    rfl
  · obtain ⟨r, S, U, sts, uns, st, rfl, hR, hz, hzu, k1, k2⟩ := h
    refine ⟨_, (pss_cons (ps_if (pt_cmpR op_eq (pe_meth0 (pv 0) T.cls_Roll ⟨T.at_c_Roll_deeds, T.fn_c_Roll_deeds, T.F_c_Roll_deeds.kp⟩ (ok_c_Roll_deeds T) (hr.mono (by decide)) T.b_c_Roll_deeds .nil pass0) pe_int (nomark _)) (pss_one (ps_raise rfl (takes_of rfl rfl rfl rfl) (pmk_ox T.pk_Nothing.ox T.in_Nothing T.FS_c_PikeError_init.ty (ok_c_PikeError_init T) (hr.mono (by decide)) T.b_c_PikeError_init .nil pass0 rfl T.g_Nothing (pa_cons pe_str pa_nil)))) pss_nil) (pss_one (ps_expr (pe_bm PySem.F.plainAttrs_list PySem.F.slot_list_append PySem.F.type_list_append mt_append (pe_fld (pv 0) rfl) (pa_cons (pe_bm0 PySem.F.plainAttrs_list PySem.F.slot_list_pop PySem.F.type_list_pop mt_pop (pe_fld (pv 0) rfl)) pa_nil))))), ?_⟩
    refine at_start (ρ' := [some _]) rfl ?_
    obtain ⟨⟨dx, h1⟩, ⟨sv, h2, h3⟩, ⟨uv, h4, h5⟩, h6⟩ := id hR
    walk_at "z0"
    walk_at "z"
    refine s_methA ?_
    walk_at "z"
    refine ⟨r, dx, _, rfl, h1, rfl, ?_⟩
    walk_at "z"
    refine ⟨r, S, U, sts ++ [st], uns, rfl, hR, ?_⟩
    rw [List.length_append, List.length_singleton]
    walk_at "z"
    refine ite_dec (fun h8 => ?_) (fun h8 => ?_)
    · walk_at "z"
      refine s_mkO ?_
      walk_at "z"
      exact use_pike T.pk_Nothing fun d hd => k2 (by cases sts with | nil => rfl | cons a l => simp at h8; omega) d hd
    · obtain ⟨sv', v, rfl, h3', hv⟩ := all2_pop h3
      have hsl := h3'.len
      have hul := h5.len
      walk_at "z"
      refine s_fldGet h1 T.cls_Roll T.na_Roll_undone rfl ?_
      refine s_tyL (SqL.of h4) ?_
      walk_at "z"
      refine s_fldGet h1 T.cls_Roll T.na_Roll_states rfl ?_
      refine s_tyL (SqL.of h2) ?_
      refine ⟨S, _, v, rfl, rfl, h2, by simp, ?_⟩
      rw [List.dropLast_concat]
      have f1 : Fr S H (upd H S (.lst sv')) := Fr.upd
      have hS1 : (upd H S (.lst sv')) S = some (.lst sv') := upd_same
      generalize upd H S (.lst sv') = H1 at f1 hS1
      have t1 := tk_lst (K := K) f1 h2
      have hU1 := f1 _ _ h6.symm h4
      have nrS : r ≠ S := ne_of h1 h2 (fun z => by cases z)
      have nrU : r ≠ U := ne_of h1 h4 (fun z => by cases z)
      walk_at "z"
      refine s_app hU1 (szl (by omega)) fun H2 f2 hU2 => ?_
      have t2 := tk_lst (K := K) f2 hU1
      walk_at "z"
      refine k1 (fun e => h8 (by rw [e]; rfl)) H2 ((Fr.f2l f1 : Fr2 S U H H1).trans (Fr.f2r f2)) ⟨⟨dx, f2 _ _ nrU (f1 _ _ nrS h1)⟩, ⟨sv', f2 _ _ h6 hS1, h3'.mono fun _ _ z => (z.tk t1).tk t2⟩, ⟨_, hU2, (h5.mono fun _ _ z => (z.tk t1).tk t2).snoc ((hv.tk t1).tk t2)⟩, h6⟩
def spRedo (K : PySem.W.Frag) (C Cn : Addr) : Sp := fun vs H Q E => ∃ (r S U : Addr) (sts uns : List Stt), vs = [.ref r] ∧ RollAt K C H r S U sts uns ∧ sts.length ≤ 1000 ∧ uns.length ≤ 1000 ∧
  (∀ uns' st, uns = uns' ++ [st] → ∀ H', Fr2 S U H H' → RollAt K C H' r S U (sts ++ [st]) uns' → Q .non H') ∧
  (uns = [] → ∀ d, H d = none → E (.ref Cn) (some d) (upd H d (.xd [("called", .str "Nothing")])))
theorem sc_c_Roll_redo : FnScope ["self"] ["self"] (defScope s_c_Roll_redo) :=
  ⟨rfl, rfl, rfl, by decide +kernel, rfl, by decide +kernel, by decide +kernel⟩
theorem ok_c_Roll_redo (T : Tx P K mg w) : FnOk P w K mg base (CX P w) 3 T.f_c_Roll_redo T.d_c_Roll_redo ["self"] (spRedo K T.C_Roll T.C_Nothing) := by
  refine T.F_c_Roll_redo.okX sc_c_Roll_redo (fun vs H Q E h => ?_) (fun cdv A outer s H vs Q E hr h => ?_)
  · obtain ⟨r, S, U, sts, uns, rfl, _⟩ := h
    rfl
  · obtain ⟨r, S, U, sts, uns, rfl, hR, hz, hzu, k1, k2⟩ := h
    refine ⟨_, (pss_cons (ps_if (pt_cmpR op_eq (pe_callB (r := Z.rLen K) cz_len (by rfl) T.z_len PySem.boot_len (pa_cons (pe_fld (pv 0) rfl) pa_nil)) pe_int (nomark _)) (pss_one (ps_raise rfl (takes_of rfl rfl rfl rfl) (pmk_ox T.pk_Nothing.ox T.in_Nothing T.FS_c_PikeError_init.ty (ok_c_PikeError_init T) (hr.mono (by decide)) T.b_c_PikeError_init .nil pass0 rfl T.g_Nothing (pa_cons pe_str pa_nil)))) pss_nil) (pss_one (ps_expr (pe_bm PySem.F.plainAttrs_list PySem.F.slot_list_append PySem.F.type_list_append mt_append (pe_fld (pv 0) rfl) (pa_cons (pe_bm0 PySem.F.plainAttrs_list PySem.F.slot_list_pop PySem.F.type_list_pop mt_pop (pe_fld (pv 0) rfl)) pa_nil))))), ?_⟩
    refine at_start (ρ' := [some _]) rfl ?_
    obtain ⟨⟨dx, h1⟩, ⟨sv, h2, h3⟩, ⟨uv, h4, h5⟩, h6⟩ := id hR
    have hsl := h3.len
    have hul := h5.len
    walk_at "z0"
    walk_at "z"
    refine s_fldGet h1 T.cls_Roll T.na_Roll_undone rfl ?_
    walk_at "z"
    refine ite_dec (fun h8 => ?_) (fun h8 => ?_)
    · walk_at "z"
      refine s_mkO ?_
      walk_at "z"
      exact use_pike T.pk_Nothing fun d hd => k2 (List.length_eq_zero_iff.mp (by omega)) d hd
    · rcases List.eq_nil_or_concat uns with e | ⟨uns', st, e⟩
      · rw [e] at hul
        exact absurd (by rw [hul]; rfl) h8
      rw [List.concat_eq_append] at e
      subst e
      obtain ⟨uv', v, rfl, h5', hv⟩ := all2_pop h5
      walk_at "z"
      refine s_fldGet h1 T.cls_Roll T.na_Roll_states rfl ?_
      refine s_tyL (SqL.of h2) ?_
      walk_at "z"
      refine s_fldGet h1 T.cls_Roll T.na_Roll_undone rfl ?_
      refine s_tyL (SqL.of h4) ?_
      refine ⟨U, _, v, rfl, rfl, h4, by simp, ?_⟩
      rw [List.dropLast_concat]
      have f1 : Fr U H (upd H U (.lst uv')) := Fr.upd
      have hU1 : (upd H U (.lst uv')) U = some (.lst uv') := upd_same
      generalize upd H U (.lst uv') = H1 at f1 hU1
      have t1 := tk_lst (K := K) f1 h4
      have hS1 := f1 _ _ h6 h2
      have nrS : r ≠ S := ne_of h1 h2 (fun z => by cases z)
      have nrU : r ≠ U := ne_of h1 h4 (fun z => by cases z)
      walk_at "z"
      refine s_app hS1 (szl (by omega)) fun H2 f2 hS2 => ?_
      have t2 := tk_lst (K := K) f2 hS1
      walk_at "z"
      exact k1 uns' st rfl H2 ((Fr.f2r f1 : Fr2 S U H H1).trans (Fr.f2l f2)) ⟨⟨dx, f2 _ _ nrS (f1 _ _ nrU h1)⟩, ⟨_, hS2, (h3.mono fun _ _ z => (z.tk t1).tk t2).snoc ((hv.tk t1).tk t2)⟩, ⟨uv', f2 _ _ h6.symm hU1, h5'.mono fun _ _ z => (z.tk t1).tk t2⟩, h6⟩

/-! a roll of the first deeds, and a twin -/
theorem all2_take {α β : Type} {R : α → β → Prop} : ∀ {as : List α} {bs : List β} (n : Nat), All2 R as bs → All2 R (as.take n) (bs.take n)
  | [], [], n, .nil => by
    rw [List.take_nil, List.take_nil]
    exact .nil
  | _ :: _, _ :: _, 0, .cons _ _ => .nil
  | _ :: _, _ :: _, n + 1, .cons h r => .cons h (all2_take n r)
def spTwin (K : PySem.W.Frag) (C : Addr) : Sp := fun vs H Q _ => ∃ (r S U : Addr) (sts uns : List Stt), vs = [.ref r] ∧ RollAt K C H r S U sts uns ∧ sts.length ≤ 1000 ∧ uns.length ≤ 1000 ∧
  ∀ r' S' U' H', H r' = none → H S' = none → H U' = none → Ex H H' → RollAt K C H' r' S' U' sts uns → Q (.ref r') H'
theorem sc_c_Roll_twin : FnScope ["self", "other"] ["self"] (defScope s_c_Roll_twin) :=
  ⟨rfl, rfl, rfl, by decide +kernel, rfl, by decide +kernel, by decide +kernel⟩
theorem ok_c_Roll_twin (T : Tx P K mg w) : FnOk P w K mg base CX0 3 T.f_c_Roll_twin T.d_c_Roll_twin ["self"] (spTwin K T.C_Roll) := by
  refine T.F_c_Roll_twin.ok sc_c_Roll_twin (fun vs H Q E h => ?_) (fun cdv A outer s H vs Q E hr h => ?_)
  · obtain ⟨r, S, U, sts, uns, rfl, _⟩ := h
    rfl
  · obtain ⟨r, S, U, sts, uns, rfl, hR, hz, hzu, k⟩ := h
    refine ⟨_, (pss_cons (ps_set (i := 1) sc_c_Roll_twin.nd rfl (Or.inl rfl) (pe_make0 T.mk_Roll (ok_c_Roll_init T) (hr.mono (by decide)) rfl T.g_Roll T.b_c_Roll_init .nil pass0)) (pss_cons (ps_fld (pv 1) (pe_callTy (r := rListOf K) cz_listOf (by rfl) T.z_list (by decide +kernel) (pa_cons (pe_fld (pv 0) rfl) pa_nil)) rfl) (pss_cons (ps_fld (pv 1) (pe_callTy (r := rListOf K) cz_listOf (by rfl) T.z_list (by decide +kernel) (pa_cons (pe_fld (pv 0) rfl) pa_nil)) rfl) (pss_one (ps_ret (pv 1)))))), ?_⟩
    refine at_start (ρ' := [some _, none]) rfl ?_
    walk_at "z0"
    walk_at "z"
    refine s_make ?_
    intro r1 dx nr ndx nxd
    have eN : Ex H (upd (upd H dx (.own r1)) r1 (.ins T.C_Roll dx [])) := (Ex.new ndx).trans (Ex.new (by rw [upd_ne nxd.symm]; exact nr))
    refine ⟨r1, dx, rfl, upd_same, fun S0 U0 H2 nS nU f2 hR0 => ⟨rfl, ?_⟩⟩
    have e02 : Ex H H2 := fun q o h => f2 _ _ (fun z => by rw [z, nr] at h; cases h) (eN _ _ h)
    obtain ⟨⟨dx1, h1⟩, ⟨sv, h2, h3⟩, ⟨uv, h4, h5⟩, h6⟩ := hR.ex e02
    obtain ⟨⟨dx2, g1⟩, _, _, _⟩ := hR0
    have hsl := h3.len
    have hul := h5.len
    have nr2 : H r1 = none := nr
    refine s_sFldP ?_
    walk_at "z"
    refine s_fldGet h1 T.cls_Roll T.na_Roll_states rfl ?_
    walk_at "z"
    rename_i S1 H3 nS1 e3 hS1
    refine s_fldPut [("states", .ref S1), ("undone", .ref U0)] (e3 _ _ g1) T.cls_Roll T.na_Roll_states (by show 2 < 1000; decide) rfl fun H4 f4 h4' => ?_
    walk_at "z"
    have nr1 : ∀ {q : Addr} {o : HO}, H2 q = some o → (∀ d f, o ≠ .ins T.C_Roll d f) → q ≠ r1 := fun h n => ne_of h g1 (fun z => n _ _ z)
    have nSr := nr1 h2 (fun _ _ z => by cases z)
    have nUr := nr1 h4 (fun _ _ z => by cases z)
    have nrr : r ≠ r1 := fun z => by
      obtain ⟨dx0, hr0⟩ := hR.ob
      rw [z, nr2] at hr0
      cases hr0
    have nS1r : S1 ≠ r1 := ne_of hS1 (e3 _ _ g1) (fun z => by cases z)
    refine s_sFldP ?_
    walk_at "z"
    refine s_fldGet (f4 _ _ nrr (e3 _ _ h1)) T.cls_Roll T.na_Roll_undone rfl ?_
    walk_at "z"
    rename_i U1 H5 nU1 e5 hU1
    refine s_fldPut [("states", .ref S1), ("undone", .ref U1)] (e5 _ _ h4') T.cls_Roll T.na_Roll_undone (by show 2 < 1000; decide) rfl fun H6 f6 h6' => ?_
    walk_at "z"
    have go : ∀ q o, H q = some o → q ≠ r1 := fun q o h z => by
      rw [z, nr2] at h
      cases h
    have e04 : Ex H H4 := fun q o h => f4 _ _ (go q o h) (e3 _ _ (e02 _ _ h))
    have e06 : Ex H H6 := fun q o h => f6 _ _ (go q o h) (e5 _ _ (e04 _ _ h))
    have nU1r : U1 ≠ r1 := ne_of hU1 (e5 _ _ h4') (fun z => by cases z)
    obtain ⟨_, ⟨sv0, k2, k3⟩, ⟨uv0, k4, k5⟩, _⟩ := id hR
    have es : sv0 = sv := by
      have := e02 _ _ k2
      rw [h2] at this
      injection this with this
      injection this with this
      exact this.symm
    have eu : uv0 = uv := by
      have := e02 _ _ k4
      rw [h4] at this
      injection this with this
      injection this with this
      exact this.symm
    subst es eu
    exact k r1 S1 U1 H6 nr2 (Ex.back e02 nS1) (Ex.back e04 nU1) e06 ⟨⟨dx2, h6'⟩, ⟨_, f6 _ _ nS1r (e5 _ _ (f4 _ _ nS1r hS1)), k3.mono fun _ _ z => z.tk e06.tk⟩, ⟨_, f6 _ _ nU1r hU1, k5.mono fun _ _ z => z.tk e06.tk⟩, ne_of_none (f4 _ _ nS1r hS1) nU1⟩
def spKnown (K : PySem.W.Frag) (C Cb : Addr) : Sp := fun vs H Q E => ∃ (r S U : Addr) (n : Int) (sts uns : List Stt), vs = [.ref r, .int n] ∧ RollAt K C H r S U sts uns ∧ sts.length ≤ 1000 ∧ uns.length ≤ 1000 ∧ -(2 ^ 200) ≤ n ∧ n ≤ 2 ^ 200 ∧
  (0 ≤ n → n < sts.length → ∀ r' S' U' H', H r' = none → H S' = none → H U' = none → Ex H H' → RollAt K C H' r' S' U' (sts.take (n.toNat + 1)) [] → Q (.ref r') H') ∧
  (¬ (0 ≤ n ∧ n < sts.length) → ∀ d, H d = none → E (.ref Cb) (some d) (upd H d (.xd [("called", .str "BadCount")])))

theorem s_methT {C : Addr} {m : Str} {sp : Sp} {dvs : List V} {E : L2.St → XK} {ta : TE} {t : TA} {σ : L2.St} {H : Hp} {Q : VK} (k : ta σ H fun x H1 => ∃ a dx fs, x = .ref a ∧ H1 a = some (.ins C dx fs) ∧ fs.lookup m = none ∧ t σ H1 fun vs H2 => sp (x :: (vs ++ dvs)) H2 Q (E σ)) : tMethT C m sp dvs E ta t σ H Q := k
theorem doF_tb {st : Stt} {f : Fct} {p : Nat} (h : placeF f = some p) : doF st (.tell f) = (.badFact p, none) := by
  unfold doF
  dsimp only
  rw [h]
theorem doF_tg {st : Stt} {f : Fct} (h : placeF f = none) (hl : st.length < 120) : doF st (.tell f) = (.num ((st.length : Nat) + 1), some (st ++ [some f])) := by
  unfold doF
  dsimp only
  rw [h]
  dsimp only
  rw [if_pos hl]
theorem doF_rn {st : Stt} {f : Fct} {n : Int} (h : standF st n = none) : doF st (.right n f) = (.noFact n, none) := by
  unfold doF
  dsimp only
  rw [h]
theorem doF_rb {st : Stt} {f g : Fct} {n : Int} {p : Nat} (h : standF st n = some g) (hp : placeF f = some p) : doF st (.right n f) = (.badFact p, none) := by
  unfold doF
  dsimp only
  rw [h]
  dsimp only
  rw [hp]
theorem doF_rg {st : Stt} {f g : Fct} {n : Int} (h : standF st n = some g) (hp : placeF f = none) : doF st (.right n f) = if f.w = g.w then (.fact g, some (st.set (n - 1).toNat (some f))) else (.other, none) := by
  unfold doF
  dsimp only
  rw [h]
  dsimp only
  rw [hp]
theorem doF_sn {st : Stt} {n : Int} (h : standF st n = none) : doF st (.strike n) = (.noFact n, none) := by
  unfold doF
  dsimp only
  rw [h]
theorem doF_sg {st : Stt} {g : Fct} {n : Int} (h : standF st n = some g) : doF st (.strike n) = (.fact g, some (st.set (n - 1).toNat none)) := by
  unfold doF
  dsimp only
  rw [h]
theorem RollAt.back {C r S U q : Addr} {H H' : Hp} {sts uns : List Stt} (h : RollAt K C H' r S U sts uns) (f : Fr2 S U H H') (n : H' q = none) : H q = none := by
  obtain ⟨_, ⟨sv, g1, _⟩, ⟨uv, g2, _⟩, _⟩ := h
  exact fr2_back f (some_ne g1) (some_ne g2) n
def nextS (sts : List Stt) : Option Stt → List Stt
  | none => sts
  | some s => sts ++ [s]
def nextU (uns : List Stt) : Option Stt → List Stt
  | none => uns
  | some _ => []
def dsR (o : Out) : List PyData := if o.ok = true then o.ds else [.str "refused", .none]

/-! the roll against the law's own -/
theorem dp_len {H : Hp} {vs : List V} {ds : List PyData} (h : DpAll K H vs ds) : vs.length = ds.length := dpAll_len h
theorem dok_list {n : Nat} {ds : List PyData} (h : ds.length ≤ 1000) (k : ∀ d ∈ ds, DOk n d) : DOk (n + 1) (.list ds) := ⟨h, k⟩
theorem dok_tup {n : Nat} {ds : List PyData} (h : ds.length ≤ 1000) (k : ∀ d ∈ ds, DOk n d) : DOk (n + 1) (.tuple ds) := ⟨h, k⟩
/-- tuples that are short enough -/
def Short (f : Fct) : Prop := f.xs.length ≤ 8 ∧ ∀ l, Arg.t l ∈ f.xs → l.length ≤ 60
theorem dok_fct {n : Nat} {f : Fct} (h : Short f) : DOk (n + 3) f.enc := by
  refine dok_tup (by rw [List.length_cons, List.length_map]; have := h.1; omega) fun d hd => ?_
  rcases List.mem_cons.mp hd with rfl | hd
  · trivial
  obtain ⟨x, hx, rfl⟩ := List.mem_map.mp hd
  cases x with
  | i n => trivial
  | t l =>
    refine dok_tup (by rw [List.length_map]; have := h.2 l hx; omega) fun d hd => ?_
    obtain ⟨n, _, rfl⟩ := List.mem_map.mp hd
    trivial
theorem dok_pairs {fs : List (Int × Fct)} (hz : fs.length ≤ 1000) (h : ∀ p ∈ fs, Short p.2) : DOk 6 (.list (fs.map encP)) := by
  refine dok_list (by rw [List.length_map]; exact hz) fun d hd => ?_
  obtain ⟨p, hp, rfl⟩ := List.mem_map.mp hd
  refine dok_tup (by show 2 ≤ 1000; decide) fun d hd => ?_
  simp only [List.mem_cons, List.not_mem_nil, or_false] at hd
  rcases hd with rfl | rfl
  · trivial
  · exact dok_fct (h p hp)
theorem use_like24 {n : Nat} {H : Hp} {Q : VK} {E : XK} {x y : V} {d : PyData} (h1 : Dp K H x d) (h2 : Dp K H y d) (h3 : DOk n d) (k : ∀ H', Ex H H' → Q (.bl true) H') : spLike K n ([x, y] ++ []) H Q E := ⟨x, y, d, rfl, h1, h2, h3, k⟩
theorem keys_count {H : Hp} {kvs : List (Key × V)} {st : Stt} (h : KeyS K H kvs st) : kvs.length = (pairsS 1 st).length := by
  obtain ⟨ks, hk, nd⟩ := h.keys
  have e1 : kvs.length = ks.length := by
    have := congrArg List.length hk
    rwa [List.length_map, List.length_map] at this
  have nd2 : ((pairsS 1 st).map (·.1)).Nodup := (pairs_rise st 1).1.imp fun h => by omega
  have a := nodup_sub_len (m := (pairsS 1 st).map (·.1)) nd fun x hx => by
    obtain ⟨v, hv⟩ := key_val hk hx
    obtain ⟨f, hf, _⟩ := h.val x v hv
    exact List.mem_map.mpr ⟨(x, f), pairs_mem.mpr hf, rfl⟩
  have b := nodup_sub_len (m := ks) nd2 fun x hx => by
    obtain ⟨⟨n, f⟩, hm, rfl⟩ := List.mem_map.mp hx
    obtain ⟨v, hv⟩ := h.all n f (pairs_mem.mp hm)
    exact val_key hk (by rw [hv]; rfl)
  rw [List.length_map] at a b
  omega
theorem s_meth24 {C : Addr} {m : Str} {sp : Sp} {dvs : List V} {E : XK} {ta : TE} {t : TA} {σ : L2.St} {H : Hp} {Q : VK} (k : ta σ H fun x H1 => ∃ a dx fs, x = .ref a ∧ H1 a = some (.ins C dx fs) ∧ fs.lookup m = none ∧ t σ H1 fun vs H2 => sp (x :: (vs ++ dvs)) H2 Q E) : tMeth C m sp dvs E ta t σ H Q := k
def spStands (K : PySem.W.Frag) (C : Addr) : Sp := fun vs H Q _ => ∃ (r S U M D : Addr) (st : Stt) (sts uns : List Stt), vs = [.ref r, .ref M, .int ((sts.length : Nat) - 1)] ∧ RollAt K C H r S U sts uns ∧ ModelAt K H M D st ∧ sts.getLast? = some st ∧ st.length ≤ 1000 ∧ (∀ n g, standF st n = some g → Short g) ∧ ∀ H', Ex H H' → Q (.bl true) H'

/-! what stands is good -/
theorem fb_all : ∀ {ks : List Str} {xs : List Arg} {i : Nat}, firstBad i ks xs = none → ks.length = xs.length → All2 (fun k x => argOk k x = true) ks xs
  | [], [], _, _, _ => .nil
  | [], _ :: _, _, _, h => (by cases h)
  | _ :: _, [], _, _, h => (by cases h)
  | k :: ks, x :: xs, i, h, hl => by
    rw [firstBad] at h
    by_cases e : argOk k x = true
    · rw [if_pos e] at h
      exact .cons e (fb_all h (Nat.succ.inj hl))
    · rw [if_neg e] at h
      cases h
theorem all2_and {α β : Type} {R S : α → β → Prop} : ∀ {as : List α} {bs : List β}, All2 R as bs → (∀ (i : Nat) a b, as[i]? = some a → bs[i]? = some b → S a b) → All2 (fun a b => R a b ∧ S a b) as bs
  | _, _, .nil, _ => .nil
  | _, _, .cons h r, g => .cons ⟨h, g 0 _ _ rfl rfl⟩ (all2_and r fun i a b h1 h2 => g (i + 1) a b (by simpa using h1) (by simpa using h2))
theorem num_arg {k : Str} {lo hi : Int} {x : Arg} (hb : bndOf k = (lo, some hi)) (hg : k ≠ "gates") (h : argOk k x = true ∧ Suits k x) : ∃ n, x = .i n ∧ R lo hi n := by
  cases x with
  | t l => exact absurd h.2.1 hg
  | i n =>
    have h1 : within (bndOf k).1 (bndOf k).2 n = true := h.1
    rw [hb] at h1
    have h2 : (decide (lo ≤ n) && decide (n ≤ hi)) = true := h1
    rw [Bool.and_eq_true] at h2
    exact ⟨n, rfl, of_decide_eq_true h2.1, of_decide_eq_true h2.2⟩
theorem num_arg1 {x : Arg} (h : argOk "number" x = true ∧ Suits "number" x) : ∃ n, x = .i n ∧ 1 ≤ n := by
  cases x with
  | t l => exact absurd h.2.1 (by decide +kernel)
  | i n =>
    have h1 : within (bndOf "number").1 (bndOf "number").2 n = true := h.1
    rw [show bndOf "number" = (1, none) from by decide +kernel] at h1
    have h2 : (decide ((1 : Int) ≤ n) && true) = true := h1
    rw [Bool.and_eq_true] at h2
    exact ⟨n, rfl, of_decide_eq_true h2.1⟩
theorem tup_arg {x : Arg} (h : argOk "gates" x = true ∧ Suits "gates" x) : ∃ l, x = .t l ∧ Rising l ∧ ∀ y ∈ l, R 0 7 y := by
  cases x with
  | i n => exact absurd h.2.1 (by decide +kernel)
  | t l =>
    have h1 : (l.all (within 0 (some 7)) && decide (l.Pairwise (· < ·))) = true := h.1
    rw [Bool.and_eq_true] at h1
    have h2 : l.Pairwise (· < ·) := of_decide_eq_true h1.2
    exact ⟨l, rfl, h2, fun y hy => (within_gate y).mp (List.all_eq_true.mp h1.1 y hy)⟩
theorem inv2 {α β : Type} {R : α → β → Prop} {a b : α} {xs : List β} (h : All2 R [a, b] xs) : ∃ x y, xs = [x, y] ∧ R a x ∧ R b y := by
  cases h with
  | cons h1 r =>
    cases r with
    | cons h2 r =>
      cases r
      exact ⟨_, _, rfl, h1, h2⟩
theorem inv1 {α β : Type} {R : α → β → Prop} {a : α} {as : List α} {xs : List β} (h : All2 R (a :: as) xs) : ∃ x ys, xs = x :: ys ∧ R a x ∧ All2 R as ys := by
  cases h with
  | cons h1 r => exact ⟨_, _, rfl, h1, r⟩
theorem place_gf {f : Fct} (bt : Bent f) (hp : placeF f = none) : GF f := by
  obtain ⟨w, xs⟩ := f
  have h1 := bt.word
  have h3 := bt.suits
  dsimp only at h1 h3
  unfold placeF at hp
  dsimp only at hp
  have key : ∀ ks, shapeOf w = some ks → All2 (fun k x => argOk k x = true ∧ Suits k x) ks xs := fun ks e => by
    rw [e] at hp
    dsimp only at hp
    by_cases hl : ks.length = xs.length
    · rw [if_pos hl] at hp
      exact all2_and (fb_all hp hl) fun i a b => h3 ks e hl i a b
    · rw [if_neg hl] at hp
      cases hp
  have no : shapeOf w = none → GF ⟨w, xs⟩ := fun e => by
    rw [e] at hp
    cases hp
  have dg : ∀ {x : Arg}, argOk "gate" x = true ∧ Suits "gate" x → ∃ n, x = .i n ∧ R 0 7 n := num_arg (by decide +kernel) (by decide +kernel)
  have dd : ∀ {x : Arg}, argOk "day" x = true ∧ Suits "day" x → ∃ n, x = .i n ∧ R 0 999 n := num_arg (by decide +kernel) (by decide +kernel)
  have dc : ∀ {x : Arg}, argOk "carriage" x = true ∧ Suits "carriage" x → ∃ n, x = .i n ∧ R 0 9 n := num_arg (by decide +kernel) (by decide +kernel)
  have dm : ∀ {x : Arg}, argOk "minute" x = true ∧ Suits "minute" x → ∃ n, x = .i n ∧ R 0 1439 n := num_arg (by decide +kernel) (by decide +kernel)
  clear hp h3
  simp only [wordsOf, List.mem_cons, List.not_mem_nil, or_false] at h1
  rcases h1 with rfl | rfl | rfl | rfl | rfl | rfl | rfl | rfl | rfl | rfl | rfl | rfl | rfl
  · have h := key ["gate", "day", "toll"] (by decide +kernel)
    obtain ⟨_, _, rfl, a, h⟩ := inv1 h
    obtain ⟨_, _, rfl, b, c⟩ := inv2 h
    obtain ⟨n1, rfl, g1⟩ := dg a
    obtain ⟨n2, rfl, g2⟩ := dd b
    obtain ⟨n3, rfl, g3⟩ := num_arg (lo := 0) (hi := 48) (by decide +kernel) (by decide +kernel) c
    exact .toll g1 g2 g3
  · have h := key ["gate", "day", "gates"] (by decide +kernel)
    obtain ⟨_, _, rfl, a, h⟩ := inv1 h
    obtain ⟨_, _, rfl, b, c⟩ := inv2 h
    obtain ⟨n1, rfl, g1⟩ := dg a
    obtain ⟨n2, rfl, g2⟩ := dd b
    obtain ⟨l, rfl, g3, g4⟩ := tup_arg c
    exact .board g1 g2 g3 g4
  · have h := key ["gate", "day", "trust"] (by decide +kernel)
    obtain ⟨_, _, rfl, a, h⟩ := inv1 h
    obtain ⟨_, _, rfl, b, c⟩ := inv2 h
    obtain ⟨n1, rfl, g1⟩ := dg a
    obtain ⟨n2, rfl, g2⟩ := dd b
    obtain ⟨n3, rfl, g3⟩ := num_arg (lo := 0) (hi := 3) (by decide +kernel) (by decide +kernel) c
    exact .trust g1 g2 g3
  · have h := key ["carriage", "day", "day"] (by decide +kernel)
    obtain ⟨_, _, rfl, a, h⟩ := inv1 h
    obtain ⟨_, _, rfl, b, c⟩ := inv2 h
    obtain ⟨n1, rfl, g1⟩ := dc a
    obtain ⟨n2, rfl, g2⟩ := dd b
    obtain ⟨n3, rfl, g3⟩ := dd c
    exact .folk g1 g2 g3
  · have h := key ["gate", "carriage", "day", "day"] (by decide +kernel)
    obtain ⟨_, _, rfl, a, h⟩ := inv1 h
    obtain ⟨_, _, rfl, b, h⟩ := inv1 h
    obtain ⟨_, _, rfl, c, d⟩ := inv2 h
    obtain ⟨n1, rfl, g1⟩ := dg a
    obtain ⟨n2, rfl, g2⟩ := dc b
    obtain ⟨n3, rfl, g3⟩ := dd c
    obtain ⟨n4, rfl, g4⟩ := dd d
    exact .bargain g1 g2 g3 g4
  · have h := key ["day", "minute", "gate", "carriage", "horses"] (by decide +kernel)
    obtain ⟨_, _, rfl, a, h⟩ := inv1 h
    obtain ⟨_, _, rfl, b, h⟩ := inv1 h
    obtain ⟨_, _, rfl, c, h⟩ := inv1 h
    obtain ⟨_, _, rfl, d, e⟩ := inv2 h
    obtain ⟨n1, rfl, g1⟩ := dd a
    obtain ⟨n2, rfl, g2⟩ := dm b
    obtain ⟨n3, rfl, g3⟩ := dg c
    obtain ⟨n4, rfl, g4⟩ := dc d
    obtain ⟨n5, rfl, g5⟩ := num_arg (lo := 1) (hi := 8) (by decide +kernel) (by decide +kernel) e
    exact .pass g1 g2 g3 g4 g5
  · have h := key ["number", "minute"] (by decide +kernel)
    obtain ⟨_, _, rfl, a, b⟩ := inv2 h
    obtain ⟨n1, rfl, g1⟩ := num_arg1 a
    obtain ⟨n2, rfl, g2⟩ := dm b
    exact .lost g1 g2
  · have h := key ["carriage", "day", "payment"] (by decide +kernel)
    obtain ⟨_, _, rfl, a, h⟩ := inv1 h
    obtain ⟨_, _, rfl, b, c⟩ := inv2 h
    obtain ⟨n1, rfl, g1⟩ := dc a
    obtain ⟨n2, rfl, g2⟩ := dd b
    obtain ⟨n3, rfl, g3⟩ := num_arg (lo := 0) (hi := 100000) (by decide +kernel) (by decide +kernel) c
    exact .paid g1 g2 g3
  all_goals exact no (by decide +kernel)
/-- what stands is good -/
def StandOk (st : Stt) : Prop := ∀ n g, standF st n = some g → Bent g ∧ placeF g = none
theorem short_gf {f : Fct} (g : GF f) : Short f := by
  cases g with
  | @board g d gs a b c d =>
    refine ⟨by show 3 ≤ 8; decide, fun l hl => ?_⟩
    simp only [List.mem_cons, List.not_mem_nil, or_false] at hl
    rcases hl with h | h | h
    · cases h
    · cases h
    · cases h
      exact Nat.le_trans (rise_len c d) (by decide)
  | pass => exact ⟨by show 5 ≤ 8; decide, fun l hl => by simp at hl⟩
  | bargain => exact ⟨by show 4 ≤ 8; decide, fun l hl => by simp at hl⟩
  | lost => exact ⟨by show 2 ≤ 8; decide, fun l hl => by simp at hl⟩
  | _ => exact ⟨by show 3 ≤ 8; decide, fun l hl => by simp at hl⟩
/-- the first thing another number from 1 to 3 -/
theorem gf_alt {f : Fct} (g : GF f) : ∃ n r, f.xs = .i n :: r ∧ GF ⟨f.w, .i (n % 3 + 1) :: r⟩ ∧ LB ⟨f.w, .i (n % 3 + 1) :: r⟩ := by
  have lb : ∀ (z : Str) (n : Int) (r : List Arg), LB ⟨z, .i (n % 3 + 1) :: r⟩ := fun z n r a b e => by
    injection e with e1 _
    injection e1 with e1
    omega
  have rr : ∀ {n hi : Int}, 3 ≤ hi → R 0 hi (n % 3 + 1) := fun h => ⟨by omega, by omega⟩
  cases g with
  | toll a b c => exact ⟨_, _, rfl, .toll (rr (by decide)) b c, lb _ _ _⟩
  | board a b c d => exact ⟨_, _, rfl, .board (rr (by decide)) b c d, lb _ _ _⟩
  | trust a b c => exact ⟨_, _, rfl, .trust (rr (by decide)) b c, lb _ _ _⟩
  | folk a b c => exact ⟨_, _, rfl, .folk (rr (by decide)) b c, lb _ _ _⟩
  | bargain a b c d => exact ⟨_, _, rfl, .bargain (rr (by decide)) b c d, lb _ _ _⟩
  | pass a b c d e => exact ⟨_, _, rfl, .pass (rr (by decide)) b c d e, lb _ _ _⟩
  | lost a b => exact ⟨_, _, rfl, .lost (by omega) b, lb _ _ _⟩
  | paid a b c => exact ⟨_, _, rfl, .paid (rr (by decide)) b c, lb _ _ _⟩
/-- a deed as it is drawn -/
def DeedGL : Deed → Prop
  | .tell f => GF f ∧ LB f
  | .right n f => (GF f ∧ LB f) ∧ -(2 ^ 90) ≤ n ∧ n ≤ 2 ^ 90
  | .strike n => -(2 ^ 90) ≤ n ∧ n ≤ 2 ^ 90
def spDeed24 (K : PySem.W.Frag) : Sp := fun vs H Q _ => ∃ (b c M D : Addr) (st : Stt), vs = [.ref b, .ref M] ∧ Bag H b c ∧ ModelAt K H M D st ∧ st.length ≤ 900 ∧ StandOk st ∧ ∀ v d H', DeedAt K H' v d → DeedGL d → Bag H' b c → Fr b H H' → Q v H'

/-! a step back or on -/
def Step (again : Bool) (sts uns sts' uns' : List Stt) : Prop := match again with
  | false => ∃ st, sts = sts' ++ [st] ∧ sts' ≠ [] ∧ uns' = uns ++ [st]
  | true => ∃ st, uns = uns' ++ [st] ∧ sts' = sts ++ [st]
def Stuck (again : Bool) (sts uns : List Stt) : Prop := match again with
  | false => sts.length = 1
  | true => uns = []
/-- all stays but some lists -/
def Fl (L : List Addr) (H H' : Hp) : Prop := ∀ c o, c ∉ L → H c = some o → H' c = some o
theorem Fl.trans {L : List Addr} {H H1 H2 : Hp} (f : Fl L H H1) (g : Fl L H1 H2) : Fl L H H2 := fun c o n h => g c o n (f c o n h)
theorem Ex.fl {L : List Addr} {H H' : Hp} (e : Ex H H') : Fl L H H' := fun c o _ h => e c o h
theorem Fr2.fl {L : List Addr} {a b : Addr} {H H' : Hp} (f : Fr2 a b H H') (h1 : a ∈ L) (h2 : b ∈ L) : Fl L H H' := fun c o n h => f c o (fun z => n (z ▸ h1)) (fun z => n (z ▸ h2)) h
theorem Fr.fl {L : List Addr} {a : Addr} {H H' : Hp} (f : Fr a H H') (h1 : a ∈ L) : Fl L H H' := fun c o n h => f c o (fun z => n (z ▸ h1)) h
def Lsts (L : List Addr) (H : Hp) : Prop := ∀ x ∈ L, ∃ ys, H x = some (.lst ys)
theorem lsts_no {L : List Addr} {H : Hp} {p : Addr} {o : HO} (hL : Lsts L H) (h : H p = some o) (n : ∀ ys, o ≠ .lst ys) : p ∉ L := fun q => by
  obtain ⟨ys, e⟩ := hL p q
  rw [h] at e
  exact n ys (Option.some.inj e)
theorem tk_fl {L : List Addr} {H H' : Hp} (f : Fl L H H') (hL : Lsts L H) : Tk K H H' := fun p zs h => by
  rcases h with (h | ⟨q, h⟩) | h
  · exact .inl (.inl (f _ _ (lsts_no hL h (fun _ z => by cases z)) h))
  · exact .inl (.inr ⟨q, f _ _ (lsts_no hL h (fun _ z => by cases z)) h⟩)
  · exact .inr h
theorem ModelAt.fl {L : List Addr} {H H' : Hp} {M D : Addr} {st : Stt} (h : ModelAt K H M D st) (f : Fl L H H') (hL : Lsts L H) : ModelAt K H' M D st := by
  obtain ⟨h1, ⟨kvs, h2, h3⟩, h4⟩ := h
  exact ⟨f _ _ (lsts_no hL h1 (fun _ z => by cases z)) h1, ⟨kvs, f _ _ (lsts_no hL h2 (fun _ z => by cases z)) h2, h3.tk (tk_fl f hL)⟩, h4⟩
/-- v is a model of st -/
def Mod (K : PySem.W.Frag) (H : Hp) (v : V) (st : Stt) : Prop := ∃ M D, v = .ref M ∧ ModelAt K H M D st
theorem Mod.fl {L : List Addr} {H H' : Hp} {v : V} {st : Stt} (h : Mod K H v st) (f : Fl L H H') (hL : Lsts L H) : Mod K H' v st := by
  obtain ⟨M, D, e, h⟩ := h
  exact ⟨M, D, e, h.fl f hL⟩
theorem RollAt.fl {L : List Addr} {C r S U : Addr} {H H' : Hp} {sts uns : List Stt} (h : RollAt K C H r S U sts uns) (f : Fl L H H') (hL : Lsts L H) (n1 : S ∉ L) (n2 : U ∉ L) : RollAt K C H' r S U sts uns := by
  obtain ⟨⟨dx, h1⟩, ⟨sv, h2, h3⟩, ⟨uv, h4, h5⟩, h6⟩ := h
  have t := tk_fl (K := K) f hL
  exact ⟨⟨dx, f _ _ (lsts_no hL h1 (fun _ z => by cases z)) h1⟩, ⟨sv, f _ _ n1 h2, h3.mono fun _ _ z => z.tk t⟩, ⟨uv, f _ _ n2 h4, h5.mono fun _ _ z => z.tk t⟩, h6⟩

theorem bag_f2 {H H' : Hp} {b c x y : Addr} (B : Bag H b c) (f : Fr2 x y H H') (n1 : b ≠ x) (n2 : b ≠ y) (n3 : c ≠ x) (n4 : c ≠ y) : Bag H' b c := by
  obtain ⟨cells, i, big, salt, h1, h2, h3, h4, h5⟩ := B.ex
  exact .mk' (f _ _ n1 n2 h1) (f _ _ n3 n4 h2) h3 h4 h5
theorem RollAt.f2d {C r S U M D : Addr} {k1 k2 : List (Key × V)} {H H' : Hp} {sts uns : List Stt} (h : RollAt K C H r S U sts uns) (f : Fr2 M D H H') (hM : H M = some (.dK k1)) (hD : H D = some (.dK k2)) : RollAt K C H' r S U sts uns := by
  obtain ⟨⟨dx, h1⟩, ⟨sv, h2, h3⟩, ⟨uv, h4, h5⟩, h6⟩ := h
  have go : ∀ {p o}, H p = some o → (∀ k, o ≠ .dK k) → H' p = some o := fun h n => f _ _ (ne_of h hM (fun z => n _ z)) (ne_of h hD (fun z => n _ z)) h
  have t : Tk K H H' := fun p zs h => by
    rcases h with (h | ⟨q, h⟩) | h
    · exact .inl (.inl (go h (fun _ z => by cases z)))
    · exact .inl (.inr ⟨q, go h (fun _ z => by cases z)⟩)
    · exact .inr h
  exact ⟨⟨dx, go h1 (fun _ z => by cases z)⟩, ⟨sv, go h2 (fun _ z => by cases z), h3.mono fun _ _ z => z.tk t⟩, ⟨uv, go h4 (fun _ z => by cases z), h5.mono fun _ _ z => z.tk t⟩, h6⟩
theorem deedGL_ok {d : Deed} (h : DeedGL d) : DeedOk d := by
  cases d with
  | tell f => exact bent_good h.1 h.2
  | right n f => exact ⟨bent_good h.1.1 h.1.2, by have := h.2.1; omega, by have := h.2.2; omega⟩
  | strike n => exact ⟨by have := h.1; omega, by have := h.2; omega⟩
/-- what a deed comes to: told by its first word, and what stands behind it is good -/
theorem doF_head {st : Stt} {d : Deed} (ok : StandOk st) (hd : DeedOk d) : ∃ z e, (doF st d).1.ds = [.str z, e] ∧ DOk 5 e ∧ ((z = "" ∧ ∃ s', (doF st d).2 = some s' ∧ StandOk s' ∧ s'.length ≤ st.length + 1) ∨ (z ≠ "" ∧ (doF st d).2 = none)) := by
  have sset : ∀ {n : Int} {o : Option Fct} {g : Fct}, standF st n = some g → (∀ f, o = some f → Bent f ∧ placeF f = none) → StandOk (st.set (n - 1).toNat o) := fun hs ho m g hg => by
    obtain ⟨n1, n2, _⟩ := stand_in hs
    rw [stand_set n1 n2] at hg
    split at hg
    · exact ho g hg
    · exact ok m g hg
  cases d with
  | tell f =>
    cases hp : placeF f with
    | some p =>
      rw [doF_tb hp]
      exact ⟨_, _, rfl, trivial, .inr ⟨by decide +kernel, rfl⟩⟩
    | none =>
      by_cases hl : st.length < 120
      · rw [doF_tg hp hl]
        refine ⟨_, _, rfl, trivial, .inl ⟨rfl, _, rfl, fun m g hg => ?_, by rw [List.length_append]; exact Nat.le_refl _⟩⟩
        rw [stand_snoc] at hg
        split at hg
        · cases hg
          exact ⟨hd, hp⟩
        · exact ok m g hg
      · have : doF st (.tell f) = (.full, none) := by
          unfold doF
          dsimp only
          rw [hp]
          dsimp only
          rw [if_neg hl]
        rw [this]
        exact ⟨_, _, rfl, trivial, .inr ⟨by decide +kernel, rfl⟩⟩
  | right n f =>
    cases hs : standF st n with
    | none =>
      rw [doF_rn hs]
      exact ⟨_, _, rfl, trivial, .inr ⟨by decide +kernel, rfl⟩⟩
    | some g =>
      cases hp : placeF f with
      | some p =>
        rw [doF_rb hs hp]
        exact ⟨_, _, rfl, trivial, .inr ⟨by decide +kernel, rfl⟩⟩
      | none =>
        rw [doF_rg hs hp]
        split
        · refine ⟨_, _, rfl, dok_fct (short_gf (place_gf (ok n g hs).1 (ok n g hs).2)), .inl ⟨rfl, _, rfl, sset hs fun f' e => ?_, by rw [List.length_set]; omega⟩⟩
          cases e
          exact ⟨hd.1, hp⟩
        · exact ⟨_, _, rfl, trivial, .inr ⟨by decide +kernel, rfl⟩⟩
  | strike n =>
    cases hs : standF st n with
    | none =>
      rw [doF_sn hs]
      exact ⟨_, _, rfl, trivial, .inr ⟨by decide +kernel, rfl⟩⟩
    | some g =>
      rw [doF_sg hs]
      exact ⟨_, _, rfl, dok_fct (short_gf (place_gf (ok n g hs).1 (ok n g hs).2)), .inl ⟨rfl, _, rfl, sset hs (fun f' e => by cases e), by rw [List.length_set]; omega⟩⟩
def KeepD (K : PySem.W.Frag) (e : PyData) : Prop := ∀ H H' v, Tk K H H' → Dp K H v e → Dp K H' v e
theorem ds_keep {o : Out} {z : Str} {e : PyData} (h : o.ds = [.str z, e]) : KeepD K e := by
  cases o with
  | num n =>
    cases h
    intro H H' v t hv
    cases hv
    exact .int _
  | fact f =>
    cases h
    intro H H' v t hv
    exact rf_dp (rf_map (fun z => t _ _ z) (dp_rf hv))
  | noFact n =>
    cases h
    intro H H' v t hv
    cases hv
    exact .int _
  | badFact p =>
    cases h
    intro H H' v t hv
    cases hv
    exact .int _
  | other =>
    cases h
    intro H H' v t hv
    cases hv
    exact .non
  | full =>
    cases h
    intro H H' v t hv
    cases hv
    exact .non
theorem step_mem {again : Bool} {sts uns sts' uns' : List Stt} (h : Step again sts uns sts' uns') : (∀ st, st ∈ sts' ∨ st ∈ uns' → st ∈ sts ∨ st ∈ uns) ∧ sts' ≠ [] ∧ sts'.length + uns'.length = sts.length + uns.length := by
  cases again with
  | true =>
    obtain ⟨st, rfl, rfl⟩ := h
    refine ⟨fun x hx => ?_, by simp, by simp; omega⟩
    simp only [List.mem_append, List.mem_singleton] at hx ⊢
    rcases hx with (h | h) | h
    · exact .inl h
    · exact .inr (.inr h)
    · exact .inr (.inl h)
  | false =>
    obtain ⟨st, rfl, hne, rfl⟩ := h
    refine ⟨fun x hx => ?_, hne, by simp; omega⟩
    simp only [List.mem_append, List.mem_singleton] at hx ⊢
    rcases hx with h | h | h
    · exact .inl (.inl h)
    · exact .inr h
    · exact .inl (.inr h)
/-- the law's turn -/
structure At25 (K : PySem.W.Frag) (C : Addr) (H : Hp) (b c r S U X Y : Addr) (N : Nat) (sts uns : List Stt) : Prop where
  bag : Bag H b c
  roll : RollAt K C H r S U sts uns
  x : ∃ dv, H X = some (.lst dv) ∧ All2 (Mod K H) dv sts
  y : ∃ gv, H Y = some (.lst gv) ∧ All2 (Mod K H) gv uns
  ne : sts ≠ []
  ok : ∀ st, st ∈ sts ∨ st ∈ uns → StandOk st ∧ st.length ≤ N
  few : sts.length + uns.length ≤ N + 1
  n1 : b ≠ S ∧ b ≠ U ∧ b ≠ X ∧ b ≠ Y
  n2 : c ≠ S ∧ c ≠ U ∧ c ≠ X ∧ c ≠ Y
  n3 : X ≠ S ∧ X ≠ U ∧ Y ≠ S ∧ Y ≠ U ∧ X ≠ Y
theorem At25.ls {C : Addr} {H : Hp} {b c r S U X Y : Addr} {N : Nat} {sts uns : List Stt} (J : At25 K C H b c r S U X Y N sts uns) : Lsts [S, U, X, Y] H := fun x hx => by
  obtain ⟨_, ⟨_, hS, _⟩, ⟨_, hU, _⟩, _⟩ := J.roll
  obtain ⟨_, hX, _⟩ := J.x
  obtain ⟨_, hY, _⟩ := J.y
  simp only [List.mem_cons, List.not_mem_nil, or_false] at hx
  rcases hx with rfl | rfl | rfl | rfl
  · exact ⟨_, hS⟩
  · exact ⟨_, hU⟩
  · exact ⟨_, hX⟩
  · exact ⟨_, hY⟩
theorem bag_fl {H H' : Hp} {b c : Addr} {L : List Addr} (B : Bag H b c) (f : Fl L H H') (n1 : b ∉ L) (n2 : c ∉ L) : Bag H' b c := by
  obtain ⟨cells, i, big, salt, h1, h2, h3, h4, h5⟩ := B.ex
  exact .mk' (f _ _ n1 h1) (f _ _ n2 h2) h3 h4 h5
theorem At25.frb {C : Addr} {H H' : Hp} {b c r S U X Y : Addr} {N : Nat} {sts uns : List Stt} (J : At25 K C H b c r S U X Y N sts uns) (f : Fr b H H') (B : Bag H' b c) : At25 K C H' b c r S U X Y N sts uns := by
  obtain ⟨ys, hb⟩ := J.bag.getb
  have hL : Lsts [b] H := fun x hx => by
    rw [List.mem_singleton.mp hx]
    exact ⟨_, hb⟩
  have g : Fl [b] H H' := Fr.fl f (by simp)
  obtain ⟨dv, hX, hd⟩ := J.x
  obtain ⟨gv, hY, hg⟩ := J.y
  exact ⟨B, J.roll.fr f hb J.n1.1.symm J.n1.2.1.symm, ⟨dv, f _ _ J.n1.2.2.1.symm hX, hd.mono fun _ _ z => z.fl g hL⟩, ⟨gv, f _ _ J.n1.2.2.2.symm hY, hg.mono fun _ _ z => z.fl g hL⟩, J.ne, J.ok, J.few, J.n1, J.n2, J.n3⟩
theorem At25.ex {C : Addr} {H H' : Hp} {b c r S U X Y : Addr} {N : Nat} {sts uns : List Stt} (J : At25 K C H b c r S U X Y N sts uns) (e : Ex H H') : At25 K C H' b c r S U X Y N sts uns := J.frb (e.fr b) (J.bag.ext e)
theorem At25.up {C : Addr} {H : Hp} {b c r S U X Y : Addr} {N M : Nat} {sts uns : List Stt} (J : At25 K C H b c r S U X Y N sts uns) (h : N ≤ M) : At25 K C H b c r S U X Y M sts uns :=
  ⟨J.bag, J.roll, J.x, J.y, J.ne, fun st hs => ⟨(J.ok st hs).1, Nat.le_trans (J.ok st hs).2 h⟩, by have := J.few; omega, J.n1, J.n2, J.n3⟩
/-- what stands, asked of the last model -/
theorem At25.last {C : Addr} {H : Hp} {b c r S U X Y : Addr} {N : Nat} {sts uns : List Stt} (J : At25 K C H b c r S U X Y N sts uns) : ∃ dv M D st, H X = some (.lst dv) ∧ dv.getLast? = some (.ref M) ∧ ModelAt K H M D st ∧ sts.getLast? = some st ∧ StandOk st ∧ st.length ≤ N ∧ dv.length = sts.length := by
  obtain ⟨dv, hX, hd⟩ := J.x
  obtain ⟨st, hst⟩ : ∃ st, sts.getLast? = some st := by
    cases e : sts.getLast? with
    | none => exact absurd (List.getLast?_eq_none_iff.mp e) J.ne
    | some st => exact ⟨st, rfl⟩
  obtain ⟨v, hv, M, D, rfl, hM⟩ := all2_last hd hst
  obtain ⟨h1, h2⟩ := J.ok st (.inl (List.mem_of_getLast? hst))
  exact ⟨dv, M, D, st, hX, hv, hM, hst, h1, h2, hd.len⟩
/-- the roll's two lists may change -/
theorem At25.told {C : Addr} {H H' : Hp} {b c r S U X Y : Addr} {N : Nat} {sts uns : List Stt} (J : At25 K C H b c r S U X Y N sts uns) (f : Fr2 S U H H') (hR : RollAt K C H' r S U sts uns) : At25 K C H' b c r S U X Y N sts uns := by
  obtain ⟨_, ⟨_, hS, _⟩, ⟨_, hU, _⟩, _⟩ := id J.roll
  have hL : Lsts [S, U] H := fun x hx => by
    simp only [List.mem_cons, List.not_mem_nil, or_false] at hx
    rcases hx with rfl | rfl
    · exact ⟨_, hS⟩
    · exact ⟨_, hU⟩
  have g : Fl [S, U] H H' := Fr2.fl f (by simp) (by simp)
  obtain ⟨dv, hX, hd⟩ := J.x
  obtain ⟨gv, hY, hg⟩ := J.y
  obtain ⟨a1, a2, a3, a4⟩ := J.n1
  obtain ⟨b1, b2, b3, b4⟩ := J.n2
  obtain ⟨c1, c2, c3, c4, c5⟩ := J.n3
  exact ⟨bag_f2 J.bag f a1 a2 b1 b2, hR, ⟨dv, f _ _ c1 c2 hX, hd.mono fun _ _ z => z.fl g hL⟩, ⟨gv, f _ _ c3 c4 hY, hg.mono fun _ _ z => z.fl g hL⟩, J.ne, J.ok, J.few, J.n1, J.n2, J.n3⟩

theorem s_iRng3 {tr : TA} {R : It → Hp → Prop} {σ : L2.St} {H : Hp} (k : tr σ H fun vs H1 => ∃ (i j c : Int) (n : Nat), vs = [.int i, .int j, .int c] ∧ RgC i j c n ∧ R (Itc i c n) H1) : iRng3 tr σ H R := k
theorem l_rangeC {g : TG} {ts : TS} {nx : L2.St → Hp → Prop} {rt : VK} {σ : L2.St} {H : Hp} {lo c : Int} {n : Nat} (Pv : Nat → L2.St → Hp → Prop) (h0 : Pv 0 σ H)
    (hs : ∀ i σ H, i < n → Pv i σ H → g (.int (lo + (i : Nat) * c)) σ H fun σ2 H2 => ts ⟨Pv (i + 1), rt, nx, Pv (i + 1)⟩ σ2 H2) (hd : ∀ σ H, Pv n σ H → nx σ H) : Loops (Itc lo c n) g ts nx rt σ H :=
  for_rangeC (D := ⟨nx, rt, fun _ _ => False, fun _ _ => False⟩) Pv h0 hs hd
theorem rollLs {C r S U : Addr} {H : Hp} {sts uns : List Stt} (h : RollAt K C H r S U sts uns) : Lsts [S, U] H := fun x hx => by
  obtain ⟨_, ⟨_, hS, _⟩, ⟨_, hU, _⟩, _⟩ := h
  simp only [List.mem_cons, List.not_mem_nil, or_false] at hx
  rcases hx with rfl | rfl
  · exact ⟨_, hS⟩
  · exact ⟨_, hU⟩
def paidF (a b c : Int) : Fct := ⟨"paid", [.i a, .i b, .i c]⟩
theorem paid_rf {H : Hp} {q : Addr} {a b c : Int} (h : SqT K H q [.str "paid", .int a, .int b, .int c]) : RF K H (.ref q) (paidF a b c) := ⟨q, _, rfl, h, .cons (.i _) (.cons (.i _) (.cons (.i _) .nil))⟩
theorem paid_bent {a b c : Int} (h1 : R 0 9 a) (h2 : R 0 999 b) (h3 : R 0 100000 c) : Bent (paidF a b c) := bent_good (.paid h1 h2 h3) (fun n m e => by cases e)
theorem stand_tell {st : Stt} {f : Fct} (ok : StandOk st) (hb : Bent f) (hp : placeF f = none) : StandOk (st ++ [some f]) := fun m g hg => by
  rw [stand_snoc] at hg
  split at hg
  · cases hg
    exact ⟨hb, hp⟩
  · exact ok m g hg

/-! a fact's words -/
def iTx (i : Int) : Str := toString i
def argW : Arg → List Str
  | .i n => [iTx n]
  | .t l => l.map iTx
def partsF (f : Fct) : List (List Str) := [f.w] :: f.xs.map argW
def wordsF (f : Fct) : List Str := (partsF f).flatten
def textF (f : Fct) : Str := Txt.join " " (wordsF f)
theorem iTx_len {n : Int} (h : n.natAbs.log2 < 1920) : (iTx n).length ≤ 1921 := PyProof.Rows.int_text_len_1921 h
/-- its words are few and small -/
structure Sml (f : Fct) : Prop where
  num : ∀ n, Arg.i n ∈ f.xs → n.natAbs.log2 < 1920
  tup : ∀ l, Arg.t l ∈ f.xs → l.length ≤ 60 ∧ ∀ n ∈ l, n.natAbs.log2 < 1920
  few : (wordsF f).length ≤ 66
  len : ∀ s ∈ wordsF f, s.length ≤ 1921
def OkA : Arg → Prop
  | .i n => -(2 ^ 200) ≤ n ∧ n ≤ 2 ^ 200
  | .t l => l.length ≤ 60 ∧ ∀ n ∈ l, -(2 ^ 200) ≤ n ∧ n ≤ 2 ^ 200
theorem sml_of {f : Fct} (hw : f.w.length ≤ 1921) (ha : ∀ x ∈ f.xs, OkA x) (hf : (wordsF f).length ≤ 66) : Sml f := by
  refine ⟨fun n hn => log_small (ha _ hn).1 (ha _ hn).2, fun l hl => ⟨(ha _ hl).1, fun n hn => log_small ((ha _ hl).2 n hn).1 ((ha _ hl).2 n hn).2⟩, hf, fun s hs => ?_⟩
  unfold wordsF partsF at hs
  rw [List.flatten_cons, List.mem_append] at hs
  rcases hs with hs | hs
  · rw [List.mem_singleton.mp hs]
    exact hw
  · obtain ⟨l, hl, hs⟩ := List.mem_flatten.mp hs
    obtain ⟨x, hx, rfl⟩ := List.mem_map.mp hl
    cases x with
    | i n =>
      rw [List.mem_singleton.mp hs]
      exact iTx_len (log_small (ha _ hx).1 (ha _ hx).2)
    | t l =>
      obtain ⟨n, hn, rfl⟩ := List.mem_map.mp hs
      exact iTx_len (log_small ((ha _ hx).2 n hn).1 ((ha _ hx).2 n hn).2)
theorem sml_gf {f : Fct} (b : Bent f) (hp : placeF f = none) : Sml f := by
  have g := place_gf b hp
  have sh := short_gf g
  cases g with
  | toll h1 h2 h3 =>
    obtain ⟨⟨a1, a2⟩, ⟨a3, a4⟩, ⟨a5, a6⟩⟩ := And.intro h1 (And.intro h2 h3)
    exact sml_of (by dsimp only; decide +kernel) (by simp only [List.forall_mem_cons, OkA]; exact ⟨⟨by omega, by omega⟩, ⟨by omega, by omega⟩, ⟨by omega, by omega⟩, fun _ h => by cases h⟩) (by simp [wordsF, partsF, argW])
  | @board g d gs h1 h2 h3 h4 =>
    obtain ⟨⟨a1, a2⟩, ⟨a3, a4⟩⟩ := And.intro h1 h2
    have hl := sh.2 gs (by simp)
    exact sml_of (by dsimp only; decide +kernel) (by simp only [List.forall_mem_cons, OkA]; exact ⟨⟨by omega, by omega⟩, ⟨by omega, by omega⟩, ⟨hl, fun n hn => by have := h4 n hn; exact ⟨by have := this.1; omega, by have := this.2; omega⟩⟩, fun _ h => by cases h⟩) (by simp [wordsF, partsF, argW]; omega)
  | trust h1 h2 h3 =>
    obtain ⟨⟨a1, a2⟩, ⟨a3, a4⟩, ⟨a5, a6⟩⟩ := And.intro h1 (And.intro h2 h3)
    exact sml_of (by dsimp only; decide +kernel) (by simp only [List.forall_mem_cons, OkA]; exact ⟨⟨by omega, by omega⟩, ⟨by omega, by omega⟩, ⟨by omega, by omega⟩, fun _ h => by cases h⟩) (by simp [wordsF, partsF, argW])
  | folk h1 h2 h3 =>
    obtain ⟨⟨a1, a2⟩, ⟨a3, a4⟩, ⟨a5, a6⟩⟩ := And.intro h1 (And.intro h2 h3)
    exact sml_of (by dsimp only; decide +kernel) (by simp only [List.forall_mem_cons, OkA]; exact ⟨⟨by omega, by omega⟩, ⟨by omega, by omega⟩, ⟨by omega, by omega⟩, fun _ h => by cases h⟩) (by simp [wordsF, partsF, argW])
  | bargain h1 h2 h3 h4 =>
    obtain ⟨⟨a1, a2⟩, ⟨a3, a4⟩, ⟨a5, a6⟩, ⟨a7, a8⟩⟩ := And.intro h1 (And.intro h2 (And.intro h3 h4))
    exact sml_of (by dsimp only; decide +kernel) (by simp only [List.forall_mem_cons, OkA]; exact ⟨⟨by omega, by omega⟩, ⟨by omega, by omega⟩, ⟨by omega, by omega⟩, ⟨by omega, by omega⟩, fun _ h => by cases h⟩) (by simp [wordsF, partsF, argW])
  | pass h1 h2 h3 h4 h5 =>
    obtain ⟨⟨a1, a2⟩, ⟨a3, a4⟩, ⟨a5, a6⟩, ⟨a7, a8⟩, ⟨a9, a0⟩⟩ := And.intro h1 (And.intro h2 (And.intro h3 (And.intro h4 h5)))
    exact sml_of (by dsimp only; decide +kernel) (by simp only [List.forall_mem_cons, OkA]; exact ⟨⟨by omega, by omega⟩, ⟨by omega, by omega⟩, ⟨by omega, by omega⟩, ⟨by omega, by omega⟩, ⟨by omega, by omega⟩, fun _ h => by cases h⟩) (by simp [wordsF, partsF, argW])
  | @lost n m h1 h2 =>
    obtain ⟨a3, a4⟩ := h2
    obtain ⟨_, a1, a2⟩ := b.suits ["number", "minute"] (by dsimp only; decide +kernel) rfl 0 _ (.i n) rfl rfl
    exact sml_of (by dsimp only; decide +kernel) (by simp only [List.forall_mem_cons, OkA]; exact ⟨⟨by omega, by omega⟩, ⟨by omega, by omega⟩, fun _ h => by cases h⟩) (by simp [wordsF, partsF, argW])
  | paid h1 h2 h3 =>
    obtain ⟨⟨a1, a2⟩, ⟨a3, a4⟩, ⟨a5, a6⟩⟩ := And.intro h1 (And.intro h2 h3)
    exact sml_of (by dsimp only; decide +kernel) (by simp only [List.forall_mem_cons, OkA]; exact ⟨⟨by omega, by omega⟩, ⟨by omega, by omega⟩, ⟨by omega, by omega⟩, fun _ h => by cases h⟩) (by simp [wordsF, partsF, argW])
theorem sum_le {ys : List Str} {m : Nat} (h : ∀ s ∈ ys, s.length ≤ m) : (ys.map (·.length)).sum ≤ ys.length * m := by
  induction ys with
  | nil => exact Nat.zero_le _
  | cons y ys ih =>
    have h1 := h y List.mem_cons_self
    have h2 := ih fun s hs => h s (List.mem_cons_of_mem _ hs)
    rw [List.map_cons, List.sum_cons, List.length_cons, Nat.succ_mul]
    omega
theorem fds_at {H : Hp} : ∀ {vs : List V} {xs : List Arg} {i : Nat} {x : V}, FDs K H vs xs → vs[i]? = some x → ∃ y, xs[i]? = some y ∧ FD K H x y
  | _, _, 0, _, .cons a _, e => by
    cases e
    exact ⟨_, rfl, a⟩
  | _, _, i + 1, _, .cons _ r, e => by
    obtain ⟨y, h1, h2⟩ := fds_at (i := i) r (by simpa using e)
    exact ⟨y, by simpa using h1, h2⟩
theorem flat_take {α : Type} {xs : List (List α)} {i : Nat} {p : List α} (h : xs[i]? = some p) : (xs.take (i + 1)).flatten = (xs.take i).flatten ++ p := by
  rw [List.take_succ, h]
  show (xs.take i ++ [p]).flatten = _
  rw [List.flatten_append, List.flatten_cons, List.flatten_nil, List.append_nil]
theorem flat_le {α : Type} {xs : List (List α)} {i : Nat} : (xs.take i).flatten.length ≤ xs.flatten.length := by
  conv => rhs; rw [← List.take_append_drop i xs, List.flatten_append, List.length_append]
  omega
theorem flat_mem_le {α : Type} {xs : List (List α)} {p : List α} (h : p ∈ xs) : p.length ≤ xs.flatten.length := by
  obtain ⟨a, b, rfl⟩ := List.append_of_mem h
  rw [List.flatten_append, List.flatten_cons, List.length_append, List.length_append]
  omega
theorem ints_text {H : Hp} : ∀ {l : List Int} {i : Nat} {x : V}, (l.map V.int)[i]? = some x → ∃ n, l[i]? = some n ∧ x = .int n := fun {l i x} h => by
  rw [List.getElem?_map] at h
  obtain ⟨n, hn, rfl⟩ := Option.map_eq_some_iff.mp h
  exact ⟨n, hn, rfl⟩
/-- the text of a fact -/
def spText (K : PySem.W.Frag) : Sp := fun vs H Q _ => ∃ (v : V) (f : Fct), vs = [v] ∧ RF K H v f ∧ Sml f ∧ ∀ H', Ex H H' → Q (.str (textF f)) H'
theorem sc_p_fact_text : FnScope ["fact", "words", "thing", "number"] ["fact"] (defScope s_p_fact_text) :=
  ⟨rfl, rfl, rfl, by decide +kernel, rfl, by decide +kernel, by decide +kernel⟩
theorem ok_p_fact_text (T : Tx P K mg w) : FnOk P w K mg base CX0 1 T.f_p_fact_text T.d_p_fact_text ["fact"] (spText K) := by
  refine T.F_p_fact_text.ok sc_p_fact_text (fun vs H Q E h => ?_) (fun cdv A outer s H vs Q E hr h => ?_)
  · obtain ⟨v, f, rfl, _⟩ := h
    rfl
  · obtain ⟨v, f, rfl, ⟨a, us, rfl, ha, hus⟩, hs, k⟩ := h
    have hlu := fds_len hus
    refine ⟨_, (pss_cons (ps_set (i := 1) sc_p_fact_text.nd rfl (Or.inl rfl) (pe_lst pa_nil)) (pss_cons (ps_for PassesOwn.never rfl (pi_tup (pv 0)) (pg_name (i := 2) sc_p_fact_text.nd rfl (Or.inl rfl)) (pss_one (ps_if (pt_val (pe_callB (r := rIsi K) call_isi (by rfl) T.z_isinstance (by decide +kernel) (pa_cons (pv 2) (pa_cons (pe_bltn (v := .ty "tuple") rfl T.z_tuple (by decide +kernel) rfl) pa_nil)))) (pss_one (ps_expr (pe_bm PySem.F.plainAttrs_list PySem.F.slot_list_extend PySem.F.type_list_extend mt_extend (pv 1) (pa_cons (pe_lc (own := [("number", 3)]) (by rfl) sc_p_fact_text.nd (pi_tup (pv 2)) (blkOk_by (own := [("number", 3)]) (N := ["fact", "words", "thing", "number"]) (sc := defScope s_p_fact_text) (by decide +kernel)) (fun _ _ _ _ _ => (pg_name (i := 3) sc_p_fact_text.nd rfl (Or.inl rfl))) (fun _ _ _ _ _ => pts_nil) (fun _ _ _ _ _ => (pe_callTy cz_strInt (by rfl) T.z_str (by decide +kernel) (pa_cons (pv 3) pa_nil)))) pa_nil)))) (pss_one (ps_expr (pe_bm PySem.F.plainAttrs_list PySem.F.slot_list_append PySem.F.type_list_append mt_append (pv 1) (pa_cons (pe_callTy cr_strB (by rfl) T.z_str (by decide +kernel) (pa_cons (pv 2) pa_nil)) pa_nil))))))) (pss_one (ps_ret (pe_m1 (r := rJoin K) PySem.F.slot_str_join PySem.F.type_str_join mz_join pe_str (pv 1)))))), ?_⟩
    refine at_start (ρ' := [some _, none, none, none]) rfl ?_
    walk_at "z0"
    walk_at "z"
    rename_i q H1 nq e1 hq
    refine l_tup (.str f.w :: us) (fun i σ H' => ∃ v2 v3, σ = [some (.ref a), some (.ref q), v2, v3] ∧ Ex H H' ∧ H' q = some (.lst ((((partsF f).take i).flatten).map V.str))) ⟨_, _, rfl, e1, hq⟩ (fun i σ H' _ h => h.choose_spec.choose_spec.2.1.sqT ha) (fun i x σ H2 hx h => ?_) (fun σ H2 h => ?_)
    · obtain ⟨v2, v3, rfl, e2, hq2⟩ := h
      have hfl : ((partsF f).take i).flatten.length ≤ 66 := Nat.le_trans flat_le hs.few
      obtain ⟨p, hp, hpx⟩ : ∃ p, (partsF f)[i]? = some p ∧ ((∃ z, x = .str z ∧ p = [z]) ∨ ∃ y, y ∈ f.xs ∧ FD K H x y ∧ p = argW y) := by
        cases i with
        | zero =>
          cases hx
          exact ⟨_, rfl, .inl ⟨_, rfl, rfl⟩⟩
        | succ j =>
          obtain ⟨y, h1, h2⟩ := fds_at hus (by simpa using hx)
          refine ⟨argW y, by unfold partsF; rw [List.getElem?_cons_succ, List.getElem?_map, h1]; rfl, .inr ⟨y, List.mem_of_getElem? h1, h2, rfl⟩⟩
      have hnx := flat_take hp
      rcases hpx with ⟨z, rfl, rfl⟩ | ⟨y, hy, hd, rfl⟩
      · walk_at "z"
        refine s_strBS ?_
        walk_at "z"
        refine s_app hq2 (szl (by rw [List.length_map]; omega)) fun H3 f3 hq3 => ?_
        walk_at "z"
        exact ⟨_, _, rfl, e2.fr2 nq f3, by rw [hnx, List.map_append]; exact hq3⟩
      · cases hd with
        | i n =>
          walk_at "z"
          refine s_strBI (hs.num n hy) ?_
          walk_at "z"
          refine s_app hq2 (szl (by rw [List.length_map]; omega)) fun H3 f3 hq3 => ?_
          walk_at "z"
          exact ⟨_, _, rfl, e2.fr2 nq f3, by rw [hnx, List.map_append]; exact hq3⟩
        | @t b l hb =>
          obtain ⟨hl1, hl2⟩ := hs.tup l hy
          have hb2 := e2.sqT hb
          walk_at "z"
          refine c_tup (l.map V.int) hb2 (fun D H' => H2 D = none ∧ Ex H2 H') (fun D i acc H' => acc = (((l.take i).map iTx).map V.str)) (fun D H' n e _ => ⟨⟨n, e⟩, rfl⟩) (fun D H' Iv => Iv.2.sqT hb2) (fun D j acc H3 x hx Iv hD hn r => ?_) (fun D acc H3 Iv hD hn r => ?_)
          · obtain ⟨nD, e3⟩ := Iv
            obtain ⟨n, hn1, rfl⟩ := ints_text (H := H3) hx
            have hj := (List.getElem?_eq_some_iff.mp hn1).1
            walk_at "z"
            refine ⟨rfl, ?_⟩
            walk_at "z"
            refine s_rStrInt (hl2 n (List.mem_of_getElem? hn1)) ?_
            refine c_put hD ⟨hn, by omega⟩ fun H4 f4 _ => ⟨⟨nD, e3.fr2 nD f4⟩, ?_⟩
            rw [r, List.take_succ, hn1, List.map_append, List.map_append]
            rfl
          · obtain ⟨nD, e3⟩ := Iv
            rw [List.length_map, List.take_length] at r
            subst r
            walk_at "z"
            refine s_extend (e3 _ _ hq2) hD (sz (by rw [List.length_map, List.length_map, List.length_map]; omega)) fun H4 f4 hq4 => ?_
            walk_at "z"
            exact ⟨_, _, rfl, (e2.trans e3).fr2 nq f4, by rw [hnx, List.map_append]; exact hq4⟩
    · obtain ⟨v2, v3, rfl, e2, hq2⟩ := h
      rw [List.take_of_length_le (by unfold partsF; rw [List.length_cons, List.length_map, List.length_cons]; omega)] at hq2
      have hsum := sum_le hs.len
      have hf := hs.few
      walk_at "z"
      refine s_rJoin (wordsF f) (.inl (SqL.of hq2)) rfl ?_ ?_
      · have h1 : (wordsF f).length * 1921 ≤ 66 * 1921 := Nat.mul_le_mul_right _ hf
        have h2 : (Str.ofString " ").length = 1 := by decide +kernel
        rw [h2]
        omega
      · exact k _ e2
theorem textF_len {f : Fct} (h : Sml f) : (textF f).length ≤ 66 * 1922 := by
  have h1 := joinT_len " " (wordsF f)
  have h2 := sum_le h.len
  have h3 := h.few
  rw [show (Str.ofString " ").length = 1 from by decide +kernel] at h1
  show (Txt.join " " (wordsF f)).length ≤ _
  have h4 : (wordsF f).length * 1921 ≤ 66 * 1921 := Nat.mul_le_mul_right _ h3
  omega
def rowT (p : Int × Fct) : Str := iTx p.1 ++ " " ++ textF p.2 ++ "\n"
def pageT (st : Stt) : Str := Txt.join "" ((pairsS 1 st).map rowT)
theorem line16 : 16777216 ≤ sizeLine := by decide
theorem sp_len : (Str.ofString " ").length = 1 := by decide +kernel
theorem nl_len : (Str.ofString "\n").length = 1 := by decide +kernel
theorem rowT_len {p : Int × Fct} (h1 : p.1.natAbs.log2 < 1920) (h2 : Sml p.2) : (rowT p).length ≤ 128775 := by
  have a := iTx_len h1
  have b := textF_len h2
  unfold rowT
  rw [Str_len_app, Str_len_app, Str_len_app, sp_len, nl_len]
  omega
theorem rows_sum {st : Stt} (hz : st.length ≤ 120) (hs : ∀ n g, standF st n = some g → Sml g) : (((pairsS 1 st).map rowT).map (·.length)).sum + ((pairsS 1 st).map rowT).length * (Str.ofString "").length ≤ 16777216 := by
  have h1 := sum_le (ys := (pairsS 1 st).map rowT) (m := 128775) fun s hs' => by
    obtain ⟨p, hp, rfl⟩ := List.mem_map.mp hs'
    have h := pairs_mem.mp hp
    obtain ⟨a, b, _⟩ := stand_in h
    exact rowT_len (log_small (by omega) (by omega)) (hs _ _ h)
  have h2 := pairs_len st 1
  rw [show (Str.ofString "").length = 0 from by decide +kernel, Nat.mul_zero]
  rw [List.length_map] at h1
  have h3 : (pairsS 1 st).length * 128775 ≤ 120 * 128775 := Nat.mul_le_mul_right _ (by omega)
  omega
/-- the page of a roll -/
def spPage (K : PySem.W.Frag) (C : Addr) : Sp := fun vs H Q _ => ∃ (r S U : Addr) (st : Stt) (sts uns : List Stt), vs = [.ref r] ∧ RollAt K C H r S U sts uns ∧ sts.getLast? = some st ∧ st.length ≤ 120 ∧ (∀ n g, standF st n = some g → Sml g) ∧ ∀ H', Ex H H' → Q (.str (pageT st)) H'
theorem sc_p_page_of : FnScope ["roll", "number", "fact"] ["roll"] (defScope s_p_page_of) :=
  ⟨rfl, rfl, rfl, by decide +kernel, rfl, by decide +kernel, by decide +kernel⟩
theorem ok_p_page_of (T : Tx P K mg w) : FnOk P w K mg base CX0 2 T.f_p_page_of T.d_p_page_of ["roll"] (spPage K T.C_Roll) := by
  refine T.F_p_page_of.ok sc_p_page_of (fun vs H Q E h => ?_) (fun cdv A outer s H vs Q E hr h => ?_)
  · obtain ⟨r, S, U, st, sts, uns, rfl, _⟩ := h
    rfl
  · obtain ⟨r, S, U, st, sts, uns, rfl, hR, hl, hz, hs, k⟩ := h
    obtain ⟨dx, h1⟩ := id hR.ob
    have hpl := pairs_len st 1
    refine ⟨_, (pss_one (ps_ret (pe_m1 (r := rJoin K) PySem.F.slot_str_join PySem.F.type_str_join mz_join pe_str (pe_lc (own := [("number", 1), ("fact", 2)]) (by rfl) sc_p_page_of.nd (pi_list (pe_meth0 (pv 0) T.cls_Roll ⟨T.at_c_Roll_facts, T.fn_c_Roll_facts, T.F_c_Roll_facts.kp⟩ (ok_c_Roll_facts T) (hr.mono (by decide)) T.b_c_Roll_facts .nil pass0)) (blkOk_by (own := [("number", 1), ("fact", 2)]) (N := ["roll", "number", "fact"]) (sc := defScope s_p_page_of) (by decide +kernel)) (fun _ _ _ _ _ => (pg_tupK (K := K) 2 rfl (by rfl) (pgs_cons (pg_name (i := 1) sc_p_page_of.nd rfl (Or.inl rfl)) (pgs_cons (pg_name (i := 2) sc_p_page_of.nd rfl (Or.inl rfl)) pgs_nil)))) (fun _ _ _ _ _ => pts_nil) (fun _ _ _ _ _ => (pz_fstr (PJ.cons (pe_fmt (pv 1)) (PJ.cons pe_str (PJ.cons (pe_fmt (pe_call (ok_p_fact_text T) (hr.mono (by decide)) rfl T.g_p_fact_text T.F_p_fact_text.kp T.b_p_fact_text .nil pass0 (pa_cons (pv 2) pa_nil))) (PJ.cons pe_str PJ.nil)))))))))), ?_⟩
    refine at_start (ρ' := [some _, none, none]) rfl ?_
    walk_at "z0"
    walk_at "z"
    refine s_meth24 ?_
    walk_at "z"
    refine ⟨r, dx, _, rfl, h1, rfl, ?_⟩
    walk_at "z"
    refine ⟨r, S, U, st, sts, uns, rfl, hR, hl, by omega, fun p vs H1 np e1 hp hvs => ?_⟩
    walk_at "z"
    have hvl := rfs_len hvs
    refine c_list vs (SqL.of hp) (fun D H' => H1 D = none ∧ Ex H1 H') (fun D i acc H' => acc = ((((pairsS 1 st).take i).map rowT).map V.str)) (fun D H' n e _ => ⟨⟨n, e⟩, rfl⟩) (fun D H' Iv => SqL.of (Iv.2 _ _ hp)) (fun D i acc H2 x hx Iv hD hn r => ?_) (fun D acc H2 Iv hD hn r => ?_)
    · obtain ⟨nD, e2⟩ := Iv
      obtain ⟨q, n, v, f, hpi, rfl, hq, hrf⟩ := rfs_get hvs hx
      have hst := pairs_mem.mp (List.mem_of_getElem? hpi)
      have hi : i < (pairsS 1 st).length := (List.getElem?_eq_some_iff.mp hpi).1
      obtain ⟨n1, n2, _⟩ := stand_in hst
      have hsm := hs n f hst
      have hlog := log_small (n := n) (by omega) (by omega)
      have hil := iTx_len hlog
      have htl := textF_len hsm
      have h16 := line16
      refine s_gTup (e2.sqT hq) rfl ?_
      walk_at "z"
      refine ⟨rfl, ?_⟩
      walk_at "z"
      refine s_fmtI hlog ?_
      refine s_jsV (by rw [Str_empty_app]; exact Nat.le_trans hil (by omega)) ?_
      rw [Str_empty_app]
      walk_at "z"
      refine s_jsV (by rw [Str_len_app, sp_len]; show (iTx n).length + 1 ≤ _; omega) ?_
      walk_at "z"
      refine ⟨v, f, rfl, rf_ex e2 hrf, hsm, fun H3 e3 => ?_⟩
      refine s_fmtS (by omega) ?_
      refine s_jsV (by rw [Str_len_app, Str_len_app, sp_len]; show (iTx n).length + 1 + _ ≤ _; omega) ?_
      walk_at "z"
      refine s_jsV (by rw [Str_len_app, Str_len_app, Str_len_app, sp_len, nl_len]; show (iTx n).length + 1 + _ + 1 ≤ _; omega) ?_
      walk_at "z"
      refine c_put (e3 _ _ hD) ⟨hn, by omega⟩ fun H4 f4 _ => ⟨⟨nD, (e2.trans e3).fr2 nD f4⟩, ?_⟩
      rw [r, List.take_succ, hpi, List.map_append, List.map_append]
      rfl
    · obtain ⟨nD, e2⟩ := Iv
      rw [hvl, List.take_length] at r
      subst r
      refine s_rJoin ((pairsS 1 st).map rowT) (.inl (SqL.of hD)) rfl (rows_sum hz hs) ?_
      exact k _ (e1.trans e2)

/-! the law's own page -/
theorem sc_l_text : FnScope ["_law_fact_here", "_law_words", "_law_part", "_law_one"] ["_law_fact_here"] (defScope s_l_text) :=
  ⟨rfl, rfl, rfl, by decide +kernel, rfl, by decide +kernel, by decide +kernel⟩
theorem ok_l_text (T : Tx P K mg w) : FnOk P w K mg base CX0 1 T.f_l_text T.d_l_text ["_law_fact_here"] (spText K) := by
  refine T.F_l_text.ok sc_l_text (fun vs H Q E h => ?_) (fun cdv A outer s H vs Q E hr h => ?_)
  · obtain ⟨v, f, rfl, _⟩ := h
    rfl
  · obtain ⟨v, f, rfl, ⟨a, us, rfl, ha, hus⟩, hs, k⟩ := h
    have hlu := fds_len hus
    refine ⟨_, (pss_cons (ps_set (i := 1) sc_l_text.nd rfl (Or.inl rfl) (pe_lst pa_nil)) (pss_cons (ps_for PassesOwn.never rfl (pi_tup (pv 0)) (pg_name (i := 2) sc_l_text.nd rfl (Or.inl rfl)) (pss_one (ps_expr (pe_bm PySem.F.plainAttrs_list PySem.F.slot_list_extend PySem.F.type_list_extend mt_extend (pv 1) (pa_cons (pe_ifExp (pt_val (pe_callB (r := rIsi K) call_isi (by rfl) T.z_isinstance (by decide +kernel) (pa_cons (pv 2) (pa_cons (pe_bltn (v := .ty "tuple") rfl T.z_tuple (by decide +kernel) rfl) pa_nil)))) (pe_lc (own := [("_law_one", 3)]) (by rfl) sc_l_text.nd (pi_tup (pv 2)) (blkOk_by (own := [("_law_one", 3)]) (N := ["_law_fact_here", "_law_words", "_law_part", "_law_one"]) (sc := defScope s_l_text) (by decide +kernel)) (fun _ _ _ _ _ => (pg_name (i := 3) sc_l_text.nd rfl (Or.inl rfl))) (fun _ _ _ _ _ => pts_nil) (fun _ _ _ _ _ => (pe_callTy cz_strInt (by rfl) T.z_str (by decide +kernel) (pa_cons (pv 3) pa_nil)))) (pe_lst (pa_cons (pe_callTy cr_strB (by rfl) T.z_str (by decide +kernel) (pa_cons (pv 2) pa_nil)) pa_nil))) pa_nil))))) (pss_one (ps_ret (pe_m1 (r := rJoin K) PySem.F.slot_str_join PySem.F.type_str_join mz_join pe_str (pv 1)))))), ?_⟩
    refine at_start (ρ' := [some _, none, none, none]) rfl ?_
    walk_at "z0"
    walk_at "z"
    rename_i q H1 nq e1 hq
    refine l_tup (.str f.w :: us) (fun i σ H' => ∃ v2 v3, σ = [some (.ref a), some (.ref q), v2, v3] ∧ Ex H H' ∧ H' q = some (.lst ((((partsF f).take i).flatten).map V.str))) ⟨_, _, rfl, e1, hq⟩ (fun i σ H' _ h => h.choose_spec.choose_spec.2.1.sqT ha) (fun i x σ H2 hx h => ?_) (fun σ H2 h => ?_)
    · obtain ⟨v2, v3, rfl, e2, hq2⟩ := h
      have hfl : ((partsF f).take i).flatten.length ≤ 66 := Nat.le_trans flat_le hs.few
      obtain ⟨p, hp, hpx⟩ : ∃ p, (partsF f)[i]? = some p ∧ ((∃ z, x = .str z ∧ p = [z]) ∨ ∃ y, y ∈ f.xs ∧ FD K H x y ∧ p = argW y) := by
        cases i with
        | zero =>
          cases hx
          exact ⟨_, rfl, .inl ⟨_, rfl, rfl⟩⟩
        | succ j =>
          obtain ⟨y, h1, h2⟩ := fds_at hus (by simpa using hx)
          refine ⟨argW y, by unfold partsF; rw [List.getElem?_cons_succ, List.getElem?_map, h1]; rfl, .inr ⟨y, List.mem_of_getElem? h1, h2, rfl⟩⟩
      have hnx := flat_take hp
      rcases hpx with ⟨z, rfl, rfl⟩ | ⟨y, hy, hd, rfl⟩
      · walk_at "z"
        refine s_strBS ?_
        walk_at "z"
        rename_i D H3 nD e3 hD
        refine s_extend (e3 _ _ hq2) hD (sz (by rw [List.length_map]; show _ + 1 ≤ _; omega)) fun H4 f4 hq4 => ?_
        walk_at "z"
        exact ⟨_, _, rfl, (e2.trans e3).fr2 nq f4, by rw [hnx, List.map_append]; exact hq4⟩
      · cases hd with
        | i n =>
          walk_at "z"
          refine s_strBI (hs.num n hy) ?_
          walk_at "z"
          rename_i D H3 nD e3 hD
          refine s_extend (e3 _ _ hq2) hD (sz (by rw [List.length_map]; show _ + 1 ≤ _; omega)) fun H4 f4 hq4 => ?_
          walk_at "z"
          exact ⟨_, _, rfl, (e2.trans e3).fr2 nq f4, by rw [hnx, List.map_append]; exact hq4⟩
        | @t b l hb =>
          obtain ⟨hl1, hl2⟩ := hs.tup l hy
          have hb2 := e2.sqT hb
          walk_at "z"
          refine c_tup (l.map V.int) hb2 (fun D H' => H2 D = none ∧ Ex H2 H') (fun D i acc H' => acc = (((l.take i).map iTx).map V.str)) (fun D H' n e _ => ⟨⟨n, e⟩, rfl⟩) (fun D H' Iv => Iv.2.sqT hb2) (fun D j acc H3 x hx Iv hD hn r => ?_) (fun D acc H3 Iv hD hn r => ?_)
          · obtain ⟨nD, e3⟩ := Iv
            obtain ⟨n, hn1, rfl⟩ := ints_text (H := H3) hx
            have hj := (List.getElem?_eq_some_iff.mp hn1).1
            walk_at "z"
            refine ⟨rfl, ?_⟩
            walk_at "z"
            refine s_rStrInt (hl2 n (List.mem_of_getElem? hn1)) ?_
            refine c_put hD ⟨hn, by omega⟩ fun H4 f4 _ => ⟨⟨nD, e3.fr2 nD f4⟩, ?_⟩
            rw [r, List.take_succ, hn1, List.map_append, List.map_append]
            rfl
          · obtain ⟨nD, e3⟩ := Iv
            rw [List.length_map, List.take_length] at r
            subst r
            walk_at "z"
            refine s_extend (e3 _ _ hq2) hD (sz (by rw [List.length_map, List.length_map, List.length_map]; omega)) fun H4 f4 hq4 => ?_
            walk_at "z"
            exact ⟨_, _, rfl, (e2.trans e3).fr2 nq f4, by rw [hnx, List.map_append]; exact hq4⟩
    · obtain ⟨v2, v3, rfl, e2, hq2⟩ := h
      rw [List.take_of_length_le (by unfold partsF; rw [List.length_cons, List.length_map, List.length_cons]; omega)] at hq2
      have hsum := sum_le hs.len
      have hf := hs.few
      walk_at "z"
      refine s_rJoin (wordsF f) (.inl (SqL.of hq2)) rfl ?_ ?_
      · have h1 : (wordsF f).length * 1921 ≤ 66 * 1921 := Nat.mul_le_mul_right _ hf
        rw [sp_len]
        omega
      · exact k _ e2

/-! pages read again -/
def NumOk (n : Int) : Prop := 0 ≤ n ∧ n < 10 ^ 30
theorem num_of {n : Int} (h : NumOk n) : ∃ m : Nat, n = (m : Nat) ∧ m < 10 ^ 30 := ⟨n.toNat, by have := h.1; omega, by have := h.1; have := h.2; omega⟩
theorem iTx_len30 {n : Int} (h : NumOk n) : (iTx n).length ≤ 30 := by
  obtain ⟨m, rfl, hm⟩ := num_of h
  show (Str.ofString (toString ((m : Nat) : Int))).length ≤ 30
  rw [TL.len_tl, TL.tl_num]
  exact TL.numL_len (by decide) hm
theorem iTx_read {n : Int} (h : NumOk n) : PySem.intText? (iTx n) = some n := by
  obtain ⟨m, rfl, hm⟩ := num_of h
  exact TL.int_num (Nat.le_trans (TL.numL_len (k := 30) (by decide) hm) (by decide))
theorem iTx_free {n : Int} (h : NumOk n) {c : Nat} (hc : c < 48 ∨ 57 < c) : c ∉ TL.tl (iTx n) := by
  obtain ⟨m, rfl, hm⟩ := num_of h
  show c ∉ TL.tl (Str.ofString (toString ((m : Nat) : Int)))
  rw [TL.tl_num]
  exact TL.numL_free hc
def argNs : Arg → List Int
  | .i n => [n]
  | .t l => l
def nsF (f : Fct) : List Int := (f.xs.map argNs).flatten
theorem words_ns (f : Fct) : wordsF f = f.w :: (nsF f).map iTx := by
  have e : argW = (fun x => (argNs x).map iTx) := funext fun x => by cases x <;> rfl
  unfold wordsF partsF nsF
  rw [List.flatten_cons, List.map_flatten, List.map_map, e]
  rfl
def ShapeR (f : Fct) : Prop := (∃ (ks : List Str) (ns : List Int) (k : Str), f.xs = ns.map Arg.i ∧ shapeOf f.w = some ks ∧ ks.length = ns.length ∧ ks.getLast? = some k ∧ k ≠ "gates") ∨ (∃ (a d : Int) (gs : List Int), f = ⟨"board", [.i a, .i d, .t gs]⟩)
/-- what a page can hold -/
structure ReadOk (f : Fct) : Prop where
  shp : ShapeR f
  nums : ∀ n ∈ nsF f, NumOk n
  word : f.w ∈ wordsOf
  free : ∀ c, c = 32 ∨ c = 10 → c ∉ TL.tl f.w
  sml : Sml f
theorem word_free {f : Fct} (g : GF f) {c : Nat} (hc : c = 32 ∨ c = 10) : c ∉ TL.tl f.w := by
  cases g <;> (rcases hc with rfl | rfl <;> (dsimp only; decide +kernel))
/-- numbers alone, or a board -/
theorem shape_gf {f : Fct} (g : GF f) : ShapeR f := by
  cases g with
  | @toll a1 a2 a3 h1 h2 h3 => exact .inl ⟨["gate", "day", "toll"], [a1, a2, a3], "toll", rfl, by dsimp only; decide +kernel, rfl, rfl, by decide +kernel⟩
  | @board a1 a2 gs h1 h2 h3 h4 => exact .inr ⟨a1, a2, gs, rfl⟩
  | @trust a1 a2 a3 h1 h2 h3 => exact .inl ⟨["gate", "day", "trust"], [a1, a2, a3], "trust", rfl, by dsimp only; decide +kernel, rfl, rfl, by decide +kernel⟩
  | @folk a1 a2 a3 h1 h2 h3 => exact .inl ⟨["carriage", "day", "day"], [a1, a2, a3], "day", rfl, by dsimp only; decide +kernel, rfl, rfl, by decide +kernel⟩
  | @bargain a1 a2 a3 a4 h1 h2 h3 h4 => exact .inl ⟨["gate", "carriage", "day", "day"], [a1, a2, a3, a4], "day", rfl, by dsimp only; decide +kernel, rfl, rfl, by decide +kernel⟩
  | @pass a1 a2 a3 a4 a5 h1 h2 h3 h4 h5 => exact .inl ⟨["day", "minute", "gate", "carriage", "horses"], [a1, a2, a3, a4, a5], "horses", rfl, by dsimp only; decide +kernel, rfl, rfl, by decide +kernel⟩
  | @lost n m h1 h2 => exact .inl ⟨["number", "minute"], [n, m], "minute", rfl, by dsimp only; decide +kernel, rfl, rfl, by decide +kernel⟩
  | @paid a1 a2 a3 h1 h2 h3 => exact .inl ⟨["carriage", "day", "payment"], [a1, a2, a3], "payment", rfl, by dsimp only; decide +kernel, rfl, rfl, by decide +kernel⟩
theorem read_gf {f : Fct} (b : Bent f) (hp : placeF f = none) : ReadOk f := by
  have g := place_gf b hp
  refine ⟨shape_gf g, ?_, b.word, fun c hc => word_free g hc, sml_gf b hp⟩
  cases g with
  | @toll a1 a2 a3 h1 h2 h3 =>
    show ∀ n ∈ [a1, a2, a3], NumOk n
    obtain ⟨⟨_, _⟩, ⟨_, _⟩, ⟨_, _⟩⟩ := And.intro h1 (And.intro h2 h3)
    simp only [List.forall_mem_cons, NumOk]
    exact ⟨⟨by omega, by omega⟩, ⟨by omega, by omega⟩, ⟨by omega, by omega⟩, fun _ h => by cases h⟩
  | @board a1 a2 gs h1 h2 h3 h4 =>
    show ∀ n ∈ a1 :: a2 :: (gs ++ []), NumOk n
    obtain ⟨⟨_, _⟩, ⟨_, _⟩⟩ := And.intro h1 h2
    rw [List.append_nil]
    simp only [List.forall_mem_cons]
    exact ⟨⟨by omega, by omega⟩, ⟨by omega, by omega⟩, fun n hn => ⟨(h4 n hn).1, by have := (h4 n hn).2; omega⟩⟩
  | @trust a1 a2 a3 h1 h2 h3 =>
    show ∀ n ∈ [a1, a2, a3], NumOk n
    obtain ⟨⟨_, _⟩, ⟨_, _⟩, ⟨_, _⟩⟩ := And.intro h1 (And.intro h2 h3)
    simp only [List.forall_mem_cons, NumOk]
    exact ⟨⟨by omega, by omega⟩, ⟨by omega, by omega⟩, ⟨by omega, by omega⟩, fun _ h => by cases h⟩
  | @folk a1 a2 a3 h1 h2 h3 =>
    show ∀ n ∈ [a1, a2, a3], NumOk n
    obtain ⟨⟨_, _⟩, ⟨_, _⟩, ⟨_, _⟩⟩ := And.intro h1 (And.intro h2 h3)
    simp only [List.forall_mem_cons, NumOk]
    exact ⟨⟨by omega, by omega⟩, ⟨by omega, by omega⟩, ⟨by omega, by omega⟩, fun _ h => by cases h⟩
  | @bargain a1 a2 a3 a4 h1 h2 h3 h4 =>
    show ∀ n ∈ [a1, a2, a3, a4], NumOk n
    obtain ⟨⟨_, _⟩, ⟨_, _⟩, ⟨_, _⟩, ⟨_, _⟩⟩ := And.intro h1 (And.intro h2 (And.intro h3 h4))
    simp only [List.forall_mem_cons, NumOk]
    exact ⟨⟨by omega, by omega⟩, ⟨by omega, by omega⟩, ⟨by omega, by omega⟩, ⟨by omega, by omega⟩, fun _ h => by cases h⟩
  | @pass a1 a2 a3 a4 a5 h1 h2 h3 h4 h5 =>
    show ∀ n ∈ [a1, a2, a3, a4, a5], NumOk n
    obtain ⟨⟨_, _⟩, ⟨_, _⟩, ⟨_, _⟩, ⟨_, _⟩, ⟨_, _⟩⟩ := And.intro h1 (And.intro h2 (And.intro h3 (And.intro h4 h5)))
    simp only [List.forall_mem_cons, NumOk]
    exact ⟨⟨by omega, by omega⟩, ⟨by omega, by omega⟩, ⟨by omega, by omega⟩, ⟨by omega, by omega⟩, ⟨by omega, by omega⟩, fun _ h => by cases h⟩
  | @lost n m h1 h2 =>
    show ∀ x ∈ [n, m], NumOk x
    obtain ⟨_, _⟩ := h2
    obtain ⟨_, _, _⟩ := b.suits ["number", "minute"] (by dsimp only; decide +kernel) rfl 0 _ (.i n) rfl rfl
    simp only [List.forall_mem_cons, NumOk]
    exact ⟨⟨by omega, by omega⟩, ⟨by omega, by omega⟩, fun _ h => by cases h⟩
  | @paid a1 a2 a3 h1 h2 h3 =>
    show ∀ n ∈ [a1, a2, a3], NumOk n
    obtain ⟨⟨_, _⟩, ⟨_, _⟩, ⟨_, _⟩⟩ := And.intro h1 (And.intro h2 h3)
    simp only [List.forall_mem_cons, NumOk]
    exact ⟨⟨by omega, by omega⟩, ⟨by omega, by omega⟩, ⟨by omega, by omega⟩, fun _ h => by cases h⟩
theorem flat_i (ns : List Int) : ((ns.map Arg.i).map argNs).flatten = ns := by
  induction ns with
  | nil => rfl
  | cons n ns ih =>
    show [n] ++ _ = _
    rw [ih]
    rfl
theorem fds_ints {H : Hp} : ∀ ns : List Int, FDs K H (ns.map V.int) (ns.map Arg.i)
  | [] => .nil
  | n :: ns => .cons (.i n) (fds_ints ns)
/-- the text of a number is one -/
def spNumT : Sp := fun vs H Q _ => ∃ n : Int, vs = [.str (iTx n)] ∧ NumOk n ∧ Q (.bl true) H
theorem sc_p_is_number_text : FnScope ["word"] ["word"] (defScope s_p_is_number_text) :=
  ⟨rfl, rfl, rfl, by decide +kernel, rfl, by decide +kernel, by decide +kernel⟩
theorem ok_p_is_number_text (T : Tx P K mg w) : FnOk P w K mg base CX0 1 T.f_p_is_number_text T.d_p_is_number_text ["word"] spNumT := by
  refine T.F_p_is_number_text.ok sc_p_is_number_text (fun vs H Q E h => ?_) (fun cdv A outer s H vs Q E hr h => ?_)
  · obtain ⟨n, rfl, _⟩ := h
    rfl
  · obtain ⟨n, rfl, hn, k⟩ := h
    have hl := iTx_len30 hn
    obtain ⟨m, rfl, hm⟩ := num_of hn
    refine ⟨_, (pss_cons (ps_if (PW.pt (pw_or (pt_not (pt_val (pe_m0 PySem.F.slot_str_isascii PySem.F.type_str_isascii mz_isascii (pv 0)))) (pw_or (pt_not (pt_val (pe_m0 PySem.F.slot_str_isdigit PySem.F.type_str_isdigit mz_isdigit (pv 0)))) (pw_or1 (pt_cmpR op_gt (pe_callB cz_lenStr (by rfl) T.z_len PySem.boot_len (pa_cons (pv 0) pa_nil)) (pe_glob (v := .int 30) rfl T.k_MOST_FIGURES ⟨_, rfl⟩) (nomark _)))))) (pss_one (ps_ret pe_bl)) pss_nil) (pss_one (ps_ret (pe_or (pe_cmpR op_eq (pv 0) pe_str (nomark _)) (pe_one (pe_not (pe_m1 PySem.F.slot_str_startswith PySem.F.type_str_startswith mz_startswith (pv 0) pe_str))))))), ?_⟩
    refine at_start (ρ' := [some _]) rfl ?_
    walk_at "z0"
    walk_at "z"
    refine s_boolS ?_
    rw [show Txt.isascii (iTx ((m : Nat) : Int)) = true from num_ascii m]
    walk_at "z"
    refine s_boolS ?_
    rw [show Txt.isdigit (iTx ((m : Nat) : Int)) = true from num_digit m]
    walk_at "z"
    refine s_rLenStr (sz (by omega)) ?_
    walk_at "z"
    refine ite_neg (by omega) ?_
    walk_at "z"
    refine ite_dec (fun h8 => ?_) (fun h8 => ?_)
    · exact k
    · walk_at "z"
      refine s_startsS ?_
      have hne : m ≠ 0 := fun e => h8 (by rw [e]; decide +kernel)
      rw [show Txt.startswith (iTx ((m : Nat) : Int)) "0" = false from num_starts hne]
      walk_at "z"
      exact k
def spNums (K : PySem.W.Frag) : Sp := fun vs H Q _ => ∃ (L : Addr) (ns : List Int), vs = [.ref L] ∧ SqL K H L ((ns.map iTx).map V.str) ∧ (∀ n ∈ ns, NumOk n) ∧ ns.length ≤ 100 ∧ ∀ p H', H p = none → Ex H H' → H' p = some (.lst (ns.map V.int)) → Q (.ref p) H'
theorem sc_p_read_numbers : FnScope ["words", "word"] ["words"] (defScope s_p_read_numbers) :=
  ⟨rfl, rfl, rfl, by decide +kernel, rfl, by decide +kernel, by decide +kernel⟩
theorem ok_p_read_numbers (T : Tx P K mg w) : FnOk P w K mg base CX0 2 T.f_p_read_numbers T.d_p_read_numbers ["words"] (spNums K) := by
  refine T.F_p_read_numbers.ok sc_p_read_numbers (fun vs H Q E h => ?_) (fun cdv A outer s H vs Q E hr h => ?_)
  · obtain ⟨L, ns, rfl, _⟩ := h
    rfl
  · obtain ⟨L, ns, rfl, hL, hns, hz, k⟩ := h
    have get : ∀ {i : Nat} {x : V}, ((ns.map iTx).map V.str)[i]? = some x → ∃ n, ns[i]? = some n ∧ x = .str (iTx n) := fun {i x} h => by
      rw [List.getElem?_map, List.getElem?_map] at h
      obtain ⟨z, hz, rfl⟩ := Option.map_eq_some_iff.mp h
      obtain ⟨n, hn, rfl⟩ := Option.map_eq_some_iff.mp hz
      exact ⟨n, hn, rfl⟩
    refine ⟨_, (pss_cons (ps_if (pt_not (pt_val (pe_callB (r := rAll K) (cr_all rfl) (by rfl) T.z_all (by decide +kernel) (pa_cons (pe_lc (own := [("word", 1)]) (by rfl) sc_p_read_numbers.nd (pi_list (pv 0)) (blkOk_by (own := [("word", 1)]) (N := ["words", "word"]) (sc := defScope s_p_read_numbers) (by decide +kernel)) (fun _ _ _ _ _ => (pg_name (i := 1) sc_p_read_numbers.nd rfl (Or.inl rfl))) (fun _ _ _ _ _ => pts_nil) (fun _ _ _ _ _ => (pe_call (ok_p_is_number_text T) (hr.mono (by decide)) rfl T.g_p_is_number_text T.F_p_is_number_text.kp T.b_p_is_number_text .nil pass0 (pa_cons (pv 1) pa_nil)))) pa_nil)))) (pss_one (ps_ret pe_non)) pss_nil) (pss_one (ps_ret (pe_lc (own := [("word", 1)]) (by rfl) sc_p_read_numbers.nd (pi_list (pv 0)) (blkOk_by (own := [("word", 1)]) (N := ["words", "word"]) (sc := defScope s_p_read_numbers) (by decide +kernel)) (fun _ _ _ _ _ => (pg_name (i := 1) sc_p_read_numbers.nd rfl (Or.inl rfl))) (fun _ _ _ _ _ => pts_nil) (fun _ _ _ _ _ => (pe_callTy cz_intS (by rfl) T.z_int (by decide +kernel) (pa_cons (pv 1) pa_nil))))))), ?_⟩
    refine at_start (ρ' := [some _, none]) rfl ?_
    walk_at "z0"
    walk_at "z"
    refine c_list ((ns.map iTx).map V.str) hL (fun D H' => H D = none ∧ Ex H H') (fun D i acc H' => acc = (List.replicate i true).map V.bl) (fun D H' n e _ => ⟨⟨n, e⟩, rfl⟩) (fun D H' Iv => Iv.2.sqL hL) (fun D i acc H1 x hx Iv hD hn r => ?_) (fun D acc H1 Iv hD hn r => ?_)
    · obtain ⟨nD, e1⟩ := Iv
      obtain ⟨n, hni, rfl⟩ := get hx
      have hi : i < ns.length := (List.getElem?_eq_some_iff.mp hni).1
      walk_at "z"
      refine ⟨rfl, ?_⟩
      walk_at "z"
      refine ⟨n, rfl, hns n (List.mem_of_getElem? hni), ?_⟩
      refine c_put hD ⟨hn, by omega⟩ fun H2 f2 _ => ⟨⟨nD, e1.fr2 nD f2⟩, ?_⟩
      rw [r, List.replicate_succ', List.map_append]
      rfl
    · obtain ⟨nD, e1⟩ := Iv
      subst r
      walk_at "z"
      refine s_rAll (List.replicate ((ns.map iTx).map V.str).length true) (SqL.of hD) rfl ?_
      rw [show (List.replicate ((ns.map iTx).map V.str).length true).all id = true from by simp]
      walk_at "z"
      have hL1 := e1.sqL hL
      refine c_list ((ns.map iTx).map V.str) hL1 (fun D H' => H1 D = none ∧ Ex H1 H') (fun D i acc H' => acc = (ns.take i).map V.int) (fun D H' n e _ => ⟨⟨n, e⟩, rfl⟩) (fun D H' Iv => Iv.2.sqL hL1) (fun D i acc H2 x hx Iv hD hn r => ?_) (fun D acc H2 Iv hD hn r => ?_)
      · obtain ⟨nD, e2⟩ := Iv
        obtain ⟨n, hni, rfl⟩ := get hx
        have hi : i < ns.length := (List.getElem?_eq_some_iff.mp hni).1
        have hok := hns n (List.mem_of_getElem? hni)
        walk_at "z"
        refine ⟨rfl, ?_⟩
        walk_at "z"
        refine s_intS (iTx_read hok) (by have := iTx_len30 hok; omega) ?_
        refine c_put hD ⟨hn, by omega⟩ fun H3 f3 _ => ⟨⟨nD, e2.fr2 nD f3⟩, ?_⟩
        rw [r, List.take_succ, hni, List.map_append]
        rfl
      · obtain ⟨nD, e2⟩ := Iv
        rw [List.length_map, List.length_map, List.take_length] at r
        subst r
        exact k D H2 (Ex.back e1 nD) (e1.trans e2) hD
theorem s_starRL {te : TE} {t : TA} {σ : L2.St} {H : Hp} {Q : List V → Hp → Prop} (k : te σ H fun x H1 => ∃ p xs, x = V.ref p ∧ (SqT K H1 p xs ∨ SqL K H1 p xs) ∧ t σ H1 fun ys H2 => Q (xs ++ ys) H2) : StX.tStar K te t σ H Q := k
/-- words of a good fact -/
def spFactR (K : PySem.W.Frag) : Sp := fun vs H Q _ => ∃ (L : Addr) (f : Fct), vs = [.ref L] ∧ SqL K H L ((wordsF f).map V.str) ∧ ReadOk f ∧ ∀ v H', Ex H H' → RF K H' v f → Q v H'
theorem sc_p_read_fact : FnScope ["words", "kinds", "things", "singles"] ["words"] (defScope s_p_read_fact) :=
  ⟨rfl, rfl, rfl, by decide +kernel, rfl, by decide +kernel, by decide +kernel⟩
theorem ok_p_read_fact (T : Tx P K mg w) : FnOk P w K mg base CX0 3 T.f_p_read_fact T.d_p_read_fact ["words"] (spFactR K) := by
  refine T.F_p_read_fact.ok sc_p_read_fact (fun vs H Q E h => ?_) (fun cdv A outer s H vs Q E hr h => ?_)
  · obtain ⟨L, f, rfl, _⟩ := h
    rfl
  · obtain ⟨L, f, rfl, hL, hok, k⟩ := h
    have hfew := hok.sml.few
    rw [words_ns] at hL hfew
    rw [List.map_cons] at hL
    rw [List.length_cons, List.length_map] at hfew
    have low : (T.B_SHAPES == sysModules) = false := T.dic_SHAPES.choose_spec.choose_spec.2.2
    obtain ⟨ks, t, hsh, hkl, kd, kt⟩ : ∃ ks t, shapeOf f.w = some ks ∧ ks.length ≤ 5 ∧ KDct K w T.B_SHAPES f.w (.ref t) ∧ ∀ {H : Hp}, SqT K H t (ks.map V.str) := by
      rcases T_shape T hok.word with h | h
      · obtain ⟨ks, t, a, b, c, d⟩ := h
        exact ⟨ks, t, a, b, c, d⟩
      · exfalso
        rcases hok.shp with ⟨ks, ns, kk, _, e, _⟩ | ⟨a, d, gs, rfl⟩
        · rw [e] at h
          cases h.1
        · exact absurd h.1 (by dsimp only; decide +kernel)
    refine ⟨_, (pss_cons (ps_if (PW.pt (pw_or (pt_not (pt_truth (pv 0) (by intro _; rfl))) (pw_or1 (pt_cmpR op_notInK (pe_ix (r := rIxL K) ix_list (pv 0) pe_int (fun _ _ => rfl)) (pe_glob (v := .ref T.B_SHAPES) rfl T.g_SHAPES rfl) (by rfl))))) (pss_one (ps_ret pe_non)) pss_nil) (pss_cons (ps_set (i := 1) sc_p_read_fact.nd rfl (Or.inl rfl) (pe_ix (r := rIxD K w) ix_kdict (pe_glob (v := .ref T.B_SHAPES) rfl T.g_SHAPES rfl) (pe_ix (r := rIxL K) ix_list (pv 0) pe_int (fun _ _ => rfl)) (fun _ _ => rfl))) (pss_cons (ps_set (i := 2) sc_p_read_fact.nd rfl (Or.inl rfl) (pe_call (ok_p_read_numbers T) (hr.mono (by decide)) rfl T.g_p_read_numbers T.F_p_read_numbers.kp T.b_p_read_numbers .nil pass0 (pa_cons (pe_slice (r := rSlL K) sl_list (pv 0) (po_some pe_int) po_none) pa_nil))) (pss_cons (ps_if (pt_cmpR op_isN1 (pv 2) pe_non (nomark _)) (pss_one (ps_ret pe_non)) pss_nil) (pss_cons (ps_if (pt_cmpR op_eq (pe_ix (r := rIxT K) ix_tup (pv 1) (pe_un un_neg pe_int) (fun _ _ => rfl)) pe_str (nomark _)) (pss_cons (ps_set (i := 3) sc_p_read_fact.nd rfl (Or.inl rfl) (pe_op op_sub (pe_callB (r := Z.rLen K) cz_len (by rfl) T.z_len PySem.boot_len (pa_cons (pv 1) pa_nil)) pe_int)) (pss_one (ps_set (i := 2) sc_p_read_fact.nd rfl (Or.inl rfl) (pe_lst (StX.pa_star (pe_slice (r := rSlL K) sl_list (pv 2) po_none (po_some (pv 3))) (pa_cons (pe_callTy (r := rTupleOf K) cz_tupleOf (by rfl) T.z_tuple (by decide +kernel) (pa_cons (pe_slice (r := rSlL K) sl_list (pv 2) (po_some (pv 3)) po_none) pa_nil)) pa_nil)))))) pss_nil) (pss_one (ps_ret (pe_ifExp (pt_cmpR op_eq (pe_callB (r := Z.rLen K) cz_len (by rfl) T.z_len PySem.boot_len (pa_cons (pv 2) pa_nil)) (pe_callB (r := Z.rLen K) cz_len (by rfl) T.z_len PySem.boot_len (pa_cons (pv 1) pa_nil)) (nomark _)) (pe_tup (pa_cons (pe_ix (r := rIxL K) ix_list (pv 0) pe_int (fun _ _ => rfl)) (StX.pa_star (pv 2) pa_nil))) pe_non)))))))), ?_⟩
    refine at_start (ρ' := [some _, none, none, none]) rfl ?_
    walk_at "z0"
    walk_at "z"
    refine ⟨true, .inl ⟨_, hL, rfl⟩, ?_⟩
    walk_at "z"
    refine s_ixL hL (at0 _ _) ?_
    walk_at "z"
    refine ⟨f.w, T.B_SHAPES, rfl, rfl, .inl ⟨_, kd, low, ?_⟩⟩
    walk_at "z"
    refine s_ixL hL (at0 _ _) ?_
    refine ⟨_, _, _, rfl, rfl, kd, ?_⟩
    walk_at "z"
    rename_i q H1 nq e1 hq
    rw [cut_from (by decide) (by rw [List.length_cons]; omega)] at hq
    refine ⟨q, nsF f, rfl, SqL.of hq, hok.nums, by omega, fun p H2 np e2 hp => ?_⟩
    have e12 := e1.trans e2
    have hL2 := e12.sqL hL
    have hkt := kt (H := H2)
    walk_at "z"
    rcases hok.shp with ⟨ks', ns, kk, hxs, e, hlen, hlast, hng⟩ | ⟨a, d, gs, rfl⟩
    · rw [hsh] at e
      cases e
      have hns : nsF f = ns := by
        unfold nsF
        rw [hxs, flat_i]
      rw [hns] at hp hfew
      have hla : (ks.map V.str).getLast? = some (.str kk) := by rw [List.getLast?_map, hlast]; rfl
      refine s_ixT hkt (last_at hla) ?_
      walk_at "z"
      refine ite_neg hng ?_
      walk_at "z"
      refine ite_pos (by rw [List.length_map, List.length_map, hlen]) ?_
      walk_at "z"
      refine s_ixL hL2 (at0 _ _) ?_
      refine s_starRL ?_
      walk_at "z"
      refine ⟨p, _, rfl, .inr (SqL.of hp), ?_⟩
      walk_at "z1"
      rw [List.append_nil]
      refine s_newS (sz (by rw [List.length_cons, List.length_map]; omega)) fun v H3 nv e3 hv => ?_
      exact k (.ref v) H3 (e12.trans e3) ⟨v, _, rfl, SqT.of hv, by rw [hxs]; exact fds_ints ns⟩
    · have hks : ks = (["gate", "day", "gates"] : List Str) := by
        have : shapeOf "board" = some (["gate", "day", "gates"] : List Str) := by decide +kernel
        rw [show shapeOf (Fct.mk "board" [.i a, .i d, .t gs]).w = shapeOf "board" from rfl, this] at hsh
        cases hsh
        rfl
      subst hks
      replace hp : H2 p = some (.lst ((a :: d :: (gs ++ [])).map V.int)) := hp
      rw [List.append_nil] at hp
      replace hfew : (a :: d :: (gs ++ [])).length + 1 ≤ 66 := hfew
      rw [List.append_nil, List.length_cons, List.length_cons] at hfew
      refine s_ixT hkt (last_at rfl) ?_
      walk_at "z"
      refine s_starRL ?_
      walk_at "z"
      rename_i q1 H3 nq1 e3 hq1
      replace hq1 : H3 q1 = some (.lst (cutV ((a :: d :: gs).map V.int) none (some 2))) := hq1
      rw [cut_to (by decide) (by rw [List.length_map, List.length_cons, List.length_cons]; omega)] at hq1
      replace hq1 : H3 q1 = some (.lst [.int a, .int d]) := hq1
      refine ⟨q1, _, rfl, .inr (SqL.of hq1), ?_⟩
      have hp3 := e3 _ _ hp
      walk_at "z"
      rename_i qa H4 nqa e4 hqa q2 H5 nq2 e5 hq2 q3 H6 nq3 e6 hq3
      have e26 := ((e3.trans e4).trans e5).trans e6
      refine s_ixL (e26.sqL hL2) (at0 _ _) ?_
      refine s_starRL ?_
      walk_at "z"
      refine ⟨q3, _, rfl, .inr (SqL.of hq3), ?_⟩
      walk_at "z"
      rename_i v H7 nv e7 hv
      replace hq2 : H5 q2 = some (.tup (cutV ((a :: d :: gs).map V.int) (some 2) none)) := hq2
      rw [cut_from (by decide) (by rw [List.length_map, List.length_cons, List.length_cons]; omega)] at hq2
      replace hq2 : H5 q2 = some (.tup (gs.map V.int)) := hq2
      exact k (.ref v) H7 (e12.trans (e26.trans e7)) ⟨v, _, rfl, SqT.of hv, .cons (.i a) (.cons (.i d) (.cons (.t (SqT.of (e7 _ _ (e6 _ _ hq2)))) .nil))⟩

/-! rows and pages, read -/
def rowJ (n : Int) (f : Fct) : Str := Txt.join " " (iTx n :: wordsF f)
theorem rowT_J (p : Int × Fct) : rowT p = rowJ p.1 p.2 ++ "\n" := by
  unfold rowT rowJ textF
  rw [words_ns, TL.join_eq, TL.join_eq]
  rfl
theorem parts_free {n : Int} {f : Fct} (hn : NumOk n) (h : ReadOk f) {c : Nat} (hc : c = 32 ∨ c = 10) : ∀ p ∈ (iTx n :: wordsF f), c ∉ TL.tl p := by
  intro p hp
  rw [words_ns] at hp
  have hc2 : c < 48 ∨ 57 < c := by omega
  rcases List.mem_cons.mp hp with rfl | hp
  · exact iTx_free hn hc2
  · rcases List.mem_cons.mp hp with rfl | hp
    · exact h.free c hc
    · obtain ⟨m, hm, rfl⟩ := List.mem_map.mp hp
      exact iTx_free (h.nums m hm) hc2
theorem row_split {n : Int} {f : Fct} (hn : NumOk n) (h : ReadOk f) : Txt.split (rowJ n f) " " = iTx n :: wordsF f :=
  TL.split_join (s := 32) (S := []) (by decide +kernel) (by decide +kernel) (by simp) (parts_free hn h (.inl rfl))
theorem joinL_mem {S : List Nat} {c : Nat} : ∀ {ps : List (List Nat)}, c ∈ TL.joinL S ps → c ∈ S ∨ ∃ p ∈ ps, c ∈ p
  | [], h => by cases h
  | [p], h => .inr ⟨p, List.mem_cons_self, h⟩
  | p :: q :: r, h => by
    have h : c ∈ p ++ (S ++ TL.joinL S (q :: r)) := h
    rcases List.mem_append.mp h with h | h
    · exact .inr ⟨p, List.mem_cons_self, h⟩
    · rcases List.mem_append.mp h with h | h
      · exact .inl h
      · rcases joinL_mem h with h | ⟨x, hx, h⟩
        · exact .inl h
        · exact .inr ⟨x, List.mem_cons_of_mem _ hx, h⟩
theorem row_free {n : Int} {f : Fct} (hn : NumOk n) (h : ReadOk f) : 10 ∉ TL.tl (rowJ n f) := by
  intro hm
  unfold rowJ at hm
  rw [TL.join_eq, TL.tl_join] at hm
  rcases joinL_mem hm with hm | ⟨p, hp, hm⟩
  · exact absurd hm (by decide +kernel)
  · obtain ⟨q, hq, rfl⟩ := List.mem_map.mp hp
    exact parts_free hn h (.inr rfl) q hq hm
def rowsJ : Nat → List Fct → List Str
  | _, [] => []
  | k, f :: fs => rowJ (k : Nat) f :: rowsJ (k + 1) fs
theorem pairs_all : ∀ (fs : List Fct) (k : Nat), (pairsS k (fs.map some)).map rowT = (rowsJ k fs).map (fun r : Str => r ++ Str.ofString "\n")
  | [], _ => rfl
  | f :: fs, k => by
    show rowT _ :: (pairsS (k + 1) (fs.map some)).map rowT = (rowJ (k : Nat) f ++ Str.ofString "\n") :: (rowsJ (k + 1) fs).map (fun r : Str => r ++ Str.ofString "\n")
    rw [pairs_all fs (k + 1), rowT_J]
theorem app_nil (a : Str) : a ++ Str.ofString "" = a := by
  show (⟨a.cps ++ (Str.ofString "").cps⟩ : Str) = a
  rw [show (Str.ofString "").cps = #[] from by decide +kernel, Array.append_empty]
theorem join_nl : ∀ rows : List Str, Str.join "" (rows.map (fun r : Str => r ++ Str.ofString "\n")) = Str.join "\n" (rows ++ [Str.ofString ""])
  | [] => by decide +kernel
  | [a] => by
    show a ++ Str.ofString "\n" = a ++ Str.ofString "\n" ++ Str.ofString ""
    rw [app_nil]
  | a :: b :: r => by
    have ih := join_nl (b :: r)
    show (a ++ Str.ofString "\n") ++ Str.ofString "" ++ Str.join "" ((b :: r).map (fun r : Str => r ++ Str.ofString "\n")) = a ++ Str.ofString "\n" ++ Str.join "\n" ((b :: r) ++ [Str.ofString ""])
    rw [ih, app_nil]
theorem rows_get : ∀ (fs : List Fct) (k i : Nat), (rowsJ k fs)[i]? = (fs[i]?).map (fun f => rowJ ((k + i : Nat) : Int) f)
  | [], _, _ => rfl
  | f :: fs, k, 0 => rfl
  | f :: fs, k, i + 1 => by
    show (rowsJ (k + 1) fs)[i]? = _
    rw [rows_get fs (k + 1) i, List.getElem?_cons_succ, show k + 1 + i = k + (i + 1) from by omega]
theorem rows_len : ∀ (fs : List Fct) (k : Nat), (rowsJ k fs).length = fs.length
  | [], _ => rfl
  | f :: fs, k => congrArg Nat.succ (rows_len fs (k + 1))
theorem num_small {k : Nat} (h : k ≤ 10000) : NumOk ((k : Nat) : Int) := ⟨by omega, by omega⟩
theorem page_split {fs : List Fct} (hz : fs.length ≤ 120) (h : ∀ f ∈ fs, ReadOk f) : Txt.split (pageT (fs.map some)) "\n" = rowsJ 1 fs ++ [Str.ofString ""] := by
  have e : pageT (fs.map some) = Txt.join "\n" (rowsJ 1 fs ++ [Str.ofString ""]) := by
    unfold pageT
    rw [pairs_all, TL.join_eq, TL.join_eq]
    exact join_nl _
  rw [e]
  refine TL.split_join (s := 10) (S := []) (by decide +kernel) (by decide +kernel) (by simp) fun p hp => ?_
  rcases List.mem_append.mp hp with hp | hp
  · obtain ⟨i, hi⟩ := List.mem_iff_getElem?.mp hp
    rw [rows_get] at hi
    obtain ⟨f, hf, rfl⟩ := Option.map_eq_some_iff.mp hi
    have hlt := (List.getElem?_eq_some_iff.mp hf).1
    exact row_free (num_small (by omega)) (h f (List.mem_of_getElem? hf))
  · rw [List.mem_singleton.mp hp]
    decide +kernel
theorem page_len {st : Stt} (hz : st.length ≤ 120) (hs : ∀ n g, standF st n = some g → Sml g) : (pageT st).length ≤ 15453000 := by
  have h0 := joinT_len "" ((pairsS 1 st).map rowT)
  have h1 := sum_le (ys := (pairsS 1 st).map rowT) (m := 128775) fun s hs' => by
    obtain ⟨p, hp, rfl⟩ := List.mem_map.mp hs'
    have h := pairs_mem.mp hp
    obtain ⟨a, b, _⟩ := stand_in h
    exact rowT_len (log_small (by omega) (by omega)) (hs _ _ h)
  have h2 := pairs_len st 1
  rw [show (Str.ofString "").length = 0 from by decide +kernel, Nat.mul_zero] at h0
  rw [List.length_map] at h1
  have h3 : (pairsS 1 st).length * 128775 ≤ 120 * 128775 := Nat.mul_le_mul_right _ (by omega)
  show (Txt.join "" ((pairsS 1 st).map rowT)).length ≤ _
  omega
theorem rowJ_len {n : Int} {f : Fct} (hn : NumOk n) (h : ReadOk f) : (rowJ n f).length ≤ 130000 := by
  have h0 := joinT_len " " (iTx n :: wordsF f)
  have h1 := sum_le (ys := iTx n :: wordsF f) (m := 1921) fun s hs => by
    rcases List.mem_cons.mp hs with rfl | hs
    · have := iTx_len30 hn
      omega
    · exact h.sml.len s hs
  have h2 := h.sml.few
  rw [sp_len, List.length_cons] at h0
  rw [List.length_cons] at h1
  have h3 : ((wordsF f).length + 1) * 1921 ≤ 67 * 1921 := Nat.mul_le_mul_right _ (by omega)
  show (Txt.join " " (iTx n :: wordsF f)).length ≤ _
  omega
def spTellRow (K : PySem.W.Frag) (C : Addr) : Sp := fun vs H Q _ => ∃ (r S U : Addr) (i : Nat) (f : Fct) (st : Stt) (sts uns : List Stt), vs = [.ref r, .int (i : Nat), .str (rowJ ((i + 1 : Nat) : Int) f)] ∧ RollAt K C H r S U sts uns ∧ sts.getLast? = some st ∧ ReadOk f ∧ Bent f ∧ placeF f = none ∧ i ≤ 1000 ∧ st.length < 120 ∧ sts.length ≤ 900 ∧
  ∀ H', Fr2 S U H H' → RollAt K C H' r S U (sts ++ [st ++ [some f]]) [] → Q .non H'
theorem l_enum {g : TG} {ts : TS} {nx : L2.St → Hp → Prop} {rt : VK} {σ : L2.St} {H : Hp} {a : Addr} (xs : List V) (Pv : Nat → L2.St → Hp → Prop) (h0 : Pv 0 σ H) (hG : ∀ i σ H, i ≤ xs.length → Pv i σ H → SqL K H a xs)
    (hs : ∀ i x σ H t, xs[i]? = some x → Pv i σ H → H t = none → g (.ref t) σ (upd H t (.tup [.int (i : Nat), x])) fun σ2 H2 => ts ⟨Pv (i + 1), rt, nx, Pv (i + 1)⟩ σ2 H2) (hd : ∀ σ H, Pv xs.length σ H → nx σ H) :
    ∃ a' xs', [V.ref a] = [.ref a'] ∧ SqL K H a' xs' ∧ Loops (Ite K a') g ts nx rt σ H :=
  ⟨a, xs, rfl, hG 0 σ H (Nat.zero_le _) h0, loops_of walk_enum Pv h0 hG (fun i x σ H H' hi p y => by
    obtain ⟨t, u, v, rfl, nt, rfl, h1, h2⟩ := y
    cases h1
    exact hs i v σ H t h2 p nt) hd⟩
def prefs (fs : List Fct) (n : Nat) : List Stt := (List.range (n + 1)).map fun j => (fs.take j).map some
theorem prefs_last (fs : List Fct) (n : Nat) : (prefs fs n).getLast? = some ((fs.take n).map some) := by
  unfold prefs
  rw [List.range_succ, List.map_append]
  simp
theorem prefs_succ (fs : List Fct) (n : Nat) : prefs fs (n + 1) = prefs fs n ++ [(fs.take (n + 1)).map some] := by
  unfold prefs
  rw [List.range_succ, List.map_append]
  rfl
theorem prefs_len (fs : List Fct) (n : Nat) : (prefs fs n).length = n + 1 := by
  unfold prefs
  rw [List.length_map, List.length_range]
theorem all_stand {fs : List Fct} {n : Int} {g : Fct} (h : standF (fs.map some) n = some g) : g ∈ fs := by
  have := (stand_in h).2.2
  rw [List.getElem?_map] at this
  obtain ⟨x, hx, e⟩ := Option.map_eq_some_iff.mp this
  cases e
  exact List.mem_of_getElem? hx
/-- the roll of a page -/
def spReadP (K : PySem.W.Frag) (C : Addr) : Sp := fun vs H Q _ => ∃ fs : List Fct, vs = [.str (pageT (fs.map some))] ∧ fs.length ≤ 120 ∧ (∀ f ∈ fs, Bent f ∧ placeF f = none) ∧
  ∀ r S U H', H r = none → H S = none → H U = none → Ex H H' → RollAt K C H' r S U (prefs fs fs.length) [] → Q (.ref r) H'

/-! texts that write numbers -/
theorem dval_snoc (m : List Nat) (c : Nat) : NumText.digitsVal (m ++ [c]) = NumText.digitsVal m * 10 + (c - 48) := by
  unfold NumText.digitsVal
  rw [List.foldl_append]
  rfl
theorem numL_back : ∀ (k : Nat) (l : List Nat), l.length = k → (∀ c ∈ l, 48 ≤ c ∧ c < 58) → l ≠ [] → (l = [48] ∨ l.head? ≠ some 48) → TL.numL (NumText.digitsVal l) = l
  | 0, l, hl, _, hn, _ => absurd (List.length_eq_zero_iff.mp hl) hn
  | k + 1, l, hl, hd, hn, hh => by
    rcases List.eq_nil_or_concat l with e | ⟨m, c, e⟩
    · exact absurd e hn
    rw [List.concat_eq_append] at e
    subst e
    rw [List.length_append, List.length_singleton] at hl
    obtain ⟨c1, c2⟩ := hd c (by simp)
    rw [dval_snoc]
    by_cases hm : m = []
    · subst hm
      show TL.numL (0 * 10 + (c - 48)) = [c]
      rw [TL.numL_lt (by omega)]
      exact congrArg (fun x => [x]) (by omega)
    · have hh' : m.head? ≠ some 48 := by
        rcases hh with e | e
        · exfalso
          have := congrArg List.length e
          rw [List.length_append, List.length_singleton, List.length_singleton] at this
          have := List.length_pos_iff.mpr hm
          omega
        · cases m with
          | nil => exact absurd rfl hm
          | cons x r => exact e
      have ih := numL_back k m (by omega) (fun x hx => hd x (List.mem_append_left _ hx)) hm (.inr hh')
      have pos : 0 < NumText.digitsVal m := by
        rcases Nat.eq_zero_or_pos (NumText.digitsVal m) with e | e
        · exfalso
          rw [e, TL.numL_lt (by decide)] at ih
          rw [← ih] at hh'
          exact hh' rfl
        · exact e
      rw [TL.numL_step (by omega), show (NumText.digitsVal m * 10 + (c - 48)) / 10 = NumText.digitsVal m from by omega, show 48 + (NumText.digitsVal m * 10 + (c - 48)) % 10 = c from by omega, ih]
theorem numL_big (n : Nat) : n < 10 ^ (TL.numL n).length := by
  induction n using Nat.strongRecOn with
  | _ n ih =>
    by_cases h : n < 10
    · rw [TL.numL_lt h]
      simpa using h
    · rw [TL.numL_step (by omega), List.length_append, List.length_singleton, Nat.pow_succ]
      have := ih (n / 10) (by omega)
      omega
/-- how a number is written -/
def NumW (z : Str) : Prop := ∃ n : Int, NumOk n ∧ z = iTx n
theorem numW_of {z : Str} (hl : z.length ≤ 30) (hd : ∀ c ∈ TL.tl z, 48 ≤ c ∧ c < 58) (hn : TL.tl z ≠ []) (hh : TL.tl z = [48] ∨ (TL.tl z).head? ≠ some 48) : NumW z := by
  have e := numL_back _ _ rfl hd hn hh
  refine ⟨((NumText.digitsVal (TL.tl z) : Nat) : Int), ⟨by omega, ?_⟩, ?_⟩
  · have h1 := numL_big (NumText.digitsVal (TL.tl z))
    rw [e, ← TL.len_tl] at h1
    have h2 : 10 ^ z.length ≤ 10 ^ 30 := Nat.pow_le_pow_right (by decide) hl
    have h3 : NumText.digitsVal (TL.tl z) < 10 ^ 30 := by omega
    exact_mod_cast h3
  · refine TL.ext_tl ?_
    show _ = TL.tl (Str.ofString (toString ((NumText.digitsVal (TL.tl z) : Nat) : Int)))
    rw [TL.tl_num, e]
theorem numW_tl {z : Str} (h : NumW z) : ∃ n : Nat, n < 10 ^ 30 ∧ TL.tl z = TL.numL n := by
  obtain ⟨n, hn, rfl⟩ := h
  obtain ⟨m, rfl, hm⟩ := num_of hn
  exact ⟨m, hm, TL.tl_num m⟩
theorem ascii_digit : ∀ c : Nat, c < 128 → Unicode.isDigit c = true → 48 ≤ c ∧ c < 58 := by decide +kernel
theorem starts_zero {z : Str} (h : (TL.tl z).head? = some 48) : Txt.startswith z "0" = true := by
  unfold Txt.startswith Builtin.Str.subAt
  have h0 : (Str.ofString "0").length = 1 := by decide +kernel
  have hz : 1 ≤ z.length := by
    rw [TL.len_tl]
    cases e : TL.tl z with
    | nil =>
      rw [e] at h
      cases h
    | cons c r => simp
  rw [Bool.and_eq_true]
  refine ⟨decide_eq_true (by rw [h0]; omega), beq_iff_eq.mpr ?_⟩
  refine Array.toList_inj.mp ?_
  rw [Array.toList_extract, List.extract_eq_take_drop, List.drop_zero, show (0 + (Str.ofString "0").length - 0) = 1 from by decide +kernel, show (Str.ofString "0").cps.toList = [48] from by decide +kernel]
  cases e : z.cps.toList with
  | nil =>
    rw [show TL.tl z = z.cps.toList from rfl, e] at h
    cases h
  | cons c r =>
    rw [show TL.tl z = z.cps.toList from rfl, e] at h
    cases h
    rfl
/-- what the program asks of a word -/
theorem numW_prog {z : Str} (h1 : Txt.isascii z = true) (h2 : Txt.isdigit z = true) (h3 : z.length ≤ 30) (h4 : z = "0" ∨ Txt.startswith z "0" = false) : NumW z := by
  unfold Txt.isdigit at h2
  rw [Bool.and_eq_true] at h2
  unfold Txt.isascii at h1
  rw [Array.all_eq_true_iff_forall_mem] at h1
  obtain ⟨p1, p2⟩ := h2
  rw [Array.all_eq_true_iff_forall_mem] at p2
  have hd : ∀ c ∈ TL.tl z, 48 ≤ c ∧ c < 58 := fun c hc => ascii_digit c (of_decide_eq_true (h1 c (Array.mem_toList_iff.mp hc))) (p2 c (Array.mem_toList_iff.mp hc))
  refine numW_of h3 hd (fun e => ?_) ?_
  · have := of_decide_eq_true p1
    rw [TL.len_tl, e] at this
    simp at this
  · rcases h4 with e | e
    · left
      rw [e]
      decide +kernel
    · right
      intro q
      rw [starts_zero q] at e
      cases e

/-! lines at a desk -/
inductive Ln where
  | deed (d : Deed)
  | undo
  | redo
def wordsL : Ln → List Str
  | .deed (.tell f) => wordsF f
  | .deed (.right n f) => "right" :: iTx n :: wordsF f
  | .deed (.strike n) => ["strike", iTx n]
  | .undo => ["undo"]
  | .redo => ["redo"]
def lineT (ln : Ln) : Str := Txt.join " " (wordsL ln)
def eightW : List Str := ["toll", "board", "trust", "folk", "bargain", "pass", "lost", "paid"]
def LnOk : Ln → Prop
  | .deed (.tell f) => ReadOk f ∧ Bent f ∧ f.w ∈ eightW
  | .deed (.right n f) => NumOk n ∧ ReadOk f ∧ Bent f
  | .deed (.strike n) => NumOk n
  | _ => True
def refW : Out → Option Str
  | .noFact _ => some "NoFact"
  | .badFact _ => some "BadFact"
  | .other => some "Other"
  | .full => some "Full"
  | _ => none
def okW : Out → Str
  | .num n => iTx n
  | _ => "done"
def SayOk (ln : Ln) (st : Stt) (sts uns : List Stt) (z : Str) (sts' uns' : List Stt) : Prop := match ln with
  | .deed d => refW (doF st d).1 = none ∧ z = okW (doF st d).1 ∧ sts' = nextS sts (doF st d).2 ∧ uns' = nextU uns (doF st d).2
  | .undo => ∃ s, sts = sts' ++ [s] ∧ sts' ≠ [] ∧ uns' = uns ++ [s] ∧ z = "done"
  | .redo => ∃ s, uns = uns' ++ [s] ∧ sts' = sts ++ [s] ∧ z = "done"
def SayNo (ln : Ln) (st : Stt) (sts uns : List Stt) (z : Str) : Prop := match ln with
  | .deed d => refW (doF st d).1 = some z
  | .undo => sts.length = 1 ∧ z = "Nothing"
  | .redo => uns = [] ∧ z = "Nothing"
def ExcL (a1 a2 a3 a4 a5 C : Addr) (z : Str) : Prop := (C = a1 ∧ z = "NoFact") ∨ (C = a2 ∧ z = "BadFact") ∨ (C = a3 ∧ z = "Other") ∨ (C = a4 ∧ z = "Full") ∨ (C = a5 ∧ z = "Nothing")
def spStrikeL (K : PySem.W.Frag) (C Cn : Addr) : Sp := fun vs H Q E => ∃ (r S U : Addr) (n : Int) (st : Stt) (sts uns : List Stt), vs = [.ref r, .int n] ∧ RollAt K C H r S U sts uns ∧ sts.getLast? = some st ∧ st.length ≤ 1000 ∧ sts.length ≤ 1000 ∧ n.natAbs.log2 < 1920 ∧
  (∀ g H', standF st n = some g → Fr2 S U H H' → RollAt K C H' r S U (sts ++ [st.set (n - 1).toNat none]) [] → Q (.str "done") H') ∧
  (standF st n = none → ∀ d, H d = none → E (.ref Cn) (some d) (upd H d (.xd [("number", .int n), ("called", .str "NoFact")])))
theorem sc_p_strike_line : FnScope ["roll", "number"] ["roll", "number"] (defScope s_p_strike_line) :=
  ⟨rfl, rfl, rfl, by decide +kernel, rfl, by decide +kernel, by decide +kernel⟩
theorem ok_p_strike_line (T : Tx P K mg w) : FnOk P w K mg base (CX P w) 5 T.f_p_strike_line T.d_p_strike_line ["roll", "number"] (spStrikeL K T.C_Roll T.C_NoFact) := by
  refine T.F_p_strike_line.okX sc_p_strike_line (fun vs H Q E h => ?_) (fun cdv A outer s H vs Q E hr h => ?_)
  · obtain ⟨r, S, U, n, st, sts, uns, rfl, _⟩ := h
    rfl
  · obtain ⟨r, S, U, n, st, sts, uns, rfl, hR, hl, hz, hsz, hlog, k1, k2⟩ := h
    obtain ⟨dx, h1⟩ := id hR.ob
    refine ⟨_, (pss_cons (ps_expr (pe_meth (pv 0) T.cls_Roll ⟨T.at_c_Roll_strike, T.fn_c_Roll_strike, T.F_c_Roll_strike.kp⟩ (ok_c_Roll_strike T) (hr.mono (by decide)) T.b_c_Roll_strike .nil (passes_up (takes_of rfl rfl rfl rfl) fun _ _ _ _ h => h) (pa_cons (pv 1) pa_nil))) (pss_one (ps_ret (pe_glob (v := .str "done") rfl T.k_DONE ⟨_, rfl⟩)))), ?_⟩
    refine at_start (ρ' := [some _, some _]) rfl ?_
    walk_at "z0"
    walk_at "z"
    refine s_methA ?_
    walk_at "z"
    refine ⟨r, dx, _, rfl, h1, rfl, ?_⟩
    walk_at "z"
    refine ⟨r, S, U, n, st, sts, uns, rfl, hR, hl, hz, hsz, fun _ => hlog, fun x g hs H1 f1 hR1 _ => ?_, k2⟩
    walk_at "z"
    exact k1 g H1 hs f1 hR1
def spUndoL (K : PySem.W.Frag) (C Cn : Addr) : Sp := fun vs H Q E => ∃ (r S U : Addr) (sts uns : List Stt) (st : Stt), vs = [.ref r] ∧ RollAt K C H r S U (sts ++ [st]) uns ∧ sts.length ≤ 900 ∧ uns.length ≤ 900 ∧
  (sts ≠ [] → ∀ H', Fr2 S U H H' → RollAt K C H' r S U sts (uns ++ [st]) → Q (.str "done") H') ∧
  (sts = [] → ∀ d, H d = none → E (.ref Cn) (some d) (upd H d (.xd [("called", .str "Nothing")])))
theorem sc_p_undo_line : FnScope ["roll"] ["roll"] (defScope s_p_undo_line) :=
  ⟨rfl, rfl, rfl, by decide +kernel, rfl, by decide +kernel, by decide +kernel⟩
theorem ok_p_undo_line (T : Tx P K mg w) : FnOk P w K mg base (CX P w) 4 T.f_p_undo_line T.d_p_undo_line ["roll"] (spUndoL K T.C_Roll T.C_Nothing) := by
  refine T.F_p_undo_line.okX sc_p_undo_line (fun vs H Q E h => ?_) (fun cdv A outer s H vs Q E hr h => ?_)
  · obtain ⟨r, S, U, sts, uns, st, rfl, _⟩ := h
    rfl
  · obtain ⟨r, S, U, sts, uns, st, rfl, hR, hz, hzu, k1, k2⟩ := h
    obtain ⟨dx, h1⟩ := id hR.ob
    refine ⟨_, (pss_cons (ps_expr (pe_meth0 (pv 0) T.cls_Roll ⟨T.at_c_Roll_undo, T.fn_c_Roll_undo, T.F_c_Roll_undo.kp⟩ (ok_c_Roll_undo T) (hr.mono (by decide)) T.b_c_Roll_undo .nil (passes_up (takes_of rfl rfl rfl rfl) fun _ _ _ _ h => h))) (pss_one (ps_ret (pe_glob (v := .str "done") rfl T.k_DONE ⟨_, rfl⟩)))), ?_⟩
    refine at_start (ρ' := [some _]) rfl ?_
    walk_at "z0"
    walk_at "z"
    refine s_methA ?_
    walk_at "z"
    refine ⟨r, dx, _, rfl, h1, rfl, ?_⟩
    walk_at "z"
    refine ⟨r, S, U, sts, uns, st, rfl, hR, by omega, by omega, fun hne H1 f1 hR1 => ?_, k2⟩
    walk_at "z"
    exact k1 hne H1 f1 hR1
def spRedoL (K : PySem.W.Frag) (C Cn : Addr) : Sp := fun vs H Q E => ∃ (r S U : Addr) (sts uns : List Stt), vs = [.ref r] ∧ RollAt K C H r S U sts uns ∧ sts.length ≤ 900 ∧ uns.length ≤ 900 ∧
  (∀ uns' st, uns = uns' ++ [st] → ∀ H', Fr2 S U H H' → RollAt K C H' r S U (sts ++ [st]) uns' → Q (.str "done") H') ∧
  (uns = [] → ∀ d, H d = none → E (.ref Cn) (some d) (upd H d (.xd [("called", .str "Nothing")])))
theorem sc_p_redo_line : FnScope ["roll"] ["roll"] (defScope s_p_redo_line) :=
  ⟨rfl, rfl, rfl, by decide +kernel, rfl, by decide +kernel, by decide +kernel⟩
theorem ok_p_redo_line (T : Tx P K mg w) : FnOk P w K mg base (CX P w) 4 T.f_p_redo_line T.d_p_redo_line ["roll"] (spRedoL K T.C_Roll T.C_Nothing) := by
  refine T.F_p_redo_line.okX sc_p_redo_line (fun vs H Q E h => ?_) (fun cdv A outer s H vs Q E hr h => ?_)
  · obtain ⟨r, S, U, sts, uns, rfl, _⟩ := h
    rfl
  · obtain ⟨r, S, U, sts, uns, rfl, hR, hz, hzu, k1, k2⟩ := h
    obtain ⟨dx, h1⟩ := id hR.ob
    refine ⟨_, (pss_cons (ps_expr (pe_meth0 (pv 0) T.cls_Roll ⟨T.at_c_Roll_redo, T.fn_c_Roll_redo, T.F_c_Roll_redo.kp⟩ (ok_c_Roll_redo T) (hr.mono (by decide)) T.b_c_Roll_redo .nil (passes_up (takes_of rfl rfl rfl rfl) fun _ _ _ _ h => h))) (pss_one (ps_ret (pe_glob (v := .str "done") rfl T.k_DONE ⟨_, rfl⟩)))), ?_⟩
    refine at_start (ρ' := [some _]) rfl ?_
    walk_at "z0"
    walk_at "z"
    refine s_methA ?_
    walk_at "z"
    refine ⟨r, dx, _, rfl, h1, rfl, ?_⟩
    walk_at "z"
    refine ⟨r, S, U, sts, uns, rfl, hR, by omega, by omega, fun u2 st e H1 f1 hR1 => ?_, k2⟩
    walk_at "z"
    exact k1 u2 st e H1 f1 hR1
/-- the defs that ANSWERS holds -/
def LineSp (T : Tx P K mg w) (f : Addr) (sp : Sp) : Prop := (f = T.f_p_strike_line ∧ sp = spStrikeL K T.C_Roll T.C_NoFact) ∨ (f = T.f_p_undo_line ∧ sp = spUndoL K T.C_Roll T.C_Nothing) ∨ (f = T.f_p_redo_line ∧ sp = spRedoL K T.C_Roll T.C_Nothing)
theorem held_lines (T : Tx P K mg w) : ∀ f sp, LineSp T f sp → HeldX P w K mg base (CX P w) 6 f sp := fun f sp h => by
  rcases h with ⟨rfl, rfl⟩ | ⟨rfl, rfl⟩ | ⟨rfl, rfl⟩
  · exact ⟨_, _, _, by decide, ok_p_strike_line T, T.F_p_strike_line.kp, T.b_p_strike_line⟩
  · exact ⟨_, _, _, by decide, ok_p_undo_line T, T.F_p_undo_line.kp, T.b_p_undo_line⟩
  · exact ⟨_, _, _, by decide, ok_p_redo_line T, T.F_p_redo_line.kp, T.b_p_redo_line⟩
def spNumL (T : Tx P K mg w) : Sp := fun vs H Q E => ∃ (r L f : Addr) (word : Str) (ns : List Int) (sp : Sp), vs = [.ref r, .str word, .ref L] ∧ SqL K H L ((ns.map iTx).map V.str) ∧ (∀ n ∈ ns, NumOk n) ∧ ns.length ≤ 100 ∧ KDct K w T.B_COUNTS word (.int (ns.length : Nat)) ∧ KDct K w T.B_ANSWERS word (.ref f) ∧ LineSp T f sp ∧
  ∀ H1, Ex H H1 → sp (.ref r :: ns.map V.int) H1 Q E
theorem sc_p_numbers_line : FnScope ["roll", "word", "words", "numbers", "action"] ["roll", "word", "words"] (defScope s_p_numbers_line) :=
  ⟨rfl, rfl, rfl, by decide +kernel, rfl, by decide +kernel, by decide +kernel⟩
theorem ok_p_numbers_line (T : Tx P K mg w) : FnOk P w K mg base (CX P w) 8 T.f_p_numbers_line T.d_p_numbers_line ["roll", "word", "words"] (spNumL T) := by
  refine T.F_p_numbers_line.okX sc_p_numbers_line (fun vs H Q E h => ?_) (fun cdv A outer s H vs Q E hr h => ?_)
  · obtain ⟨r, L, f, word, ns, sp, rfl, _⟩ := h
    rfl
  · obtain ⟨r, L, f, word, ns, sp, rfl, hL, hns, hz, kc, ka, hsp, k⟩ := h
    refine ⟨_, (pss_cons (ps_set (i := 3) sc_p_numbers_line.nd rfl (Or.inl rfl) (pe_call (ok_p_read_numbers T) (hr.mono (by decide)) rfl T.g_p_read_numbers T.F_p_read_numbers.kp T.b_p_read_numbers .nil pass0 (pa_cons (pv 2) pa_nil))) (pss_cons (ps_if (PW.pt (pw_or (pt_cmpR op_isN1 (pv 3) pe_non (nomark _)) (pw_or1 (pt_cmpR op_ne (pe_callB (r := Z.rLen K) cz_len (by rfl) T.z_len PySem.boot_len (pa_cons (pv 3) pa_nil)) (pe_ix (r := rIxD K w) ix_kdict (pe_glob (v := .ref T.B_COUNTS) rfl T.g_COUNTS rfl) (pv 1) (fun _ _ => rfl)) (nomark _))))) (pss_one (ps_ret pe_non)) pss_nil) (pss_cons (ps_set (i := 4) sc_p_numbers_line.nd rfl (Or.inl rfl) (pe_ix (r := rIxD K w) ix_kdict (pe_glob (v := .ref T.B_ANSWERS) rfl T.g_ANSWERS rfl) (pv 1) (fun _ _ => rfl))) (pss_one (ps_ret (pe_callVS (i := 4) (held_lines T) (hr.mono (by decide)) rfl (.inl rfl) (passes_up (takes_of rfl rfl rfl rfl) fun _ _ _ _ h => h) (pa_cons (pv 0) (StX.pa_star (pv 3) pa_nil)))))))), ?_⟩
    refine at_start (ρ' := [some _, some _, some _, none, none]) rfl ?_
    walk_at "z0"
    walk_at "z"
    refine ⟨L, ns, rfl, hL, hns, hz, fun p H1 np e1 hp => ?_⟩
    walk_at "z"
    refine ⟨_, _, _, rfl, rfl, kc, ?_⟩
    walk_at "z"
    refine ite_nneg (by rw [List.length_map]) ?_
    walk_at "z"
    refine ⟨_, _, _, rfl, rfl, ka, ?_⟩
    walk_at "z"
    refine s_callVS ⟨f, sp, rfl, hsp, ?_⟩
    walk_at "z"
    refine s_starRL ?_
    walk_at "z"
    refine ⟨p, _, rfl, .inr (SqL.of hp), ?_⟩
    walk_at "z"
    rw [List.append_nil]
    exact k H1 e1
def spRightL (K : PySem.W.Frag) (C Cn Cb Co : Addr) : Sp := fun vs H Q E => ∃ (r S U L : Addr) (n : Int) (f : Fct) (st : Stt) (sts uns : List Stt), vs = [.ref r, .ref L] ∧ SqL K H L ((iTx n :: wordsF f).map V.str) ∧ RollAt K C H r S U sts uns ∧ sts.getLast? = some st ∧ st.length ≤ 1000 ∧ sts.length ≤ 1000 ∧ NumOk n ∧ ReadOk f ∧ Bent f ∧ (∀ g, standF st n = some g → Bent g) ∧
  (∀ g H', standF st n = some g → placeF f = none → f.w = g.w → Fr2 S U H H' → RollAt K C H' r S U (sts ++ [st.set (n - 1).toNat (some f)]) [] → Q (.str "done") H') ∧
  (standF st n = none → ∀ H' d, Ex H H' → H' d = none → E (.ref Cn) (some d) (upd H' d (.xd [("number", .int n), ("called", .str "NoFact")]))) ∧
  (∀ g p, standF st n = some g → placeF f = some p → ∀ H' d, Ex H H' → H' d = none → E (.ref Cb) (some d) (upd H' d (.xd [("place", .int (p : Nat)), ("called", .str "BadFact")]))) ∧
  (∀ g, standF st n = some g → placeF f = none → f.w ≠ g.w → ∀ H' d, Ex H H' → H' d = none → E (.ref Co) (some d) (upd H' d (.xd [("called", .str "Other")])))
theorem sc_p_right_line : FnScope ["roll", "words", "numbers", "fact"] ["roll", "words"] (defScope s_p_right_line) :=
  ⟨rfl, rfl, rfl, by decide +kernel, rfl, by decide +kernel, by decide +kernel⟩
theorem ok_p_right_line (T : Tx P K mg w) : FnOk P w K mg base (CX P w) 6 T.f_p_right_line T.d_p_right_line ["roll", "words"] (spRightL K T.C_Roll T.C_NoFact T.C_BadFact T.C_Other) := by
  refine T.F_p_right_line.okX sc_p_right_line (fun vs H Q E h => ?_) (fun cdv A outer s H vs Q E hr h => ?_)
  · obtain ⟨r, S, U, L, n, f, st, sts, uns, rfl, _⟩ := h
    rfl
  · obtain ⟨r, S, U, L, n, f, st, sts, uns, rfl, hL, hR, hl, hz, hsz, hn, hok, hb, hbg, k1, k2, k3, k4⟩ := h
    have hfew := hok.sml.few
    refine ⟨_, (pss_cons (ps_set (i := 2) sc_p_right_line.nd rfl (Or.inl rfl) (pe_call (ok_p_read_numbers T) (hr.mono (by decide)) rfl T.g_p_read_numbers T.F_p_read_numbers.kp T.b_p_read_numbers .nil pass0 (pa_cons (pe_slice (r := rSlL K) sl_list (pv 1) po_none (po_some pe_int)) pa_nil))) (pss_cons (ps_set (i := 3) sc_p_right_line.nd rfl (Or.inl rfl) (pe_call (ok_p_read_fact T) (hr.mono (by decide)) rfl T.g_p_read_fact T.F_p_read_fact.kp T.b_p_read_fact .nil pass0 (pa_cons (pe_slice (r := rSlL K) sl_list (pv 1) (po_some pe_int) po_none) pa_nil))) (pss_cons (ps_if (PW.pt (pw_or (pt_cmpR op_isN1 (pv 2) pe_non (nomark _)) (pw_or1 (pt_cmpR op_isN1 (pv 3) pe_non (nomark _))))) (pss_one (ps_ret pe_non)) pss_nil) (pss_cons (ps_expr (pe_meth (pv 0) T.cls_Roll ⟨T.at_c_Roll_right, T.fn_c_Roll_right, T.F_c_Roll_right.kp⟩ (ok_c_Roll_right T) (hr.mono (by decide)) T.b_c_Roll_right .nil (passes_up (takes_of rfl rfl rfl rfl) fun _ _ _ _ h => h) (pa_cons (pe_ix (r := rIxL K) ix_list (pv 2) pe_int (fun _ _ => rfl)) (pa_cons (pv 3) pa_nil)))) (pss_one (ps_ret (pe_glob (v := .str "done") rfl T.k_DONE ⟨_, rfl⟩))))))), ?_⟩
    refine at_start (ρ' := [some _, some _, none, none]) rfl ?_
    walk_at "z0"
    walk_at "z"
    rename_i q1 H1 nq1 e1 hq1
    rw [cut_to (by decide) (by rw [List.length_map, List.length_cons]; omega)] at hq1
    refine ⟨q1, [n], rfl, SqL.of hq1, (fun m hm => by rw [List.mem_singleton.mp hm]; exact hn), by show 1 ≤ 100; decide, fun p1 H2 np1 e2 hp1 => ?_⟩
    have hL2 := (e1.trans e2).sqL hL
    walk_at "z"
    rename_i q2 H3 nq2 e3 hq2
    rw [cut_from (by decide) (by rw [List.length_map, List.length_cons]; omega)] at hq2
    replace hq2 : H3 q2 = some (.lst ((wordsF f).map V.str)) := hq2
    refine ⟨q2, f, rfl, SqL.of hq2, hok, fun v H4 e4 hrf => ?_⟩
    obtain ⟨va, us, rfl, hva, hus⟩ := id hrf
    have e04 := ((e1.trans e2).trans e3).trans e4
    have hp4 := (e3.trans e4) _ _ hp1
    have hR4 := hR.ex e04
    obtain ⟨dx, h4⟩ := id hR4.ob
    walk_at "z"
    refine s_methA ?_
    walk_at "z"
    refine ⟨r, dx, _, rfl, h4, rfl, ?_⟩
    walk_at "z"
    refine ⟨r, S, U, n, .ref va, f, st, sts, uns, rfl, hR4, hl, hz, hsz, hrf, hb, hbg, fun _ => log_small (by have := hn.1; omega) (by have := hn.2; omega), fun u g hs hp hw H5 f5 hR5 _ => ?_, fun hs d hd => k2 hs H4 d e04 hd, fun g p hs hp H5 d e5 hd => k3 g p hs hp H5 d (e04.trans e5) hd, fun g hs hp hw H5 d e5 hd => k4 g hs hp hw H5 d (e04.trans e5) hd⟩
    walk_at "z"
    exact k1 g H5 hs hp hw (Fr2.trans (Ex.f2 e04) f5) hR5
theorem doF_tf {st : Stt} {f : Fct} (h : placeF f = none) (hl : 120 ≤ st.length) : doF st (.tell f) = (.full, none) := by
  unfold doF
  dsimp only
  rw [h]
  dsimp only
  rw [if_neg (by omega)]
/-- the answer to a line's words -/
def spAns (T : Tx P K mg w) : Sp := fun vs H Q E => ∃ (r S U L : Addr) (ln : Ln) (st : Stt) (sts uns : List Stt), vs = [.ref r, .ref L] ∧ SqL K H L ((wordsL ln).map V.str) ∧ RollAt K T.C_Roll H r S U sts uns ∧ sts.getLast? = some st ∧ LnOk ln ∧ st.length ≤ 900 ∧ sts.length ≤ 900 ∧ uns.length ≤ 900 ∧ StandOk st ∧
  (∀ z sts' uns' H', SayOk ln st sts uns z sts' uns' → Fr2 S U H H' → RollAt K T.C_Roll H' r S U sts' uns' → Q (.str z) H') ∧
  (∀ C z H' d fs, SayNo ln st sts uns z → ExcL T.C_NoFact T.C_BadFact T.C_Other T.C_Full T.C_Nothing C z → fs.lookup ("called" : Str) = some (.str z) → Ex H H' → H' d = none → E (.ref C) (some d) (upd H' d (.xd fs)))
theorem last_split {sts : List Stt} {st : Stt} (h : sts.getLast? = some st) : ∃ s0, sts = s0 ++ [st] := by
  rcases List.eq_nil_or_concat sts with e | ⟨s0, x, e⟩
  · rw [e] at h
    cases h
  · rw [List.concat_eq_append] at e
    subst e
    rw [List.getLast?_append] at h
    cases h
    exact ⟨s0, rfl⟩
theorem miss_eight (T : Tx P K mg w) {z : Str} (h : z ∈ eightW) : KMiss K w T.B_ANSWERS z ∧ z ≠ "right" := by
  simp only [eightW, List.mem_cons, List.not_mem_nil, or_false] at h
  rcases h with rfl | rfl | rfl | rfl | rfl | rfl | rfl | rfl
  · exact ⟨T.ms0_ANSWERS, by decide +kernel⟩
  · exact ⟨T.ms1_ANSWERS, by decide +kernel⟩
  · exact ⟨T.ms2_ANSWERS, by decide +kernel⟩
  · exact ⟨T.ms3_ANSWERS, by decide +kernel⟩
  · exact ⟨T.ms4_ANSWERS, by decide +kernel⟩
  · exact ⟨T.ms5_ANSWERS, by decide +kernel⟩
  · exact ⟨T.ms6_ANSWERS, by decide +kernel⟩
  · exact ⟨T.ms7_ANSWERS, by decide +kernel⟩
theorem numl_nil {H : Hp} {q : Addr} (h : H q = some (.lst [])) : SqL K H q ((([] : List Int).map iTx).map V.str) := SqL.of h
theorem sc_p_answer : FnScope ["roll", "words", "fact"] ["roll", "words"] (defScope s_p_answer) :=
  ⟨rfl, rfl, rfl, by decide +kernel, rfl, by decide +kernel, by decide +kernel⟩
theorem ok_p_answer (T : Tx P K mg w) : FnOk P w K mg base (CX P w) 9 T.f_p_answer T.d_p_answer ["roll", "words"] (spAns T) := by
  refine T.F_p_answer.okX sc_p_answer (fun vs H Q E h => ?_) (fun cdv A outer s H vs Q E hr h => ?_)
  · obtain ⟨r, S, U, L, ln, st, sts, uns, rfl, _⟩ := h
    rfl
  · obtain ⟨r, S, U, L, ln, st, sts, uns, rfl, hL, hR, hl, hln, hz, hsz, hzu, ok, k1, k2⟩ := h
    have low : (T.B_ANSWERS == sysModules) = false := T.dic_ANSWERS.choose_spec.choose_spec.2.2
    refine ⟨_, (pss_cons (ps_if (pt_cmpR op_eq (pe_ix (r := rIxL K) ix_list (pv 1) pe_int (fun _ _ => rfl)) pe_str (nomark _)) (pss_one (ps_ret (pe_call (ok_p_right_line T) (hr.mono (by decide)) rfl T.g_p_right_line T.F_p_right_line.kp T.b_p_right_line .nil (passes_up (takes_of rfl rfl rfl rfl) fun _ _ _ _ h => h) (pa_cons (pv 0) (pa_cons (pe_slice (r := rSlL K) sl_list (pv 1) (po_some pe_int) po_none) pa_nil))))) pss_nil) (pss_cons (ps_if (pt_cmpR op_inK (pe_ix (r := rIxL K) ix_list (pv 1) pe_int (fun _ _ => rfl)) (pe_glob (v := .ref T.B_ANSWERS) rfl T.g_ANSWERS rfl) (by rfl)) (pss_one (ps_ret (pe_call (ok_p_numbers_line T) (hr.mono (by decide)) rfl T.g_p_numbers_line T.F_p_numbers_line.kp T.b_p_numbers_line .nil (passes_up (takes_of rfl rfl rfl rfl) fun _ _ _ _ h => h) (pa_cons (pv 0) (pa_cons (pe_ix (r := rIxL K) ix_list (pv 1) pe_int (fun _ _ => rfl)) (pa_cons (pe_slice (r := rSlL K) sl_list (pv 1) (po_some pe_int) po_none) pa_nil)))))) pss_nil) (pss_cons (ps_set (i := 2) sc_p_answer.nd rfl (Or.inl rfl) (pe_call (ok_p_read_fact T) (hr.mono (by decide)) rfl T.g_p_read_fact T.F_p_read_fact.kp T.b_p_read_fact .nil pass0 (pa_cons (pv 1) pa_nil))) (pss_one (ps_ret (pe_ifExp (pt_cmpR op_isN1 (pv 2) pe_non (nomark _)) pe_non (pe_callTy cz_strInt (by rfl) T.z_str (by decide +kernel) (pa_cons (pe_meth (pv 0) T.cls_Roll ⟨T.at_c_Roll_tell, T.fn_c_Roll_tell, T.F_c_Roll_tell.kp⟩ (ok_c_Roll_tell T) (hr.mono (by decide)) T.b_c_Roll_tell .nil (passes_up (takes_of rfl rfl rfl rfl) fun _ _ _ _ h => h) (pa_cons (pv 2) pa_nil)) pa_nil)))))))), ?_⟩
    refine at_start (ρ' := [some _, some _, none]) rfl ?_
    walk_at "z0"
    walk_at "z"
    cases ln with
    | undo =>
      obtain ⟨s0, rfl⟩ := last_split hl
      rw [List.length_append, List.length_singleton] at hsz
      replace hL : SqL K H L [.str "undo"] := hL
      refine s_ixL hL (at0 _ _) ?_
      walk_at "z"
      refine ⟨_, T.B_ANSWERS, rfl, rfl, .inl ⟨_, T.kd_ANSWERS_undo, low, ?_⟩⟩
      walk_at "z"
      rename_i q H1 nq e1 hq
      replace hq : H1 q = some (.lst []) := hq
      refine ⟨r, q, _, "undo", [], _, rfl, numl_nil hq, (fun m hm => absurd hm (by simp)), Nat.zero_le _, T.kd_COUNTS_undo, T.kd_ANSWERS_undo, .inr (.inl ⟨rfl, rfl⟩), fun H2 e2 => ?_⟩
      have e02 := e1.trans e2
      refine ⟨r, S, U, s0, uns, st, rfl, hR.ex e02, by omega, by omega, fun hne H3 f3 hR3 => k1 _ _ _ H3 ⟨st, rfl, hne, rfl, rfl⟩ (Fr2.trans (Ex.f2 e02) f3) hR3, fun e d hd => k2 _ _ H2 d _ ⟨by rw [e]; rfl, rfl⟩ (.inr (.inr (.inr (.inr ⟨rfl, rfl⟩)))) rfl e02 hd⟩
    | redo =>
      replace hL : SqL K H L [.str "redo"] := hL
      refine s_ixL hL (at0 _ _) ?_
      walk_at "z"
      refine ⟨_, T.B_ANSWERS, rfl, rfl, .inl ⟨_, T.kd_ANSWERS_redo, low, ?_⟩⟩
      walk_at "z"
      rename_i q H1 nq e1 hq
      replace hq : H1 q = some (.lst []) := hq
      refine ⟨r, q, _, "redo", [], _, rfl, numl_nil hq, (fun m hm => absurd hm (by simp)), Nat.zero_le _, T.kd_COUNTS_redo, T.kd_ANSWERS_redo, .inr (.inr ⟨rfl, rfl⟩), fun H2 e2 => ?_⟩
      have e02 := e1.trans e2
      exact ⟨r, S, U, sts, uns, rfl, hR.ex e02, by omega, by omega, fun u2 s2 e H3 f3 hR3 => k1 _ _ _ H3 ⟨s2, e, rfl, rfl⟩ (Fr2.trans (Ex.f2 e02) f3) hR3, fun e d hd => k2 _ _ H2 d _ ⟨e, rfl⟩ (.inr (.inr (.inr (.inr ⟨rfl, rfl⟩)))) rfl e02 hd⟩
    | deed d =>
      cases d with
      | strike n =>
        have hn : NumOk n := hln
        replace hL : SqL K H L [.str "strike", .str (iTx n)] := hL
        refine s_ixL hL (at0 _ _) ?_
        walk_at "z"
        refine ⟨_, T.B_ANSWERS, rfl, rfl, .inl ⟨_, T.kd_ANSWERS_strike, low, ?_⟩⟩
        walk_at "z"
        rename_i q H1 nq e1 hq
        rw [cut_from (by decide) (by simp)] at hq
        replace hq : H1 q = some (.lst [.str (iTx n)]) := hq
        refine ⟨r, q, _, "strike", [n], _, rfl, SqL.of hq, (fun m hm => by rw [List.mem_singleton.mp hm]; exact hn), by show 1 ≤ 100; decide, T.kd_COUNTS_strike, T.kd_ANSWERS_strike, .inl ⟨rfl, rfl⟩, fun H2 e2 => ?_⟩
        have e02 := e1.trans e2
        refine ⟨r, S, U, n, st, sts, uns, rfl, hR.ex e02, hl, by omega, by omega, log_small (by have := hn.1; omega) (by have := hn.2; omega), fun g H3 hs f3 hR3 => k1 _ _ _ H3 ?_ (Fr2.trans (Ex.f2 e02) f3) hR3, fun hs d hd => k2 _ _ H2 d _ (show refW (doF st (.strike n)).1 = some "NoFact" from by rw [doF_sn hs]; rfl) (.inl ⟨rfl, rfl⟩) rfl e02 hd⟩
        show refW (doF st (.strike n)).1 = none ∧ _ ∧ _ ∧ _
        rw [doF_sg hs]
        exact ⟨rfl, rfl, rfl, rfl⟩
      | right n f =>
        obtain ⟨hn, hok, hb⟩ := (show NumOk n ∧ ReadOk f ∧ Bent f from hln)
        have hfew := hok.sml.few
        replace hL : SqL K H L (.str "right" :: (iTx n :: wordsF f).map V.str) := hL
        refine s_ixL hL (at0 _ _) ?_
        walk_at "z"
        rename_i q H1 nq e1 hq
        rw [cut_from (by decide) (by rw [List.length_cons]; omega)] at hq
        replace hq : H1 q = some (.lst ((iTx n :: wordsF f).map V.str)) := hq
        refine ⟨r, S, U, q, n, f, st, sts, uns, rfl, SqL.of hq, hR.ex e1, hl, by omega, by omega, hn, hok, hb, fun g hg => (ok n g hg).1, fun g H3 hs hp hw f3 hR3 => k1 _ _ _ H3 ?_ (Fr2.trans (Ex.f2 e1) f3) hR3, fun hs H3 d e3 hd => k2 _ _ H3 d _ (show refW (doF st (.right n f)).1 = some "NoFact" from by rw [doF_rn hs]; rfl) (.inl ⟨rfl, rfl⟩) rfl (e1.trans e3) hd, fun g p hs hp H3 d e3 hd => k2 _ _ H3 d _ (show refW (doF st (.right n f)).1 = some "BadFact" from by rw [doF_rb hs hp]; rfl) (.inr (.inl ⟨rfl, rfl⟩)) rfl (e1.trans e3) hd, fun g hs hp hw H3 d e3 hd => k2 _ _ H3 d _ (show refW (doF st (.right n f)).1 = some "Other" from by rw [doF_rg hs hp, if_neg hw]; rfl) (.inr (.inr (.inl ⟨rfl, rfl⟩))) rfl (e1.trans e3) hd⟩
        show refW (doF st (.right n f)).1 = none ∧ _ ∧ _ ∧ _
        rw [doF_rg hs hp, if_pos hw]
        exact ⟨rfl, rfl, rfl, rfl⟩
      | tell f =>
        obtain ⟨hok, hb, h8⟩ := (show ReadOk f ∧ Bent f ∧ f.w ∈ eightW from hln)
        obtain ⟨ms, nr⟩ := miss_eight T h8
        have hL2 : SqL K H L ((wordsF f).map V.str) := hL
        rw [words_ns, List.map_cons] at hL2
        refine s_ixL hL2 (at0 _ _) ?_
        walk_at "z"
        refine ite_neg nr ?_
        walk_at "z"
        refine s_ixL hL2 (at0 _ _) ?_
        walk_at "z"
        refine ⟨_, T.B_ANSWERS, rfl, rfl, .inr ⟨ms, ?_⟩⟩
        walk_at "z"
        refine ⟨L, f, rfl, hL, hok, fun v H1 e1 hrf => ?_⟩
        obtain ⟨va, us, rfl, hva, hus⟩ := id hrf
        have hR1 := hR.ex e1
        obtain ⟨dx, h1⟩ := id hR1.ob
        walk_at "z"
        refine s_methA ?_
        walk_at "z"
        refine ⟨r, dx, _, rfl, h1, rfl, ?_⟩
        walk_at "z"
        refine ⟨r, S, U, .ref va, f, st, sts, uns, rfl, hR1, hl, by omega, by omega, hrf, hb, fun hp hlt H2 f2 hR2 => ?_, fun p hp H2 d e2 hd => k2 _ _ H2 d _ (show refW (doF st (.tell f)).1 = some "BadFact" from by rw [doF_tb hp]; rfl) (.inr (.inl ⟨rfl, rfl⟩)) rfl (e1.trans e2) hd, fun hp hl2 H2 d e2 hd => k2 _ _ H2 d _ (show refW (doF st (.tell f)).1 = some "Full" from by rw [doF_tf hp hl2]; rfl) (.inr (.inr (.inr (.inl ⟨rfl, rfl⟩)))) rfl (e1.trans e2) hd⟩
        walk_at "z"
        refine s_rStrInt (log_small (by omega) (by omega)) ?_
        refine k1 _ _ _ H2 ?_ (Fr2.trans (Ex.f2 e1) f2) hR2
        show refW (doF st (.tell f)).1 = none ∧ _ ∧ _ ∧ _
        rw [doF_tg hp hlt]
        exact ⟨rfl, rfl, rfl, rfl⟩

/-! the desk -/
def DeskAt (C : Addr) (H : Hp) (dk r : Addr) : Prop := ∃ dx, H dk = some (.ins C dx [("held", .ref r)])
theorem DeskAt.ex {C dk r : Addr} {H H' : Hp} (h : DeskAt C H dk r) (e : Ex H H') : DeskAt C H' dk r := by
  obtain ⟨dx, h⟩ := h
  exact ⟨dx, e _ _ h⟩
theorem tk_ins {b C d : Addr} {fs : List (Str × V)} {H H' : Hp} (e : Fr b H H') (hb : H b = some (.ins C d fs)) : Tk K H H' := fun p zs h => by
  have ne : ∀ {u}, H p = some u → (∀ C d fs, u ≠ .ins C d fs) → p ≠ b := fun h1 h2 z => by
    subst z
    rw [h1] at hb
    exact h2 _ _ _ (Option.some.inj hb)
  rcases h with (h | ⟨q, h⟩) | h
  · exact .inl (.inl (e _ _ (ne h (fun _ _ _ z => by cases z)) h))
  · exact .inl (.inr ⟨q, e _ _ (ne h (fun _ _ _ z => by cases z)) h⟩)
  · exact .inr h
theorem RollAt.fri {C r S U b Cb d : Addr} {fs : List (Str × V)} {H H' : Hp} {sts uns : List Stt} (h : RollAt K C H r S U sts uns) (f : Fr b H H') (hb : H b = some (.ins Cb d fs)) (n : r ≠ b) : RollAt K C H' r S U sts uns := by
  obtain ⟨⟨dx, h1⟩, ⟨sv, h2, h3⟩, ⟨uv, h4, h5⟩, h6⟩ := h
  have t := tk_ins (K := K) f hb
  exact ⟨⟨dx, f _ _ n h1⟩, ⟨sv, f _ _ (ne_of h2 hb (fun z => by cases z)) h2, h3.mono fun _ _ z => z.tk t⟩, ⟨uv, f _ _ (ne_of h4 hb (fun z => by cases z)) h4, h5.mono fun _ _ z => z.tk t⟩, h6⟩
def spDeskI (K : PySem.W.Frag) (CR CD : Addr) : Sp := fun vs H Q _ => ∃ (dk dx : Addr) (y : V) (sts uns : List Stt), vs = [.ref dk, y] ∧ H dk = some (.ins CD dx []) ∧ sts.length ≤ 1000 ∧ uns.length ≤ 1000 ∧ ((y = .non ∧ sts = [[]] ∧ uns = []) ∨ ∃ r0 S0 U0, y = .ref r0 ∧ RollAt K CR H r0 S0 U0 sts uns) ∧
  ∀ r S U H', H r = none → H S = none → H U = none → Fr dk H H' → DeskAt CD H' dk r → RollAt K CR H' r S U sts uns → Q .non H'
theorem sc_c_Desk_init : FnScope ["self", "roll"] ["self", "roll"] (defScope s_c_Desk_init) :=
  ⟨rfl, rfl, rfl, by decide +kernel, rfl, by decide +kernel, by decide +kernel⟩
theorem bd_c_Desk_init_0 (T : Tx P K mg w) : ∃ ds, Vals [] ds ∧ Binds K T.d_c_Desk_init ["self", "roll"] ds :=
  T.F_c_Desk_init.binds1 2 1 (by simp) rfl fun _ _ _ _ _ _ _ us its hu hi => match us, its, hu, hi with | [_, _], [_], _, _ => ⟨_, rfl, rfl⟩
theorem bd_c_Desk_init_1 (T : Tx P K mg w) : ∃ ds, Vals [.non] ds ∧ Binds K T.d_c_Desk_init ["self", "roll"] ds :=
  T.F_c_Desk_init.binds1 1 0 (by simp) rfl fun _ _ _ _ _ _ _ us its hu hi => match us, its, hu, hi with | [_], [_], _, _ => ⟨_, rfl, rfl⟩
theorem ok_c_Desk_init (T : Tx P K mg w) : FnOk P w K mg base CX0 4 T.f_c_Desk_init T.d_c_Desk_init ["self", "roll"] (spDeskI K T.C_Roll T.C_Desk) := by
  refine T.F_c_Desk_init.ok sc_c_Desk_init (fun vs H Q E h => ?_) (fun cdv A outer s H vs Q E hr h => ?_)
  · obtain ⟨dk, dx, y, sts, uns, rfl, _⟩ := h
    rfl
  · obtain ⟨dk, dx, y, sts, uns, rfl, hD, hz, hzu, hy, k⟩ := h
    refine ⟨_, (pss_one (ps_fld (pv 0) (pe_ifExp (pt_cmpR op_isN1 (pv 1) pe_non (nomark _)) (pe_make0 T.mk_Roll (ok_c_Roll_init T) (hr.mono (by decide)) rfl T.g_Roll T.b_c_Roll_init .nil pass0) (pe_meth0 (pv 1) T.cls_Roll ⟨T.at_c_Roll_twin, T.fn_c_Roll_twin, T.F_c_Roll_twin.kp⟩ (ok_c_Roll_twin T) (hr.mono (by decide)) T.b_c_Roll_twin .nil pass0)) rfl)), ?_⟩
    refine at_start (ρ' := [some _, some _]) rfl ?_
    walk_at "z0"
    walk_at "z"
    refine s_sFldP ?_
    rcases hy with ⟨rfl, rfl, rfl⟩ | ⟨r0, S0, U0, rfl, hR0⟩
    · walk_at "z"
      refine s_make ?_
      intro r1 dx1 nr ndx nxd
      have eN : Ex H (upd (upd H dx1 (.own r1)) r1 (.ins T.C_Roll dx1 [])) := (Ex.new ndx).trans (Ex.new (by rw [upd_ne nxd.symm]; exact nr))
      refine ⟨r1, dx1, rfl, upd_same, fun S U H2 nS nU f2 hR => ⟨rfl, ?_⟩⟩
      have nrd : H r1 = none := nr
      have ndr : dk ≠ r1 := fun z => by
        rw [z, nrd] at hD
        cases hD
      have hD2 := f2 _ _ ndr (eN _ _ hD)
      walk_at "z"
      refine s_fldPut [("held", .ref r1)] hD2 T.cls_Desk T.na_Desk_held (by show 0 < 1000; decide) rfl fun H3 f3 h3 => ?_
      walk_at "z"
      exact k r1 S U H3 nrd (Ex.back eN nS) (Ex.back eN nU) (fun x o hx h => f3 _ _ hx (f2 _ _ (fun z => by rw [z, nrd] at h; cases h) (eN _ _ h))) ⟨_, h3⟩ (hR.fri f3 hD2 ndr.symm)
    · obtain ⟨dx0, h0⟩ := id hR0.ob
      walk_at "z"
      refine s_meth24 ?_
      walk_at "z"
      refine ⟨r0, dx0, _, rfl, h0, rfl, ?_⟩
      walk_at "z"
      refine ⟨r0, S0, U0, sts, uns, rfl, hR0, hz, hzu, fun r1 S U H2 nr nS nU e2 hR => ?_⟩
      have hD2 := e2 _ _ hD
      have ndr : dk ≠ r1 := fun z => by
        rw [z, nr] at hD
        cases hD
      walk_at "z"
      refine s_fldPut [("held", .ref r1)] hD2 T.cls_Desk T.na_Desk_held (by show 0 < 1000; decide) rfl fun H3 f3 h3 => ?_
      walk_at "z"
      exact k r1 S U H3 nr nS nU (fun x o hx h => f3 _ _ hx (e2 _ _ h)) ⟨_, h3⟩ (hR.fri f3 hD2 ndr.symm)
/-! what is said -/
theorem words_free {ln : Ln} (h : LnOk ln) : ∀ p ∈ wordsL ln, 32 ∉ TL.tl p := by
  have wf : ∀ {f : Fct}, ReadOk f → ∀ p ∈ wordsF f, 32 ∉ TL.tl p := fun {f} hok p hp => parts_free (n := 0) ⟨by decide, by decide⟩ hok (.inl rfl) p (List.mem_cons_of_mem _ hp)
  intro p hp
  cases ln with
  | undo =>
    rw [List.mem_singleton.mp hp]
    decide +kernel
  | redo =>
    rw [List.mem_singleton.mp hp]
    decide +kernel
  | deed d =>
    cases d with
    | tell f => exact wf h.1 p hp
    | right n f =>
      rcases List.mem_cons.mp hp with rfl | hp
      · decide +kernel
      · exact parts_free h.1 h.2.1 (.inl rfl) p hp
    | strike n =>
      rcases List.mem_cons.mp hp with rfl | hp
      · decide +kernel
      · rw [List.mem_singleton.mp hp]
        exact iTx_free h (.inl (by decide))
theorem words_ne (ln : Ln) : wordsL ln ≠ [] := by
  cases ln with
  | undo => exact List.cons_ne_nil _ _
  | redo => exact List.cons_ne_nil _ _
  | deed d => cases d <;> exact List.cons_ne_nil _ _
theorem line_split {ln : Ln} (h : LnOk ln) : Txt.split (lineT ln) " " = wordsL ln := TL.split_join (s := 32) (S := []) (by decide +kernel) (by decide +kernel) (words_ne ln) (words_free h)
theorem line_len {ln : Ln} (h : LnOk ln) : (lineT ln).length ≤ 200000 := by
  have gen : ∀ ys : List Str, ys.length ≤ 70 → (∀ s ∈ ys, s.length ≤ 1921) → (Txt.join " " ys).length ≤ 200000 := fun ys h1 h2 => by
    have h3 := joinT_len " " ys
    have h4 := sum_le h2
    rw [sp_len] at h3
    have h5 : ys.length * 1921 ≤ 70 * 1921 := Nat.mul_le_mul_right _ h1
    omega
  have small : ∀ {n : Int}, NumOk n → (iTx n).length ≤ 1921 := fun hn => by
    have := iTx_len30 hn
    omega
  refine gen _ ?_ ?_
  · cases ln with
    | undo => show 1 ≤ 70; decide
    | redo => show 1 ≤ 70; decide
    | deed d =>
      cases d with
      | tell f =>
        have := h.1.sml.few
        show (wordsF f).length ≤ 70
        omega
      | right n f =>
        have := h.2.1.sml.few
        show (wordsF f).length + 1 + 1 ≤ 70
        omega
      | strike n => show 2 ≤ 70; decide
  · intro s hs
    cases ln with
    | undo =>
      rw [List.mem_singleton.mp hs]
      decide +kernel
    | redo =>
      rw [List.mem_singleton.mp hs]
      decide +kernel
    | deed d =>
      cases d with
      | tell f => exact h.1.sml.len s hs
      | right n f =>
        rcases List.mem_cons.mp hs with rfl | hs
        · decide +kernel
        · rcases List.mem_cons.mp hs with rfl | hs
          · exact small h.1
          · exact h.2.1.sml.len s hs
      | strike n =>
        rcases List.mem_cons.mp hs with rfl | hs
        · decide +kernel
        · rw [List.mem_singleton.mp hs]
          exact small h
theorem exm2 {cls c1 c2 : Value} {b1 b2 : Bool} (h1 : PySem.W.exmOne K cls c1 = some b1) (h2 : PySem.W.exmOne K cls c2 = some b2) : PySem.W.exmAny K cls [c1, c2] = some (b1 || (b2 || false)) := by
  unfold PySem.W.exmAny
  rw [h1]
  unfold PySem.W.exmAny
  rw [h2]
  unfold PySem.W.exmAny
  rfl
structure ExcOk (T : Tx P K mg w) (C : Addr) (z : Str) : Prop where
  any : PySem.W.exmAny K (.ref C) [.ref T.C_PikeError, .ref T.C_Missing] = some true
  xf : XfC K C
  no : PySem.W.findIn K (.ref C) "called" = some none
  len : z.length ≤ 20
theorem exc_ok (T : Tx P K mg w) {C : Addr} {z : Str} (h : ExcL T.C_NoFact T.C_BadFact T.C_Other T.C_Full T.C_Nothing C z) : ExcOk T C z := by
  rcases h with ⟨rfl, rfl⟩ | ⟨rfl, rfl⟩ | ⟨rfl, rfl⟩ | ⟨rfl, rfl⟩ | ⟨rfl, rfl⟩
  · exact ⟨exm2 T.e_NoFact_PikeError T.e_NoFact_Missing, T.xf_NoFact, T.pk_NoFact.no, by decide +kernel⟩
  · exact ⟨exm2 T.e_BadFact_PikeError T.e_BadFact_Missing, T.xf_BadFact, T.pk_BadFact.no, by decide +kernel⟩
  · exact ⟨exm2 T.e_Other_PikeError T.e_Other_Missing, T.xf_Other, T.pk_Other.no, by decide +kernel⟩
  · exact ⟨exm2 T.e_Full_PikeError T.e_Full_Missing, T.xf_Full, T.pk_Full.no, by decide +kernel⟩
  · exact ⟨exm2 T.e_Nothing_PikeError T.e_Nothing_Missing, T.xf_Nothing, T.pk_Nothing.no, by decide +kernel⟩
def spSay (K : PySem.W.Frag) (CR CD : Addr) : Sp := fun vs H Q _ => ∃ (dk r S U : Addr) (ln : Ln) (st : Stt) (sts uns : List Stt), vs = [.ref dk, .str (lineT ln)] ∧ DeskAt CD H dk r ∧ RollAt K CR H r S U sts uns ∧ sts.getLast? = some st ∧ LnOk ln ∧ st.length ≤ 900 ∧ sts.length ≤ 900 ∧ uns.length ≤ 900 ∧ StandOk st ∧
  (∀ z sts' uns' H', SayOk ln st sts uns z sts' uns' → Fr2 S U H H' → RollAt K CR H' r S U sts' uns' → Q (.str z) H') ∧
  (∀ z H', SayNo ln st sts uns z → Ex H H' → Q (.str ("no: " ++ z)) H')
theorem sc_c_Desk_say : FnScope ["self", "line", "told", "refusal"] ["self", "line"] (defScope s_c_Desk_say) :=
  ⟨rfl, rfl, rfl, by decide +kernel, rfl, by decide +kernel, by decide +kernel⟩
theorem ok_c_Desk_say (T : Tx P K mg w) : FnOk P w K mg base CX0 10 T.f_c_Desk_say T.d_c_Desk_say ["self", "line"] (spSay K T.C_Roll T.C_Desk) := by
  refine T.F_c_Desk_say.ok sc_c_Desk_say (fun vs H Q E h => ?_) (fun cdv A outer s H vs Q E hr h => ?_)
  · obtain ⟨dk, r, S, U, ln, st, sts, uns, rfl, _⟩ := h
    rfl
  · obtain ⟨dk, r, S, U, ln, st, sts, uns, rfl, ⟨dx, hD⟩, hR, hl, hln, hz, hsz, hzu, ok, k1, k2⟩ := h
    have hll := line_len hln
    have h16 := line16
    refine ⟨_, (pss_cons (ps_try_tup2 (i := 3) rfl rfl sc_c_Desk_say.nd rfl rfl ⟨rfl, by decide, .inl T.g_PikeError⟩ ⟨rfl, by decide, .inl T.g_Missing⟩ takes0 (fun W pn xe tk po => (pss_one (ps_set (i := 2) sc_c_Desk_say.nd rfl (Or.inl rfl) (pe_callS (ok_p_answer T) (hr.mono (by decide)) rfl T.g_p_answer T.F_p_answer.kp T.b_p_answer (fun σ => passAt tk σ) (pa_cons (pe_fldK (K := K) rfl (pv 0) rfl) (pa_cons (pe_m1 PySem.F.slot_str_split PySem.F.type_str_split mz_split (pv 1) pe_str) pa_nil)))))) (fun a oe cls d pn hz hf => (pss_one (ps_ret (pz_fstr (PJ.cons pe_str (PJ.cons (pe_fmt (pe_xfA hz hf (pv 3))) PJ.nil))))))) (pss_one (ps_ret (pe_ifExp (pt_cmpR op_isN1 (pv 2) pe_non (nomark _)) pe_str (pv 2))))), ?_⟩
    refine at_start (ρ' := [some _, some _, none, none]) rfl ?_
    walk_at "z0"
    walk_at "z"
    refine s_fldGet hD T.cls_Desk T.na_Desk_held rfl ?_
    walk_at "z"
    refine s_splitS (by decide +kernel) (by omega) (line_split hln) ?_
    refine s_new fun q H1 nq e1 hq => ?_
    walk_at "z"
    refine ⟨r, S, U, q, ln, st, sts, uns, rfl, SqL.of hq, hR.ex e1, hl, hln, hz, hsz, hzu, ok, fun z sts' uns' H2 hs f2 hR2 => ?_, fun C z H2 d fs hs hc hlk e2 hd => ?_⟩
    · walk_at "z"
      exact k1 z sts' uns' H2 hs (Fr2.trans (Ex.f2 e1) f2) hR2
    · have xo := exc_ok T hc
      refine ⟨true, xo.any, fun _ a ha => ?_, fun q => Bool.noConfusion q⟩
      dsimp only
      have e3 : Ex H2 (upd H2 d (.xd fs)) := Ex.new hd
      have hd3 : (upd H2 d (.xd fs)) d = some (.xd fs) := upd_same
      generalize upd H2 d (.xd fs) = H3 at e3 hd3
      walk_at "z"
      refine s_jsV (by rw [Str_empty_app]; exact sz (by decide +kernel)) ?_
      rw [Str_empty_app]
      walk_at "z"
      refine s_xfA xo.xf xo.no ?_
      refine s_xf ?_
      walk_at "z"
      refine ⟨rfl, rfl, d, fs, .str z, rfl, hd3, hlk, ?_⟩
      refine s_fmtS (sz (by have := xo.len; omega)) ?_
      refine s_jsV (by rw [Str_len_app, show (Str.ofString "no: ").length = 4 from by decide +kernel]; exact sz (by have := xo.len; omega)) ?_
      walk_at "z"
      exact k2 z _ hs ((e1.trans e2).trans e3)
def spDRoll (K : PySem.W.Frag) (CR CD : Addr) : Sp := fun vs H Q _ => ∃ (dk r S U : Addr) (sts uns : List Stt), vs = [.ref dk] ∧ DeskAt CD H dk r ∧ RollAt K CR H r S U sts uns ∧ sts.length ≤ 1000 ∧ uns.length ≤ 1000 ∧
  ∀ r' S' U' H', H r' = none → H S' = none → H U' = none → Ex H H' → RollAt K CR H' r' S' U' sts uns → Q (.ref r') H'
theorem sc_c_Desk_roll : FnScope ["self"] ["self"] (defScope s_c_Desk_roll) :=
  ⟨rfl, rfl, rfl, by decide +kernel, rfl, by decide +kernel, by decide +kernel⟩
theorem ok_c_Desk_roll (T : Tx P K mg w) : FnOk P w K mg base CX0 4 T.f_c_Desk_roll T.d_c_Desk_roll ["self"] (spDRoll K T.C_Roll T.C_Desk) := by
  refine T.F_c_Desk_roll.ok sc_c_Desk_roll (fun vs H Q E h => ?_) (fun cdv A outer s H vs Q E hr h => ?_)
  · obtain ⟨dk, r, S, U, sts, uns, rfl, _⟩ := h
    rfl
  · obtain ⟨dk, r, S, U, sts, uns, rfl, ⟨dx, hD⟩, hR, hz, hzu, k⟩ := h
    obtain ⟨dr, h1⟩ := id hR.ob
    refine ⟨_, (pss_one (ps_ret (pe_meth0 (pe_fld (pv 0) rfl) T.cls_Roll ⟨T.at_c_Roll_twin, T.fn_c_Roll_twin, T.F_c_Roll_twin.kp⟩ (ok_c_Roll_twin T) (hr.mono (by decide)) T.b_c_Roll_twin .nil pass0))), ?_⟩
    refine at_start (ρ' := [some _]) rfl ?_
    walk_at "z0"
    walk_at "z"
    refine s_meth24 ?_
    walk_at "z"
    refine s_fldGet hD T.cls_Desk T.na_Desk_held rfl ?_
    refine ⟨r, dr, _, rfl, h1, rfl, ?_⟩
    walk_at "z"
    exact ⟨r, S, U, sts, uns, rfl, hR, hz, hzu, k⟩

/-! any words: what is read of them -/
theorem FnOk.orX {P : Program} {w : World} {K : PySem.W.Frag} {mg : Str → Option Value} {base : Heap} {CY : CXT} {k : Nat} {f : Addr} {fd : FuncData} {ps : List Str} {sp bad : Sp} (a : FnOk P w K mg base CY k f fd ps sp) (b : FnOk P w K mg base CY k f fd ps bad) : FnOk P w K mg base CY k f fd ps (spX sp bad) :=
  ⟨fun vs H Q E h => h.elim (a.len vs H Q E) (b.len vs H Q E), fun A outer s H args us vs Q E hr e0 hb r h => h.elim (a.run A outer s H args us vs Q E hr e0 hb r) (b.run A outer s H args us vs Q E hr e0 hb r)⟩
noncomputable def numB (z : Str) : Bool := @decide (NumW z) (Classical.propDecidable _)
theorem numB_t {z : Str} (h : NumW z) : numB z = true := @decide_eq_true _ (Classical.propDecidable _) h
theorem numB_f {z : Str} (h : ¬ NumW z) : numB z = false := @decide_eq_false _ (Classical.propDecidable _) h
theorem numB_iff {z : Str} : numB z = true ↔ NumW z := ⟨fun h => Classical.byContradiction fun n => (by rw [numB_f n] at h; cases h), numB_t⟩
theorem num_free {z : Str} (h : NumW z) : Txt.isascii z = true ∧ Txt.isdigit z = true ∧ z.length ≤ 30 ∧ (z = "0" ∨ Txt.startswith z "0" = false) := by
  obtain ⟨n, hn, rfl⟩ := h
  have hl := iTx_len30 hn
  obtain ⟨m, rfl, hm⟩ := num_of hn
  refine ⟨num_ascii m, num_digit m, hl, ?_⟩
  by_cases h0 : m = 0
  · left
    rw [h0]
    decide +kernel
  · exact .inr (num_starts h0)
theorem nums_of : ∀ {ys : List Str}, (∀ y ∈ ys, NumW y) → ∃ ns : List Int, ys = ns.map iTx ∧ ∀ n ∈ ns, NumOk n
  | [], _ => ⟨[], rfl, fun _ h => by cases h⟩
  | y :: ys, h => by
    obtain ⟨n, hn, e⟩ := h y List.mem_cons_self
    obtain ⟨ns, e2, h2⟩ := nums_of fun z hz => h z (List.mem_cons_of_mem _ hz)
    refine ⟨n :: ns, by rw [List.map_cons, e, e2], fun m hm => ?_⟩
    rcases List.mem_cons.mp hm with rfl | hm
    · exact hn
    · exact h2 m hm
def spNumTG : Sp := fun vs H Q _ => ∃ z : Str, vs = [.str z] ∧ z.length ≤ 90000 ∧ Q (.bl (numB z)) H
theorem okG_p_is_number_text (T : Tx P K mg w) : FnOk P w K mg base CX0 1 T.f_p_is_number_text T.d_p_is_number_text ["word"] spNumTG := by
  refine T.F_p_is_number_text.ok sc_p_is_number_text (fun vs H Q E h => ?_) (fun cdv A outer s H vs Q E hr h => ?_)
  · obtain ⟨z, rfl, _⟩ := h
    rfl
  · obtain ⟨z, rfl, hz, k⟩ := h
    refine ⟨_, (pss_cons (ps_if (PW.pt (pw_or (pt_not (pt_val (pe_m0 PySem.F.slot_str_isascii PySem.F.type_str_isascii mz_isascii (pv 0)))) (pw_or (pt_not (pt_val (pe_m0 PySem.F.slot_str_isdigit PySem.F.type_str_isdigit mz_isdigit (pv 0)))) (pw_or1 (pt_cmpR op_gt (pe_callB cz_lenStr (by rfl) T.z_len PySem.boot_len (pa_cons (pv 0) pa_nil)) (pe_glob (v := .int 30) rfl T.k_MOST_FIGURES ⟨_, rfl⟩) (nomark _)))))) (pss_one (ps_ret pe_bl)) pss_nil) (pss_one (ps_ret (pe_or (pe_cmpR op_eq (pv 0) pe_str (nomark _)) (pe_one (pe_not (pe_m1 PySem.F.slot_str_startswith PySem.F.type_str_startswith mz_startswith (pv 0) pe_str))))))), ?_⟩
    refine at_start (ρ' := [some _]) rfl ?_
    have no : ¬ NumW z → numB z = false := numB_f
    walk_at "z0"
    walk_at "z"
    refine s_boolS ?_
    cases ha : Txt.isascii z with
    | false =>
      rw [no fun h => by rw [(num_free h).1] at ha; cases ha] at k
      walk_at "z"
      exact k
    | true =>
      walk_at "z"
      refine s_boolS ?_
      cases hd : Txt.isdigit z with
      | false =>
        rw [no fun h => by rw [(num_free h).2.1] at hd; cases hd] at k
        walk_at "z"
        exact k
      | true =>
        walk_at "z"
        refine s_rLenStr (sz (by omega)) ?_
        walk_at "z"
        refine ite_dec (fun h3 => ?_) (fun h3 => ?_)
        · rw [no fun h => by have := (num_free h).2.2.1; omega] at k
          walk_at "z"
          exact k
        · walk_at "z"
          refine ite_dec (fun h8 => ?_) (fun h8 => ?_)
          · rw [numB_t (numW_prog ha hd (by omega) (.inl h8))] at k
            exact k
          · walk_at "z"
            refine s_startsS ?_
            cases hs : Txt.startswith z "0" with
            | false =>
              rw [numB_t (numW_prog ha hd (by omega) (.inr hs))] at k
              walk_at "z"
              exact k
            | true =>
              rw [no fun h => by
                rcases (num_free h).2.2.2 with e | e
                · exact h8 e
                · rw [hs] at e
                  cases e] at k
              walk_at "z"
              exact k
def spNumsG (K : PySem.W.Frag) : Sp := fun vs H Q _ => ∃ (L : Addr) (ys : List Str), vs = [.ref L] ∧ SqL K H L (ys.map V.str) ∧ (∀ y ∈ ys, y.length ≤ 90000) ∧ ys.length ≤ 100 ∧
  (∀ (ns : List Int) p H', ys = ns.map iTx → (∀ n ∈ ns, NumOk n) → H p = none → Ex H H' → H' p = some (.lst (ns.map V.int)) → Q (.ref p) H') ∧ ((∃ y ∈ ys, ¬ NumW y) → ∀ H', Ex H H' → Q .non H')
theorem okG_p_read_numbers (T : Tx P K mg w) : FnOk P w K mg base CX0 2 T.f_p_read_numbers T.d_p_read_numbers ["words"] (spNumsG K) := by
  refine T.F_p_read_numbers.ok sc_p_read_numbers (fun vs H Q E h => ?_) (fun cdv A outer s H vs Q E hr h => ?_)
  · obtain ⟨L, ys, rfl, _⟩ := h
    rfl
  · obtain ⟨L, ys, rfl, hL, hys, hz, k1, k2⟩ := h
    have get : ∀ {i : Nat} {x : V}, (ys.map V.str)[i]? = some x → ∃ y, ys[i]? = some y ∧ x = .str y := fun {i x} h => by
      rw [List.getElem?_map] at h
      obtain ⟨z, hz, rfl⟩ := Option.map_eq_some_iff.mp h
      exact ⟨z, hz, rfl⟩
    refine ⟨_, (pss_cons (ps_if (pt_not (pt_val (pe_callB (r := rAll K) (cr_all rfl) (by rfl) T.z_all (by decide +kernel) (pa_cons (pe_lc (own := [("word", 1)]) (by rfl) sc_p_read_numbers.nd (pi_list (pv 0)) (blkOk_by (own := [("word", 1)]) (N := ["words", "word"]) (sc := defScope s_p_read_numbers) (by decide +kernel)) (fun _ _ _ _ _ => (pg_name (i := 1) sc_p_read_numbers.nd rfl (Or.inl rfl))) (fun _ _ _ _ _ => pts_nil) (fun _ _ _ _ _ => (pe_call (okG_p_is_number_text T) (hr.mono (by decide)) rfl T.g_p_is_number_text T.F_p_is_number_text.kp T.b_p_is_number_text .nil pass0 (pa_cons (pv 1) pa_nil)))) pa_nil)))) (pss_one (ps_ret pe_non)) pss_nil) (pss_one (ps_ret (pe_lc (own := [("word", 1)]) (by rfl) sc_p_read_numbers.nd (pi_list (pv 0)) (blkOk_by (own := [("word", 1)]) (N := ["words", "word"]) (sc := defScope s_p_read_numbers) (by decide +kernel)) (fun _ _ _ _ _ => (pg_name (i := 1) sc_p_read_numbers.nd rfl (Or.inl rfl))) (fun _ _ _ _ _ => pts_nil) (fun _ _ _ _ _ => (pe_callTy cz_intS (by rfl) T.z_int (by decide +kernel) (pa_cons (pv 1) pa_nil))))))), ?_⟩
    refine at_start (ρ' := [some _, none]) rfl ?_
    walk_at "z0"
    walk_at "z"
    refine c_list (ys.map V.str) hL (fun D H' => H D = none ∧ Ex H H') (fun D i acc H' => acc = ((ys.take i).map numB).map V.bl) (fun D H' n e _ => ⟨⟨n, e⟩, rfl⟩) (fun D H' Iv => Iv.2.sqL hL) (fun D i acc H1 x hx Iv hD hn r => ?_) (fun D acc H1 Iv hD hn r => ?_)
    · obtain ⟨nD, e1⟩ := Iv
      obtain ⟨y, hyi, rfl⟩ := get hx
      have hi : i < ys.length := (List.getElem?_eq_some_iff.mp hyi).1
      walk_at "z"
      refine ⟨rfl, ?_⟩
      walk_at "z"
      refine ⟨y, rfl, hys y (List.mem_of_getElem? hyi), ?_⟩
      refine c_put hD ⟨hn, by omega⟩ fun H2 f2 _ => ⟨⟨nD, e1.fr2 nD f2⟩, ?_⟩
      rw [r, List.take_succ, hyi, List.map_append, List.map_append]
      rfl
    · obtain ⟨nD, e1⟩ := Iv
      rw [List.length_map, List.take_length] at r
      subst r
      walk_at "z"
      refine s_rAll (ys.map numB) (SqL.of hD) rfl ?_
      cases hall : (ys.map numB).all id with
      | false =>
        walk_at "z"
        refine k2 ?_ H1 e1
        rw [List.all_eq_false] at hall
        obtain ⟨b, hb, h2⟩ := hall
        obtain ⟨y, hy, rfl⟩ := List.mem_map.mp hb
        exact ⟨y, hy, fun h => h2 (numB_t h)⟩
      | true =>
        have hall2 : ∀ y ∈ ys, NumW y := fun y hy => numB_iff.mp (List.all_eq_true.mp hall _ (List.mem_map.mpr ⟨y, hy, rfl⟩))
        obtain ⟨ns, rfl, hns⟩ := nums_of hall2
        rw [List.length_map] at hz
        have get2 : ∀ {i : Nat} {x : V}, ((ns.map iTx).map V.str)[i]? = some x → ∃ n, ns[i]? = some n ∧ x = .str (iTx n) := fun {i x} h => by
          rw [List.getElem?_map, List.getElem?_map] at h
          obtain ⟨z, hz, rfl⟩ := Option.map_eq_some_iff.mp h
          obtain ⟨n, hn, rfl⟩ := Option.map_eq_some_iff.mp hz
          exact ⟨n, hn, rfl⟩
        walk_at "z"
        have hL1 := e1.sqL hL
        refine c_list ((ns.map iTx).map V.str) hL1 (fun D H' => H1 D = none ∧ Ex H1 H') (fun D i acc H' => acc = (ns.take i).map V.int) (fun D H' n e _ => ⟨⟨n, e⟩, rfl⟩) (fun D H' Iv => Iv.2.sqL hL1) (fun D i acc H2 x hx Iv hD hn r => ?_) (fun D acc H2 Iv hD hn r => ?_)
        · obtain ⟨nD, e2⟩ := Iv
          obtain ⟨n, hni, rfl⟩ := get2 hx
          have hi : i < ns.length := (List.getElem?_eq_some_iff.mp hni).1
          have hok := hns n (List.mem_of_getElem? hni)
          walk_at "z"
          refine ⟨rfl, ?_⟩
          walk_at "z"
          refine s_intS (iTx_read hok) (by have := iTx_len30 hok; omega) ?_
          refine c_put hD ⟨hn, by omega⟩ fun H3 f3 _ => ⟨⟨nD, e2.fr2 nD f3⟩, ?_⟩
          rw [r, List.take_succ, hni, List.map_append]
          rfl
        · obtain ⟨nD, e2⟩ := Iv
          rw [List.length_map, List.length_map, List.take_length] at r
          subst r
          exact k1 ns D H2 rfl hns (Ex.back e1 nD) (e1.trans e2) hD
/-- words of a fact -/
def FactL (ys : List Str) : Prop := ∃ f, ys = wordsF f ∧ ReadOk f
theorem shape_eight {z : Str} {ks : List Str} (h : shapeOf z = some ks) : z ∈ eightW ∧ ((z = "board" ∧ ks = (["gate", "day", "gates"] : List Str)) ∨ (z ≠ "board" ∧ ∃ kk, ks.getLast? = some kk ∧ kk ≠ "gates")) := by
  unfold shapeOf at h
  have g : ∀ {k : Str}, k = "toll" ∨ k = "trust" ∨ k = "day" ∨ k = "horses" ∨ k = "minute" ∨ k = "payment" → k ≠ "gates" := fun h => by
    rcases h with rfl | rfl | rfl | rfl | rfl | rfl <;> decide +kernel
  have m : ∀ {w : Str}, w = "toll" ∨ w = "board" ∨ w = "trust" ∨ w = "folk" ∨ w = "bargain" ∨ w = "pass" ∨ w = "lost" ∨ w = "paid" → w ∈ eightW := fun h => by
    simp only [eightW, List.mem_cons, List.not_mem_nil, or_false]
    exact h
  split at h
  · rename_i e
    cases h
    exact ⟨m (.inl e), .inr ⟨by rw [e]; decide +kernel, "toll", rfl, g (.inl rfl)⟩⟩
  split at h
  · rename_i e
    cases h
    exact ⟨m (.inr (.inl e)), .inl ⟨e, rfl⟩⟩
  split at h
  · rename_i e
    cases h
    exact ⟨m (.inr (.inr (.inl e))), .inr ⟨by rw [e]; decide +kernel, "trust", rfl, g (.inr (.inl rfl))⟩⟩
  split at h
  · rename_i e
    cases h
    exact ⟨m (.inr (.inr (.inr (.inl e)))), .inr ⟨by rw [e]; decide +kernel, "day", rfl, g (.inr (.inr (.inl rfl)))⟩⟩
  split at h
  · rename_i e
    cases h
    exact ⟨m (.inr (.inr (.inr (.inr (.inl e))))), .inr ⟨by rw [e]; decide +kernel, "day", rfl, g (.inr (.inr (.inl rfl)))⟩⟩
  split at h
  · rename_i e
    cases h
    exact ⟨m (.inr (.inr (.inr (.inr (.inr (.inl e)))))), .inr ⟨by rw [e]; decide +kernel, "horses", rfl, g (.inr (.inr (.inr (.inl rfl))))⟩⟩
  split at h
  · rename_i e
    cases h
    exact ⟨m (.inr (.inr (.inr (.inr (.inr (.inr (.inl e))))))), .inr ⟨by rw [e]; decide +kernel, "minute", rfl, g (.inr (.inr (.inr (.inr (.inl rfl)))))⟩⟩
  split at h
  · rename_i e
    cases h
    exact ⟨m (.inr (.inr (.inr (.inr (.inr (.inr (.inr e))))))), .inr ⟨by rw [e]; decide +kernel, "payment", rfl, g (.inr (.inr (.inr (.inr (.inr rfl)))))⟩⟩
  · cases h
theorem eight_of {z : Str} (h : z ∈ eightW) : z ∈ wordsOf ∧ ∃ ks, shapeOf z = some ks := by
  simp only [eightW, List.mem_cons, List.not_mem_nil, or_false] at h
  rcases h with rfl | rfl | rfl | rfl | rfl | rfl | rfl | rfl
  · exact ⟨by simp [wordsOf], Option.isSome_iff_exists.mp (by decide +kernel)⟩
  · exact ⟨by simp [wordsOf], Option.isSome_iff_exists.mp (by decide +kernel)⟩
  · exact ⟨by simp [wordsOf], Option.isSome_iff_exists.mp (by decide +kernel)⟩
  · exact ⟨by simp [wordsOf], Option.isSome_iff_exists.mp (by decide +kernel)⟩
  · exact ⟨by simp [wordsOf], Option.isSome_iff_exists.mp (by decide +kernel)⟩
  · exact ⟨by simp [wordsOf], Option.isSome_iff_exists.mp (by decide +kernel)⟩
  · exact ⟨by simp [wordsOf], Option.isSome_iff_exists.mp (by decide +kernel)⟩
  · exact ⟨by simp [wordsOf], Option.isSome_iff_exists.mp (by decide +kernel)⟩
theorem word_eight {z : Str} (h : z ∈ eightW) : (∀ c, c = 32 ∨ c = 10 → c ∉ TL.tl z) ∧ z.length ≤ 7 := by
  simp only [eightW, List.mem_cons, List.not_mem_nil, or_false] at h
  rcases h with rfl | rfl | rfl | rfl | rfl | rfl | rfl | rfl <;> exact ⟨fun c hc => by rcases hc with rfl | rfl <;> decide +kernel, by decide +kernel⟩
theorem iTx_inj {n m : Int} (hn : NumOk n) (hm : NumOk m) (h : iTx n = iTx m) : n = m := by
  obtain ⟨a, rfl, _⟩ := num_of hn
  obtain ⟨b, rfl, _⟩ := num_of hm
  have e : TL.numL a = TL.numL b := by
    rw [← TL.tl_num, ← TL.tl_num]
    exact congrArg TL.tl h
  rw [TL.numL_inj e]
theorem iTx_injL : ∀ {ns ms : List Int}, (∀ n ∈ ns, NumOk n) → (∀ m ∈ ms, NumOk m) → ns.map iTx = ms.map iTx → ns = ms
  | [], [], _, _, _ => rfl
  | [], _ :: _, _, _, h => by cases h
  | _ :: _, [], _, _, h => by cases h
  | n :: ns, m :: ms, h1, h2, h => by
    rw [List.map_cons, List.map_cons] at h
    obtain ⟨e1, e2⟩ := List.cons.inj h
    rw [iTx_inj (h1 n List.mem_cons_self) (h2 m List.mem_cons_self) e1, iTx_injL (fun x hx => h1 x (List.mem_cons_of_mem _ hx)) (fun x hx => h2 x (List.mem_cons_of_mem _ hx)) e2]
/-- the first word of a fact's words, and the numbers behind it -/
theorem factL_cons {w : Str} {rest : List Str} (h : FactL (w :: rest)) : w ∈ eightW ∧ ∃ ns : List Int, rest = ns.map iTx ∧ (∀ n ∈ ns, NumOk n) ∧ ((∃ ks, shapeOf w = some ks ∧ ks.length = ns.length ∧ w ≠ "board") ∨ (w = "board" ∧ 2 ≤ ns.length)) := by
  obtain ⟨f, e, ok⟩ := h
  rw [words_ns] at e
  obtain ⟨rfl, e2⟩ := List.cons.inj e
  rcases ok.shp with ⟨ks, ns, k, hx, hs, hl, hk, hg⟩ | ⟨a, d, gs, rfl⟩
  · have hns : nsF f = ns := by
      unfold nsF
      rw [hx, flat_i]
    obtain ⟨h8, hb⟩ := shape_eight hs
    refine ⟨h8, nsF f, e2, ok.nums, .inl ⟨ks, hs, by rw [hns, hl], ?_⟩⟩
    rcases hb with ⟨_, rfl⟩ | ⟨hb, _⟩
    · cases hk
      exact absurd rfl hg
    · exact hb
  · refine ⟨by simp [eightW], _, e2, ok.nums, .inr ⟨rfl, ?_⟩⟩
    show 2 ≤ (a :: d :: (gs ++ [])).length
    simp
theorem num_okA {n : Int} (h : NumOk n) : -(2 ^ 200) ≤ n ∧ n ≤ 2 ^ 200 := ⟨by have := h.1; omega, by have := h.2; omega⟩
theorem factL_flat {w : Str} {ks : List Str} {ns : List Int} (hs : shapeOf w = some ks) (hb : w ≠ "board") (hl : ks.length = ns.length) (hn : ∀ n ∈ ns, NumOk n) (h5 : ns.length ≤ 60) : ReadOk ⟨w, ns.map Arg.i⟩ := by
  obtain ⟨h8, hb2⟩ := shape_eight hs
  obtain ⟨hf, hw⟩ := word_eight h8
  rcases hb2 with ⟨e, _⟩ | ⟨_, kk, h1, h2⟩
  · exact absurd e hb
  refine ⟨.inl ⟨ks, ns, kk, rfl, hs, hl, h1, h2⟩, fun n hm => hn n ?_, (eight_of h8).1, hf, sml_of (by show w.length ≤ 1921; omega) (fun x hx => ?_) ?_⟩
  · have e : nsF ⟨w, ns.map Arg.i⟩ = ns := flat_i ns
    rwa [e] at hm
  · obtain ⟨n, hm, rfl⟩ := List.mem_map.mp hx
    exact num_okA (hn n hm)
  · rw [words_ns, List.length_cons, List.length_map]
    have e : nsF ⟨w, ns.map Arg.i⟩ = ns := flat_i ns
    rw [e]
    omega
theorem factL_board {a d : Int} {gs : List Int} (hn : ∀ n ∈ a :: d :: gs, NumOk n) (h5 : gs.length ≤ 58) : ReadOk ⟨"board", [.i a, .i d, .t gs]⟩ := by
  have h8 : ("board" : Str) ∈ eightW := by simp [eightW]
  obtain ⟨hf, hw⟩ := word_eight h8
  refine ⟨.inr ⟨a, d, gs, rfl⟩, fun n hm => hn n ?_, (eight_of h8).1, hf, sml_of (by show ("board" : Str).length ≤ 1921; omega) (fun x hx => ?_) ?_⟩
  · replace hm : n ∈ a :: d :: (gs ++ []) := hm
    rwa [List.append_nil] at hm
  · simp only [List.mem_cons, List.not_mem_nil, or_false] at hx
    rcases hx with rfl | rfl | rfl
    · exact num_okA (hn _ (by simp))
    · exact num_okA (hn _ (by simp))
    · exact ⟨by omega, fun n hm => num_okA (hn n (by simp [hm]))⟩
  · rw [words_ns, List.length_cons, List.length_map]
    show (a :: d :: (gs ++ [])).length + 1 ≤ 66
    rw [List.append_nil, List.length_cons, List.length_cons]
    omega

/-! any words, read -/
theorem cut_toA {xs : List V} {m : Int} (h0 : 0 ≤ m) : cutV xs none (some m) = xs.take m.toNat := by
  by_cases h : m ≤ xs.length
  · exact cut_to h0 h
  · rw [List.take_of_length_le (by omega)]
    unfold cutV HT.sIx
    dsimp only
    rw [if_neg (by omega), List.drop_zero, Nat.sub_zero, Nat.min_eq_right (by omega), List.take_length]
def spFactG (K : PySem.W.Frag) : Sp := fun vs H Q _ => ∃ (L : Addr) (ys : List Str), vs = [.ref L] ∧ SqL K H L (ys.map V.str) ∧ (∀ y ∈ ys, y.length ≤ 90000) ∧ ys.length ≤ 60 ∧
  (∀ f v H', ys = wordsF f → ReadOk f → Ex H H' → RF K H' v f → Q v H') ∧ (¬ FactL ys → ∀ H', Ex H H' → Q .non H')
theorem okG_p_read_fact (T : Tx P K mg w) : FnOk P w K mg base CX0 3 T.f_p_read_fact T.d_p_read_fact ["words"] (spFactG K) := by
  refine T.F_p_read_fact.ok sc_p_read_fact (fun vs H Q E h => ?_) (fun cdv A outer s H vs Q E hr h => ?_)
  · obtain ⟨L, ys, rfl, _⟩ := h
    rfl
  · obtain ⟨L, ys, rfl, hL, hys, hfew, k1, k2⟩ := h
    have low : (T.B_SHAPES == sysModules) = false := T.dic_SHAPES.choose_spec.choose_spec.2.2
    refine ⟨_, (pss_cons (ps_if (PW.pt (pw_or (pt_not (pt_truth (pv 0) (by intro _; rfl))) (pw_or1 (pt_cmpR op_notInK (pe_ix (r := rIxL K) ix_list (pv 0) pe_int (fun _ _ => rfl)) (pe_glob (v := .ref T.B_SHAPES) rfl T.g_SHAPES rfl) (by rfl))))) (pss_one (ps_ret pe_non)) pss_nil) (pss_cons (ps_set (i := 1) sc_p_read_fact.nd rfl (Or.inl rfl) (pe_ix (r := rIxD K w) ix_kdict (pe_glob (v := .ref T.B_SHAPES) rfl T.g_SHAPES rfl) (pe_ix (r := rIxL K) ix_list (pv 0) pe_int (fun _ _ => rfl)) (fun _ _ => rfl))) (pss_cons (ps_set (i := 2) sc_p_read_fact.nd rfl (Or.inl rfl) (pe_call (okG_p_read_numbers T) (hr.mono (by decide)) rfl T.g_p_read_numbers T.F_p_read_numbers.kp T.b_p_read_numbers .nil pass0 (pa_cons (pe_slice (r := rSlL K) sl_list (pv 0) (po_some pe_int) po_none) pa_nil))) (pss_cons (ps_if (pt_cmpR op_isN1 (pv 2) pe_non (nomark _)) (pss_one (ps_ret pe_non)) pss_nil) (pss_cons (ps_if (pt_cmpR op_eq (pe_ix (r := rIxT K) ix_tup (pv 1) (pe_un un_neg pe_int) (fun _ _ => rfl)) pe_str (nomark _)) (pss_cons (ps_set (i := 3) sc_p_read_fact.nd rfl (Or.inl rfl) (pe_op op_sub (pe_callB (r := Z.rLen K) cz_len (by rfl) T.z_len PySem.boot_len (pa_cons (pv 1) pa_nil)) pe_int)) (pss_one (ps_set (i := 2) sc_p_read_fact.nd rfl (Or.inl rfl) (pe_lst (StX.pa_star (pe_slice (r := rSlL K) sl_list (pv 2) po_none (po_some (pv 3))) (pa_cons (pe_callTy (r := rTupleOf K) cz_tupleOf (by rfl) T.z_tuple (by decide +kernel) (pa_cons (pe_slice (r := rSlL K) sl_list (pv 2) (po_some (pv 3)) po_none) pa_nil)) pa_nil)))))) pss_nil) (pss_one (ps_ret (pe_ifExp (pt_cmpR op_eq (pe_callB (r := Z.rLen K) cz_len (by rfl) T.z_len PySem.boot_len (pa_cons (pv 2) pa_nil)) (pe_callB (r := Z.rLen K) cz_len (by rfl) T.z_len PySem.boot_len (pa_cons (pv 1) pa_nil)) (nomark _)) (pe_tup (pa_cons (pe_ix (r := rIxL K) ix_list (pv 0) pe_int (fun _ _ => rfl)) (StX.pa_star (pv 2) pa_nil))) pe_non)))))))), ?_⟩
    refine at_start (ρ' := [some _, none, none, none]) rfl ?_
    walk_at "z0"
    walk_at "z"
    cases ys with
    | nil =>
      refine ⟨false, .inl ⟨_, hL, rfl⟩, ?_⟩
      walk_at "z"
      refine k2 (fun ⟨f, e, _⟩ => ?_) H Ex.refl
      rw [words_ns] at e
      cases e
    | cons wd rest =>
      rw [List.map_cons] at hL
      rw [List.length_cons] at hfew
      refine ⟨true, .inl ⟨_, hL, rfl⟩, ?_⟩
      walk_at "z"
      refine s_ixL hL (at0 _ _) ?_
      walk_at "z"
      by_cases h8 : wd ∈ eightW
      case neg =>
        refine ⟨wd, T.B_SHAPES, rfl, rfl, .inr ⟨T.ka_SHAPES wd h8, ?_⟩⟩
        walk_at "z"
        exact k2 (fun h => h8 (factL_cons h).1) H Ex.refl
      obtain ⟨ks, t, hsh, hkl, kd, kt⟩ : ∃ ks t, shapeOf wd = some ks ∧ ks.length ≤ 5 ∧ KDct K w T.B_SHAPES wd (.ref t) ∧ ∀ {H : Hp}, SqT K H t (ks.map V.str) := by
        rcases T_shape T (eight_of h8).1 with h | h
        · obtain ⟨ks, t, a, b, c, d⟩ := h
          exact ⟨ks, t, a, b, c, d⟩
        · obtain ⟨_, ks, e⟩ := eight_of h8
          rw [e] at h
          cases h.1
      refine ⟨wd, T.B_SHAPES, rfl, rfl, .inl ⟨_, kd, low, ?_⟩⟩
      walk_at "z"
      refine s_ixL hL (at0 _ _) ?_
      refine ⟨_, _, _, rfl, rfl, kd, ?_⟩
      walk_at "z"
      rename_i q H1 nq e1 hq
      rw [cut_from (by decide) (by rw [List.length_cons]; omega)] at hq
      replace hq : H1 q = some (.lst (rest.map V.str)) := hq
      refine ⟨q, rest, rfl, SqL.of hq, fun y hy => hys y (List.mem_cons_of_mem _ hy), by omega, fun ns p H2 hrest hns np e2 hp => ?_, fun hno H2 e2 => ?_⟩
      rotate_left
      · walk_at "z"
        refine k2 (fun h => ?_) H2 (e1.trans e2)
        obtain ⟨_, ns, e, hn, _⟩ := factL_cons h
        obtain ⟨y, hy, hy2⟩ := hno
        rw [e] at hy
        obtain ⟨n, hm, rfl⟩ := List.mem_map.mp hy
        exact hy2 ⟨n, hn n hm, rfl⟩
      have e12 := e1.trans e2
      have hL2 := e12.sqL hL
      have hkt := kt (H := H2)
      subst hrest
      rw [List.length_map] at hfew
      have inj : ∀ {ms : List Int}, ns.map iTx = ms.map iTx → (∀ n ∈ ms, NumOk n) → ns = ms := fun e h => iTx_injL hns h e
      obtain ⟨_, hb⟩ := shape_eight hsh
      walk_at "z"
      rcases hb with ⟨hbw, rfl⟩ | ⟨hbw, kk, hlast, hng⟩
      rotate_left
      · have hla : (ks.map V.str).getLast? = some (.str kk) := by rw [List.getLast?_map, hlast]; rfl
        refine s_ixT hkt (last_at hla) ?_
        walk_at "z"
        refine ite_neg hng ?_
        walk_at "z"
        refine ite_dec (fun hlen => ?_) (fun hlen => ?_)
        · rw [List.length_map, List.length_map] at hlen
          walk_at "z"
          refine s_ixL hL2 (at0 _ _) ?_
          refine s_starRL ?_
          walk_at "z"
          refine ⟨p, _, rfl, .inr (SqL.of hp), ?_⟩
          walk_at "z1"
          rw [List.append_nil]
          refine s_newS (sz (by rw [List.length_cons, List.length_map]; omega)) fun v H3 nv e3 hv => ?_
          refine k1 ⟨wd, ns.map Arg.i⟩ (.ref v) H3 ?_ (factL_flat hsh hbw (by omega) hns (by omega)) (e12.trans e3) ⟨v, _, rfl, SqT.of hv, fds_ints ns⟩
          rw [words_ns, show nsF ⟨wd, ns.map Arg.i⟩ = ns from flat_i ns]
        · walk_at "z"
          refine k2 (fun h => ?_) H2 e12
          obtain ⟨_, ms, e, hm, hc⟩ := factL_cons h
          have := inj e hm
          subst this
          rcases hc with ⟨ks', e1, e2, _⟩ | ⟨e1, _⟩
          · rw [hsh] at e1
            cases e1
            exact hlen (by rw [List.length_map, List.length_map, e2])
          · exact hbw e1
      · subst hbw
        refine s_ixT hkt (last_at rfl) ?_
        walk_at "z"
        refine s_starRL ?_
        walk_at "z"
        rename_i q1 H3 nq1 e3 hq1
        replace hq1 : H3 q1 = some (.lst (cutV (ns.map V.int) none (some 2))) := hq1
        rw [cut_toA (by decide)] at hq1
        refine ⟨q1, _, rfl, .inr (SqL.of hq1), ?_⟩
        have hp3 := e3 _ _ hp
        have few2 : ns.length < 2 → ¬ FactL ("board" :: ns.map iTx) := fun hl h => by
          obtain ⟨_, ms, e, hm, hc⟩ := factL_cons h
          have := inj e hm
          subst this
          rcases hc with ⟨_, _, _, e2⟩ | ⟨_, e2⟩
          · exact e2 rfl
          · omega
        match ns, hns, hp, hp3, hq1, few2, hfew with
        | [], _, hp, hp3, hq1, few2, _ =>
          replace hq1 : H3 q1 = some (.lst []) := hq1
          walk_at "z"
          rename_i qa H4 nqa e4 hqa q2 H5 nq2 e5 hq2 q3 H6 nq3 e6 hq3
          exact k2 (few2 (by simp)) _ (e12.trans (((e3.trans e4).trans e5).trans e6))
        | [a], _, hp, hp3, hq1, few2, _ =>
          replace hq1 : H3 q1 = some (.lst [.int a]) := hq1
          walk_at "z"
          rename_i qa H4 nqa e4 hqa q2 H5 nq2 e5 hq2 q3 H6 nq3 e6 hq3
          exact k2 (few2 (by simp)) _ (e12.trans (((e3.trans e4).trans e5).trans e6))
        | a :: d :: gs, hns, hp, hp3, hq1, _, hfew =>
          rw [List.length_cons, List.length_cons] at hfew
          replace hq1 : H3 q1 = some (.lst [.int a, .int d]) := hq1
          rw [show List.take (Int.toNat 2) (List.map V.int (a :: d :: gs)) = [.int a, .int d] from rfl]
          walk_at "z"
          rename_i qa H4 nqa e4 hqa q2 H5 nq2 e5 hq2 q3 H6 nq3 e6 hq3
          have e26 := ((e3.trans e4).trans e5).trans e6
          refine s_ixL (e26.sqL hL2) (at0 _ _) ?_
          refine s_starRL ?_
          walk_at "z"
          refine ⟨q3, _, rfl, .inr (SqL.of hq3), ?_⟩
          walk_at "z"
          rename_i v H7 nv e7 hv
          replace hq2 : H5 q2 = some (.tup (cutV ((a :: d :: gs).map V.int) (some 2) none)) := hq2
          rw [cut_from (by decide) (by rw [List.length_map, List.length_cons, List.length_cons]; omega)] at hq2
          replace hq2 : H5 q2 = some (.tup (gs.map V.int)) := hq2
          refine k1 ⟨"board", [.i a, .i d, .t gs]⟩ (.ref v) H7 ?_ (factL_board hns (by omega)) (e12.trans (e26.trans e7)) ⟨v, _, rfl, SqT.of hv, .cons (.i a) (.cons (.i d) (.cons (.t (SqT.of (e7 _ _ (e6 _ _ hq2)))) .nil))⟩
          rw [words_ns]
          show ("board" : Str) :: (a :: d :: gs).map iTx = ("board" : Str) :: (a :: d :: (gs ++ [])).map iTx
          rw [List.append_nil]

/-! lines that are none -/
theorem cut_fromA {xs : List V} {m : Int} (h0 : 0 ≤ m) : cutV xs (some m) none = xs.drop m.toNat := by
  by_cases h : m ≤ xs.length
  · exact cut_from h0 h
  · rw [List.drop_eq_nil_of_le (by omega)]
    unfold cutV HT.sIx
    dsimp only
    rw [if_neg (by omega), Nat.min_eq_right (by omega), Nat.sub_self, List.take_zero]
def seven : List Str := ["strike", "undo", "redo", "row", "why", "owes", "trusts"]
def cntW (z : Str) : Nat := if z = "strike" then 1 else if z = "undo" then 0 else if z = "redo" then 0 else if z = "row" then 1 else if z = "why" then 1 else if z = "owes" then 2 else 1
def RightL (ys : List Str) : Prop := ∃ n f, NumOk n ∧ ReadOk f ∧ ys = iTx n :: wordsF f
def NumsL (m : Nat) (ys : List Str) : Prop := ∃ ns : List Int, (∀ n ∈ ns, NumOk n) ∧ ys = ns.map iTx ∧ ns.length = m
def LineL (z : Str) (rest : List Str) : Prop := (z = "right" ∧ RightL rest) ∨ (z ∈ seven ∧ NumsL (cntW z) rest) ∨ FactL (z :: rest)
theorem T_seven (T : Tx P K mg w) {z : Str} (h : z ∈ seven) : KDct K w T.B_COUNTS z (.int (cntW z : Nat)) ∧ ∃ f, KDct K w T.B_ANSWERS z (.ref f) := by
  simp only [seven, List.mem_cons, List.not_mem_nil, or_false] at h
  rcases h with rfl | rfl | rfl | rfl | rfl | rfl | rfl
  · exact ⟨T.kd_COUNTS_strike, _, T.kd_ANSWERS_strike⟩
  · exact ⟨T.kd_COUNTS_undo, _, T.kd_ANSWERS_undo⟩
  · exact ⟨T.kd_COUNTS_redo, _, T.kd_ANSWERS_redo⟩
  · exact ⟨T.kd_COUNTS_row, _, T.kd_ANSWERS_row⟩
  · exact ⟨T.kd_COUNTS_why, _, T.kd_ANSWERS_why⟩
  · exact ⟨T.kd_COUNTS_owes, _, T.kd_ANSWERS_owes⟩
  · exact ⟨T.kd_COUNTS_trusts, _, T.kd_ANSWERS_trusts⟩
theorem seven_not {z : Str} (h : z ∈ seven) : z ≠ "right" ∧ z ∉ eightW := by
  simp only [seven, List.mem_cons, List.not_mem_nil, or_false] at h
  rcases h with rfl | rfl | rfl | rfl | rfl | rfl | rfl <;> exact ⟨by decide +kernel, by simp only [eightW]; decide +kernel⟩
def spRightG (K : PySem.W.Frag) : Sp := fun vs H Q _ => ∃ (r L : Addr) (ys : List Str), vs = [.ref r, .ref L] ∧ SqL K H L (ys.map V.str) ∧ (∀ y ∈ ys, y.length ≤ 90000) ∧ ys.length ≤ 60 ∧ ¬ RightL ys ∧ ∀ H', Ex H H' → Q .non H'
theorem okG_p_right_line (T : Tx P K mg w) : FnOk P w K mg base (CX P w) 6 T.f_p_right_line T.d_p_right_line ["roll", "words"] (spRightG K) := by
  refine T.F_p_right_line.okX sc_p_right_line (fun vs H Q E h => ?_) (fun cdv A outer s H vs Q E hr h => ?_)
  · obtain ⟨r, L, ys, rfl, _⟩ := h
    rfl
  · obtain ⟨r, L, ys, rfl, hL, hys, hfew, hno, k⟩ := h
    refine ⟨_, (pss_cons (ps_set (i := 2) sc_p_right_line.nd rfl (Or.inl rfl) (pe_call (okG_p_read_numbers T) (hr.mono (by decide)) rfl T.g_p_read_numbers T.F_p_read_numbers.kp T.b_p_read_numbers .nil pass0 (pa_cons (pe_slice (r := rSlL K) sl_list (pv 1) po_none (po_some pe_int)) pa_nil))) (pss_cons (ps_set (i := 3) sc_p_right_line.nd rfl (Or.inl rfl) (pe_call (okG_p_read_fact T) (hr.mono (by decide)) rfl T.g_p_read_fact T.F_p_read_fact.kp T.b_p_read_fact .nil pass0 (pa_cons (pe_slice (r := rSlL K) sl_list (pv 1) (po_some pe_int) po_none) pa_nil))) (pss_cons (ps_if (PW.pt (pw_or (pt_cmpR op_isN1 (pv 2) pe_non (nomark _)) (pw_or1 (pt_cmpR op_isN1 (pv 3) pe_non (nomark _))))) (pss_one (ps_ret pe_non)) pss_nil) (pss_cons (ps_expr (pe_meth (pv 0) T.cls_Roll ⟨T.at_c_Roll_right, T.fn_c_Roll_right, T.F_c_Roll_right.kp⟩ (ok_c_Roll_right T) (hr.mono (by decide)) T.b_c_Roll_right .nil (passes_up (takes_of rfl rfl rfl rfl) fun _ _ _ _ h => h) (pa_cons (pe_ix (r := rIxL K) ix_list (pv 2) pe_int (fun _ _ => rfl)) (pa_cons (pv 3) pa_nil)))) (pss_one (ps_ret (pe_glob (v := .str "done") rfl T.k_DONE ⟨_, rfl⟩))))))), ?_⟩
    refine at_start (ρ' := [some _, some _, none, none]) rfl ?_
    walk_at "z0"
    walk_at "z"
    rename_i q1 H1 nq1 e1 hq1
    rw [cut_toA (by decide), ← List.map_take] at hq1
    refine ⟨q1, ys.take 1, rfl, SqL.of hq1, fun y hy => hys y (List.mem_of_mem_take hy), by rw [List.length_take]; omega, fun ns p1 H2 ens hns np1 e2 hp1 => ?_, fun _ H2 e2 => ?_⟩
    · have hL2 := (e1.trans e2).sqL hL
      walk_at "z"
      rename_i q2 H3 nq2 e3 hq2
      rw [cut_fromA (by decide), ← List.map_drop] at hq2
      refine ⟨q2, ys.drop 1, rfl, SqL.of hq2, fun y hy => hys y (List.mem_of_mem_drop hy), by rw [List.length_drop]; omega, fun f v H4 e hok e4 hrf => ?_, fun hno2 H4 e4 => ?_⟩
      · exfalso
        cases ys with
        | nil =>
          rw [words_ns] at e
          cases e
        | cons y rest =>
          replace ens : [y] = ns.map iTx := ens
          match ns, ens, hns with
          | [n], ens, hns =>
            have ey : y = iTx n := by cases ens; rfl
            exact hno ⟨n, f, hns n (by simp), hok, by rw [ey]; exact congrArg _ e⟩
          | [], ens, _ => cases ens
          | _ :: _ :: _, ens, _ => cases ens
      · walk_at "z"
        exact k H4 (((e1.trans e2).trans e3).trans e4)
    · have hL2 := (e1.trans e2).sqL hL
      walk_at "z"
      rename_i q2 H3 nq2 e3 hq2
      rw [cut_fromA (by decide), ← List.map_drop] at hq2
      refine ⟨q2, ys.drop 1, rfl, SqL.of hq2, fun y hy => hys y (List.mem_of_mem_drop hy), by rw [List.length_drop]; omega, fun f v H4 e hok e4 hrf => ?_, fun hno2 H4 e4 => ?_⟩
      · walk_at "z"
        exact k H4 (((e1.trans e2).trans e3).trans e4)
      · walk_at "z"
        exact k H4 (((e1.trans e2).trans e3).trans e4)
def spNumLG (K : PySem.W.Frag) : Sp := fun vs H Q _ => ∃ (r L : Addr) (word : Str) (ys : List Str), vs = [.ref r, .str word, .ref L] ∧ SqL K H L (ys.map V.str) ∧ (∀ y ∈ ys, y.length ≤ 90000) ∧ ys.length ≤ 60 ∧ word ∈ seven ∧ ¬ NumsL (cntW word) ys ∧ ∀ H', Ex H H' → Q .non H'
theorem okG_p_numbers_line (T : Tx P K mg w) : FnOk P w K mg base (CX P w) 8 T.f_p_numbers_line T.d_p_numbers_line ["roll", "word", "words"] (spNumLG K) := by
  refine T.F_p_numbers_line.okX sc_p_numbers_line (fun vs H Q E h => ?_) (fun cdv A outer s H vs Q E hr h => ?_)
  · obtain ⟨r, L, word, ys, rfl, _⟩ := h
    rfl
  · obtain ⟨r, L, word, ys, rfl, hL, hys, hfew, hw, hno, k⟩ := h
    obtain ⟨kc, _⟩ := T_seven T hw
    refine ⟨_, (pss_cons (ps_set (i := 3) sc_p_numbers_line.nd rfl (Or.inl rfl) (pe_call (okG_p_read_numbers T) (hr.mono (by decide)) rfl T.g_p_read_numbers T.F_p_read_numbers.kp T.b_p_read_numbers .nil pass0 (pa_cons (pv 2) pa_nil))) (pss_cons (ps_if (PW.pt (pw_or (pt_cmpR op_isN1 (pv 3) pe_non (nomark _)) (pw_or1 (pt_cmpR op_ne (pe_callB (r := Z.rLen K) cz_len (by rfl) T.z_len PySem.boot_len (pa_cons (pv 3) pa_nil)) (pe_ix (r := rIxD K w) ix_kdict (pe_glob (v := .ref T.B_COUNTS) rfl T.g_COUNTS rfl) (pv 1) (fun _ _ => rfl)) (nomark _))))) (pss_one (ps_ret pe_non)) pss_nil) (pss_cons (ps_set (i := 4) sc_p_numbers_line.nd rfl (Or.inl rfl) (pe_ix (r := rIxD K w) ix_kdict (pe_glob (v := .ref T.B_ANSWERS) rfl T.g_ANSWERS rfl) (pv 1) (fun _ _ => rfl))) (pss_one (ps_ret (pe_callVS (i := 4) (held_lines T) (hr.mono (by decide)) rfl (.inl rfl) (passes_up (takes_of rfl rfl rfl rfl) fun _ _ _ _ h => h) (pa_cons (pv 0) (StX.pa_star (pv 3) pa_nil)))))))), ?_⟩
    refine at_start (ρ' := [some _, some _, some _, none, none]) rfl ?_
    walk_at "z0"
    walk_at "z"
    refine ⟨L, ys, rfl, hL, hys, by omega, fun ns p1 H1 ens hns np1 e1 hp1 => ?_, fun _ H1 e1 => ?_⟩
    · walk_at "z"
      refine ⟨_, _, _, rfl, rfl, kc, ?_⟩
      walk_at "z"
      refine ite_npos (fun e => ?_) ?_
      · rw [List.length_map] at e
        exact hno ⟨ns, hns, ens, by omega⟩
      · walk_at "z"
        exact k H1 e1
    · walk_at "z"
      exact k H1 e1
def spAnsG (K : PySem.W.Frag) : Sp := fun vs H Q _ => ∃ (r L : Addr) (z : Str) (rest : List Str), vs = [.ref r, .ref L] ∧ SqL K H L ((z :: rest).map V.str) ∧ (∀ y ∈ z :: rest, y.length ≤ 90000) ∧ rest.length ≤ 58 ∧ ¬ LineL z rest ∧ ∀ H', Ex H H' → Q .non H'
theorem okG_p_answer (T : Tx P K mg w) : FnOk P w K mg base (CX P w) 9 T.f_p_answer T.d_p_answer ["roll", "words"] (spAnsG K) := by
  refine T.F_p_answer.okX sc_p_answer (fun vs H Q E h => ?_) (fun cdv A outer s H vs Q E hr h => ?_)
  · obtain ⟨r, L, z, rest, rfl, _⟩ := h
    rfl
  · obtain ⟨r, L, z, rest, rfl, hL, hys, hfew, hno, k⟩ := h
    have low : (T.B_ANSWERS == sysModules) = false := T.dic_ANSWERS.choose_spec.choose_spec.2.2
    have hL0 := hL
    rw [List.map_cons] at hL
    refine ⟨_, (pss_cons (ps_if (pt_cmpR op_eq (pe_ix (r := rIxL K) ix_list (pv 1) pe_int (fun _ _ => rfl)) pe_str (nomark _)) (pss_one (ps_ret (pe_call (okG_p_right_line T) (hr.mono (by decide)) rfl T.g_p_right_line T.F_p_right_line.kp T.b_p_right_line .nil (passes_up (takes_of rfl rfl rfl rfl) fun _ _ _ _ h => h) (pa_cons (pv 0) (pa_cons (pe_slice (r := rSlL K) sl_list (pv 1) (po_some pe_int) po_none) pa_nil))))) pss_nil) (pss_cons (ps_if (pt_cmpR op_inK (pe_ix (r := rIxL K) ix_list (pv 1) pe_int (fun _ _ => rfl)) (pe_glob (v := .ref T.B_ANSWERS) rfl T.g_ANSWERS rfl) (by rfl)) (pss_one (ps_ret (pe_call (okG_p_numbers_line T) (hr.mono (by decide)) rfl T.g_p_numbers_line T.F_p_numbers_line.kp T.b_p_numbers_line .nil (passes_up (takes_of rfl rfl rfl rfl) fun _ _ _ _ h => h) (pa_cons (pv 0) (pa_cons (pe_ix (r := rIxL K) ix_list (pv 1) pe_int (fun _ _ => rfl)) (pa_cons (pe_slice (r := rSlL K) sl_list (pv 1) (po_some pe_int) po_none) pa_nil)))))) pss_nil) (pss_cons (ps_set (i := 2) sc_p_answer.nd rfl (Or.inl rfl) (pe_call (okG_p_read_fact T) (hr.mono (by decide)) rfl T.g_p_read_fact T.F_p_read_fact.kp T.b_p_read_fact .nil pass0 (pa_cons (pv 1) pa_nil))) (pss_one (ps_ret (pe_ifExp (pt_cmpR op_isN1 (pv 2) pe_non (nomark _)) pe_non (pe_callTy cz_strInt (by rfl) T.z_str (by decide +kernel) (pa_cons (pe_meth (pv 0) T.cls_Roll ⟨T.at_c_Roll_tell, T.fn_c_Roll_tell, T.F_c_Roll_tell.kp⟩ (ok_c_Roll_tell T) (hr.mono (by decide)) T.b_c_Roll_tell .nil (passes_up (takes_of rfl rfl rfl rfl) fun _ _ _ _ h => h) (pa_cons (pv 2) pa_nil)) pa_nil)))))))), ?_⟩
    refine at_start (ρ' := [some _, some _, none]) rfl ?_
    walk_at "z0"
    walk_at "z"
    refine s_ixL hL (at0 _ _) ?_
    walk_at "z"
    refine ite_dec (fun hr => ?_) (fun hr => ?_)
    · walk_at "z"
      rename_i q H1 nq e1 hq
      rw [cut_fromA (by decide)] at hq
      replace hq : H1 q = some (.lst (rest.map V.str)) := hq
      exact ⟨r, q, rest, rfl, SqL.of hq, fun y hy => hys y (List.mem_cons_of_mem _ hy), by omega, fun h => hno (.inl ⟨hr, h⟩), fun H2 e2 => k H2 (e1.trans e2)⟩
    · walk_at "z"
      refine s_ixL hL (at0 _ _) ?_
      walk_at "z"
      by_cases h7 : z ∈ seven
      · obtain ⟨_, f, kf⟩ := T_seven T h7
        refine ⟨z, T.B_ANSWERS, rfl, rfl, .inl ⟨_, kf, low, ?_⟩⟩
        walk_at "z"
        refine s_ixL hL (at0 _ _) ?_
        walk_at "z"
        rename_i q H1 nq e1 hq
        rw [cut_fromA (by decide)] at hq
        replace hq : H1 q = some (.lst (rest.map V.str)) := hq
        exact ⟨r, q, z, rest, rfl, SqL.of hq, fun y hy => hys y (List.mem_cons_of_mem _ hy), by omega, h7, fun h => hno (.inr (.inl ⟨h7, h⟩)), fun H2 e2 => k H2 (e1.trans e2)⟩
      · refine ⟨z, T.B_ANSWERS, rfl, rfl, .inr ⟨T.ka_ANSWERS z h7, ?_⟩⟩
        walk_at "z"
        refine ⟨L, z :: rest, rfl, hL0, hys, by rw [List.length_cons]; omega, fun f v H1 e hok e1 hrf => absurd ⟨f, e, hok⟩ (fun h => hno (.inr (.inr h))), fun _ H1 e1 => ?_⟩
        walk_at "z"
        exact k H1 e1
def spSayG (CD : Addr) : Sp := fun vs H Q _ => ∃ (dk r : Addr) (line z : Str) (rest : List Str), vs = [.ref dk, .str line] ∧ DeskAt CD H dk r ∧ line.length ≤ 80000 ∧ Txt.split line " " = z :: rest ∧ (∀ y ∈ z :: rest, y.length ≤ 90000) ∧ rest.length ≤ 58 ∧ ¬ LineL z rest ∧ ∀ H', Ex H H' → Q (.str "no line") H'
theorem okG_c_Desk_say (T : Tx P K mg w) : FnOk P w K mg base CX0 10 T.f_c_Desk_say T.d_c_Desk_say ["self", "line"] (spSayG T.C_Desk) := by
  refine T.F_c_Desk_say.ok sc_c_Desk_say (fun vs H Q E h => ?_) (fun cdv A outer s H vs Q E hr h => ?_)
  · obtain ⟨dk, r, line, z, rest, rfl, _⟩ := h
    rfl
  · obtain ⟨dk, r, line, z, rest, rfl, ⟨dx, hD⟩, hl, hsp, hys, hfew, hno, k⟩ := h
    refine ⟨_, (pss_cons (ps_try_tup2 (i := 3) rfl rfl sc_c_Desk_say.nd rfl rfl ⟨rfl, by decide, .inl T.g_PikeError⟩ ⟨rfl, by decide, .inl T.g_Missing⟩ takes0 (fun W pn xe tk po => (pss_one (ps_set (i := 2) sc_c_Desk_say.nd rfl (Or.inl rfl) (pe_callS (okG_p_answer T) (hr.mono (by decide)) rfl T.g_p_answer T.F_p_answer.kp T.b_p_answer (fun σ => passAt tk σ) (pa_cons (pe_fldK (K := K) rfl (pv 0) rfl) (pa_cons (pe_m1 PySem.F.slot_str_split PySem.F.type_str_split mz_split (pv 1) pe_str) pa_nil)))))) (fun a oe cls d pn hz hf => (pss_one (ps_ret (pz_fstr (PJ.cons pe_str (PJ.cons (pe_fmt (pe_xfA hz hf (pv 3))) PJ.nil))))))) (pss_one (ps_ret (pe_ifExp (pt_cmpR op_isN1 (pv 2) pe_non (nomark _)) pe_str (pv 2))))), ?_⟩
    refine at_start (ρ' := [some _, some _, none, none]) rfl ?_
    walk_at "z0"
    walk_at "z"
    refine s_fldGet hD T.cls_Desk T.na_Desk_held rfl ?_
    walk_at "z"
    refine s_splitS (by decide +kernel) (sz (by omega)) hsp ?_
    refine s_new fun q H1 nq e1 hq => ?_
    walk_at "z"
    refine ⟨r, q, z, rest, rfl, SqL.of hq, hys, hfew, hno, fun H2 e2 => ?_⟩
    walk_at "z"
    exact k H2 (e1.trans e2)
theorem okX_c_Desk_say (T : Tx P K mg w) : FnOk P w K mg base CX0 10 T.f_c_Desk_say T.d_c_Desk_say ["self", "line"] (spX (spSay K T.C_Roll T.C_Desk) (spSayG T.C_Desk)) := FnOk.orX (ok_c_Desk_say T) (okG_c_Desk_say T)

/-! the law's own reading -/
theorem c_str {z : Str} {g : TG} {tt : TT} {te : TE} {vs : List Nat} {σ : L2.St} {H : Hp} {Q : VK} (Iv : Addr → Hp → Prop) (R : Addr → Nat → List V → Hp → Prop)
    (h0 : ∀ D H', H D = none → Ex H H' → H' D = some (.lst []) → Iv D H' ∧ R D 0 [] H')
    (hs : ∀ D (i : Nat) l H1 c, z.cps[i]? = some c → Iv D H1 → H1 D = some (.lst l) → l.length ≤ i → R D i l H1 → g (.str ⟨#[c]⟩) (wipe σ vs) H1 fun σ2 H2 => wipe σ2 vs = wipe σ vs ∧ tt σ2 H2 fun b H3 =>
      if b = true then te σ2 H3 fun y H4 => ∃ acc, H4 D = some (.lst acc) ∧ acc.length < sizeLine ∧ Cv Iv R D (i + 1) (upd H4 D (.lst (acc ++ [y]))) else Cv Iv R D (i + 1) H3)
    (hd : ∀ D l H', Iv D H' → H' D = some (.lst l) → l.length ≤ z.cps.size → R D z.cps.size l H' → Q (.ref D) H') :
    ∃ x, V.str z = .str x ∧ LcW (Its x) g tt te vs σ H Q :=
  ⟨z, rfl, c_it walk_str Iv R h0 (fun _ _ _ => trivial) (fun D i l H1 x H1' hi a hl hz r y => by
    obtain ⟨e, c, y1, y2⟩ := y
    subst e y2
    exact hs D i l _ c y1 a hl hz r) hd⟩
theorem num_str {z : Str} (h : NumW z) : 1 ≤ z.length ∧ z.length ≤ 30 ∧ (∀ c ∈ TL.tl z, 48 ≤ c ∧ c < 58) ∧ (TL.tl z = [48] ∨ (TL.tl z).head? ≠ some 48) := by
  have h30 := (num_free h).2.2.1
  obtain ⟨n, hn, e⟩ := numW_tl h
  have hne := TL.numL_ne n
  refine ⟨?_, h30, fun c hc => ?_, ?_⟩
  · rw [TL.len_tl, e]
    exact List.length_pos_iff.mpr hne
  · rw [e] at hc
    have := TL.numL_digits n c hc
    omega
  · rw [e]
    by_cases h0 : n = 0
    · left
      rw [h0]
      exact TL.numL_lt (by decide)
    · exact .inr fun q => h0 (numL_head n q)
theorem one_sign {c : Nat} (h : (⟨#[c]⟩ : Str) = "0") : c = 48 := by
  have := congrArg TL.tl h
  rw [show TL.tl ("0" : Str) = [48] from by decide +kernel] at this
  exact (List.cons.inj this).1
def spNumRead : Sp := fun vs H Q _ => ∃ z : Str, vs = [.str z] ∧ z.length ≤ 90000 ∧ (∀ n H', NumOk n → z = iTx n → Ex H H' → Q (.int n) H') ∧ (¬ NumW z → ∀ H', Ex H H' → Q .non H')
theorem sc_l_number_read : FnScope ["_law_word", "_law_sign_here"] ["_law_word"] (defScope s_l_number_read) :=
  ⟨rfl, rfl, rfl, by decide +kernel, rfl, by decide +kernel, by decide +kernel⟩
theorem ok_l_number_read (T : Tx P K mg w) : FnOk P w K mg base CX0 1 T.f_l_number_read T.d_l_number_read ["_law_word"] spNumRead := by
  refine T.F_l_number_read.ok sc_l_number_read (fun vs H Q E h => ?_) (fun cdv A outer s H vs Q E hr h => ?_)
  · obtain ⟨z, rfl, _⟩ := h
    rfl
  · obtain ⟨z, rfl, hz, k1, k2⟩ := h
    refine ⟨_, (pss_cons (ps_if (PW.pt (pw_or (pt_not (pt_chain op_le op_le pe_int (pe_callB cz_lenStr (by rfl) T.z_len PySem.boot_len (pa_cons (pv 0) pa_nil)) pe_int)) (pw_or1 (pt_not (pt_val (pe_callB (r := rAll K) (cr_all rfl) (by rfl) T.z_all (by decide +kernel) (pa_cons (pe_lc (own := [("_law_sign_here", 1)]) (by rfl) sc_l_number_read.nd (pi_str (pv 0)) (blkOk_by (own := [("_law_sign_here", 1)]) (N := ["_law_word", "_law_sign_here"]) (sc := defScope s_l_number_read) (by decide +kernel)) (fun _ _ _ _ _ => (pg_name (i := 1) sc_l_number_read.nd rfl (Or.inl rfl))) (fun _ _ _ _ _ => pts_nil) (fun _ _ _ _ _ => (pe_cmpR op_inS (pv 1) pe_str (by rfl)))) pa_nil))))))) (pss_one (ps_ret pe_non)) pss_nil) (pss_one (ps_ret (pe_ifExp (PW.pt (pw_and (pt_cmpR op_gt (pe_callB cz_lenStr (by rfl) T.z_len PySem.boot_len (pa_cons (pv 0) pa_nil)) pe_int (nomark _)) (pw_and1 (pt_cmpR op_eq (pe_ix ix_str (pv 0) pe_int (fun _ _ => rfl)) pe_str (nomark _))))) pe_non (pe_callTy cz_intS (by rfl) T.z_int (by decide +kernel) (pa_cons (pv 0) pa_nil)))))), ?_⟩
    refine at_start (ρ' := [some _, none]) rfl ?_
    walk_at "z0"
    walk_at "z"
    refine s_rLenStr (sz (by omega)) ?_
    walk_at "z"
    have no : ¬ NumW z → ∀ H', Ex H H' → Q .non H' := k2
    refine ite_dec (fun h1 => ?_) (fun h1 => ?_)
    rotate_left
    · walk_at "z"
      exact k2 (fun h => by have := (num_str h).1; omega) H Ex.refl
    walk_at "z"
    refine ite_ndec (fun h30 => ?_) (fun h30 => ?_)
    · walk_at "z"
      exact k2 (fun h => by have := (num_str h).2.1; omega) H Ex.refl
    walk_at "z"
    have hz2 : z.cps.size = z.length := rfl
    refine c_str (fun D H' => H D = none ∧ Ex H H') (fun D i acc H' => acc = ((z.cps.toList.take i).map fun c => decide (c ∈ ("0123456789" : Str).cps.toList)).map V.bl) (fun D H' n e _ => ⟨⟨n, e⟩, rfl⟩) (fun D i acc H1 c hc Iv hD hn r => ?_) (fun D acc H1 Iv hD hn r => ?_)
    · obtain ⟨nD, e1⟩ := Iv
      have hi : i < z.cps.size := (Array.getElem?_eq_some_iff.mp hc).1
      walk_at "z"
      refine ⟨rfl, ?_⟩
      walk_at "z"
      refine c_put hD ⟨hn, by omega⟩ fun H2 f2 _ => ⟨⟨nD, e1.fr2 nD f2⟩, ?_⟩
      have hc2 : z.cps.toList[i]? = some c := by rw [Array.getElem?_toList]; exact hc
      rw [r, List.take_succ, hc2, List.map_append, List.map_append]
      rfl
    · obtain ⟨nD, e1⟩ := Iv
      rw [List.take_of_length_le (by rw [Array.length_toList]; exact Nat.le_refl _)] at r
      subst r
      walk_at "z"
      refine s_rAll (z.cps.toList.map fun c => decide (c ∈ ("0123456789" : Str).cps.toList)) (SqL.of hD) rfl ?_
      have dg : ∀ c : Nat, c ∈ ("0123456789" : Str).cps.toList ↔ 48 ≤ c ∧ c < 58 := fun c => by
        have e : ("0123456789" : Str).cps.toList = [48, 49, 50, 51, 52, 53, 54, 55, 56, 57] := by decide +kernel
        rw [e]
        simp only [List.mem_cons, List.not_mem_nil, or_false]
        omega
      cases hall : (z.cps.toList.map fun c => decide (c ∈ ("0123456789" : Str).cps.toList)).all id with
      | false =>
        walk_at "z"
        refine k2 (fun h => ?_) H1 e1
        rw [List.all_eq_false] at hall
        obtain ⟨b, hb, h2⟩ := hall
        obtain ⟨c, hc, rfl⟩ := List.mem_map.mp hb
        exact h2 (decide_eq_true ((dg c).mpr ((num_str h).2.2.1 c hc)))
      | true =>
        have hd : ∀ c ∈ TL.tl z, 48 ≤ c ∧ c < 58 := fun c hc => (dg c).mp (of_decide_eq_true (List.all_eq_true.mp hall _ (List.mem_map.mpr ⟨c, hc, rfl⟩)))
        have hne : TL.tl z ≠ [] := fun e => by
          have := TL.len_tl z
          rw [e] at this
          simp at this
          omega
        walk_at "z"
        refine s_rLenStr (sz (by omega)) ?_
        walk_at "z"
        refine ite_dec (fun h2 => ?_) (fun h2 => ?_)
        · obtain ⟨c, r, hcr⟩ : ∃ c r, TL.tl z = c :: r := by
            cases e : TL.tl z with
            | nil => exact absurd e hne
            | cons c r => exact ⟨c, r, rfl⟩
          walk_at "z"
          refine s_ixS (sz (by omega)) (by rw [show z.cps.toList = c :: r from hcr]; exact at0 _ _) ?_
          walk_at "z"
          refine ite_dec (fun h0 => ?_) (fun h0 => ?_)
          · walk_at "z"
            refine k2 (fun h => ?_) H1 e1
            have ec : c = 48 := one_sign h0
            rcases (num_str h).2.2.2 with e | e
            · rw [TL.len_tl, e] at h2
              simp at h2
            · rw [hcr, ec] at e
              exact e rfl
          · obtain ⟨n, hn, en⟩ := numW_of (by omega) hd hne (.inr fun q => h0 (by
              rw [hcr] at q
              cases q
              rfl))
            walk_at "z"
            refine s_intS (n := n) (by rw [en]; exact iTx_read hn) (by omega) ?_
            exact k1 n H1 hn en e1
        · obtain ⟨n, hn, en⟩ := numW_of (by omega) hd hne (by
            cases e : TL.tl z with
            | nil => exact absurd e hne
            | cons c r =>
              have hl := TL.len_tl z
              rw [e, List.length_cons] at hl
              have hr : r = [] := List.length_eq_zero_iff.mp (by omega)
              subst hr
              by_cases h48 : c = 48
              · exact .inl (by rw [h48])
              · exact .inr fun q => h48 (by cases q; rfl))
          walk_at "z"
          refine s_intS (n := n) (by rw [en]; exact iTx_read hn) (by omega) ?_
          exact k1 n H1 hn en e1
/-! a fact's words, the law's own reading -/
def lawSizes : List (Key × V) := [(.inr "toll", .int 4), (.inr "board", .int 3), (.inr "trust", .int 4), (.inr "folk", .int 4), (.inr "bargain", .int 5), (.inr "pass", .int 6), (.inr "lost", .int 3), (.inr "paid", .int 4)]
def szW (z : Str) (ks : List Str) : Nat := if z = "board" then 3 else ks.length + 1
theorem sizes_none {z : Str} (h : z ∉ eightW) : valV lawSizes (Sum.inr z) = none := by
  simp only [eightW, List.mem_cons, List.not_mem_nil, or_false, not_or] at h
  obtain ⟨h1, h2, h3, h4, h5, h6, h7, h8⟩ := h
  have g : ∀ {x : Str}, ¬ z = x → ¬ (Sum.inr x : Key) = Sum.inr z := fun n e => n (Sum.inr.inj e).symm
  exact valV_noK (g h1) (valV_noK (g h2) (valV_noK (g h3) (valV_noK (g h4) (valV_noK (g h5) (valV_noK (g h6) (valV_noK (g h7) (valV_noK (g h8) valV_nil)))))))
theorem sizes_of {z : Str} {ks : List Str} (h : shapeOf z = some ks) : valV lawSizes (Sum.inr z) = some (.int (szW z ks : Nat)) := by
  have go : ∀ {z : Str} {l ks : List Str} {m : Nat}, shapeOf z = some l → shapeOf z = some ks → szW z l = m → valV lawSizes (Sum.inr z) = some (.int (m : Nat)) → valV lawSizes (Sum.inr z) = some (.int (szW z ks : Nat)) := fun a b c d => by
    rw [a] at b
    cases b
    rw [c]
    exact d
  have h8 := (shape_eight h).1
  simp only [eightW, List.mem_cons, List.not_mem_nil, or_false] at h8
  rcases h8 with rfl | rfl | rfl | rfl | rfl | rfl | rfl | rfl
  · exact go (l := ["gate", "day", "toll"]) (m := 4) (by decide +kernel) h (by decide +kernel) (by repeat (first | exact valV_pos rfl | refine valV_no (by decide +kernel) ?_))
  · exact go (l := ["gate", "day", "gates"]) (m := 3) (by decide +kernel) h (by decide +kernel) (by repeat (first | exact valV_pos rfl | refine valV_no (by decide +kernel) ?_))
  · exact go (l := ["gate", "day", "trust"]) (m := 4) (by decide +kernel) h (by decide +kernel) (by repeat (first | exact valV_pos rfl | refine valV_no (by decide +kernel) ?_))
  · exact go (l := ["carriage", "day", "day"]) (m := 4) (by decide +kernel) h (by decide +kernel) (by repeat (first | exact valV_pos rfl | refine valV_no (by decide +kernel) ?_))
  · exact go (l := ["gate", "carriage", "day", "day"]) (m := 5) (by decide +kernel) h (by decide +kernel) (by repeat (first | exact valV_pos rfl | refine valV_no (by decide +kernel) ?_))
  · exact go (l := ["day", "minute", "gate", "carriage", "horses"]) (m := 6) (by decide +kernel) h (by decide +kernel) (by repeat (first | exact valV_pos rfl | refine valV_no (by decide +kernel) ?_))
  · exact go (l := ["number", "minute"]) (m := 3) (by decide +kernel) h (by decide +kernel) (by repeat (first | exact valV_pos rfl | refine valV_no (by decide +kernel) ?_))
  · exact go (l := ["carriage", "day", "payment"]) (m := 4) (by decide +kernel) h (by decide +kernel) (by repeat (first | exact valV_pos rfl | refine valV_no (by decide +kernel) ?_))
noncomputable def numV (z : Str) : V := @dite V (NumW z) (Classical.propDecidable _) (fun h => .int h.choose) fun _ => .non
theorem numV_i {n : Int} (h : NumOk n) : numV (iTx n) = .int n := by
  have hw : NumW (iTx n) := ⟨n, h, rfl⟩
  unfold numV
  rw [dif_pos hw]
  have hs := hw.choose_spec
  rw [iTx_inj hs.1 h hs.2.symm]
theorem numV_n {z : Str} (h : ¬ NumW z) : numV z = .non := by
  unfold numV
  rw [dif_neg h]
theorem numV_flat (ys : List Str) : (ys.map numV).all flatV = true := List.all_eq_true.mpr fun x hx => by
  obtain ⟨y, _, rfl⟩ := List.mem_map.mp hx
  by_cases h : NumW y
  · obtain ⟨n, hn, rfl⟩ := h
    rw [numV_i hn]
    rfl
  · rw [numV_n h]
    rfl
theorem numV_map {ns : List Int} (h : ∀ n ∈ ns, NumOk n) : (ns.map iTx).map numV = ns.map V.int := by
  rw [List.map_map]
  exact List.map_congr_left fun n hn => numV_i (h n hn)

/-! is it a fact, is it a line: the law's own -/
theorem in_non {ys : List Str} (h : ∃ y ∈ ys, ¬ NumW y) : inV .non (ys.map numV) = true := by
  obtain ⟨y, hy, hn⟩ := h
  unfold inV
  rw [List.any_eq_true]
  exact ⟨.non, List.mem_map.mpr ⟨y, hy, numV_n hn⟩, rfl⟩
theorem in_ints (ns : List Int) : inV .non (ns.map V.int) = false := by
  unfold inV
  rw [List.any_eq_false]
  intro x hx
  obtain ⟨n, _, rfl⟩ := List.mem_map.mp hx
  intro q
  cases q
def spFRead (K : PySem.W.Frag) : Sp := fun vs H Q _ => ∃ (L : Addr) (ys : List Str), vs = [.ref L] ∧ SqL K H L (ys.map V.str) ∧ (∀ y ∈ ys, y.length ≤ 90000) ∧ ys.length ≤ 60 ∧
  (FactL ys → ∀ p H', Ex H H' → Q (.ref p) H') ∧ (¬ FactL ys → ∀ H', Ex H H' → Q .non H')
theorem sc_l_fact_read : FnScope ["_law_words", "_law_sizes", "_law_numbers", "_law_word"] ["_law_words"] (defScope s_l_fact_read) :=
  ⟨rfl, rfl, rfl, by decide +kernel, rfl, by decide +kernel, by decide +kernel⟩
theorem ok_l_fact_read (T : Tx P K mg w) : FnOk P w K mg base CX0 2 T.f_l_fact_read T.d_l_fact_read ["_law_words"] (spFRead K) := by
  refine T.F_l_fact_read.ok sc_l_fact_read (fun vs H Q E h => ?_) (fun cdv A outer s H vs Q E hr h => ?_)
  · obtain ⟨L, ys, rfl, _⟩ := h
    rfl
  · obtain ⟨L, ys, rfl, hL, hys, hfew, k1, k2⟩ := h
    refine ⟨_, (pss_cons (ps_set (i := 1) sc_l_fact_read.nd rfl (Or.inl rfl) (pe_disp (pps_cons pe_str pe_int (pps_cons pe_str pe_int (pps_cons pe_str pe_int (pps_cons pe_str pe_int (pps_cons pe_str pe_int (pps_cons pe_str pe_int (pps_cons pe_str pe_int (pps_cons pe_str pe_int pps_nil)))))))) rfl rfl (by simp) (by decide))) (pss_cons (ps_if (PW.pt (pw_or (pt_cmpR op_eq (pe_callB (r := Z.rLen K) cz_len (by rfl) T.z_len PySem.boot_len (pa_cons (pv 0) pa_nil)) pe_int (nomark _)) (pw_or1 (pt_cmp (pc_dnotin (hu_of hr) (pe_ix (r := rIxL K) ix_list (pv 0) pe_int (fun _ _ => rfl)) (pv 1)))))) (pss_one (ps_ret pe_non)) pss_nil) (pss_cons (ps_setLc (i := 2) (own := [("_law_word", 3)]) (by rfl) sc_l_fact_read.nd rfl rfl (sw_true rfl rfl rfl (by decide +kernel)) (pi_list (pe_slice (r := rSlL K) sl_list (pv 0) (po_some pe_int) po_none)) (blkOk_by (own := [("_law_word", 3)]) (N := ["_law_words", "_law_sizes", "_law_numbers", "_law_word"]) (sc := defScope s_l_fact_read) (by decide +kernel)) (fun _ _ _ _ _ => (pg_name (i := 3) sc_l_fact_read.nd rfl (Or.inl rfl))) (fun _ _ _ _ _ => pts_nil) (fun _ _ _ _ _ => (pe_call (ok_l_number_read T) (hr.mono (by decide)) rfl T.g_l_number_read T.F_l_number_read.kp T.b_l_number_read .nil pass0 (pa_cons (pv 3) pa_nil)))) (pss_cons (ps_if (PW.pt (pw_or (pt_cmpR (r := rIn K false) op_in_seq pe_non (pv 2) (by rfl)) (pw_or1 (pt_cmpR op_lt (pe_callB (r := Z.rLen K) cz_len (by rfl) T.z_len PySem.boot_len (pa_cons (pv 0) pa_nil)) (pe_dget (hu_of hr) (pv 1) (pe_ix (r := rIxL K) ix_list (pv 0) pe_int (fun _ _ => rfl)) (fun _ _ => rfl)) (nomark _))))) (pss_one (ps_ret pe_non)) pss_nil) (pss_cons (ps_if (pt_cmpR op_eq (pe_ix (r := rIxL K) ix_list (pv 0) pe_int (fun _ _ => rfl)) pe_str (nomark _)) (pss_one (ps_ret (pe_tup (pa_cons pe_str (pa_cons (pe_ix (r := rIxL K) ix_list (pv 2) pe_int (fun _ _ => rfl)) (pa_cons (pe_ix (r := rIxL K) ix_list (pv 2) pe_int (fun _ _ => rfl)) (pa_cons (pe_callTy (r := rTupleOf K) cz_tupleOf (by rfl) T.z_tuple (by decide +kernel) (pa_cons (pe_slice (r := rSlL K) sl_list (pv 2) (po_some pe_int) po_none) pa_nil)) pa_nil))))))) pss_nil) (pss_one (ps_ret (pe_ifExp (pt_cmpR op_eq (pe_callB (r := Z.rLen K) cz_len (by rfl) T.z_len PySem.boot_len (pa_cons (pv 0) pa_nil)) (pe_dget (hu_of hr) (pv 1) (pe_ix (r := rIxL K) ix_list (pv 0) pe_int (fun _ _ => rfl)) (fun _ _ => rfl)) (nomark _)) (pe_op (r := rCatA K) op_catA (pe_tup (pa_cons (pe_ix (r := rIxL K) ix_list (pv 0) pe_int (fun _ _ => rfl)) pa_nil)) (pe_callTy (r := rTupleOf K) cz_tupleOf (by rfl) T.z_tuple (by decide +kernel) (pa_cons (pv 2) pa_nil))) pe_non)))))))), ?_⟩
    refine at_start (ρ' := [some _, none, none, none]) rfl ?_
    walk_at "z0"
    walk_at "z"
    intro D1 n1
    repeat (refine s_pairC ?_; walk_at "z")
    refine s_pairN ⟨upd_same, lawSizes, rfl, by decide, ?_⟩
    rw [mergeK_new (by decide +kernel), List.nil_append]
    have e1 : Ex H (upd (upd H D1 (.dK [])) D1 (.dK lawSizes)) := (Ex.new n1).mut n1
    have hD1 : (upd (upd H D1 (.dK [])) D1 (.dK lawSizes)) D1 = some (.dK lawSizes) := upd_same
    generalize upd (upd H D1 (.dK [])) D1 (.dK lawSizes) = H1 at e1 hD1
    have hL1 := e1.sqL hL
    walk_at "z"
    cases ys with
    | nil =>
      walk_at "z"
      refine k2 (fun ⟨f, e, _⟩ => ?_) H1 e1
      rw [words_ns] at e
      cases e
    | cons wd rest =>
      rw [List.map_cons] at hL1
      rw [List.length_cons] at hfew
      refine ite_neg (by rw [List.length_map, List.length_cons]; omega) ?_
      walk_at "z"
      refine s_tDNotIn ?_
      walk_at "z"
      refine s_ixL hL1 (at0 _ _) ?_
      walk_at "z"
      refine s_dnotinS hD1 ?_
      by_cases h8 : wd ∈ eightW
      case neg =>
        rw [sizes_none h8]
        walk_at "z"
        exact k2 (fun h => h8 (factL_cons h).1) H1 e1
      obtain ⟨_, ks, hsh⟩ := eight_of h8
      rw [sizes_of hsh]
      walk_at "z"
      rename_i q H2 nq e2 hq
      rw [cut_fromA (by decide)] at hq
      replace hq : H2 q = some (.lst (rest.map V.str)) := hq
      have get : ∀ {i : Nat} {x : V}, (rest.map V.str)[i]? = some x → ∃ y, rest[i]? = some y ∧ x = .str y := fun {i x} h => by
        rw [List.getElem?_map] at h
        obtain ⟨z, hz, rfl⟩ := Option.map_eq_some_iff.mp h
        exact ⟨z, hz, rfl⟩
      have hq1 : SqL K H2 q (rest.map V.str) := SqL.of hq
      refine c_list (rest.map V.str) hq1 (fun D H' => H2 D = none ∧ Ex H2 H') (fun D i acc H' => acc = (rest.take i).map numV) (fun D H' n e _ => ⟨⟨n, e⟩, rfl⟩) (fun D H' Iv => Iv.2.sqL hq1) (fun D i acc H3 x hx Iv hD hn r => ?_) (fun D acc H3 Iv hD hn r => ?_)
      · obtain ⟨nD, e3⟩ := Iv
        obtain ⟨y, hyi, rfl⟩ := get hx
        have hi : i < rest.length := (List.getElem?_eq_some_iff.mp hyi).1
        have fin : ∀ (v : V) H4, numV y = v → Ex H3 H4 → ∃ acc, H4 D = some (.lst acc) ∧ acc.length < sizeLine ∧ Cv (fun D H' => H2 D = none ∧ Ex H2 H') (fun D i acc H' => acc = (rest.take i).map numV) D (i + 1) (upd H4 D (.lst (acc ++ [v]))) := fun v H4 ev e4 =>
          c_put (e4 _ _ hD) ⟨hn, by omega⟩ fun H5 f5 _ => ⟨⟨nD, (e3.trans e4).fr2 nD f5⟩, by rw [r, List.take_succ, hyi, List.map_append, ← ev]; rfl⟩
        walk_at "z"
        refine ⟨rfl, ?_⟩
        walk_at "z"
        exact ⟨y, rfl, hys y (List.mem_cons_of_mem _ (List.mem_of_getElem? hyi)), fun n H4 hn en e4 => fin _ H4 (by rw [en]; exact numV_i hn) e4, fun hn H4 e4 => fin _ H4 (numV_n hn) e4⟩
      · obtain ⟨nD, e3⟩ := Iv
        rw [List.length_map, List.take_length] at r
        subst r
        have e13 : Ex H1 H3 := e2.trans e3
        have e03 : Ex H H3 := e1.trans e13
        have hL3 := e13.sqL hL1
        have hD3 := e13 _ _ hD1
        walk_at "z"
        refine s_rInSeq (.inl (SqL.of hD)) rfl (numV_flat rest) ?_
        by_cases hex : ∃ y ∈ rest, ¬ NumW y
        · rw [in_non hex]
          walk_at "z"
          refine k2 (fun h => ?_) H3 e03
          obtain ⟨_, ns, e, hn, _⟩ := factL_cons h
          obtain ⟨y, hy, hy2⟩ := hex
          rw [e] at hy
          obtain ⟨n, hm, rfl⟩ := List.mem_map.mp hy
          exact hy2 ⟨n, hn n hm, rfl⟩
        obtain ⟨ns, rfl, hns⟩ := nums_of (ys := rest) fun y hy => Classical.byContradiction fun h => hex ⟨y, hy, h⟩
        rw [numV_map hns] at hD ⊢
        rw [in_ints]
        rw [List.length_map] at hfew
        have inj : ∀ {ms : List Int}, ns.map iTx = ms.map iTx → (∀ n ∈ ms, NumOk n) → ns = ms := fun e h => iTx_injL hns h e
        walk_at "z"
        refine s_tDGet ?_
        walk_at "z"
        refine s_ixL hL3 (at0 _ _) ?_
        refine s_dgetS hD3 (sizes_of hsh) ?_
        walk_at "z"
        refine ite_dec (fun hlt => ?_) (fun hlt => ?_)
        · walk_at "z"
          refine k2 (fun h => ?_) H3 e03
          obtain ⟨_, ms, e, hm, hc⟩ := factL_cons h
          have := inj e hm
          subst this
          rw [List.length_cons, List.length_map, List.length_map] at hlt
          rcases hc with ⟨ks', h1, h2, h3⟩ | ⟨rfl, h2⟩
          · rw [hsh] at h1
            cases h1
            unfold szW at hlt
            rw [if_neg h3] at hlt
            omega
          · unfold szW at hlt
            rw [if_pos rfl] at hlt
            omega
        rw [List.length_cons, List.length_map, List.length_map] at hlt
        walk_at "z"
        refine s_ixL hL3 (at0 _ _) ?_
        walk_at "z"
        refine ite_dec (fun hb => ?_) (fun hb => ?_)
        · subst hb
          unfold szW at hlt
          rw [if_pos rfl] at hlt
          obtain ⟨a, d, gs, rfl⟩ : ∃ a d gs, ns = a :: d :: gs := by
            match ns with
            | [] => simp at hlt
            | [a] => simp at hlt
            | a :: d :: gs => exact ⟨a, d, gs, rfl⟩
          have hf : FactL ("board" :: (a :: d :: gs).map iTx) := by
            rw [List.length_cons, List.length_cons] at hfew
            refine ⟨⟨"board", [.i a, .i d, .t gs]⟩, ?_, factL_board hns (by omega)⟩
            rw [words_ns]
            show ("board" : Str) :: (a :: d :: gs).map iTx = ("board" : Str) :: (a :: d :: (gs ++ [])).map iTx
            rw [List.append_nil]
          have hDD : SqL K H3 D (V.int a :: V.int d :: gs.map V.int) := SqL.of hD
          walk_at "z"
          refine s_ixL hDD (at0 _ _) ?_
          walk_at "z"
          refine s_ixL hDD (atI_nat (xs := V.int a :: V.int d :: gs.map V.int) (j := 1) rfl) ?_
          walk_at "z"
          exact k1 hf _ _ (by walk_at "zex")
        · walk_at "z"
          refine s_tDGet ?_
          walk_at "z"
          refine s_ixL hL3 (at0 _ _) ?_
          refine s_dgetS hD3 (sizes_of hsh) ?_
          walk_at "z"
          unfold szW
          rw [if_neg hb]
          refine ite_dec (fun hlen => ?_) (fun hlen => ?_)
          · rw [List.length_cons, List.length_map, List.length_map] at hlen
            have hkn : ks.length = ns.length := by omega
            have hf : FactL (wd :: ns.map iTx) := by
              refine ⟨⟨wd, ns.map Arg.i⟩, ?_, factL_flat hsh hb hkn hns (by omega)⟩
              rw [words_ns, show nsF ⟨wd, ns.map Arg.i⟩ = ns from flat_i ns]
            have hne : ns ≠ [] := fun e => by
              rcases (shape_eight hsh).2 with ⟨h1, _⟩ | ⟨_, kk, h1, _⟩
              · exact hb h1
              · rw [List.length_eq_zero_iff.mp (show ks.length = 0 from by rw [hkn, e]; rfl)] at h1
                cases h1
            walk_at "z"
            refine s_ixL hL3 (at0 _ _) ?_
            walk_at "z"
            rename_i u1 H4 nu1 e4 hu1 u2 H5 nu2 e5 hu2
            refine s_catA (SqT.of (e5 _ _ hu1)) (SqT.of hu2) (by simp) (by simpa using hne) (sz (by rw [List.length_map, List.length_singleton]; omega)) ?_
            refine s_new fun p H6 np e6 hp => k1 hf p H6 (((e03.trans e4).trans e5).trans e6)
          · walk_at "z"
            refine k2 (fun h => ?_) H3 e03
            obtain ⟨_, ms, e, hm, hc⟩ := factL_cons h
            have := inj e hm
            subst this
            rcases hc with ⟨ks', h1, h2, h3⟩ | ⟨h1, _⟩
            · rw [hsh] at h1
              cases h1
              exact hlen (by rw [List.length_cons, List.length_map, List.length_map]; omega)
            · exact hb h1
/-! is it a line -/
def fiveW : List Str := ["strike", "row", "why", "owes", "trusts"]
def lineSizes : List (Key × V) := [(.inr "strike", .int 2), (.inr "row", .int 2), (.inr "why", .int 2), (.inr "owes", .int 3), (.inr "trusts", .int 2)]
theorem lsizes_none {z : Str} (h : z ∉ fiveW) : valV lineSizes (Sum.inr z) = none := by
  simp only [fiveW, List.mem_cons, List.not_mem_nil, or_false, not_or] at h
  obtain ⟨h1, h2, h3, h4, h5⟩ := h
  have g : ∀ {x : Str}, ¬ z = x → ¬ (Sum.inr x : Key) = Sum.inr z := fun n e => n (Sum.inr.inj e).symm
  exact valV_noK (g h1) (valV_noK (g h2) (valV_noK (g h3) (valV_noK (g h4) (valV_noK (g h5) valV_nil))))
theorem lsizes_of {z : Str} (h : z ∈ fiveW) : valV lineSizes (Sum.inr z) = some (.int ((cntW z : Nat) + 1)) := by
  have go : ∀ {z : Str} {m : Int}, m = (cntW z : Nat) + 1 → valV lineSizes (Sum.inr z) = some (.int m) → valV lineSizes (Sum.inr z) = some (.int ((cntW z : Nat) + 1)) := fun a b => by
    rw [← a]
    exact b
  simp only [fiveW, List.mem_cons, List.not_mem_nil, or_false] at h
  rcases h with rfl | rfl | rfl | rfl | rfl
  · exact go (m := 2) (by decide +kernel) (by repeat (first | exact valV_pos rfl | refine valV_no (by decide +kernel) ?_))
  · exact go (m := 2) (by decide +kernel) (by repeat (first | exact valV_pos rfl | refine valV_no (by decide +kernel) ?_))
  · exact go (m := 2) (by decide +kernel) (by repeat (first | exact valV_pos rfl | refine valV_no (by decide +kernel) ?_))
  · exact go (m := 3) (by decide +kernel) (by repeat (first | exact valV_pos rfl | refine valV_no (by decide +kernel) ?_))
  · exact go (m := 2) (by decide +kernel) (by repeat (first | exact valV_pos rfl | refine valV_no (by decide +kernel) ?_))
theorem spl_ne : ∀ (l acc : List Nat), TL.spl [32] 0 acc l ≠ []
  | [], acc => by rw [TL.spl_nil]; simp
  | c :: r, acc => by
    cases h : TL.pre [32] (c :: r) with
    | true => rw [TL.spl_hit h]; simp
    | false => rw [TL.spl_miss h]; exact spl_ne r _
theorem spl_one : ∀ (l acc p : List Nat), TL.spl [32] 0 acc l = [p] → p = acc ++ l
  | [], acc, p, h => by
    rw [TL.spl_nil] at h
    rw [List.append_nil]
    exact (List.cons.inj h).1.symm
  | c :: r, acc, p, h => by
    cases hp : TL.pre [32] (c :: r) with
    | true =>
      rw [TL.spl_hit hp] at h
      exact absurd (List.cons.inj h).2 (spl_ne r [])
    | false =>
      rw [TL.spl_miss hp] at h
      rw [spl_one r _ p h, List.append_assoc]
      rfl
theorem blank_tl : TL.tl (" " : Str) = [32] := by decide +kernel
theorem split_tl (x : Str) : (Txt.split x " ").map TL.tl = TL.spl [32] 0 [] (TL.tl x) := by
  have h := TL.split_spl x " " (by rw [blank_tl]; simp) (TL.kind_ok (by decide +kernel))
  rw [blank_tl] at h
  exact h
theorem split_one {x z : Str} (h : Txt.split x " " = [z]) : x = z := by
  have e := split_tl x
  rw [h] at e
  have := spl_one _ _ _ e.symm
  exact (TL.ext_tl this).symm
def spIsLine : Sp := fun vs H Q _ => ∃ (line z : Str) (rest : List Str), vs = [.str line] ∧ line.length ≤ 80000 ∧ Txt.split line " " = z :: rest ∧ (∀ y ∈ z :: rest, y.length ≤ 90000) ∧ rest.length ≤ 58 ∧ ∀ b H', Ex H H' → (b = false → ¬ LineL z rest) → Q (.bl b) H'
theorem sc_l_is_line : FnScope ["_law_line", "_law_words", "_law_sizes", "_law_word"] ["_law_line"] (defScope s_l_is_line) :=
  ⟨rfl, rfl, rfl, by decide +kernel, rfl, by decide +kernel, by decide +kernel⟩
theorem ok_l_is_line (T : Tx P K mg w) : FnOk P w K mg base CX0 3 T.f_l_is_line T.d_l_is_line ["_law_line"] spIsLine := by
  refine T.F_l_is_line.ok sc_l_is_line (fun vs H Q E h => ?_) (fun cdv A outer s H vs Q E hr h => ?_)
  · obtain ⟨line, z, rest, rfl, _⟩ := h
    rfl
  · obtain ⟨line, z, rest, rfl, hl, hsp, hys, hfew, k⟩ := h
    refine ⟨_, (pss_cons (ps_set (i := 1) sc_l_is_line.nd rfl (Or.inl rfl) (pe_m1 PySem.F.slot_str_split PySem.F.type_str_split mz_split (pv 0) pe_str)) (pss_cons (ps_if (PW.pt (pw_or (pt_cmpR (r := rIn K false) op_in_seq (pv 0) (pe_lst (pa_cons pe_str (pa_cons pe_str pa_nil))) (by rfl)) (pw_or1 (pt_cmpR op_notN1 (pe_call (ok_l_fact_read T) (hr.mono (by decide)) rfl T.g_l_fact_read T.F_l_fact_read.kp T.b_l_fact_read .nil pass0 (pa_cons (pv 1) pa_nil)) pe_non (nomark _))))) (pss_one (ps_ret pe_bl)) pss_nil) (pss_cons (ps_if (PW.pt (pw_and (pt_cmpR op_eq (pe_ix (r := rIxL K) ix_list (pv 1) pe_int (fun _ _ => rfl)) pe_str (nomark _)) (pw_and1 (pt_cmpR op_gt (pe_callB (r := Z.rLen K) cz_len (by rfl) T.z_len PySem.boot_len (pa_cons (pv 1) pa_nil)) pe_int (nomark _))))) (pss_one (ps_ret (pe_and (pe_cmpR op_notN1 (pe_call (ok_l_number_read T) (hr.mono (by decide)) rfl T.g_l_number_read T.F_l_number_read.kp T.b_l_number_read .nil pass0 (pa_cons (pe_ix (r := rIxL K) ix_list (pv 1) pe_int (fun _ _ => rfl)) pa_nil)) pe_non (nomark _)) (pe_one (pe_cmpR op_notN1 (pe_call (ok_l_fact_read T) (hr.mono (by decide)) rfl T.g_l_fact_read T.F_l_fact_read.kp T.b_l_fact_read .nil pass0 (pa_cons (pe_slice (r := rSlL K) sl_list (pv 1) (po_some pe_int) po_none) pa_nil)) pe_non (nomark _)))))) pss_nil) (pss_cons (ps_set (i := 2) sc_l_is_line.nd rfl (Or.inl rfl) (pe_disp (pps_cons pe_str pe_int (pps_cons pe_str pe_int (pps_cons pe_str pe_int (pps_cons pe_str pe_int (pps_cons pe_str pe_int pps_nil))))) rfl rfl (by simp) (by decide))) (pss_cons (ps_if (PW.pt (pw_or (pt_cmp (pc_dnotin (hu_of hr) (pe_ix (r := rIxL K) ix_list (pv 1) pe_int (fun _ _ => rfl)) (pv 2))) (pw_or1 (pt_cmpR op_ne (pe_callB (r := Z.rLen K) cz_len (by rfl) T.z_len PySem.boot_len (pa_cons (pv 1) pa_nil)) (pe_dget (hu_of hr) (pv 2) (pe_ix (r := rIxL K) ix_list (pv 1) pe_int (fun _ _ => rfl)) (fun _ _ => rfl)) (nomark _))))) (pss_one (ps_ret pe_bl)) pss_nil) (pss_one (ps_ret (pe_cmpR op_eq (pe_callB (r := Z.rLen K) cz_len (by rfl) T.z_len PySem.boot_len (pa_cons (pe_lc (own := [("_law_word", 3)]) (by rfl) sc_l_is_line.nd (pi_list (pe_slice (r := rSlL K) sl_list (pv 1) (po_some pe_int) po_none)) (blkOk_by (own := [("_law_word", 3)]) (N := ["_law_line", "_law_words", "_law_sizes", "_law_word"]) (sc := defScope s_l_is_line) (by decide +kernel)) (fun _ _ _ _ _ => (pg_name (i := 3) sc_l_is_line.nd rfl (Or.inl rfl))) (fun _ _ _ _ _ => (pts_one (pt_cmpR op_isN1 (pe_call (ok_l_number_read T) (hr.mono (by decide)) rfl T.g_l_number_read T.F_l_number_read.kp T.b_l_number_read .nil pass0 (pa_cons (pv 3) pa_nil)) pe_non (nomark _)))) (fun _ _ _ _ _ => (pv 3))) pa_nil)) pe_int (nomark _))))))))), ?_⟩
    refine at_start (ρ' := [some _, none, none, none]) rfl ?_
    walk_at "z0"
    walk_at "z"
    refine s_splitS (by decide +kernel) (sz (by omega)) hsp ?_
    refine s_new fun L H1 nL e1 hL => ?_
    have hL0 : SqL K H1 L ((z :: rest).map V.str) := SqL.of hL
    walk_at "z"
    rename_i W H2 nW e2 hW
    refine s_rInSeq (.inl (SqL.of hW)) rfl rfl ?_
    have hL2 := e2.sqL hL0
    have e02 := e1.trans e2
    have hLc : SqL K H2 L (V.str z :: rest.map V.str) := hL2
    cases hin : inV (.str line) [.str "undo", .str "redo"] with
    | true =>
      walk_at "z"
      exact k true H2 e02 (fun q => Bool.noConfusion q)
    | false =>
      have hun : line ≠ "undo" ∧ line ≠ "redo" := ⟨fun e => by
        rw [e] at hin
        exact absurd hin (by decide +kernel), fun e => by
        rw [e] at hin
        exact absurd hin (by decide +kernel)⟩
      walk_at "z"
      refine ⟨L, z :: rest, rfl, hL2, hys, by rw [List.length_cons]; omega, fun hf p H3 e3 => ?_, fun hnf H3 e3 => ?_⟩
      · walk_at "z"
        exact k true H3 (e02.trans e3) (fun q => Bool.noConfusion q)
      have e03 := e02.trans e3
      have hL3 := e3.sqL hLc
      have noS : z = "right" → z ∉ seven := fun e h => (seven_not h).1 e
      walk_at "z"
      refine s_ixL hL3 (at0 _ _) ?_
      walk_at "z"
      have final : z ≠ "right" ∨ rest = [] → tSeq (tAsg (tDisp [(tC (V.str "strike"), tC (V.int 2)), (tC (V.str "row"), tC (V.int 2)), (tC (V.str "why"), tC (V.int 2)), (tC (V.str "owes"), tC (V.int 3)), (tC (V.str "trusts"), tC (V.int 2))]) (gName 2)) (tSeq (tIfS (tOr (tB (tDNotIn (tOp (rIxL K) (tVar 1) (tC (V.int 0))) (tVar 2))) (tTest (tOp rNe (tCB (Z.rLen K) (tCons (tVar 1) tNil)) (tDGet (tVar 2) (tOp (rIxL K) (tVar 1) (tC (V.int 0))))))) (tRet (tC (V.bl false))) tNext) (tRet (tOp rEq (tCB (Z.rLen K) (tCons (tLc (iList K (tSl (rSlL K) (tVar 1) (tPart (tC (V.int 1))) tNoPart)) (gName 3) (tTest (tOp rIsN (tCall spNumRead [] E0 (tCons (tVar 3) tNil)) (tC V.non))) (tVar 3) (List.map (fun x => x.snd) [(Str.ofString "_law_word", 3)])) tNil)) (tC (V.int 0))))) { nx := fun x H' => Q V.non H', rt := Q } [some (V.str line), some (V.ref L), none, none] H3 := fun hr => by
        walk_at "z"
        intro D1 n1
        repeat (refine s_pairC ?_; walk_at "z")
        refine s_pairN ⟨upd_same, lineSizes, rfl, by decide, ?_⟩
        rw [mergeK_new (by decide +kernel), List.nil_append]
        have e4 : Ex H3 (upd (upd H3 D1 (.dK [])) D1 (.dK lineSizes)) := (Ex.new n1).mut n1
        have hD1 : (upd (upd H3 D1 (.dK [])) D1 (.dK lineSizes)) D1 = some (.dK lineSizes) := upd_same
        generalize upd (upd H3 D1 (.dK [])) D1 (.dK lineSizes) = H4 at e4 hD1
        have hL4 := e4.sqL hL3
        have e04 := e03.trans e4
        walk_at "z"
        refine s_tDNotIn ?_
        walk_at "z"
        refine s_ixL hL4 (at0 _ _) ?_
        walk_at "z"
        refine s_dnotinS hD1 ?_
        have norf : ¬ (z ∈ seven ∧ NumsL (cntW z) rest) → ¬ LineL z rest := fun hn h => by
          rcases h with ⟨ez, n, f, _, _, e⟩ | h | h
          · rcases hr with h | h
            · exact h ez
            · rw [h] at e
              cases e
          · exact hn h
          · exact hnf h
        by_cases h5 : z ∈ fiveW
        case neg =>
          rw [lsizes_none h5]
          walk_at "z"
          refine k false H4 e04 (fun _ => norf fun ⟨h7, ns, _, e, hl⟩ => ?_)
          have h2 : z = "undo" ∨ z = "redo" := by
            simp only [seven, fiveW, List.mem_cons, List.not_mem_nil, or_false, not_or] at h7 h5
            rcases h7 with h | h | h | h | h | h | h
            · exact absurd h h5.1
            · exact .inl h
            · exact .inr h
            · exact absurd h h5.2.1
            · exact absurd h h5.2.2.1
            · exact absurd h h5.2.2.2.1
            · exact absurd h h5.2.2.2.2
          have hc : cntW z = 0 := by rcases h2 with rfl | rfl <;> decide +kernel
          rw [hc] at hl
          rw [List.length_eq_zero_iff.mp hl, List.map_nil] at e
          rw [e] at hsp
          have ez := split_one hsp
          rcases h2 with h2 | h2
          · exact hun.1 (ez.trans h2)
          · exact hun.2 (ez.trans h2)
        have h7 : z ∈ seven := by
          simp only [seven, fiveW, List.mem_cons, List.not_mem_nil, or_false] at h5 ⊢
          rcases h5 with h | h | h | h | h
          · exact .inl h
          · exact .inr (.inr (.inr (.inl h)))
          · exact .inr (.inr (.inr (.inr (.inl h))))
          · exact .inr (.inr (.inr (.inr (.inr (.inl h)))))
          · exact .inr (.inr (.inr (.inr (.inr (.inr h)))))
        rw [lsizes_of h5]
        walk_at "z"
        refine s_tDGet ?_
        walk_at "z"
        refine s_ixL hL4 (at0 _ _) ?_
        refine s_dgetS hD1 (lsizes_of h5) ?_
        walk_at "z"
        refine ite_ndec (fun hlen => ?_) (fun hlen => ?_)
        · walk_at "z"
          refine k false H4 e04 (fun _ => norf fun ⟨_, ns, _, e, hl⟩ => hlen ?_)
          rw [List.length_cons, List.length_map, e, List.length_map, hl]
          omega
        walk_at "z"
        rename_i q H5 nq e5 hq
        rw [cut_fromA (by decide)] at hq
        replace hq : H5 q = some (.lst (rest.map V.str)) := hq
        have hq1 : SqL K H5 q (rest.map V.str) := SqL.of hq
        have get : ∀ {i : Nat} {x : V}, (rest.map V.str)[i]? = some x → ∃ y, rest[i]? = some y ∧ x = .str y := fun {i x} h => by
          rw [List.getElem?_map] at h
          obtain ⟨z, hz, rfl⟩ := Option.map_eq_some_iff.mp h
          exact ⟨z, hz, rfl⟩
        refine c_list (rest.map V.str) hq1 (fun D H' => H5 D = none ∧ Ex H5 H') (fun D i acc H' => acc = ((rest.take i).filter (fun y => !numB y)).map V.str) (fun D H' n e _ => ⟨⟨n, e⟩, rfl⟩) (fun D H' Iv => Iv.2.sqL hq1) (fun D i acc H6 x hx Iv hD hn r => ?_) (fun D acc H6 Iv hD hn r => ?_)
        · obtain ⟨nD, e6⟩ := Iv
          obtain ⟨y, hyi, rfl⟩ := get hx
          have hi : i < rest.length := (List.getElem?_eq_some_iff.mp hyi).1
          walk_at "z"
          refine ⟨rfl, ?_⟩
          walk_at "z"
          refine ⟨y, rfl, hys y (List.mem_cons_of_mem _ (List.mem_of_getElem? hyi)), fun n H7 hnk en e7 => ?_, fun hno H7 e7 => ?_⟩
          · walk_at "z"
            refine ⟨acc, ⟨nD, e6.trans e7⟩, e7 _ _ hD, by omega, ?_⟩
            subst r
            show (List.filter (fun y => !numB y) (rest.take i)).map V.str = (List.filter (fun y => !numB y) (rest.take (i + 1))).map V.str
            rw [List.take_succ, hyi, List.filter_append]
            have : [y].filter (fun y => !numB y) = [] := by
              rw [List.filter_cons_of_neg (by rw [numB_t ⟨n, hnk, en⟩]; simp)]
              rfl
            rw [show (some y).toList = [y] from rfl, this, List.append_nil]
          · walk_at "z"
            refine c_put (e7 _ _ hD) ⟨hn, by omega⟩ fun H8 f8 _ => ⟨⟨nD, (e6.trans e7).fr2 nD f8⟩, ?_⟩
            have : [y].filter (fun y => !numB y) = [y] := by
              rw [List.filter_cons_of_pos (by rw [numB_f hno]; rfl)]
              rfl
            rw [r, List.take_succ, hyi, List.filter_append, show (some y).toList = [y] from rfl, this, List.map_append]
            rfl
        · obtain ⟨nD, e6⟩ := Iv
          rw [List.length_map, List.take_length] at r
          subst r
          walk_at "z"
          refine k _ H6 ((e04.trans e5).trans e6) (fun hb => norf fun ⟨_, ns, hns, e, _⟩ => ?_)
          have hne := of_decide_eq_false hb
          refine hne ?_
          rw [List.length_map, e]
          have : (ns.map iTx).filter (fun y => !numB y) = [] := List.filter_eq_nil_iff.mpr fun y hy => by
            obtain ⟨n, hn, rfl⟩ := List.mem_map.mp hy
            rw [numB_t ⟨n, hns n hn, rfl⟩]
            simp
          rw [this]
          rfl
      refine ite_dec (fun hz => ?_) (fun hz => ?_)
      · walk_at "z"
        refine ite_dec (fun hl1 => ?_) (fun hl1 => ?_)
        · cases rest with
          | nil => simp at hl1
          | cons y r2 =>
            have hLy : SqL K H3 L (V.str z :: V.str y :: r2.map V.str) := hL3
            have nor : ¬ (NumW y ∧ FactL r2) → ¬ LineL z (y :: r2) := fun hn h => by
              rcases h with ⟨_, n, f, hn1, hok, e⟩ | ⟨h7, _⟩ | h
              · obtain ⟨e1, e2⟩ := List.cons.inj e
                exact hn ⟨⟨n, hn1, e1⟩, f, e2, hok⟩
              · exact noS hz h7
              · exact hnf h
            have hyl := hys y (by simp)
            have hr2 : ∀ x ∈ r2, x.length ≤ 90000 := fun x hx => hys x (by simp [hx])
            rw [List.length_cons] at hfew
            walk_at "z"
            refine s_ixL hLy (atI_nat (xs := V.str z :: V.str y :: r2.map V.str) (j := 1) rfl) ?_
            walk_at "z"
            refine ⟨y, rfl, hyl, fun n H4 hn en e4 => ?_, fun hn H4 e4 => ?_⟩
            rotate_left
            · walk_at "z"
              exact k false H4 (e03.trans e4) (fun _ => nor fun h => hn h.1)
            have hLy4 := e4.sqL hLy
            walk_at "z"
            rename_i q H5 nq e5 hq
            rw [cut_fromA (by decide)] at hq
            replace hq : H5 q = some (.lst (r2.map V.str)) := hq
            refine ⟨q, r2, rfl, SqL.of hq, hr2, by omega, fun hf p H6 e6 => ?_, fun hnf2 H6 e6 => ?_⟩
            · walk_at "z"
              exact k true H6 (((e03.trans e4).trans e5).trans e6) (fun q => Bool.noConfusion q)
            · walk_at "z"
              exact k false H6 (((e03.trans e4).trans e5).trans e6) (fun _ => nor fun h => hnf2 h.2)
        · walk_at "z"
          exact final (.inr (by
            cases rest with
            | nil => rfl
            | cons y r => simp at hl1; omega))
      · walk_at "z"
        exact final (.inl hz)

/-! texts bent -/
theorem pre32 {c : Nat} {r : List Nat} : TL.pre [32] (c :: r) = decide (c = 32) := by
  unfold TL.pre
  by_cases h : c = 32
  · subst h
    rfl
  · rw [decide_eq_false h]
    show ([c] == [32]) = false
    simp [h]
theorem spl_facts : ∀ (l acc : List Nat), 32 ∉ acc → (TL.spl [32] 0 acc l).length = l.count 32 + 1 ∧ ∀ p ∈ TL.spl [32] 0 acc l, 32 ∉ p ∧ p.length ≤ acc.length + l.length
  | [], acc, h => by
    rw [TL.spl_nil]
    refine ⟨rfl, fun p hp => ?_⟩
    rw [List.mem_singleton.mp hp]
    exact ⟨h, by simp⟩
  | c :: r, acc, h => by
    by_cases hc : c = 32
    · subst hc
      rw [TL.spl_hit (by rw [pre32]; decide)]
      obtain ⟨h1, h2⟩ := spl_facts r [] (by simp)
      refine ⟨?_, fun p hp => ?_⟩
      · rw [List.length_cons, show ([32] : List Nat).length - 1 = 0 from rfl, h1, List.count_cons_self]
      · rcases List.mem_cons.mp hp with rfl | hp
        · exact ⟨h, by rw [List.length_cons]; omega⟩
        · obtain ⟨a, b⟩ := h2 p hp
          exact ⟨a, by rw [List.length_cons]; rw [List.length_nil] at b; omega⟩
    · rw [TL.spl_miss (by rw [pre32, decide_eq_false hc])]
      obtain ⟨h1, h2⟩ := spl_facts r (acc ++ [c]) (by simp [h]; exact fun e => hc e.symm)
      refine ⟨?_, fun p hp => ?_⟩
      · rw [h1, List.count_cons_of_ne (by exact hc)]
      · obtain ⟨a, b⟩ := h2 p hp
        exact ⟨a, by rw [List.length_append, List.length_singleton] at b; rw [List.length_cons]; omega⟩
theorem split_facts (x : Str) : ∃ z rest, Txt.split x " " = z :: rest ∧ rest.length = (TL.tl x).count 32 ∧ ∀ y ∈ z :: rest, 32 ∉ TL.tl y ∧ y.length ≤ x.length := by
  have e := split_tl x
  obtain ⟨h1, h2⟩ := spl_facts (TL.tl x) [] (by simp)
  cases hs : Txt.split x " " with
  | nil =>
    rw [hs] at e
    exact absurd e.symm (spl_ne _ _)
  | cons z rest =>
    rw [hs] at e
    refine ⟨z, rest, rfl, ?_, fun y hy => ?_⟩
    · have := congrArg List.length e
      rw [h1, List.length_map, List.length_cons] at this
      omega
    · obtain ⟨a, b⟩ := h2 (TL.tl y) (by rw [← e]; exact List.mem_map.mpr ⟨y, hy, rfl⟩)
      rw [List.length_nil, Nat.zero_add, ← TL.len_tl, ← TL.len_tl] at b
      exact ⟨a, b⟩
/-- words without blanks -/
def WordsB (m : Nat) (ws : List Str) : Prop := ∀ y ∈ ws, 32 ∉ TL.tl y ∧ y.length ≤ m
theorem join_count : ∀ (ps : List (List Nat)), (∀ p ∈ ps, 32 ∉ p) → (TL.joinL [32] ps).count 32 ≤ ps.length - 1
  | [], _ => Nat.zero_le _
  | [p], h => by
    show p.count 32 ≤ 0
    rw [List.count_eq_zero.mpr (h p (by simp))]
    exact Nat.le_refl _
  | p :: q :: ps, h => by
    have ih := join_count (q :: ps) fun x hx => h x (List.mem_cons_of_mem _ hx)
    show (p ++ ([32] ++ TL.joinL [32] (q :: ps))).count 32 ≤ _
    rw [List.count_append, List.count_append, List.count_eq_zero.mpr (h p (by simp))]
    rw [List.length_cons] at ih
    rw [List.length_cons, List.length_cons]
    have : List.count 32 [32] = 1 := rfl
    omega
theorem join_length {m : Nat} : ∀ (ps : List (List Nat)), (∀ p ∈ ps, p.length ≤ m) → (TL.joinL [32] ps).length ≤ ps.length * (m + 1)
  | [], _ => Nat.zero_le _
  | [p], h => by
    show p.length ≤ _
    have := h p (by simp)
    rw [List.length_singleton]
    omega
  | p :: q :: ps, h => by
    have ih := join_length (q :: ps) fun x hx => h x (List.mem_cons_of_mem _ hx)
    have hp := h p (by simp)
    show (p ++ ([32] ++ TL.joinL [32] (q :: ps))).length ≤ _
    rw [List.length_append, List.length_append, List.length_singleton, List.length_cons (a := p), Nat.add_mul]
    omega
/-- a text that is not bent -/
structure BaseT (z : Str) : Prop where
  row : 10 ∉ TL.tl z
  few : (TL.tl z).count 32 ≤ 11
  len : z.length ≤ 3000
structure OutT (z : Str) : Prop where
  few : (TL.tl z).count 32 ≤ 40
  len : z.length ≤ 60000
theorem join_out {ws : List Str} (h : WordsB 3000 ws) (hl : ws.length ≤ 14) : OutT (Txt.join " " ws) := by
  have e : TL.tl (Txt.join " " ws) = TL.joinL [32] (ws.map TL.tl) := by rw [TL.join_eq, TL.tl_join, blank_tl]
  refine ⟨?_, ?_⟩
  · rw [e]
    have := join_count (ws.map TL.tl) fun p hp => by
      obtain ⟨y, hy, rfl⟩ := List.mem_map.mp hp
      exact (h y hy).1
    rw [List.length_map] at this
    omega
  · rw [TL.len_tl, e]
    have := join_length (m := 3000) (ws.map TL.tl) fun p hp => by
      obtain ⟨y, hy, rfl⟩ := List.mem_map.mp hp
      rw [← TL.len_tl]
      exact (h y hy).2
    rw [List.length_map] at this
    have h2 : ws.length * (3000 + 1) ≤ 14 * 3001 := Nat.mul_le_mul_right _ hl
    omega
theorem sum_words {m : Nat} : ∀ {ws : List Str}, WordsB m ws → (ws.map (·.length)).sum ≤ ws.length * m
  | [], _ => Nat.zero_le _
  | y :: ws, h => by
    have ih := sum_words (ws := ws) fun x hx => h x (List.mem_cons_of_mem _ hx)
    have := (h y (by simp)).2
    rw [List.map_cons, List.sum_cons, List.length_cons, Nat.add_mul]
    omega
theorem Fr.mut {b W : Addr} {o : HO} {H H1 : Hp} (f : Fr b H H1) (h : H W = none) : Fr b H (upd H1 W o) := fun a u n ha => by
  rw [upd_ne (ne_of_none ha h)]
  exact f a u n ha
theorem erase_map {α β : Type} (f : α → β) : ∀ (l : List α) (i : Nat), (l.map f).eraseIdx i = (l.eraseIdx i).map f
  | [], _ => rfl
  | _ :: _, 0 => rfl
  | x :: l, i + 1 => by
    show f x :: (l.map f).eraseIdx i = f x :: (l.eraseIdx i).map f
    rw [erase_map f l i]
def spBentW (K : PySem.W.Frag) : Sp := fun vs H Q _ => ∃ (b c : Addr) (row : Str), vs = [.ref b, .str row] ∧ Bag H b c ∧ BaseT row ∧ ∀ z H', OutT z → Fr b H H' → Bag H' b c → Q (.str z) H'
def odds34 : List Str := ["0", "1", "7", "8", "01", "-1", "", "pass", "board", "toll", "lost", "paid", Txt.mul "9" 30, Txt.mul "9" 31]
theorem odds_b : WordsB 3000 odds34 := by
  intro y hy
  simp only [odds34, List.mem_cons, List.not_mem_nil, or_false] at hy
  rcases hy with rfl | rfl | rfl | rfl | rfl | rfl | rfl | rfl | rfl | rfl | rfl | rfl | rfl | rfl <;> exact ⟨by decide +kernel, by decide +kernel⟩
theorem sc_l_words_bent : FnScope ["_law_bag_here", "_law_row", "_law_words", "_law_odds", "_law_word", "_law_at", "_law_way"] ["_law_bag_here", "_law_row"] (defScope s_l_words_bent) :=
  ⟨rfl, rfl, rfl, by decide +kernel, rfl, by decide +kernel, by decide +kernel⟩
theorem ok_l_words_bent (T : Tx P K mg w) : FnOk P w K mg base CX0 2 T.f_l_words_bent T.d_l_words_bent ["_law_bag_here", "_law_row"] (spBentW K) := by
  refine T.F_l_words_bent.ok sc_l_words_bent (fun vs H Q E h => ?_) (fun cdv A outer s H vs Q E hr h => ?_)
  · obtain ⟨b, c, row, rfl, _⟩ := h
    rfl
  · obtain ⟨b, c, row, rfl, B, hb, k⟩ := h
    refine ⟨_, (pss_cons (ps_set (i := 2) sc_l_words_bent.nd rfl (Or.inl rfl) (pe_m1 PySem.F.slot_str_split PySem.F.type_str_split mz_split (pv 1) pe_str)) (pss_cons (ps_set (i := 3) sc_l_words_bent.nd rfl (Or.inl rfl) (pe_lst (pa_cons pe_str (pa_cons pe_str (pa_cons pe_str (pa_cons pe_str (pa_cons pe_str (pa_cons pe_str (pa_cons pe_str (pa_cons pe_str (pa_cons pe_str (pa_cons pe_str (pa_cons pe_str (pa_cons pe_str (pa_cons (pe_op oz_mulS pe_str pe_int) (pa_cons (pe_op oz_mulS pe_str pe_int) pa_nil)))))))))))))))) (pss_cons (ps_set (i := 4) sc_l_words_bent.nd rfl (Or.inl rfl) (pe_ix (r := rIxL K) ix_list (pe_op op_cat (pv 3) (pv 2)) (pe_call (ok_l_pull T) (hr.mono (by decide)) rfl T.g_l_pull T.F_l_pull.kp T.b_l_pull .nil pass0 (pa_cons (pv 0) (pa_cons (pe_op op_add (pe_callB (r := Z.rLen K) cz_len (by rfl) T.z_len PySem.boot_len (pa_cons (pv 3) pa_nil)) (pe_callB (r := Z.rLen K) cz_len (by rfl) T.z_len PySem.boot_len (pa_cons (pv 2) pa_nil))) pa_nil))) (fun _ _ => rfl))) (pss_cons (ps_set (i := 5) sc_l_words_bent.nd rfl (Or.inl rfl) (pe_call (ok_l_pull T) (hr.mono (by decide)) rfl T.g_l_pull T.F_l_pull.kp T.b_l_pull .nil pass0 (pa_cons (pv 0) (pa_cons (pe_callB (r := Z.rLen K) cz_len (by rfl) T.z_len PySem.boot_len (pa_cons (pv 2) pa_nil)) pa_nil)))) (pss_cons (ps_set (i := 6) sc_l_words_bent.nd rfl (Or.inl rfl) (pe_call (ok_l_pull T) (hr.mono (by decide)) rfl T.g_l_pull T.F_l_pull.kp T.b_l_pull .nil pass0 (pa_cons (pv 0) (pa_cons pe_int pa_nil)))) (pss_cons (ps_if (pt_cmpR op_eq (pv 6) pe_int (nomark _)) (pss_one (ps_asg (pv 4) (pg_sub (pv 2) (pv 5) set_list))) pss_nil) (pss_cons (ps_if (pt_cmpR op_eq (pv 6) pe_int (nomark _)) (pss_one (ps_expr (pe_bm PySem.F.plainAttrs_list PySem.F.slot_list_insert PySem.F.type_list_insert mt_insert (pv 2) (pa_cons (pv 5) (pa_cons (pv 4) pa_nil))))) pss_nil) (pss_cons (ps_if (pt_cmpR op_eq (pv 6) pe_int (nomark _)) (pss_one (ps_expr (pe_bm PySem.F.plainAttrs_list PySem.F.slot_list_pop PySem.F.type_list_pop mt_popAt (pv 2) (pa_cons (pv 5) pa_nil)))) pss_nil) (pss_cons (ps_if (pt_cmpR op_eq (pv 6) pe_int (nomark _)) (pss_one (ps_asg (pe_tup (pa_cons (pe_ix (r := rIxL K) ix_list (pv 2) pe_int (fun _ _ => rfl)) (pa_cons (pe_ix (r := rIxL K) ix_list (pv 2) (pv 5) (fun _ _ => rfl)) pa_nil))) (pg_tup (by rfl) (pgs_cons (pg_sub (pv 2) (pv 5) set_list) (pgs_cons (pg_sub (pv 2) pe_int set_list) pgs_nil))))) pss_nil) (pss_one (ps_ret (pe_m1 (r := rJoin K) PySem.F.slot_str_join PySem.F.type_str_join mz_join pe_str (pv 2))))))))))))), ?_⟩
    refine at_start (ρ' := [some _, some _, none, none, none, none, none]) rfl ?_
    obtain ⟨z0, r0, hsp, hlen, hws0⟩ := split_facts row
    have hfew := hb.few
    have hlen2 := hb.len
    have hws : WordsB 3000 (z0 :: r0) := fun y hy => ⟨(hws0 y hy).1, Nat.le_trans (hws0 y hy).2 hb.len⟩
    rw [← hlen] at hfew
    walk_at "z0"
    walk_at "z"
    refine s_splitS (by decide +kernel) (sz (by omega)) hsp ?_
    refine s_new fun L H1 nL e1 hL => ?_
    have B1 := B.ext e1
    walk_at "z"
    refine s_rMulS (by unfold MulOk; decide +kernel) ?_
    walk_at "z"
    refine s_rMulS (by unfold MulOk; decide +kernel) ?_
    walk_at "z"
    rename_i O H2 nO e2 hO
    replace hO : H2 O = some (.lst (odds34.map V.str)) := hO
    have hL2 := e2 _ _ hL
    have B2 := B1.ext e2
    refine ⟨O, L, _, _, rfl, rfl, hO, hL2, sz (by rw [List.length_map, List.length_map, List.length_cons]; show 14 + _ ≤ 100000; omega), ?_⟩
    intro A nA
    have e3 : Ex H2 (upd H2 A (.lst (odds34.map V.str ++ (z0 :: r0).map V.str))) := Ex.new nA
    have hA : (upd H2 A (.lst (odds34.map V.str ++ (z0 :: r0).map V.str))) A = some (.lst (odds34.map V.str ++ (z0 :: r0).map V.str)) := upd_same
    generalize upd H2 A (.lst (odds34.map V.str ++ (z0 :: r0).map V.str)) = H3 at e3 hA ⊢
    rw [← List.map_append] at hA
    have B3 := B2.ext e3
    have hL3 := e3 _ _ hL2
    have e03 := (e1.trans e2).trans e3
    have lenA : ((odds34 ++ z0 :: r0).map V.str).length = 14 + (r0.length + 1) := by rw [List.length_map, List.length_append, List.length_cons]; rfl
    have lenL : ((z0 :: r0).map V.str).length = r0.length + 1 := by rw [List.length_map, List.length_cons]
    have lenO : (odds34.map V.str).length = 14 := rfl
    have hO3 := e3 _ _ hO
    clear hO nO
    walk_at "z"
    rename_i v H4 v0 v1 B4 f4
    obtain ⟨_, hb3⟩ := B3.getb
    have nLb : L ≠ b := B.neb nL
    have nLc : L ≠ c := B.nec nL
    have nAb : A ≠ b := B2.neb nA
    refine s_ixP (fun x => ∃ y, x = .str y ∧ 32 ∉ TL.tl y ∧ y.length ≤ 3000) (SqL.of (f4 _ _ nAb hA)) ⟨v0, by rw [lenA]; rw [lenO, lenL] at v1; omega⟩ (fun x hx => ?_) fun x hx => ?_
    · obtain ⟨y, hy, rfl⟩ := List.mem_map.mp hx
      rcases List.mem_append.mp hy with h | h
      · exact ⟨y, rfl, odds_b y h⟩
      · exact ⟨y, rfl, hws y h⟩
    obtain ⟨wd, rfl, hwB⟩ := hx
    have hL4 := f4 _ _ nLb hL3
    walk_at "z"
    rename_i at_ H5 a0 a1 B5 f5 way H6 w0 w1 B6 f6
    have f06 : Fr b H H6 := (e03.fr b).trans (f4.trans (f5.trans f6))
    have hL6 := f6 _ _ nLb (f5 _ _ nLb hL4)
    clear f4 f5 f6 B5 B4 B3 B2 B1 hO3 hA hL hL2 hL3 hL4 e1 e2 e3 e03
    obtain ⟨i, rfl⟩ : ∃ i : Nat, at_ = (i : Nat) := ⟨at_.toNat, by omega⟩
    rw [lenL] at a1
    have hi : i < r0.length + 1 := by omega
    have fin : ∀ (ws : List Str) H7, WordsB 3000 ws → ws.length ≤ 14 → Fr L H6 H7 → H7 L = some (.lst (ws.map V.str)) → rJoin K (V.str " ") [V.ref L] H7 Q := fun ws H7 h1 h2 f7 h3 => by
      have hsum := sum_words h1
      have hmul : ws.length * 3000 ≤ 14 * 3000 := Nat.mul_le_mul_right _ h2
      refine s_rJoin ws (.inl (SqL.of h3)) rfl (by rw [show (Str.ofString " ").length = 1 from by decide +kernel]; omega) ?_
      exact k _ H7 (join_out h1 h2) (fun a o n h => f7 _ _ (fun z => by rw [z, nL] at h; cases h) (f06 a o n h)) (B6.frs nLb nLc f7)
    have hlw : (z0 :: r0).length ≤ 12 := by rw [List.length_cons]; omega
    have getw : ∀ {j : Nat}, j < r0.length + 1 → ∃ y, (z0 :: r0)[j]? = some y ∧ 32 ∉ TL.tl y ∧ y.length ≤ 3000 := fun {j} hj => ⟨_, List.getElem?_eq_getElem (by rw [List.length_cons]; exact hj), hws _ (List.getElem_mem _)⟩
    have setB : ∀ {ws : List Str} {j : Nat} {y : Str}, WordsB 3000 ws → (32 ∉ TL.tl y ∧ y.length ≤ 3000) → WordsB 3000 (ws.set j y) := fun h1 h2 x hx => by
      rcases List.mem_or_eq_of_mem_set hx with h | h
      · exact h1 x h
      · rw [h]
        exact h2
    have mg : ∀ {j : Nat} {y : Str}, (z0 :: r0)[j]? = some y → ((z0 :: r0).map V.str)[j]? = some (.str y) := fun h => by rw [List.getElem?_map, h]; rfl
    rcases (by omega : way = 0 ∨ way = 1 ∨ way = 2 ∨ way = 3) with rfl | rfl | rfl | rfl
    · walk_at "z"
      refine s_setN hL6 (m := i) (by rw [lenL, ixN]; simp; omega) (((z0 :: r0).set i wd).map V.str) (by rw [List.map_set]) fun H7 f7 h7 => ?_
      walk_at "z"
      exact fin _ H7 (setB hws hwB) (by rw [List.length_set]; omega) f7 h7
    · walk_at "z"
      refine ⟨L, _, (i : Nat), .str wd, rfl, rfl, hL6, Nat.lt_of_lt_of_le (m := 100000) (by rw [lenL]; omega) (sz (Nat.le_refl _)), by omega, by omega, ?_⟩
      have f7 : Fr L H6 (upd H6 L (.lst (List.take ((i : Nat) : Int).toNat ((z0 :: r0).map V.str) ++ [V.str wd] ++ List.drop ((i : Nat) : Int).toNat ((z0 :: r0).map V.str)))) := Fr.upd
      have h7 : (upd H6 L (.lst (List.take ((i : Nat) : Int).toNat ((z0 :: r0).map V.str) ++ [V.str wd] ++ List.drop ((i : Nat) : Int).toNat ((z0 :: r0).map V.str)))) L = some (.lst ((((z0 :: r0).take i) ++ [wd] ++ (z0 :: r0).drop i).map V.str)) := by
        rw [upd_same, List.map_append, List.map_append, List.map_take, List.map_drop]
        rfl
      generalize upd H6 L _ = H7 at f7 h7 ⊢
      walk_at "z"
      refine fin _ H7 (fun x hx => ?_) ?_ f7 h7
      · simp only [List.mem_append, List.mem_singleton] at hx
        rcases hx with (h | h) | h
        · exact hws x (List.mem_of_mem_take h)
        · rw [h]
          exact hwB
        · exact hws x (List.mem_of_mem_drop h)
      · rw [List.length_append, List.length_append, List.length_take, List.length_drop, List.length_singleton]
        omega
    · obtain ⟨y, hy, _⟩ := getw hi
      walk_at "z"
      refine ⟨L, _, (i : Nat), i, .str y, rfl, rfl, hL6, by omega, by omega, (ixN_seq (j := i) (by rw [lenL, ixN]; simp; omega)).1, mg hy, ?_⟩
      have f7 : Fr L H6 (upd H6 L (.lst (((z0 :: r0).map V.str).eraseIdx i))) := Fr.upd
      have h7 : (upd H6 L (.lst (((z0 :: r0).map V.str).eraseIdx i))) L = some (.lst (((z0 :: r0).eraseIdx i).map V.str)) := by
        rw [upd_same, erase_map]
      generalize upd H6 L _ = H7 at f7 h7 ⊢
      walk_at "z"
      exact fin _ H7 (fun x hx => hws x (List.mem_of_mem_eraseIdx hx)) (by have := List.length_eraseIdx_le (z0 :: r0) i; omega) f7 h7
    · obtain ⟨y, hy, hyB⟩ := getw hi
      walk_at "z"
      refine s_ixL (SqL.of hL6) (at0 _ _) ?_
      walk_at "z"
      refine s_ixL (SqL.of hL6) (atI_nat (mg hy)) ?_
      walk_at "z"
      rename_i tp H7 ntp e7 htp
      refine s_setN (e7 _ _ hL6) (m := i) (by rw [lenL, ixN]; simp; omega) (((z0 :: r0).set i z0).map V.str) (by rw [List.map_set]) fun H8 f8 h8 => ?_
      walk_at "z"
      refine s_setN h8 (m := 0) (by rw [List.length_map, List.length_set, List.length_cons, ixN]; simp) ((((z0 :: r0).set i z0).set 0 y).map V.str) (by simp only [List.map_set]) fun H9 f9 h9 => ?_
      walk_at "z"
      exact fin _ H9 (setB (setB hws (hws z0 (by simp))) hyB) (by rw [List.length_set, List.length_set]; omega) ((e7.fr L).trans (f8.trans f9)) h9

/-! a sign, a text bent -/
def spSign : Sp := fun vs H Q _ => ∃ (b c : Addr), vs = [.ref b] ∧ Bag H b c ∧ ∀ (n : Nat) H', Fr b H H' → Bag H' b c → Q (.str ⟨#[n]⟩) H'
theorem sc_l_sign : FnScope ["_law_bag_here", "_law_signs"] ["_law_bag_here"] (defScope s_l_sign) :=
  ⟨rfl, rfl, rfl, by decide +kernel, rfl, by decide +kernel, by decide +kernel⟩
theorem ok_l_sign (T : Tx P K mg w) : FnOk P w K mg base CX0 2 T.f_l_sign T.d_l_sign ["_law_bag_here"] spSign := by
  refine T.F_l_sign.ok sc_l_sign (fun vs H Q E h => ?_) (fun cdv A outer s H vs Q E hr h => ?_)
  · obtain ⟨b, c, rfl, _⟩ := h
    rfl
  · obtain ⟨b, c, rfl, B, k⟩ := h
    refine ⟨_, (pss_cons (ps_set (i := 1) sc_l_sign.nd rfl (Or.inl rfl) (pe_op oz_addStr pe_str pe_str)) (pss_one (ps_ret (pe_ix ix_str (pv 1) (pe_call (ok_l_pull T) (hr.mono (by decide)) rfl T.g_l_pull T.F_l_pull.kp T.b_l_pull .nil pass0 (pa_cons (pv 0) (pa_cons (pe_callB cz_lenStr (by rfl) T.z_len PySem.boot_len (pa_cons (pv 1) pa_nil)) pa_nil))) (fun _ _ => rfl))))), ?_⟩
    refine at_start (ρ' := [some _, none]) rfl ?_
    walk_at "z0"
    walk_at "z"
    refine ⟨_, _, rfl, rfl, sz (by decide +kernel), ?_⟩
    generalize hz : (Str.ofString " 0123456789- 012.!\"#$&'()*+,/:;<=>?@AZ[]^_abcdefghijklmnopqrstuvwxyz{|}~" ++ Str.ofString "\n") = zz
    have hl : 1 ≤ zz.length ∧ zz.length ≤ 100 := by
      rw [← hz]
      decide +kernel
    clear hz
    walk_at "z"
    refine s_rLenStr (sz (by omega)) ?_
    walk_at "z"
    rename_i v H1 v0 v1 B1 f1
    obtain ⟨n, hn⟩ := at_ex zz.cps.toList v0 (by rw [Array.length_toList]; exact v1)
    exact s_ixS (sz (by omega)) hn (k n H1 f1 B1)
theorem rows_one {x : Str} (h : 10 ∉ TL.tl x) : Txt.split x "\n" = [x] := by
  have e : TL.tl ("\n" : Str) = [10] := by decide +kernel
  have := TL.split_join (y := "\n") (s := 10) (S := []) e (by decide +kernel) (parts := [x]) (by simp) fun p hp => by
    rw [List.mem_singleton.mp hp]
    exact h
  exact this
theorem out_app {x y : Str} {a b m n : Nat} (h1 : (TL.tl x).count 32 ≤ a) (h2 : (TL.tl y).count 32 ≤ b) (l1 : x.length ≤ m) (l2 : y.length ≤ n) : (TL.tl (x ++ y)).count 32 ≤ a + b ∧ (x ++ y).length ≤ m + n := by
  rw [TL.tl_append, List.count_append]
  refine ⟨by omega, ?_⟩
  rw [TL.len_tl, TL.tl_append, List.length_append, ← TL.len_tl, ← TL.len_tl]
  omega
theorem cut_out {x : Str} {lo hi : Option Int} (h : BaseT x) : (TL.tl (cutS x lo hi)).count 32 ≤ 11 ∧ (cutS x lo hi).length ≤ 3000 := by
  have e : TL.tl (cutS x lo hi) = ((TL.tl x).drop (HT.sIx x.length 0 lo)).take (HT.sIx x.length x.length hi - HT.sIx x.length 0 lo) := rfl
  have sb : (TL.tl (cutS x lo hi)).Sublist (TL.tl x) := by
    rw [e]
    exact (List.take_sublist _ _).trans (List.drop_sublist _ _)
  refine ⟨Nat.le_trans (sb.count_le 32) h.few, ?_⟩
  rw [TL.len_tl]
  have := sb.length_le
  rw [← TL.len_tl x] at this
  exact Nat.le_trans this h.len
def spBentT (K : PySem.W.Frag) : Sp := fun vs H Q _ => ∃ (b c : Addr) (x : Str), vs = [.ref b, .str x] ∧ Bag H b c ∧ BaseT x ∧ ∀ z H', OutT z → Fr b H H' → Bag H' b c → Q (.str z) H'
theorem base_out {x : Str} (h : BaseT x) : OutT x := ⟨by have := h.few; omega, by have := h.len; omega⟩
theorem sc_l_text_bent : FnScope ["_law_bag_here", "_law_text_here", "_law_rows", "_law_at", "_law_to", "_law_way", "_law_spot"] ["_law_bag_here", "_law_text_here"] (defScope s_l_text_bent) :=
  ⟨rfl, rfl, rfl, by decide +kernel, rfl, by decide +kernel, by decide +kernel⟩
theorem ok_l_text_bent (T : Tx P K mg w) : FnOk P w K mg base CX0 3 T.f_l_text_bent T.d_l_text_bent ["_law_bag_here", "_law_text_here"] (spBentT K) := by
  refine T.F_l_text_bent.ok sc_l_text_bent (fun vs H Q E h => ?_) (fun cdv A outer s H vs Q E hr h => ?_)
  · obtain ⟨b, c, x, rfl, _⟩ := h
    rfl
  · obtain ⟨b, c, x, rfl, B, hb, k⟩ := h
    refine ⟨_, (pss_cons (ps_set (i := 2) sc_l_text_bent.nd rfl (Or.inl rfl) (pe_m1 PySem.F.slot_str_split PySem.F.type_str_split mz_split (pv 1) pe_str)) (pss_cons (ps_set (i := 3) sc_l_text_bent.nd rfl (Or.inl rfl) (pe_call (ok_l_pull T) (hr.mono (by decide)) rfl T.g_l_pull T.F_l_pull.kp T.b_l_pull .nil pass0 (pa_cons (pv 0) (pa_cons (pe_callB (r := Z.rLen K) cz_len (by rfl) T.z_len PySem.boot_len (pa_cons (pv 2) pa_nil)) pa_nil)))) (pss_cons (ps_set (i := 4) sc_l_text_bent.nd rfl (Or.inl rfl) (pe_call (ok_l_pull T) (hr.mono (by decide)) rfl T.g_l_pull T.F_l_pull.kp T.b_l_pull .nil pass0 (pa_cons (pv 0) (pa_cons (pe_callB (r := Z.rLen K) cz_len (by rfl) T.z_len PySem.boot_len (pa_cons (pv 2) pa_nil)) pa_nil)))) (pss_cons (ps_set (i := 5) sc_l_text_bent.nd rfl (Or.inl rfl) (pe_call (ok_l_pull T) (hr.mono (by decide)) rfl T.g_l_pull T.F_l_pull.kp T.b_l_pull .nil pass0 (pa_cons (pv 0) (pa_cons pe_int pa_nil)))) (pss_cons (ps_if (pt_cmpR op_lt (pv 5) pe_int (nomark _)) (pss_one (ps_asg (pe_call (ok_l_words_bent T) (hr.mono (by decide)) rfl T.g_l_words_bent T.F_l_words_bent.kp T.b_l_words_bent .nil pass0 (pa_cons (pv 0) (pa_cons (pe_ix (r := rIxL K) ix_list (pv 2) (pv 3) (fun _ _ => rfl)) pa_nil))) (pg_sub (pv 2) (pv 3) set_list))) pss_nil) (pss_cons (ps_if (pt_cmpR op_eq (pv 5) pe_int (nomark _)) (pss_one (ps_expr (pe_bm PySem.F.plainAttrs_list PySem.F.slot_list_pop PySem.F.type_list_pop mt_popAt (pv 2) (pa_cons (pv 3) pa_nil)))) pss_nil) (pss_cons (ps_if (pt_cmpR op_eq (pv 5) pe_int (nomark _)) (pss_one (ps_expr (pe_bm PySem.F.plainAttrs_list PySem.F.slot_list_insert PySem.F.type_list_insert mt_insert (pv 2) (pa_cons (pv 4) (pa_cons (pe_ix (r := rIxL K) ix_list (pv 2) (pv 3) (fun _ _ => rfl)) pa_nil))))) pss_nil) (pss_cons (ps_if (pt_cmpR op_eq (pv 5) pe_int (nomark _)) (pss_one (ps_asg (pe_tup (pa_cons (pe_ix (r := rIxL K) ix_list (pv 2) (pv 4) (fun _ _ => rfl)) (pa_cons (pe_ix (r := rIxL K) ix_list (pv 2) (pv 3) (fun _ _ => rfl)) pa_nil))) (pg_tup (by rfl) (pgs_cons (pg_sub (pv 2) (pv 3) set_list) (pgs_cons (pg_sub (pv 2) (pv 4) set_list) pgs_nil))))) pss_nil) (pss_cons (ps_if (pt_cmpR op_lt (pv 5) pe_int (nomark _)) (pss_one (ps_ret (pe_m1 (r := rJoin K) PySem.F.slot_str_join PySem.F.type_str_join mz_join pe_str (pv 2)))) pss_nil) (pss_cons (ps_set (i := 6) sc_l_text_bent.nd rfl (Or.inl rfl) (pe_call (ok_l_pull T) (hr.mono (by decide)) rfl T.g_l_pull T.F_l_pull.kp T.b_l_pull .nil pass0 (pa_cons (pv 0) (pa_cons (pe_op op_add (pe_callB cz_lenStr (by rfl) T.z_len PySem.boot_len (pa_cons (pv 1) pa_nil)) pe_int) pa_nil)))) (pss_cons (ps_if (pt_cmpR op_eq (pv 5) pe_int (nomark _)) (pss_one (ps_ret (pe_op oz_addStr (pe_slice sl_str (pv 1) po_none (po_some (pv 6))) (pe_slice sl_str (pv 1) (po_some (pe_op op_add (pv 6) pe_int)) po_none)))) pss_nil) (pss_one (ps_ret (pe_op oz_addStr (pe_op oz_addStr (pe_slice sl_str (pv 1) po_none (po_some (pv 6))) (pe_call (ok_l_sign T) (hr.mono (by decide)) rfl T.g_l_sign T.F_l_sign.kp T.b_l_sign .nil pass0 (pa_cons (pv 0) pa_nil))) (pe_slice sl_str (pv 1) (po_some (pe_op op_add (pv 6) (pe_op op_mod (pv 5) pe_int))) po_none))))))))))))))), ?_⟩
    refine at_start (ρ' := [some _, some _, none, none, none, none, none]) rfl ?_
    have hlen := hb.len
    walk_at "z0"
    walk_at "z"
    refine s_splitS (by decide +kernel) (sz (by omega)) (rows_one hb.row) ?_
    refine s_new fun L H1 nL e1 hL => ?_
    replace hL : H1 L = some (.lst [.str x]) := hL
    have B1 := B.ext e1
    have nLb : L ≠ b := B.neb nL
    have nLc : L ≠ c := B.nec nL
    have l1 : ([V.str x] : List V).length = 1 := rfl
    walk_at "z"
    rename_i at_ H2 a0 a1 B2 f2 to_ H3 t0 t1 B3 f3 way H4 w0 w1 B4 f4
    obtain rfl : at_ = 0 := by omega
    obtain rfl : to_ = 0 := by omega
    have f04 : Fr b H H4 := (e1.fr b).trans (f2.trans (f3.trans f4))
    have hL4 := f4 _ _ nLb (f3 _ _ nLb (f2 _ _ nLb hL))
    clear f2 f3 f4 B2 B3 B1 hL e1
    have frF : ∀ {H6 H7 : Hp}, Fr b H H6 → Fr L H6 H7 → Fr b H H7 := fun f g a o n h => g _ _ (fun z => by rw [z, nL] at h; cases h) (f a o n h)
    have done : ∀ (ws : List Str) H7, OutT (Txt.join "\n" ws) → (ws.map (·.length)).sum + ws.length ≤ 200000 → Fr b H H7 → Bag H7 b c → H7 L = some (.lst (ws.map V.str)) → rJoin K (V.str "\n") [V.ref L] H7 Q := fun ws H7 h1 h2 f7 B7 h3 => by
      refine s_rJoin ws (.inl (SqL.of h3)) rfl (by rw [show (Str.ofString "\n").length = 1 from by decide +kernel]; omega) ?_
      exact k _ H7 h1 f7 B7
    have one : ∀ {z : Str}, OutT z → ([z].map (·.length)).sum + [z].length ≤ 200000 := fun {z} h => by
      have := h.len
      show z.length + 0 + 1 ≤ 200000
      omega
    rcases (by omega : way < 4 ∨ way = 4 ∨ way = 5 ∨ way = 6 ∨ way = 7 ∨ 8 ≤ way) with hw | rfl | rfl | rfl | rfl | hw
    · refine ite_pos hw ?_
      walk_at "z"
      refine ⟨b, c, x, rfl, B4, hb, fun z H5 hz f5 B5 => ?_⟩
      walk_at "z"
      refine s_setN (f5 _ _ nLb hL4) (m := 0) (by rw [ixN]; simp) [.str z] rfl fun H6 f6 h6 => ?_
      walk_at "z"
      refine ite_neg (by omega) ?_
      walk_at "z"
      refine ite_neg (by omega) ?_
      walk_at "z"
      refine ite_neg (by omega) ?_
      walk_at "z"
      refine ite_pos (by omega) ?_
      walk_at "z"
      exact done [z] H6 hz (one hz) (frF (f04.trans f5) f6) (B5.frs nLb nLc f6) h6
    · walk_at "z"
      refine ⟨L, _, 0, 0, .str x, rfl, rfl, hL4, by omega, by omega, rfl, rfl, ?_⟩
      have f7 : Fr L H4 (upd H4 L (.lst ([V.str x].eraseIdx 0))) := Fr.upd
      have h7 : (upd H4 L (.lst ([V.str x].eraseIdx 0))) L = some (.lst (([] : List Str).map V.str)) := upd_same
      generalize upd H4 L _ = H7 at f7 h7 ⊢
      walk_at "z"
      exact done [] H7 ⟨Nat.zero_le _, Nat.zero_le _⟩ (Nat.zero_le _) (frF f04 f7) (B4.frs nLb nLc f7) h7
    · walk_at "z"
      refine ⟨L, _, 0, .str x, rfl, rfl, hL4, Nat.lt_of_lt_of_le (m := 2) (by show 1 < 2; decide) (sz (by decide)), by omega, by omega, ?_⟩
      have f7 : Fr L H4 (upd H4 L (.lst (List.take (0 : Int).toNat [V.str x] ++ [V.str x] ++ List.drop (0 : Int).toNat [V.str x]))) := Fr.upd
      have h7 : (upd H4 L (.lst (List.take (0 : Int).toNat [V.str x] ++ [V.str x] ++ List.drop (0 : Int).toNat [V.str x]))) L = some (.lst ([x, x].map V.str)) := upd_same
      generalize upd H4 L _ = H7 at f7 h7 ⊢
      walk_at "z"
      refine done [x, x] H7 ?_ ?_ (frF f04 f7) (B4.frs nLb nLc f7) h7
      · rw [TL.join_eq]
        have nl : (TL.tl ("\n" : Str)).count 32 ≤ 0 ∧ ("\n" : Str).length ≤ 1 := by decide +kernel
        obtain ⟨c1, c2⟩ := out_app hb.few nl.1 hb.len nl.2
        obtain ⟨c3, c4⟩ := out_app c1 hb.few c2 hb.len
        exact ⟨Nat.le_trans c3 (by decide), Nat.le_trans c4 (by decide)⟩
      · show x.length + (x.length + 0) + 2 ≤ 200000
        omega
    · walk_at "z"
      rename_i tp H5 ntp e5 htp
      refine s_setN (e5 _ _ hL4) (m := 0) (by rw [ixN]; simp) [.str x] rfl fun H6 f6 h6 => ?_
      walk_at "z"
      refine s_setN h6 (m := 0) (by rw [ixN]; simp) [.str x] rfl fun H7 f7 h7 => ?_
      walk_at "z"
      exact done [x] H7 (base_out hb) (one (base_out hb)) (frF (f04.trans (e5.fr b)) (f6.trans f7)) ((B4.ext e5).frs nLb nLc (f6.trans f7)) h7
    · walk_at "z"
      refine s_rLenStr (sz (by omega)) ?_
      walk_at "z"
      rename_i spot H5 s0 s1 B5 f5
      refine s_slS (sz (by omega)) ?_
      walk_at "z"
      refine s_slS (sz (by omega)) ?_
      obtain ⟨a1, a2⟩ := cut_out (lo := none) (hi := some spot) hb
      obtain ⟨a3, a4⟩ := cut_out (lo := some (spot + 1)) (hi := none) hb
      obtain ⟨c1, c2⟩ := out_app a1 a3 a2 a4
      refine ⟨_, _, rfl, rfl, sz (by omega), ?_⟩
      exact k _ H5 ⟨Nat.le_trans c1 (by decide), Nat.le_trans c2 (by decide)⟩ (f04.trans f5) B5
    · refine ite_neg (by omega) ?_
      walk_at "z"
      refine ite_neg (by omega) ?_
      walk_at "z"
      refine ite_neg (by omega) ?_
      walk_at "z"
      refine ite_neg (by omega) ?_
      walk_at "z"
      refine ite_neg (by omega) ?_
      walk_at "z"
      refine s_rLenStr (sz (by omega)) ?_
      walk_at "z"
      rename_i spot H5 s0 s1 B5 f5
      refine ite_neg (by omega) ?_
      walk_at "z"
      refine s_slS (sz (by omega)) ?_
      walk_at "z"
      refine ⟨b, c, rfl, B5, fun n H6 f6 B6 => ?_⟩
      obtain ⟨a1, a2⟩ := cut_out (lo := none) (hi := some spot) hb
      have sg : (TL.tl (⟨#[n]⟩ : Str)).count 32 ≤ 1 ∧ (⟨#[n]⟩ : Str).length ≤ 1 := ⟨List.count_le_length (a := 32) (l := [n]), Nat.le_refl _⟩
      obtain ⟨c1, c2⟩ := out_app a1 sg.1 a2 sg.2
      refine ⟨_, _, rfl, rfl, sz (by have : (⟨#[n]⟩ : Str).length = 1 := rfl; omega), ?_⟩
      walk_at "z"
      refine s_slS (sz (by omega)) ?_
      obtain ⟨a3, a4⟩ := cut_out (lo := some (spot + way % 2)) (hi := none) hb
      obtain ⟨c3, c4⟩ := out_app c1 a3 c2 a4
      refine ⟨_, _, rfl, rfl, sz (by omega), ?_⟩
      exact k _ H6 ⟨Nat.le_trans c3 (by decide), Nat.le_trans c4 (by decide)⟩ (f04.trans (f5.trans f6)) B6

/-! the facts are plain data, two deep -/
theorem gf_strOk {f : Fct} (h : GF f) : PyData.strOk f.w = true := by
  cases h <;> (dsimp only; decide +kernel)
theorem lay_arg (x : Arg) : PyData.canLay0 x.enc = true ∧ PyData.depth x.enc ≤ 2 := by
  cases x with
  | i n => exact ⟨rfl, by unfold Arg.enc PyData.depth; omega⟩
  | t l =>
    obtain ⟨h1, h2⟩ := lay_ints l
    unfold Arg.enc
    exact ⟨h1, by unfold PyData.depth; omega⟩
theorem lay_args : ∀ l : List Arg, PyData.canLayAll0 (l.map Arg.enc) = true ∧ PyData.depthAll (l.map Arg.enc) ≤ 2
  | [] => ⟨rfl, by decide⟩
  | x :: l => by
    obtain ⟨h1, h2⟩ := lay_args l
    obtain ⟨h3, h4⟩ := lay_arg x
    rw [List.map_cons]
    exact ⟨by unfold PyData.canLayAll0; rw [h1, h3]; rfl, by unfold PyData.depthAll; omega⟩
theorem lay_fct {f : Fct} (h : PyData.strOk f.w = true) : PyData.canLay0 f.enc = true ∧ PyData.depth f.enc ≤ 3 := by
  obtain ⟨h1, h2⟩ := lay_args f.xs
  unfold Fct.enc
  refine ⟨?_, ?_⟩
  · unfold PyData.canLay0 PyData.canLayAll0
    rw [h1]
    unfold PyData.canLay0
    rw [h]
    rfl
  · unfold PyData.depth PyData.depthAll
    unfold PyData.depth
    omega
theorem lay_facts : ∀ fs : List (Int × Fct), (∀ p ∈ fs, GF p.2) → PyData.canLayAll0 (fs.map encP) = true ∧ PyData.depthAll (fs.map encP) ≤ 4
  | [], _ => ⟨rfl, by decide⟩
  | p :: fs, hg => by
    obtain ⟨h1, h2⟩ := lay_facts fs fun q hq => hg q (List.mem_cons_of_mem _ hq)
    obtain ⟨h3, h4⟩ := lay_fct (gf_strOk (hg p List.mem_cons_self))
    have h5 : PyData.canLay0 (encP p) = true := by
      unfold encP PyData.canLay0 PyData.canLayAll0 PyData.canLayAll0 PyData.canLayAll0
      rw [h3]
      rfl
    have h6 : PyData.depth (encP p) ≤ 4 := by
      unfold encP
      simp only [PyData.depth, PyData.depthAll]
      omega
    rw [List.map_cons]
    exact ⟨by unfold PyData.canLayAll0; rw [h1, h5]; rfl, by unfold PyData.depthAll; omega⟩
theorem eqv_facts {fs : List (Int × Fct)} (h : GFs fs) : PyData.eqv (.list (fs.map encP)) (.list (fs.map encP)) = true := SeqAt.eqv_refl _ (lay_facts fs h.good).1
theorem shaped_facts {fs : List (Int × Fct)} (h : GFs fs) : SeqAt.shaped (.list (fs.map encP)) = true := by
  obtain ⟨h1, h2⟩ := lay_facts fs h.good
  unfold SeqAt.shaped
  rw [Bool.and_eq_true]
  refine ⟨h1, decide_eq_true ?_⟩
  unfold PyData.depth
  omega
/-! a good fact has no wrong place -/
theorem argOk_of {k : Str} {lo hi n : Int} (hb : bndOf k = (lo, some hi)) (h : R lo hi n) : argOk k (.i n) = true := by
  show within (bndOf k).1 (bndOf k).2 n = true
  rw [hb]
  show (decide (lo ≤ n) && decide (n ≤ hi)) = true
  rw [decide_eq_true h.1, decide_eq_true h.2]
  rfl
theorem placeF_of {f : Fct} {ks : List Str} (h : shapeOf f.w = some ks) (hl : ks.length = f.xs.length) (hb : firstBad 1 ks f.xs = none) : placeF f = none := by
  unfold placeF
  rw [h]
  dsimp only
  rw [if_pos hl]
  exact hb
theorem fb_nil {i : Nat} : firstBad i [] [] = none := rfl
theorem fb_cons {i : Nat} {k : Str} {ks : List Str} {x : Arg} {xs : List Arg} (h : argOk k x = true) (r : firstBad (i + 1) ks xs = none) : firstBad i (k :: ks) (x :: xs) = none := by
  rw [firstBad, if_pos h]
  exact r
theorem gf_place {f : Fct} (g : GF f) : placeF f = none := by
  have bg : bndOf "gate" = (0, some 7) := by decide +kernel
  have bd : bndOf "day" = (0, some 999) := by decide +kernel
  have bh : bndOf "toll" = (0, some 48) := by decide +kernel
  have bt : bndOf "trust" = (0, some 3) := by decide +kernel
  have bc : bndOf "carriage" = (0, some 9) := by decide +kernel
  have bm : bndOf "minute" = (0, some 1439) := by decide +kernel
  have bo : bndOf "horses" = (1, some 8) := by decide +kernel
  have bp : bndOf "payment" = (0, some 100000) := by decide +kernel
  cases g with
  | toll h1 h2 h3 => exact placeF_of (ks := ["gate", "day", "toll"]) (by dsimp only; decide +kernel) rfl (fb_cons (argOk_of bg h1) (fb_cons (argOk_of bd h2) (fb_cons (argOk_of bh h3) fb_nil)))
  | @board g d gs h1 h2 h3 h4 =>
    refine placeF_of (ks := ["gate", "day", "gates"]) (by dsimp only; decide +kernel) rfl (fb_cons (argOk_of bg h1) (fb_cons (argOk_of bd h2) (fb_cons ?_ fb_nil)))
    show (gs.all (within 0 (some 7)) && decide (gs.Pairwise (· < ·))) = true
    rw [Bool.and_eq_true]
    exact ⟨List.all_eq_true.mpr fun x hx => (within_gate x).mpr (h4 x hx), decide_eq_true h3⟩
  | trust h1 h2 h3 => exact placeF_of (ks := ["gate", "day", "trust"]) (by dsimp only; decide +kernel) rfl (fb_cons (argOk_of bg h1) (fb_cons (argOk_of bd h2) (fb_cons (argOk_of bt h3) fb_nil)))
  | folk h1 h2 h3 => exact placeF_of (ks := ["carriage", "day", "day"]) (by dsimp only; decide +kernel) rfl (fb_cons (argOk_of bc h1) (fb_cons (argOk_of bd h2) (fb_cons (argOk_of bd h3) fb_nil)))
  | bargain h1 h2 h3 h4 => exact placeF_of (ks := ["gate", "carriage", "day", "day"]) (by dsimp only; decide +kernel) rfl (fb_cons (argOk_of bg h1) (fb_cons (argOk_of bc h2) (fb_cons (argOk_of bd h3) (fb_cons (argOk_of bd h4) fb_nil))))
  | pass h1 h2 h3 h4 h5 => exact placeF_of (ks := ["day", "minute", "gate", "carriage", "horses"]) (by dsimp only; decide +kernel) rfl (fb_cons (argOk_of bd h1) (fb_cons (argOk_of bm h2) (fb_cons (argOk_of bg h3) (fb_cons (argOk_of bc h4) (fb_cons (argOk_of bo h5) fb_nil)))))
  | @lost n m h1 h2 =>
    refine placeF_of (ks := ["number", "minute"]) (by dsimp only; decide +kernel) rfl (fb_cons ?_ (fb_cons (argOk_of bm h2) fb_nil))
    show within (bndOf "number").1 (bndOf "number").2 n = true
    rw [show bndOf "number" = (1, none) from by decide +kernel]
    show (decide ((1 : Int) ≤ n) && true) = true
    rw [decide_eq_true h1]
    rfl
  | paid h1 h2 h3 => exact placeF_of (ks := ["carriage", "day", "payment"]) (by dsimp only; decide +kernel) rfl (fb_cons (argOk_of bc h1) (fb_cons (argOk_of bd h2) (fb_cons (argOk_of bp h3) fb_nil)))
/-! rolls alike -/
theorem gfs_pairs {st : Stt} (ok : StandOk st) : GFs (pairsS 1 st) :=
  ⟨fun p hp => place_gf (ok p.1 p.2 (pairs_mem.mp hp)).1 (ok p.1 p.2 (pairs_mem.mp hp)).2, (pairs_rise st 1).1, fun p hp => (stand_in (pairs_mem.mp hp)).1⟩
theorem eqvAll_len : ∀ {xs ys : List PyData}, PyData.eqvAll xs ys = true → xs.length = ys.length
  | [], [], _ => rfl
  | x :: xs, y :: ys, h => by
    unfold PyData.eqvAll at h
    rw [Bool.and_eq_true] at h
    rw [List.length_cons, List.length_cons, eqvAll_len h.2]
  | [], _ :: _, h => by
    unfold PyData.eqvAll at h
    cases h
  | _ :: _, [], h => by
    unfold PyData.eqvAll at h
    cases h
def AlikeR (a b : Stt) (c : Bool) : Prop := (pairsS 1 a = pairsS 1 b ∧ c = true) ∨ ((pairsS 1 a).length ≠ (pairsS 1 b).length ∧ c = false)
theorem alike_eqv {a b : Stt} {c : Bool} (ok : StandOk a) (h : AlikeR a b c) : PyData.eqv (.list ((pairsS 1 a).map encP)) (.list ((pairsS 1 b).map encP)) = c := by
  rcases h with ⟨e, rfl⟩ | ⟨ne, rfl⟩
  · rw [← e]
    exact eqv_facts (gfs_pairs ok)
  · cases e : PyData.eqv (.list ((pairsS 1 a).map encP)) (.list ((pairsS 1 b).map encP)) with
    | false => rfl
    | true =>
      exfalso
      have e2 : PyData.eqvAll ((pairsS 1 a).map encP) ((pairsS 1 b).map encP) = true := by
        unfold PyData.eqv at e
        exact e
      have := eqvAll_len e2
      rw [List.length_map, List.length_map] at this
      exact ne this
def spEqR (K : PySem.W.Frag) (C : Addr) : Sp := fun vs H Q _ => ∃ (r S U r2 S2 U2 : Addr) (a b : Stt) (sa ua sb ub : List Stt) (c : Bool), vs = [.ref r, .ref r2] ∧ RollAt K C H r S U sa ua ∧ RollAt K C H r2 S2 U2 sb ub ∧ sa.getLast? = some a ∧ sb.getLast? = some b ∧ a.length ≤ 1000 ∧ b.length ≤ 1000 ∧ StandOk a ∧ StandOk b ∧ AlikeR a b c ∧ ∀ H', Ex H H' → Q (.bl c) H'
structure RlR (K : PySem.W.Frag) (C : Addr) (r r2 : Addr) (H : Hp) (c : Bool) : Prop where
  ex : ∃ (S U S2 U2 : Addr) (a b : Stt) (sa ua sb ub : List Stt), RollAt K C H r S U sa ua ∧ RollAt K C H r2 S2 U2 sb ub ∧ sa.getLast? = some a ∧ sb.getLast? = some b ∧ a.length ≤ 1000 ∧ b.length ≤ 1000 ∧ StandOk a ∧ StandOk b ∧ AlikeR a b c
theorem hsp_Roll {C : Addr} {E : XK} : ∀ a b H r, RlR K C a b H r → ∀ Q : VK, (∀ H', Ex H H' → Q (.bl r) H') → spEqR K C [.ref a, .ref b] H Q E := fun a b H r h Q k => by
  obtain ⟨S, U, S2, U2, x, y, sa, ua, sb, ub, h1, h2, h3, h4, h5, h6, h7, h8, h9⟩ := h.ex
  exact ⟨a, S, U, b, S2, U2, x, y, sa, ua, sb, ub, r, rfl, h1, h2, h3, h4, h5, h6, h7, h8, h9, k⟩
theorem s_neFactsR {H : Hp} {Q : VK} {p q : Addr} {fs : List (Int × Fct)} (h1 : RL K H p fs) (h2 : RL K H q fs) (gf : GFs fs) (k : Q (.bl false) H) : rNeD K (.ref p) (.ref q) H Q := by
  have z := shaped_facts gf
  refine ⟨_, _, rl_dp h1, rl_dp h2, z, z, ?_⟩
  rw [eqv_facts gf]
  exact k
theorem s_isRo {x : V} {t : Value} {C : Addr} {b : Bool} {H : Hp} {Q : VK} (ty : TyX K H x t) (e : PySem.W.kitOne K t (.ref C) = some b) (k : Q (.bl b) H) : rIsi K [x, .ref C] H Q := ⟨x, .ref C, t, .ref C, b, rfl, .own C, ty, e, k⟩

/-! the law -/
theorem join1 (a : Str) : Txt.join " " [a] = a := by
  rw [TL.join_eq]
  rfl
theorem join_mem {c : Nat} {S : List Nat} : ∀ {ps : List (List Nat)}, c ∈ TL.joinL S ps → (∃ p ∈ ps, c ∈ p) ∨ c ∈ S
  | [], h => by cases h
  | [p], h => .inl ⟨p, by simp, h⟩
  | p :: q :: ps, h => by
    replace h : c ∈ p ++ (S ++ TL.joinL S (q :: ps)) := h
    rcases List.mem_append.mp h with h | h
    · exact .inl ⟨p, by simp, h⟩
    · rcases List.mem_append.mp h with h | h
      · exact .inr h
      · rcases join_mem h with ⟨x, hx, hc⟩ | h
        · exact .inl ⟨x, List.mem_cons_of_mem _ hx, hc⟩
        · exact .inr h
theorem words_base {ws : List Str} (h : ∀ y ∈ ws, 32 ∉ TL.tl y ∧ 10 ∉ TL.tl y ∧ y.length ≤ 30) (hl : ws.length ≤ 12) : BaseT (Txt.join " " ws) := by
  have e : TL.tl (Txt.join " " ws) = TL.joinL [32] (ws.map TL.tl) := by rw [TL.join_eq, TL.tl_join, blank_tl]
  refine ⟨fun hc => ?_, ?_, ?_⟩
  · rw [e] at hc
    rcases join_mem hc with ⟨p, hp, h1⟩ | h1
    · obtain ⟨y, hy, rfl⟩ := List.mem_map.mp hp
      exact (h y hy).2.1 h1
    · simp at h1
  · rw [e]
    have := join_count (ws.map TL.tl) fun p hp => by
      obtain ⟨y, hy, rfl⟩ := List.mem_map.mp hp
      exact (h y hy).1
    rw [List.length_map] at this
    omega
  · rw [TL.len_tl, e]
    have := join_length (m := 30) (ws.map TL.tl) fun p hp => by
      obtain ⟨y, hy, rfl⟩ := List.mem_map.mp hp
      rw [← TL.len_tl]
      exact (h y hy).2.2
    rw [List.length_map] at this
    have h2 : ws.length * (30 + 1) ≤ 12 * 31 := Nat.mul_le_mul_right _ hl
    omega
theorem gf_eight {f : Fct} (g : GF f) : f.w ∈ eightW := by
  cases g <;> simp [eightW]
theorem gf_few {f : Fct} (g : GF f) : (wordsF f).length ≤ 12 := by
  cases g with
  | @board g d gs h1 h2 h3 h4 =>
    have hl : gs.length ≤ 8 := by
      refine nodup_sub_len (m := [0, 1, 2, 3, 4, 5, 6, 7]) (h3.imp fun h => by omega) fun x hx => ?_
      obtain ⟨a, b⟩ := h4 x hx
      simp only [List.mem_cons, List.not_mem_nil, or_false]
      omega
    rw [words_ns, List.length_cons, List.length_map]
    show (g :: d :: (gs ++ [])).length + 1 ≤ 12
    rw [List.append_nil, List.length_cons, List.length_cons]
    omega
  | _ => simp [wordsF, partsF, argW]
theorem gf_base {f : Fct} (g : GF f) (b : Bent f) : BaseT (textF f) := by
  have ok := read_gf b (gf_place g)
  refine words_base (fun y hy => ?_) (gf_few g)
  rw [words_ns] at hy
  rcases List.mem_cons.mp hy with rfl | hy
  · obtain ⟨a, b⟩ := word_eight (gf_eight g)
    exact ⟨a 32 (.inl rfl), a 10 (.inr rfl), by omega⟩
  · obtain ⟨n, hn, rfl⟩ := List.mem_map.mp hy
    have hk := ok.nums n hn
    exact ⟨iTx_free hk (by omega), iTx_free hk (by omega), iTx_len30 hk⟩
def lines34 : List Str := ["undo", "redo", "right 1 toll 0 1 2", "strike 2", "row 1", "why 3", "owes 1 999", "trusts 6"]
theorem lines_base : ∀ y ∈ lines34, BaseT y := by
  intro y hy
  simp only [lines34, List.mem_cons, List.not_mem_nil, or_false] at hy
  rcases hy with rfl | rfl | rfl | rfl | rfl | rfl | rfl | rfl <;> exact ⟨by decide +kernel, by decide +kernel, by decide +kernel⟩
theorem out_words {z : Str} (h : OutT z) : ∃ z0 rest, Txt.split z " " = z0 :: rest ∧ (∀ y ∈ z0 :: rest, y.length ≤ 90000) ∧ rest.length ≤ 58 ∧ z.length ≤ 80000 := by
  obtain ⟨z0, rest, h1, h2, h3⟩ := split_facts z
  have := h.few
  have hl := h.len
  exact ⟨z0, rest, h1, fun y hy => Nat.le_trans (h3 y hy).2 (by omega), by omega, by omega⟩
theorem DeskAt.frb {C dk r b : Addr} {ys : List V} {H H' : Hp} (h : DeskAt C H dk r) (f : Fr b H H') (hb : H b = some (.lst ys)) : DeskAt C H' dk r := by
  obtain ⟨dx, h⟩ := h
  exact ⟨dx, f _ _ (ne_of h hb (fun z => by cases z)) h⟩
theorem DeskAt.f2 {C CR dk r S U : Addr} {H H' : Hp} {sts uns : List Stt} (h : DeskAt C H dk r) (f : Fr2 S U H H') (hR : RollAt K CR H r S U sts uns) : DeskAt C H' dk r := by
  obtain ⟨dx, h⟩ := h
  obtain ⟨_, ⟨_, h2, _⟩, ⟨_, h4, _⟩, _⟩ := hR
  exact ⟨dx, f _ _ (ne_of h h2 (fun z => by cases z)) (ne_of h h4 (fun z => by cases z)) h⟩
/-- the desk and its roll -/
structure D34 (K : PySem.W.Frag) (CR CD : Addr) (H : Hp) (b c dk r S U : Addr) (sts uns : List Stt) : Prop where
  bag : Bag H b c
  desk : DeskAt CD H dk r
  roll : RollAt K CR H r S U sts uns
  n : b ≠ S ∧ b ≠ U ∧ c ≠ S ∧ c ≠ U
theorem D34.frb {CR CD : Addr} {H H' : Hp} {b c dk r S U : Addr} {sts uns : List Stt} (D : D34 K CR CD H b c dk r S U sts uns) (f : Fr b H H') (B : Bag H' b c) : D34 K CR CD H' b c dk r S U sts uns := by
  obtain ⟨_, hb⟩ := D.bag.getb
  exact ⟨B, D.desk.frb f hb, D.roll.fr f hb D.n.1.symm D.n.2.1.symm, D.n⟩
theorem D34.ex {CR CD : Addr} {H H' : Hp} {b c dk r S U : Addr} {sts uns : List Stt} (D : D34 K CR CD H b c dk r S U sts uns) (e : Ex H H') : D34 K CR CD H' b c dk r S U sts uns := D.frb (e.fr b) (D.bag.ext e)
theorem D34.f2 {CR CD : Addr} {H H' : Hp} {b c dk r S U : Addr} {sts uns sts' uns' : List Stt} (D : D34 K CR CD H b c dk r S U sts uns) (f : Fr2 S U H H') (hR : RollAt K CR H' r S U sts' uns') : D34 K CR CD H' b c dk r S U sts' uns' :=
  ⟨bag_f2 D.bag f D.n.1 D.n.2.1 D.n.2.2.1 D.n.2.2.2, D.desk.f2 f D.roll, hR, D.n⟩
def big30 : Int := 10 ^ 30 - 1
theorem big_ok : NumOk big30 := ⟨by decide, by decide⟩
def bigF : Fct := ⟨"lost", [.i big30, .i 5]⟩
theorem bigF_gf : GF bigF := .lost (by decide) ⟨by decide, by decide⟩
theorem bigF_bent : Bent bigF := ⟨by show ("lost" : Str) ∈ _; decide +kernel, by show 2 ≤ 8; decide, fun ks e _ => by
  rw [show shapeOf bigF.w = some (["number", "minute"] : List Str) from by decide +kernel] at e
  cases e
  exact suits_of (.cons ⟨by decide +kernel, by decide, by decide⟩ (.cons ⟨by decide +kernel, by decide, by decide⟩ .nil))⟩
def bigT : Str := ("lost " : Str) ++ Txt.mul "9" 30 ++ (" 5" : Str)
def bigT1 : Str := ("lost " : Str) ++ Txt.mul "9" 31 ++ (" 5" : Str)
def bigS : Str := ("strike " : Str) ++ Txt.mul "9" 30
theorem bigT_eq : bigT = lineT (.deed (.tell bigF)) := by decide +kernel
theorem bigS_eq : bigS = lineT (.deed (.strike big30)) := by decide +kernel
theorem bigT1_split : Txt.split bigT1 " " = ([("lost" : Str), Txt.mul "9" 31, ("5" : Str)] : List Str) := by decide +kernel
theorem bigT1_no : ¬ LineL "lost" ([Txt.mul "9" 31, ("5" : Str)] : List Str) := by
  rintro (⟨h, _⟩ | ⟨h, _⟩ | h)
  · exact absurd h (by decide +kernel)
  · exact absurd h (by simp only [seven]; decide +kernel)
  · obtain ⟨_, ns, e, hn, _⟩ := factL_cons h
    cases ns with
    | nil => cases e
    | cons n ns =>
      obtain ⟨e1, _⟩ := List.cons.inj e
      have h1 := iTx_len30 (hn n List.mem_cons_self)
      rw [← e1] at h1
      exact absurd h1 (by decide +kernel)
theorem none_split : Txt.split "" " " = ([("" : Str)] : List Str) := by decide +kernel
theorem none_no : ¬ LineL "" [] := by
  rintro (⟨h, _⟩ | ⟨h, _⟩ | h)
  · exact absurd h (by decide +kernel)
  · exact absurd h (by simp only [seven]; decide +kernel)
  · obtain ⟨h8, _⟩ := factL_cons h
    exact absurd h8 (by simp only [eightW]; decide +kernel)
theorem small_words {ws : List Str} (h : ws.all (fun y => decide (y.length ≤ 90000)) = true) : ∀ y ∈ ws, y.length ≤ 90000 := fun y hy => of_decide_eq_true (List.all_eq_true.mp h y hy)
theorem say_undo34 : lineT .undo = "undo" := join1 _
theorem say_redo34 : lineT .redo = "redo" := join1 _
theorem pairs_cnt : ∀ (fs : List Fct) (k : Nat), (pairsS k (fs.map some)).length = fs.length
  | [], _ => rfl
  | f :: fs, k => congrArg Nat.succ (pairs_cnt fs (k + 1))
theorem stand34 {st : Stt} {f : Fct} (ok : StandOk st) (b : Bent f) (p : placeF f = none) : StandOk (st ++ [some f]) := fun m g hg => by
  rw [stand_snoc] at hg
  split at hg
  · cases hg
    exact ⟨b, p⟩
  · exact ok m g hg
/-- told so far -/
structure Told34 (n : Nat) (fs : List Fct) (sts : List Stt) : Prop where
  last : sts.getLast? = some (fs.map some)
  cnt : fs.length = n
  few : sts.length = n + 1
  ok : ∀ st ∈ sts, StandOk st ∧ st.length ≤ n
theorem sc_law : FnScope ["_law_script", "_law_bag_here", "_law_desk", "_law_turn", "_law_kept", "_law_lines", "_law_line"] ["_law_script"] (defScope s_law) :=
  ⟨rfl, rfl, rfl, by decide +kernel, rfl, by decide +kernel, by decide +kernel⟩
theorem ok_law (T : Tx P K mg w) {f : Addr} {fd : FuncData} (F : Fun K "law" "law" s_law f fd) : FnOk P w K mg base CX0 16 f fd ["_law_script"] (spLaw K) := by
  refine F.ok sc_law (fun vs H Q E h => ?_) (fun cdv A outer s H vs Q E hr h => ?_)
  · obtain ⟨a, ns, rfl, _⟩ := h
    rfl
  · obtain ⟨a, ns, rfl, hS, hl, k⟩ := h
    refine ⟨_, (pss_cons (ps_set (i := 1) sc_law.nd rfl (Or.inl rfl) (pe_call (ok_l_bag T) (hr.mono (by decide)) rfl T.g_l_bag T.F_l_bag.kp T.b_l_bag .nil pass0 (pa_cons (pv 0) pa_nil))) (pss_cons (ps_set (i := 2) sc_law.nd rfl (Or.inl rfl) (pe_make0 T.mk_Desk (ok_c_Desk_init T) (hr.mono (by decide)) rfl T.g_Desk (bd_c_Desk_init_1 T).choose_spec.2 (bd_c_Desk_init_1 T).choose_spec.1 pass0)) (pss_cons (ps_for PassesOwn.never rfl (pi_range1 (by rfl) T.z_range (pa_cons pe_int pa_nil)) (pg_name (i := 3) sc_law.nd rfl (Or.inl rfl)) (pss_one (ps_expr (pe_meth (pv 2) T.cls_Desk ⟨T.at_c_Desk_say, T.fn_c_Desk_say, T.F_c_Desk_say.kp⟩ (okX_c_Desk_say T) (hr.mono (by decide)) T.b_c_Desk_say .nil pass0 (pa_cons (pe_call (ok_l_text T) (hr.mono (by decide)) rfl T.g_l_text T.F_l_text.kp T.b_l_text .nil pass0 (pa_cons (pe_call (ok_l_fact T) (hr.mono (by decide)) rfl T.g_l_fact T.F_l_fact.kp T.b_l_fact .nil pass0 (pa_cons (pv 1) (pa_cons pe_int pa_nil))) pa_nil)) pa_nil))))) (pss_cons (ps_if (pt_cmpR op_ne (pe_meth (pv 2) T.cls_Desk ⟨T.at_c_Desk_say, T.fn_c_Desk_say, T.F_c_Desk_say.kp⟩ (okX_c_Desk_say T) (hr.mono (by decide)) T.b_c_Desk_say .nil pass0 (pa_cons pe_str pa_nil)) pe_str (nomark _)) (pss_one (ps_ret pe_bl)) pss_nil) (pss_cons (ps_set (i := 4) sc_law.nd rfl (Or.inl rfl) (pe_call (ok_p_page_of T) (hr.mono (by decide)) rfl T.g_p_page_of T.F_p_page_of.kp T.b_p_page_of .nil pass0 (pa_cons (pe_meth0 (pv 2) T.cls_Desk ⟨T.at_c_Desk_roll, T.fn_c_Desk_roll, T.F_c_Desk_roll.kp⟩ (ok_c_Desk_roll T) (hr.mono (by decide)) T.b_c_Desk_roll .nil pass0) pa_nil))) (pss_cons (ps_set (i := 5) sc_law.nd rfl (Or.inl rfl) (pe_lst (pa_cons pe_str (pa_cons pe_str (pa_cons pe_str (pa_cons pe_str (pa_cons pe_str (pa_cons pe_str (pa_cons pe_str (pa_cons pe_str pa_nil)))))))))) (pss_cons (ps_for PassesOwn.never rfl (pi_range1 (by rfl) T.z_range (pa_cons pe_int pa_nil)) (pg_name (i := 3) sc_law.nd rfl (Or.inl rfl)) (pss_cons (ps_set (i := 6) sc_law.nd rfl (Or.inl rfl) (pe_ix (r := rIxL K) ix_list (pe_op op_cat (pv 5) (pe_lst (pa_cons (pe_call (ok_l_text T) (hr.mono (by decide)) rfl T.g_l_text T.F_l_text.kp T.b_l_text .nil pass0 (pa_cons (pe_call (ok_l_fact T) (hr.mono (by decide)) rfl T.g_l_fact T.F_l_fact.kp T.b_l_fact .nil pass0 (pa_cons (pv 1) (pa_cons pe_int pa_nil))) pa_nil)) pa_nil))) (pe_call (ok_l_pull T) (hr.mono (by decide)) rfl T.g_l_pull T.F_l_pull.kp T.b_l_pull .nil pass0 (pa_cons (pv 1) (pa_cons pe_int pa_nil))) (fun _ _ => rfl))) (Evl.pss_cut (ps_set (i := 6) sc_law.nd rfl (Or.inl rfl) (pe_ifExp (pt_cmpR op_gt (pe_call (ok_l_pull T) (hr.mono (by decide)) rfl T.g_l_pull T.F_l_pull.kp T.b_l_pull .nil pass0 (pa_cons (pv 1) (pa_cons pe_int pa_nil))) pe_int (nomark _)) (pe_call (ok_l_words_bent T) (hr.mono (by decide)) rfl T.g_l_words_bent T.F_l_words_bent.kp T.b_l_words_bent .nil pass0 (pa_cons (pv 1) (pa_cons (pv 6) pa_nil))) (pe_call (ok_l_text_bent T) (hr.mono (by decide)) rfl T.g_l_text_bent T.F_l_text_bent.kp T.b_l_text_bent .nil pass0 (pa_cons (pv 1) (pa_cons (pv 6) pa_nil))))) (pss_one (ps_if (PW.pt (pw_and (pt_not (pt_val (pe_call (ok_l_is_line T) (hr.mono (by decide)) rfl T.g_l_is_line T.F_l_is_line.kp T.b_l_is_line .nil pass0 (pa_cons (pv 6) pa_nil)))) (pw_and1 (pt_not (pt_val (pe_call (ok_l_like T 6) (hr.mono (by decide)) rfl T.g_l_like T.F_l_like.kp T.b_l_like .nil pass0 (pa_cons (pe_meth (pv 2) T.cls_Desk ⟨T.at_c_Desk_say, T.fn_c_Desk_say, T.F_c_Desk_say.kp⟩ (okX_c_Desk_say T) (hr.mono (by decide)) T.b_c_Desk_say .nil pass0 (pa_cons (pv 6) pa_nil)) (pa_cons pe_str pa_nil)))))))) (pss_one (ps_ret pe_bl)) pss_nil))))) (pss_cons (ps_if (PW.pt (pw_or (pt_cmpR op_ne (pe_call (ok_p_page_of T) (hr.mono (by decide)) rfl T.g_p_page_of T.F_p_page_of.kp T.b_p_page_of .nil pass0 (pa_cons (pe_meth0 (pv 2) T.cls_Desk ⟨T.at_c_Desk_roll, T.fn_c_Desk_roll, T.F_c_Desk_roll.kp⟩ (ok_c_Desk_roll T) (hr.mono (by decide)) T.b_c_Desk_roll .nil pass0) pa_nil)) (pv 4) (nomark _)) (pw_or1 (pt_cmpR op_ne (pe_meth (pv 2) T.cls_Desk ⟨T.at_c_Desk_say, T.fn_c_Desk_say, T.F_c_Desk_say.kp⟩ (okX_c_Desk_say T) (hr.mono (by decide)) T.b_c_Desk_say .nil pass0 (pa_cons pe_str pa_nil)) pe_str (nomark _))))) (pss_one (ps_ret pe_bl)) pss_nil) (pss_cons (ps_if (PW.pt (pw_or (pt_cmpR op_ne (pe_meth (pv 2) T.cls_Desk ⟨T.at_c_Desk_say, T.fn_c_Desk_say, T.F_c_Desk_say.kp⟩ (okX_c_Desk_say T) (hr.mono (by decide)) T.b_c_Desk_say .nil pass0 (pa_cons pe_str pa_nil)) pe_str (nomark _)) (pw_or (pt_cmpR op_ne (pe_callB (cr_lenO (ok_c_Roll_len T) (hr.mono (by decide)) T.b_c_Roll_len pass0 T.at_c_Roll_len T.fn_c_Roll_len) (by rfl) T.z_len PySem.boot_len (pa_cons (pe_meth0 (pv 2) T.cls_Desk ⟨T.at_c_Desk_roll, T.fn_c_Desk_roll, T.F_c_Desk_roll.kp⟩ (ok_c_Desk_roll T) (hr.mono (by decide)) T.b_c_Desk_roll .nil pass0) pa_nil)) pe_int (nomark _)) (pw_or1 (pt_cmpR op_ne (pe_meth (pv 2) T.cls_Desk ⟨T.at_c_Desk_say, T.fn_c_Desk_say, T.F_c_Desk_say.kp⟩ (okX_c_Desk_say T) (hr.mono (by decide)) T.b_c_Desk_say .nil pass0 (pa_cons (pe_op oz_addStr (pe_op oz_addStr pe_str (pe_op oz_mulS pe_str pe_int)) pe_str) pa_nil)) pe_str (nomark _)))))) (pss_one (ps_ret pe_bl)) pss_nil) (pss_one (ps_ret (pe_and (pe_cmpR op_eq (pe_meth (pv 2) T.cls_Desk ⟨T.at_c_Desk_say, T.fn_c_Desk_say, T.F_c_Desk_say.kp⟩ (okX_c_Desk_say T) (hr.mono (by decide)) T.b_c_Desk_say .nil pass0 (pa_cons (pe_op oz_addStr (pe_op oz_addStr pe_str (pe_op oz_mulS pe_str pe_int)) pe_str) pa_nil)) pe_str (nomark _)) (pe_one (pe_cmpR op_eq (pe_meth (pv 2) T.cls_Desk ⟨T.at_c_Desk_say, T.fn_c_Desk_say, T.F_c_Desk_say.kp⟩ (okX_c_Desk_say T) (hr.mono (by decide)) T.b_c_Desk_say .nil pass0 (pa_cons (pe_op oz_addStr pe_str (pe_op oz_mulS pe_str pe_int)) pa_nil)) pe_str (nomark _))))))))))))))), ?_⟩
    refine at_start (ρ' := [some _, none, none, none, none, none, none]) rfl ?_
    walk_at "z0"
    walk_at "z"
    refine ⟨a, ns, rfl, hS, hl, fun b c H1 nb nc e1 B => ?_⟩
    clear hS hl
    walk_at "z"
    refine s_make ?_
    intro dk dx ndk ndx nxd
    have eD : Ex H1 (upd (upd H1 dx (.own dk)) dk (.ins T.C_Desk dx [])) := (Ex.new ndx).trans (Ex.new (by rw [upd_ne nxd.symm]; exact ndk))
    refine ⟨dk, dx, .non, [[]], [], rfl, upd_same, by decide, by decide, .inl ⟨rfl, rfl, rfl⟩, fun r S U H2 nr nS nU f2 hD2 hR2 => ⟨rfl, ?_⟩⟩
    have eX : Ex H1 H2 := fun x o h => f2 _ _ (fun z => by rw [z, show H1 dk = none from ndk] at h; cases h) (eD _ _ h)
    replace nS := Ex.back eD nS
    replace nU := Ex.back eD nU
    have D0 : D34 K T.C_Roll T.C_Desk H2 b c dk r S U [[]] [] := ⟨B.ext eX, hD2, hR2, (B.neb nS).symm, (B.neb nU).symm, (B.nec nS).symm, (B.nec nU).symm⟩
    have T0 : Told34 0 [] [[]] := ⟨rfl, rfl, rfl, fun st hs => by
      rw [List.mem_singleton.mp hs]
      exact ⟨fun n g h => by simp [standF] at h, Nat.le_refl _⟩⟩
    clear eD eX f2 hD2 hR2 nS nU nr ndk ndx nxd B
    walk_at "z"
    refine l_range ⟨by omega, by omega⟩ (fun i σ H' => ∃ v3 v4 v5 v6 fs sts, σ = [some (.ref a), some (.ref b), some (.ref dk), v3, v4, v5, v6] ∧ D34 K T.C_Roll T.C_Desk H' b c dk r S U sts [] ∧ Told34 i fs sts) ⟨_, _, _, _, _, _, rfl, D0, T0⟩ (fun i σ H3 hi h => ?_) (fun σ H3 h => ?_)
    · clear D0 T0
      obtain ⟨v3, v4, v5, v6, fs, sts, rfl, D, Td⟩ := h
      have hi4 : i < 4 := by omega
      have hn := Td.cnt
      have hfew := Td.few
      obtain ⟨dy, hdy⟩ := id D.desk
      walk_at "z"
      refine s_meth24 ?_
      walk_at "z"
      refine ⟨dk, dy, _, rfl, hdy, rfl, ?_⟩
      walk_at "z"
      refine use_factL D.bag ⟨by omega, by omega⟩ fun v f H4 gf rf B4 f4 lb => ?_
      have D4 := D.frb f4 B4
      have hb := bent_good gf lb
      have hp := gf_place gf
      walk_at "z"
      refine ⟨v, f, rfl, rf, sml_gf hb hp, fun H5 e5 => ?_⟩
      have D5 := D4.ex e5
      have ok := (Td.ok _ (List.mem_of_getLast? Td.last)).1
      have hml : (fs.map some).length = i := by rw [List.length_map, hn]
      have ht := doF_tg (f := f) hp (st := fs.map some) (by omega)
      walk_at "z"
      refine .inl ⟨dk, r, S, U, .deed (.tell f), fs.map some, sts, [], rfl, D5.desk, D5.roll, Td.last, ⟨read_gf hb hp, hb, gf_eight gf⟩, by omega, by omega, Nat.zero_le _, ok, fun z sts' uns' H6 hs f6 hR6 => ?_, fun z H6 hs e6 => ?_⟩
      · obtain ⟨_, rfl, rfl, rfl⟩ := hs
        have D6 := D5.f2 f6 hR6
        rw [ht] at D6
        walk_at "z"
        refine ⟨_, _, _, _, fs ++ [f], _, rfl, D6, ⟨?_, ?_, ?_, ?_⟩⟩
        · show (sts ++ [fs.map some ++ [some f]]).getLast? = _
          rw [List.getLast?_concat, List.map_append]
          rfl
        · rw [List.length_append, hn]
          rfl
        · show (sts ++ [fs.map some ++ [some f]]).length = _
          rw [List.length_append, hfew]
          rfl
        · intro st hs
          rcases List.mem_append.mp (show st ∈ sts ++ [fs.map some ++ [some f]] from hs) with h | h
          · exact ⟨(Td.ok st h).1, Nat.le_succ_of_le (Td.ok st h).2⟩
          · rw [List.mem_singleton.mp h]
            exact ⟨stand34 ok hb hp, by rw [List.length_append, hml]; exact Nat.le_refl _⟩
      · exfalso
        replace hs : refW (doF (fs.map some) (.tell f)).1 = some z := hs
        rw [ht] at hs
        cases hs
    · clear D0 T0
      obtain ⟨v3, v4, v5, v6, fs, sts, rfl, D, Td⟩ := h
      have hn := Td.cnt
      have hfew := Td.few
      replace hn : fs.length = 4 := hn
      replace hfew : sts.length = 5 := hfew
      obtain ⟨s0, rfl⟩ := last_split Td.last
      have hml : (fs.map some).length = 4 := by rw [List.length_map, hn]
      rw [List.length_append, List.length_singleton] at hfew
      have ok := (Td.ok _ (List.mem_of_getLast? Td.last)).1
      obtain ⟨dy, hdy⟩ := id D.desk
      walk_at "z"
      refine s_meth24 ?_
      walk_at "z"
      refine ⟨dk, dy, _, rfl, hdy, rfl, ?_⟩
      walk_at "z"
      refine .inl ⟨dk, r, S, U, .undo, fs.map some, s0 ++ [fs.map some], [], by rw [say_undo34]; rfl, D.desk, D.roll, Td.last, trivial, by omega, by rw [List.length_append, List.length_singleton]; omega, Nat.zero_le _, ok, fun z sts' uns' H4 hs f4 hR4 => ?_, fun z H4 hs e4 => ?_⟩
      rotate_left
      · exfalso
        have := hs.1
        rw [List.length_append, List.length_singleton] at this
        omega
      obtain ⟨x, h1, h2, h3, rfl⟩ := hs
      obtain ⟨rfl, h4⟩ := List.append_inj' h1 rfl
      cases h4
      subst h3
      have D4 := D.f2 f4 hR4
      rw [List.nil_append] at D4
      have okl := Td.ok
      clear D f4 hR4 hdy h1 dy
      obtain ⟨st, hst⟩ : ∃ st, s0.getLast? = some st := by
        cases e : s0.getLast? with
        | none => exact absurd (List.getLast?_eq_none_iff.mp e) h2
        | some st => exact ⟨st, rfl⟩
      obtain ⟨ok0, hz0⟩ := okl st (List.mem_append_left _ (List.mem_of_getLast? hst))
      replace hz0 : st.length ≤ 4 := hz0
      obtain ⟨dy, hdy⟩ := id D4.desk
      walk_at "z"
      refine s_meth24 ?_
      walk_at "z"
      refine ⟨dk, dy, _, rfl, hdy, rfl, ?_⟩
      walk_at "z"
      refine ⟨dk, r, S, U, s0, _, rfl, D4.desk, D4.roll, by omega, by show 1 ≤ 1000; decide, fun r' S' U' H5 nr nS nU e5 hR5 => ?_⟩
      walk_at "z"
      refine ⟨r', S', U', st, s0, _, rfl, hR5, hst, by omega, fun n g h => sml_gf (ok0 n g h).1 (ok0 n g h).2, fun H6 e6 => ?_⟩
      have D6 := (D4.ex e5).ex e6
      clear D4 hdy hR5 e5 e6 nr nS nU dy
      walk_at "z"
      rename_i L H7 nL e7 hL
      have D7 := D6.ex e7
      have nLb : L ≠ b := D6.bag.neb nL
      replace hL : H7 L = some (.lst (lines34.map V.str)) := hL
      clear D6
      refine l_range ⟨by omega, by omega⟩ (fun i σ H' => ∃ v3 v6, σ = [some (.ref a), some (.ref b), some (.ref dk), v3, some (.str (pageT st)), some (.ref L), v6] ∧ D34 K T.C_Roll T.C_Desk H' b c dk r S U s0 [fs.map some] ∧ H' L = some (.lst (lines34.map V.str))) ⟨_, _, rfl, D7, hL⟩ (fun i σ H8 hi h => ?_) (fun σ H8 h => ?_)
      · clear D7 hL
        obtain ⟨v3, v6, rfl, D, hL⟩ := h
        walk_at "z"
        refine use_factL D.bag ⟨by omega, by omega⟩ fun v f H9 gf rf B9 f9 lb => ?_
        have D9 := D.frb f9 B9
        have hb := bent_good gf lb
        have hL9 := f9 _ _ nLb hL
        clear D hL f9 B9
        walk_at "z"
        refine ⟨v, f, rfl, rf, sml_gf hb (gf_place gf), fun H10 e10 => ?_⟩
        walk_at "z"
        rename_i O H11 nO e11 hO
        have hL11 := e11 _ _ (e10 _ _ hL9)
        have D11 := (D9.ex e10).ex e11
        clear D9 hL9 e10 e11 rf
        refine ⟨L, O, _, _, rfl, rfl, hL11, hO, sz (by show 8 + 1 ≤ 100000; decide), ?_⟩
        intro q nq
        have e12 : Ex H11 (upd H11 q (.lst (lines34.map V.str ++ [V.str (textF f)]))) := Ex.new nq
        have hq : (upd H11 q (.lst (lines34.map V.str ++ [V.str (textF f)]))) q = some (.lst ((lines34 ++ [textF f]).map V.str)) := by rw [upd_same, List.map_append]; rfl
        generalize upd H11 q (.lst (lines34.map V.str ++ [V.str (textF f)])) = H12 at e12 hq ⊢
        have hL12 := e12 _ _ hL11
        have D12 := D11.ex e12
        have nqb : q ≠ b := D11.bag.neb nq
        have B12 := D12.bag
        clear D11 hL11 e12 hO nO nq
        walk_at "z"
        rename_i v H13 v0 v1 B13 f13
        refine s_ixP (fun x => ∃ y, x = .str y ∧ BaseT y) (SqL.of (f13 _ _ nqb hq)) ⟨v0, by rw [List.length_map, List.length_append]; show v < ((8 + 1 : Nat) : Int); omega⟩ (fun x hx => ?_) fun x hx => ?_
        · obtain ⟨y, hy, rfl⟩ := List.mem_map.mp hx
          rcases List.mem_append.mp hy with h | h
          · exact ⟨y, rfl, lines_base y h⟩
          · rw [List.mem_singleton.mp h]
            exact ⟨_, rfl, gf_base gf hb⟩
        obtain ⟨y, rfl, hy⟩ := hx
        have D13 := D12.frb f13 B13
        have hL13 := f13 _ _ nLb hL12
        clear D12 B12 hL12 f13 hq nqb v0 v1 gf hb lb
        walk_at "z"
        refine s_cut (fun ρ H' => ∃ z, ρ = [some (.ref a), some (.ref b), some (.ref dk), some (.int (i : Nat)), some (.str (pageT st)), some (.ref L), some (.str z)] ∧ OutT z ∧ Fr b H13 H' ∧ Bag H' b c) ?_ fun ρ H15 hh => ?_
        · walk_at "z"
          rename_i t H14 t0 t1 B14 f14
          refine ite_dec (fun hw => ?_) (fun hw => ?_)
          · walk_at "z"
            refine ⟨b, c, y, rfl, B14, hy, fun z H15 hz f15 B15 => ?_⟩
            walk_at "z"
            exact ⟨z, rfl, hz, f14.trans f15, B15⟩
          · walk_at "z"
            refine ⟨b, c, y, rfl, B14, hy, fun z H15 hz f15 B15 => ?_⟩
            walk_at "z"
            exact ⟨z, rfl, hz, f14.trans f15, B15⟩
        · obtain ⟨z, rfl, hz, f15, B15⟩ := hh
          have D15 := D13.frb f15 B15
          have hL15 := f15 _ _ nLb hL13
          clear D13 hL13 B13 f15
          obtain ⟨z0, rest, hs, hys, hfew2, hlen⟩ := out_words hz
          obtain ⟨dy, hdy⟩ := id D15.desk
          walk_at "z"
          refine ⟨z, z0, rest, rfl, hlen, hs, hys, hfew2, fun bb H16 e16 hbb => ?_⟩
          have D16 := D15.ex e16
          cases bb with
          | true =>
            walk_at "z"
            exact ⟨_, _, rfl, D16, e16 _ _ hL15⟩
          | false =>
            walk_at "z"
            refine s_meth24 ?_
            walk_at "z"
            refine ⟨dk, dy, _, rfl, e16 _ _ hdy, rfl, ?_⟩
            walk_at "z"
            refine .inr ⟨dk, r, z, z0, rest, rfl, D16.desk, hlen, hs, hys, hfew2, hbb rfl, fun H17 e17 => ?_⟩
            walk_at "z"
            refine use_like24 (d := .str "no line") (.str _) (.str _) trivial fun H18 e18 => ⟨true, rfl, ?_⟩
            walk_at "z"
            exact ⟨_, _, rfl, (D16.ex e17).ex e18, e18 _ _ (e17 _ _ (e16 _ _ hL15))⟩
      · clear D7 hL
        obtain ⟨v3, v6, rfl, D, hL⟩ := h
        obtain ⟨dy, hdy⟩ := id D.desk
        walk_at "z"
        refine s_meth24 ?_
        walk_at "z"
        refine ⟨dk, dy, _, rfl, hdy, rfl, ?_⟩
        walk_at "z"
        refine ⟨dk, r, S, U, s0, _, rfl, D.desk, D.roll, by omega, by show 1 ≤ 1000; decide, fun r1 S1 U1 H9 nr nS nU e9 hR9 => ?_⟩
        walk_at "z"
        refine ⟨r1, S1, U1, st, s0, _, rfl, hR9, hst, by omega, fun n g h => sml_gf (ok0 n g h).1 (ok0 n g h).2, fun H10 e10 => ?_⟩
        have D10 := (D.ex e9).ex e10
        have hdy10 := e10 _ _ (e9 _ _ hdy)
        clear D hL hR9 nr nS nU
        walk_at "z"
        refine ite_nneg rfl ?_
        walk_at "z"
        refine s_meth24 ?_
        walk_at "z"
        refine ⟨dk, dy, _, rfl, hdy10, rfl, ?_⟩
        walk_at "z"
        refine .inr ⟨dk, r, "", "", [], rfl, D10.desk, by decide +kernel, none_split, small_words (by decide +kernel), by decide, none_no, fun H11 e11 => ?_⟩
        have D11 := D10.ex e11
        have hdy11 := e11 _ _ hdy10
        clear D10 hdy10 hdy e9 e10 e11
        walk_at "z"
        refine s_meth24 ?_
        walk_at "z"
        refine ⟨dk, dy, _, rfl, hdy11, rfl, ?_⟩
        walk_at "z"
        refine .inl ⟨dk, r, S, U, .redo, st, s0, [fs.map some], by rw [say_redo34]; rfl, D11.desk, D11.roll, hst, trivial, by omega, by omega, by show 1 ≤ 900; decide, ok0, fun z sts' uns' H12 hs f12 hR12 => ?_, fun z H12 hs e12 => ?_⟩
        rotate_left
        · exfalso
          cases hs.1
        obtain ⟨x, h1, rfl, rfl⟩ := hs
        obtain ⟨rfl, h4⟩ := List.append_inj' (show [] ++ [fs.map some] = uns' ++ [x] from h1) rfl
        cases h4
        have D12 := D11.f2 f12 hR12
        obtain ⟨dz, hdz⟩ := id D12.desk
        clear D11 hdy11 f12 hR12 h1
        have hlast : (s0 ++ [fs.map some]).getLast? = some (fs.map some) := Td.last
        have h5 : (s0 ++ [fs.map some]).length = 5 := by rw [List.length_append, List.length_singleton, hfew]
        walk_at "z"
        refine s_meth24 ?_
        walk_at "z"
        refine ⟨dk, dz, _, rfl, hdz, rfl, ?_⟩
        walk_at "z"
        refine ⟨dk, r, S, U, _, _, rfl, D12.desk, D12.roll, by omega, Nat.zero_le _, fun r2 S2 U2 H13 nr nS nU e13 hR13 => ?_⟩
        obtain ⟨dx2, hx2⟩ := id hR13.ob
        walk_at "z"
        refine ⟨r2, dx2, _, rfl, hx2, r2, S2, U2, fs.map some, _, _, rfl, hR13, hlast, by omega, fun H14 e14 => ⟨_, rfl, by rw [pairs_cnt, hn]; decide, ?_⟩⟩
        rw [pairs_cnt, hn]
        have D14 := (D12.ex e13).ex e14
        have hdz14 := e14 _ _ (e13 _ _ hdz)
        clear D12 hdz hx2 hR13 nr nS nU
        walk_at "z"
        have h9 : ("9" : Str).length = 1 := by decide +kernel
        refine s_meth24 ?_
        walk_at "z"
        refine ⟨dk, dz, _, rfl, hdz14, rfl, ?_⟩
        walk_at "z"
        refine s_rMulS (by unfold MulOk; decide +kernel) ?_
        try walk_at "z"
        refine s_rAddStr (sz (by decide +kernel)) ?_
        try walk_at "z"
        refine s_rAddStr (sz (by decide +kernel)) ?_
        try walk_at "z"
        have ht := doF_tg (f := bigF) (gf_place bigF_gf) (st := fs.map some) (by omega)
        refine .inl ⟨dk, r, S, U, .deed (.tell bigF), fs.map some, _, [], congrArg (fun z => [V.ref dk, V.str z]) bigT_eq, D14.desk, D14.roll, hlast, ⟨read_gf bigF_bent (gf_place bigF_gf), bigF_bent, gf_eight bigF_gf⟩, by omega, by omega, Nat.zero_le _, ok, fun z sts' uns' H15 hs f15 hR15 => ?_, fun z H15 hs e15 => ?_⟩
        rotate_left
        · exfalso
          replace hs : refW (doF (fs.map some) (.tell bigF)).1 = some z := hs
          rw [ht] at hs
          cases hs
        obtain ⟨_, rfl, rfl, rfl⟩ := hs
        have D15 := D14.f2 f15 hR15
        rw [ht, hml]
        rw [ht] at D15
        replace D15 : D34 K T.C_Roll T.C_Desk H15 b c dk r S U ((s0 ++ [fs.map some]) ++ [fs.map some ++ [some bigF]]) [] := D15
        have ok5 := stand34 ok bigF_bent (gf_place bigF_gf)
        have hlast5 : ((s0 ++ [fs.map some]) ++ [fs.map some ++ [some bigF]]).getLast? = some (fs.map some ++ [some bigF]) := List.getLast?_concat
        have hl5 : (fs.map some ++ [some bigF]).length = 5 := by rw [List.length_append, hml]; rfl
        have h6 : ((s0 ++ [fs.map some]) ++ [fs.map some ++ [some bigF]]).length = 6 := by rw [List.length_append, h5]; rfl
        have hno : standF (fs.map some ++ [some bigF]) big30 = none := by
          cases e : standF (fs.map some ++ [some bigF]) big30 with
          | none => rfl
          | some g =>
            have := (stand_in e).2.1
            rw [hl5] at this
            exact absurd this (by decide)
        obtain ⟨dw, hdw⟩ := id D15.desk
        clear D14 hdz14 f15 hR15 ht
        walk_at "z"
        refine s_meth24 ?_
        walk_at "z"
        refine ⟨dk, dw, _, rfl, hdw, rfl, ?_⟩
        walk_at "z"
        refine s_rMulS (by unfold MulOk; decide +kernel) ?_
        try walk_at "z"
        refine s_rAddStr (sz (by decide +kernel)) ?_
        try walk_at "z"
        refine s_rAddStr (sz (by decide +kernel)) ?_
        try walk_at "z"
        refine .inr ⟨dk, r, bigT1, "lost", [Txt.mul "9" 31, ("5" : Str)], rfl, D15.desk, by decide +kernel, bigT1_split, small_words (by decide +kernel), by decide, bigT1_no, fun H16 e16 => ?_⟩
        have D16 := D15.ex e16
        have hdw16 := e16 _ _ hdw
        walk_at "z"
        refine s_meth24 ?_
        walk_at "z"
        refine ⟨dk, dw, _, rfl, hdw16, rfl, ?_⟩
        walk_at "z"
        refine s_rMulS (by unfold MulOk; decide +kernel) ?_
        try walk_at "z"
        refine s_rAddStr (sz (by decide +kernel)) ?_
        try walk_at "z"
        refine .inl ⟨dk, r, S, U, .deed (.strike big30), _, _, _, congrArg (fun z => [V.ref dk, V.str z]) bigS_eq, D16.desk, D16.roll, hlast5, big_ok, by omega, by omega, Nat.zero_le _, ok5, fun z sts' uns' H17 hs f17 hR17 => ?_, fun z H17 hs e17 => ?_⟩
        · exfalso
          have h := hs.1
          rw [doF_sn hno] at h
          cases h
        replace hs : refW (doF (fs.map some ++ [some bigF]) (.strike big30)).1 = some z := hs
        rw [doF_sn hno] at hs
        cases hs
        rw [show (("no: " : Str) ++ ("NoFact" : Str) : Str) = "no: NoFact" from by decide +kernel]
        walk_at "z"
        exact k _

end
theorem all_mk {l : PySem.W.OpenLaw} {w : World} {K : PySem.W.Frag} {h : Heap} {mg : Str → Option Value} {fa f0 f1 f2 f3 f4 f5 f6 f7 f8 f9 f10 f11 f12 f13 f14 f15 f16 f17 f18 f19 f20 f21 f22 f23 f24 f25 f26 f27 f28 f29 f30 f31 f32 f33 f34 fL : Addr} (X : K.In h) (G : h.Ns mainGlobals mg) (hfa : mg "law" = some (.ref fa))
    {od0 an0 od1 an1 od2 an2 od3 an3 od4 an4 od5 an5 od6 an6 od7 an7 od8 an8 od9 an9 od10 an10 od11 an11 od12 an12 od13 an13 od14 an14 od15 an15 od16 an16 od17 an17 od18 an18 od19 an19 od20 an20 od21 an21 od22 an22 od23 an23 od24 an24 od25 an25 od26 an26 od27 an27 od28 an28 od29 an29 od30 an30 od31 an31 od32 an32 od33 an33 od34 an34 odL anL : Option Addr} {sl0 sl1 sl2 sl3 sl4 sl5 sl6 sl7 sl8 sl9 sl10 sl11 sl12 sl13 sl14 sl15 sl16 sl17 sl18 sl19 sl20 sl21 sl22 sl23 sl24 sl25 sl26 sl27 sl28 sl29 sl30 sl31 sl32 sl33 sl34 slL : Array (Option Value)} {oc0 kV0 dc0 pm0 cd0 ct0 oc1 kV1 dc1 pm1 cd1 ct1 oc2 kV2 dc2 pm2 cd2 ct2 oc3 kV3 dc3 pm3 cd3 ct3 oc4 kV4 dc4 pm4 cd4 ct4 oc5 kV5 dc5 pm5 cd5 ct5 oc6 kV6 dc6 pm6 cd6 ct6 oc7 kV7 dc7 pm7 cd7 ct7 oc8 kV8 dc8 pm8 cd8 ct8 oc9 kV9 dc9 pm9 cd9 ct9 oc10 kV10 dc10 pm10 cd10 ct10 oc11 kV11 dc11 pm11 cd11 ct11 oc12 kV12 dc12 pm12 cd12 ct12 oc13 kV13 dc13 pm13 cd13 ct13 oc14 kV14 dc14 pm14 cd14 ct14 oc15 kV15 dc15 pm15 cd15 ct15 oc16 kV16 dc16 pm16 cd16 ct16 oc17 kV17 dc17 pm17 cd17 ct17 oc18 kV18 dc18 pm18 cd18 ct18 oc19 kV19 dc19 pm19 cd19 ct19 oc20 kV20 dc20 pm20 cd20 ct20 oc21 kV21 dc21 pm21 cd21 ct21 oc22 kV22 dc22 pm22 cd22 ct22 oc23 kV23 dc23 pm23 cd23 ct23 oc24 kV24 dc24 pm24 cd24 ct24 oc25 kV25 dc25 pm25 cd25 ct25 oc26 kV26 dc26 pm26 cd26 ct26 oc27 kV27 dc27 pm27 cd27 ct27 oc28 kV28 dc28 pm28 cd28 ct28 oc29 kV29 dc29 pm29 cd29 ct29 oc30 kV30 dc30 pm30 cd30 ct30 oc31 kV31 dc31 pm31 cd31 ct31 oc32 kV32 dc32 pm32 cd32 ct32 oc33 kV33 dc33 pm33 cd33 ct33 oc34 kV34 dc34 pm34 cd34 ct34 ocL kVL dcL pmL cdL ctL : Value} {t_MOST_FACTS t_MOST_FIGURES t_DONE : Tok}
    {C_Roll : Addr}
    {f_c_Roll_init : Addr} {od_c_Roll_init an_c_Roll_init : Option Addr} {sl_c_Roll_init : Array (Option Value)} {oc_c_Roll_init kV_c_Roll_init dc_c_Roll_init pm_c_Roll_init cd_c_Roll_init ct_c_Roll_init : Value}
    {f_c_Roll_len : Addr} {od_c_Roll_len an_c_Roll_len : Option Addr} {sl_c_Roll_len : Array (Option Value)} {oc_c_Roll_len kV_c_Roll_len dc_c_Roll_len pm_c_Roll_len cd_c_Roll_len ct_c_Roll_len : Value}
    {f_c_Roll_need_standing : Addr} {od_c_Roll_need_standing an_c_Roll_need_standing : Option Addr} {sl_c_Roll_need_standing : Array (Option Value)} {oc_c_Roll_need_standing kV_c_Roll_need_standing dc_c_Roll_need_standing pm_c_Roll_need_standing cd_c_Roll_need_standing ct_c_Roll_need_standing : Value}
    {f_c_Roll_enter : Addr} {od_c_Roll_enter an_c_Roll_enter : Option Addr} {sl_c_Roll_enter : Array (Option Value)} {oc_c_Roll_enter kV_c_Roll_enter dc_c_Roll_enter pm_c_Roll_enter cd_c_Roll_enter ct_c_Roll_enter : Value}
    {f_c_Roll_replace_fact : Addr} {od_c_Roll_replace_fact an_c_Roll_replace_fact : Option Addr} {sl_c_Roll_replace_fact : Array (Option Value)} {oc_c_Roll_replace_fact kV_c_Roll_replace_fact dc_c_Roll_replace_fact pm_c_Roll_replace_fact cd_c_Roll_replace_fact ct_c_Roll_replace_fact : Value}
    {f_c_Roll_tell : Addr} {od_c_Roll_tell an_c_Roll_tell : Option Addr} {sl_c_Roll_tell : Array (Option Value)} {oc_c_Roll_tell kV_c_Roll_tell dc_c_Roll_tell pm_c_Roll_tell cd_c_Roll_tell ct_c_Roll_tell : Value}
    {f_c_Roll_right : Addr} {od_c_Roll_right an_c_Roll_right : Option Addr} {sl_c_Roll_right : Array (Option Value)} {oc_c_Roll_right kV_c_Roll_right dc_c_Roll_right pm_c_Roll_right cd_c_Roll_right ct_c_Roll_right : Value}
    {f_c_Roll_strike : Addr} {od_c_Roll_strike an_c_Roll_strike : Option Addr} {sl_c_Roll_strike : Array (Option Value)} {oc_c_Roll_strike kV_c_Roll_strike dc_c_Roll_strike pm_c_Roll_strike cd_c_Roll_strike ct_c_Roll_strike : Value}
    {f_c_Roll_undo : Addr} {od_c_Roll_undo an_c_Roll_undo : Option Addr} {sl_c_Roll_undo : Array (Option Value)} {oc_c_Roll_undo kV_c_Roll_undo dc_c_Roll_undo pm_c_Roll_undo cd_c_Roll_undo ct_c_Roll_undo : Value}
    {f_c_Roll_redo : Addr} {od_c_Roll_redo an_c_Roll_redo : Option Addr} {sl_c_Roll_redo : Array (Option Value)} {oc_c_Roll_redo kV_c_Roll_redo dc_c_Roll_redo pm_c_Roll_redo cd_c_Roll_redo ct_c_Roll_redo : Value}
    {f_c_Roll_facts : Addr} {od_c_Roll_facts an_c_Roll_facts : Option Addr} {sl_c_Roll_facts : Array (Option Value)} {oc_c_Roll_facts kV_c_Roll_facts dc_c_Roll_facts pm_c_Roll_facts cd_c_Roll_facts ct_c_Roll_facts : Value}
    {f_c_Roll_told : Addr} {od_c_Roll_told an_c_Roll_told : Option Addr} {sl_c_Roll_told : Array (Option Value)} {oc_c_Roll_told kV_c_Roll_told dc_c_Roll_told pm_c_Roll_told cd_c_Roll_told ct_c_Roll_told : Value}
    {f_c_Roll_deeds : Addr} {od_c_Roll_deeds an_c_Roll_deeds : Option Addr} {sl_c_Roll_deeds : Array (Option Value)} {oc_c_Roll_deeds kV_c_Roll_deeds dc_c_Roll_deeds pm_c_Roll_deeds cd_c_Roll_deeds ct_c_Roll_deeds : Value}
    {f_c_Roll_twin : Addr} {od_c_Roll_twin an_c_Roll_twin : Option Addr} {sl_c_Roll_twin : Array (Option Value)} {oc_c_Roll_twin kV_c_Roll_twin dc_c_Roll_twin pm_c_Roll_twin cd_c_Roll_twin ct_c_Roll_twin : Value}
    {C_Desk : Addr}
    {f_c_Desk_init : Addr} {od_c_Desk_init an_c_Desk_init : Option Addr} {sl_c_Desk_init : Array (Option Value)} {oc_c_Desk_init kV_c_Desk_init dc_c_Desk_init pm_c_Desk_init cd_c_Desk_init ct_c_Desk_init : Value}
    {dT_c_Desk_init : Addr} {doc_c_Desk_init : Value} {dod_c_Desk_init : Option Addr} {dn_c_Desk_init : Nat} {dsl_c_Desk_init : Array (Option Value)}
    {f_c_Desk_say : Addr} {od_c_Desk_say an_c_Desk_say : Option Addr} {sl_c_Desk_say : Array (Option Value)} {oc_c_Desk_say kV_c_Desk_say dc_c_Desk_say pm_c_Desk_say cd_c_Desk_say ct_c_Desk_say : Value}
    {f_c_Desk_roll : Addr} {od_c_Desk_roll an_c_Desk_roll : Option Addr} {sl_c_Desk_roll : Array (Option Value)} {oc_c_Desk_roll kV_c_Desk_roll dc_c_Desk_roll pm_c_Desk_roll cd_c_Desk_roll ct_c_Desk_roll : Value}
    (a0 : PySem.W.nsIn K mainGlobals "is_number" = some (some (.ref f0)))
    (l0 : K.lookup f0 = some ⟨oc0, od0, .func (PySem.W.fnOf "is_number" "is_number" (defArgs s_p_is_number) (defBody s_p_is_number) (defScope s_p_is_number) .none kV0 dc0 pm0 an0 cd0 ct0), sl0⟩)
    (c0 : PySem.W.codeIn K cd0 "is_number" = true) (k0 : PySem.W.keepIn K (.ref f0) = true)
    (a1 : PySem.W.nsIn K mainGlobals "is_good" = some (some (.ref f1)))
    (l1 : K.lookup f1 = some ⟨oc1, od1, .func (PySem.W.fnOf "is_good" "is_good" (defArgs s_p_is_good) (defBody s_p_is_good) (defScope s_p_is_good) .none kV1 dc1 pm1 an1 cd1 ct1), sl1⟩)
    (c1 : PySem.W.codeIn K cd1 "is_good" = true) (k1 : PySem.W.keepIn K (.ref f1) = true)
    (a2 : PySem.W.nsIn K mainGlobals "are_rising" = some (some (.ref f2)))
    (l2 : K.lookup f2 = some ⟨oc2, od2, .func (PySem.W.fnOf "are_rising" "are_rising" (defArgs s_p_are_rising) (defBody s_p_are_rising) (defScope s_p_are_rising) .none kV2 dc2 pm2 an2 cd2 ct2), sl2⟩)
    (c2 : PySem.W.codeIn K cd2 "are_rising" = true) (k2 : PySem.W.keepIn K (.ref f2) = true)
    (a3 : PySem.W.nsIn K mainGlobals "need_fact" = some (some (.ref f3)))
    (l3 : K.lookup f3 = some ⟨oc3, od3, .func (PySem.W.fnOf "need_fact" "need_fact" (defArgs s_p_need_fact) (defBody s_p_need_fact) (defScope s_p_need_fact) .none kV3 dc3 pm3 an3 cd3 ct3), sl3⟩)
    (c3 : PySem.W.codeIn K cd3 "need_fact" = true) (k3 : PySem.W.keepIn K (.ref f3) = true)
    (a4 : PySem.W.nsIn K mainGlobals "fact_text" = some (some (.ref f4)))
    (l4 : K.lookup f4 = some ⟨oc4, od4, .func (PySem.W.fnOf "fact_text" "fact_text" (defArgs s_p_fact_text) (defBody s_p_fact_text) (defScope s_p_fact_text) .none kV4 dc4 pm4 an4 cd4 ct4), sl4⟩)
    (c4 : PySem.W.codeIn K cd4 "fact_text" = true) (k4 : PySem.W.keepIn K (.ref f4) = true)
    (a5 : PySem.W.nsIn K mainGlobals "page_of" = some (some (.ref f5)))
    (l5 : K.lookup f5 = some ⟨oc5, od5, .func (PySem.W.fnOf "page_of" "page_of" (defArgs s_p_page_of) (defBody s_p_page_of) (defScope s_p_page_of) .none kV5 dc5 pm5 an5 cd5 ct5), sl5⟩)
    (c5 : PySem.W.codeIn K cd5 "page_of" = true) (k5 : PySem.W.keepIn K (.ref f5) = true)
    (a6 : PySem.W.nsIn K mainGlobals "is_number_text" = some (some (.ref f6)))
    (l6 : K.lookup f6 = some ⟨oc6, od6, .func (PySem.W.fnOf "is_number_text" "is_number_text" (defArgs s_p_is_number_text) (defBody s_p_is_number_text) (defScope s_p_is_number_text) .none kV6 dc6 pm6 an6 cd6 ct6), sl6⟩)
    (c6 : PySem.W.codeIn K cd6 "is_number_text" = true) (k6 : PySem.W.keepIn K (.ref f6) = true)
    (a7 : PySem.W.nsIn K mainGlobals "read_numbers" = some (some (.ref f7)))
    (l7 : K.lookup f7 = some ⟨oc7, od7, .func (PySem.W.fnOf "read_numbers" "read_numbers" (defArgs s_p_read_numbers) (defBody s_p_read_numbers) (defScope s_p_read_numbers) .none kV7 dc7 pm7 an7 cd7 ct7), sl7⟩)
    (c7 : PySem.W.codeIn K cd7 "read_numbers" = true) (k7 : PySem.W.keepIn K (.ref f7) = true)
    (a8 : PySem.W.nsIn K mainGlobals "read_fact" = some (some (.ref f8)))
    (l8 : K.lookup f8 = some ⟨oc8, od8, .func (PySem.W.fnOf "read_fact" "read_fact" (defArgs s_p_read_fact) (defBody s_p_read_fact) (defScope s_p_read_fact) .none kV8 dc8 pm8 an8 cd8 ct8), sl8⟩)
    (c8 : PySem.W.codeIn K cd8 "read_fact" = true) (k8 : PySem.W.keepIn K (.ref f8) = true)
    (a9 : PySem.W.nsIn K mainGlobals "strike_line" = some (some (.ref f9)))
    (l9 : K.lookup f9 = some ⟨oc9, od9, .func (PySem.W.fnOf "strike_line" "strike_line" (defArgs s_p_strike_line) (defBody s_p_strike_line) (defScope s_p_strike_line) .none kV9 dc9 pm9 an9 cd9 ct9), sl9⟩)
    (c9 : PySem.W.codeIn K cd9 "strike_line" = true) (k9 : PySem.W.keepIn K (.ref f9) = true)
    (a10 : PySem.W.nsIn K mainGlobals "undo_line" = some (some (.ref f10)))
    (l10 : K.lookup f10 = some ⟨oc10, od10, .func (PySem.W.fnOf "undo_line" "undo_line" (defArgs s_p_undo_line) (defBody s_p_undo_line) (defScope s_p_undo_line) .none kV10 dc10 pm10 an10 cd10 ct10), sl10⟩)
    (c10 : PySem.W.codeIn K cd10 "undo_line" = true) (k10 : PySem.W.keepIn K (.ref f10) = true)
    (a11 : PySem.W.nsIn K mainGlobals "redo_line" = some (some (.ref f11)))
    (l11 : K.lookup f11 = some ⟨oc11, od11, .func (PySem.W.fnOf "redo_line" "redo_line" (defArgs s_p_redo_line) (defBody s_p_redo_line) (defScope s_p_redo_line) .none kV11 dc11 pm11 an11 cd11 ct11), sl11⟩)
    (c11 : PySem.W.codeIn K cd11 "redo_line" = true) (k11 : PySem.W.keepIn K (.ref f11) = true)
    (a12 : PySem.W.nsIn K mainGlobals "row_line" = some (some (.ref f12)))
    (l12 : K.lookup f12 = some ⟨oc12, od12, .func (PySem.W.fnOf "row_line" "row_line" (defArgs s_p_row_line) (defBody s_p_row_line) (defScope s_p_row_line) .none kV12 dc12 pm12 an12 cd12 ct12), sl12⟩)
    (c12 : PySem.W.codeIn K cd12 "row_line" = true) (k12 : PySem.W.keepIn K (.ref f12) = true)
    (a13 : PySem.W.nsIn K mainGlobals "why_line" = some (some (.ref f13)))
    (l13 : K.lookup f13 = some ⟨oc13, od13, .func (PySem.W.fnOf "why_line" "why_line" (defArgs s_p_why_line) (defBody s_p_why_line) (defScope s_p_why_line) .none kV13 dc13 pm13 an13 cd13 ct13), sl13⟩)
    (c13 : PySem.W.codeIn K cd13 "why_line" = true) (k13 : PySem.W.keepIn K (.ref f13) = true)
    (a14 : PySem.W.nsIn K mainGlobals "owes_line" = some (some (.ref f14)))
    (l14 : K.lookup f14 = some ⟨oc14, od14, .func (PySem.W.fnOf "owes_line" "owes_line" (defArgs s_p_owes_line) (defBody s_p_owes_line) (defScope s_p_owes_line) .none kV14 dc14 pm14 an14 cd14 ct14), sl14⟩)
    (c14 : PySem.W.codeIn K cd14 "owes_line" = true) (k14 : PySem.W.keepIn K (.ref f14) = true)
    (a15 : PySem.W.nsIn K mainGlobals "trusts_line" = some (some (.ref f15)))
    (l15 : K.lookup f15 = some ⟨oc15, od15, .func (PySem.W.fnOf "trusts_line" "trusts_line" (defArgs s_p_trusts_line) (defBody s_p_trusts_line) (defScope s_p_trusts_line) .none kV15 dc15 pm15 an15 cd15 ct15), sl15⟩)
    (c15 : PySem.W.codeIn K cd15 "trusts_line" = true) (k15 : PySem.W.keepIn K (.ref f15) = true)
    (a16 : PySem.W.nsIn K mainGlobals "right_line" = some (some (.ref f16)))
    (l16 : K.lookup f16 = some ⟨oc16, od16, .func (PySem.W.fnOf "right_line" "right_line" (defArgs s_p_right_line) (defBody s_p_right_line) (defScope s_p_right_line) .none kV16 dc16 pm16 an16 cd16 ct16), sl16⟩)
    (c16 : PySem.W.codeIn K cd16 "right_line" = true) (k16 : PySem.W.keepIn K (.ref f16) = true)
    (a17 : PySem.W.nsIn K mainGlobals "numbers_line" = some (some (.ref f17)))
    (l17 : K.lookup f17 = some ⟨oc17, od17, .func (PySem.W.fnOf "numbers_line" "numbers_line" (defArgs s_p_numbers_line) (defBody s_p_numbers_line) (defScope s_p_numbers_line) .none kV17 dc17 pm17 an17 cd17 ct17), sl17⟩)
    (c17 : PySem.W.codeIn K cd17 "numbers_line" = true) (k17 : PySem.W.keepIn K (.ref f17) = true)
    (a18 : PySem.W.nsIn K mainGlobals "answer" = some (some (.ref f18)))
    (l18 : K.lookup f18 = some ⟨oc18, od18, .func (PySem.W.fnOf "answer" "answer" (defArgs s_p_answer) (defBody s_p_answer) (defScope s_p_answer) .none kV18 dc18 pm18 an18 cd18 ct18), sl18⟩)
    (c18 : PySem.W.codeIn K cd18 "answer" = true) (k18 : PySem.W.keepIn K (.ref f18) = true)
    (a19 : PySem.W.nsIn K mainGlobals "_law_bag" = some (some (.ref f19)))
    (l19 : K.lookup f19 = some ⟨oc19, od19, .func (PySem.W.fnOf "_law_bag" "_law_bag" (defArgs s_l_bag) (defBody s_l_bag) (defScope s_l_bag) .none kV19 dc19 pm19 an19 cd19 ct19), sl19⟩)
    (c19 : PySem.W.codeIn K cd19 "_law_bag" = true) (k19 : PySem.W.keepIn K (.ref f19) = true)
    (a20 : PySem.W.nsIn K mainGlobals "_law_pull" = some (some (.ref f20)))
    (l20 : K.lookup f20 = some ⟨oc20, od20, .func (PySem.W.fnOf "_law_pull" "_law_pull" (defArgs s_l_pull) (defBody s_l_pull) (defScope s_l_pull) .none kV20 dc20 pm20 an20 cd20 ct20), sl20⟩)
    (c20 : PySem.W.codeIn K cd20 "_law_pull" = true) (k20 : PySem.W.keepIn K (.ref f20) = true)
    (a21 : PySem.W.nsIn K mainGlobals "_law_like" = some (some (.ref f21)))
    (l21 : K.lookup f21 = some ⟨oc21, od21, .func (PySem.W.fnOf "_law_like" "_law_like" (defArgs s_l_like) (defBody s_l_like) (defScope s_l_like) .none kV21 dc21 pm21 an21 cd21 ct21), sl21⟩)
    (c21 : PySem.W.codeIn K cd21 "_law_like" = true) (k21 : PySem.W.keepIn K (.ref f21) = true)
    (a22 : PySem.W.nsIn K mainGlobals "_law_gate" = some (some (.ref f22)))
    (l22 : K.lookup f22 = some ⟨oc22, od22, .func (PySem.W.fnOf "_law_gate" "_law_gate" (defArgs s_l_gate) (defBody s_l_gate) (defScope s_l_gate) .none kV22 dc22 pm22 an22 cd22 ct22), sl22⟩)
    (c22 : PySem.W.codeIn K cd22 "_law_gate" = true) (k22 : PySem.W.keepIn K (.ref f22) = true)
    (a23 : PySem.W.nsIn K mainGlobals "_law_day" = some (some (.ref f23)))
    (l23 : K.lookup f23 = some ⟨oc23, od23, .func (PySem.W.fnOf "_law_day" "_law_day" (defArgs s_l_day) (defBody s_l_day) (defScope s_l_day) .none kV23 dc23 pm23 an23 cd23 ct23), sl23⟩)
    (c23 : PySem.W.codeIn K cd23 "_law_day" = true) (k23 : PySem.W.keepIn K (.ref f23) = true)
    (a24 : PySem.W.nsIn K mainGlobals "_law_board" = some (some (.ref f24)))
    (l24 : K.lookup f24 = some ⟨oc24, od24, .func (PySem.W.fnOf "_law_board" "_law_board" (defArgs s_l_board) (defBody s_l_board) (defScope s_l_board) .none kV24 dc24 pm24 an24 cd24 ct24), sl24⟩)
    (c24 : PySem.W.codeIn K cd24 "_law_board" = true) (k24 : PySem.W.keepIn K (.ref f24) = true)
    (a25 : PySem.W.nsIn K mainGlobals "_law_passing" = some (some (.ref f25)))
    (l25 : K.lookup f25 = some ⟨oc25, od25, .func (PySem.W.fnOf "_law_passing" "_law_passing" (defArgs s_l_passing) (defBody s_l_passing) (defScope s_l_passing) .none kV25 dc25 pm25 an25 cd25 ct25), sl25⟩)
    (c25 : PySem.W.codeIn K cd25 "_law_passing" = true) (k25 : PySem.W.keepIn K (.ref f25) = true)
    (a26 : PySem.W.nsIn K mainGlobals "_law_stretch" = some (some (.ref f26)))
    (l26 : K.lookup f26 = some ⟨oc26, od26, .func (PySem.W.fnOf "_law_stretch" "_law_stretch" (defArgs s_l_stretch) (defBody s_l_stretch) (defScope s_l_stretch) .none kV26 dc26 pm26 an26 cd26 ct26), sl26⟩)
    (c26 : PySem.W.codeIn K cd26 "_law_stretch" = true) (k26 : PySem.W.keepIn K (.ref f26) = true)
    (a27 : PySem.W.nsIn K mainGlobals "_law_fact" = some (some (.ref f27)))
    (l27 : K.lookup f27 = some ⟨oc27, od27, .func (PySem.W.fnOf "_law_fact" "_law_fact" (defArgs s_l_fact) (defBody s_l_fact) (defScope s_l_fact) .none kV27 dc27 pm27 an27 cd27 ct27), sl27⟩)
    (c27 : PySem.W.codeIn K cd27 "_law_fact" = true) (k27 : PySem.W.keepIn K (.ref f27) = true)
    (a28 : PySem.W.nsIn K mainGlobals "_law_text" = some (some (.ref f28)))
    (l28 : K.lookup f28 = some ⟨oc28, od28, .func (PySem.W.fnOf "_law_text" "_law_text" (defArgs s_l_text) (defBody s_l_text) (defScope s_l_text) .none kV28 dc28 pm28 an28 cd28 ct28), sl28⟩)
    (c28 : PySem.W.codeIn K cd28 "_law_text" = true) (k28 : PySem.W.keepIn K (.ref f28) = true)
    (a29 : PySem.W.nsIn K mainGlobals "_law_number_read" = some (some (.ref f29)))
    (l29 : K.lookup f29 = some ⟨oc29, od29, .func (PySem.W.fnOf "_law_number_read" "_law_number_read" (defArgs s_l_number_read) (defBody s_l_number_read) (defScope s_l_number_read) .none kV29 dc29 pm29 an29 cd29 ct29), sl29⟩)
    (c29 : PySem.W.codeIn K cd29 "_law_number_read" = true) (k29 : PySem.W.keepIn K (.ref f29) = true)
    (a30 : PySem.W.nsIn K mainGlobals "_law_fact_read" = some (some (.ref f30)))
    (l30 : K.lookup f30 = some ⟨oc30, od30, .func (PySem.W.fnOf "_law_fact_read" "_law_fact_read" (defArgs s_l_fact_read) (defBody s_l_fact_read) (defScope s_l_fact_read) .none kV30 dc30 pm30 an30 cd30 ct30), sl30⟩)
    (c30 : PySem.W.codeIn K cd30 "_law_fact_read" = true) (k30 : PySem.W.keepIn K (.ref f30) = true)
    (a31 : PySem.W.nsIn K mainGlobals "_law_words_bent" = some (some (.ref f31)))
    (l31 : K.lookup f31 = some ⟨oc31, od31, .func (PySem.W.fnOf "_law_words_bent" "_law_words_bent" (defArgs s_l_words_bent) (defBody s_l_words_bent) (defScope s_l_words_bent) .none kV31 dc31 pm31 an31 cd31 ct31), sl31⟩)
    (c31 : PySem.W.codeIn K cd31 "_law_words_bent" = true) (k31 : PySem.W.keepIn K (.ref f31) = true)
    (a32 : PySem.W.nsIn K mainGlobals "_law_sign" = some (some (.ref f32)))
    (l32 : K.lookup f32 = some ⟨oc32, od32, .func (PySem.W.fnOf "_law_sign" "_law_sign" (defArgs s_l_sign) (defBody s_l_sign) (defScope s_l_sign) .none kV32 dc32 pm32 an32 cd32 ct32), sl32⟩)
    (c32 : PySem.W.codeIn K cd32 "_law_sign" = true) (k32 : PySem.W.keepIn K (.ref f32) = true)
    (a33 : PySem.W.nsIn K mainGlobals "_law_text_bent" = some (some (.ref f33)))
    (l33 : K.lookup f33 = some ⟨oc33, od33, .func (PySem.W.fnOf "_law_text_bent" "_law_text_bent" (defArgs s_l_text_bent) (defBody s_l_text_bent) (defScope s_l_text_bent) .none kV33 dc33 pm33 an33 cd33 ct33), sl33⟩)
    (c33 : PySem.W.codeIn K cd33 "_law_text_bent" = true) (k33 : PySem.W.keepIn K (.ref f33) = true)
    (a34 : PySem.W.nsIn K mainGlobals "_law_is_line" = some (some (.ref f34)))
    (l34 : K.lookup f34 = some ⟨oc34, od34, .func (PySem.W.fnOf "_law_is_line" "_law_is_line" (defArgs s_l_is_line) (defBody s_l_is_line) (defScope s_l_is_line) .none kV34 dc34 pm34 an34 cd34 ct34), sl34⟩)
    (c34 : PySem.W.codeIn K cd34 "_law_is_line" = true) (k34 : PySem.W.keepIn K (.ref f34) = true)
    (aL : PySem.W.nsIn K mainGlobals "law" = some (some (.ref fL)))
    (lL : K.lookup fL = some ⟨ocL, odL, .func (PySem.W.fnOf "law" "law" (defArgs s_law) (defBody s_law) (defScope s_law) .none kVL dcL pmL anL cdL ctL), slL⟩)
    (cL : PySem.W.codeIn K cdL "law" = true) (kL : PySem.W.keepIn K (.ref fL) = true)
    (z_len : PySem.W.nsIn K mainGlobals "len" = some none)
    (z_isinstance : PySem.W.nsIn K mainGlobals "isinstance" = some none)
    (z_tuple : PySem.W.nsIn K mainGlobals "tuple" = some none)
    (z_list : PySem.W.nsIn K mainGlobals "list" = some none)
    (z_bool : PySem.W.nsIn K mainGlobals "bool" = some none)
    (z_range : PySem.W.nsIn K mainGlobals "range" = some none)
    (z_int : PySem.W.nsIn K mainGlobals "int" = some none)
    (z_set : PySem.W.nsIn K mainGlobals "set" = some none)
    (z_sorted : PySem.W.nsIn K mainGlobals "sorted" = some none)
    (z_all : PySem.W.nsIn K mainGlobals "all" = some none)
    (z_enumerate : PySem.W.nsIn K mainGlobals "enumerate" = some none)
    (z_str : PySem.W.nsIn K mainGlobals "str" = some none)
    (z_dict : PySem.W.nsIn K mainGlobals "dict" = some none)
    (z_min : PySem.W.nsIn K mainGlobals "min" = some none)
    (k_MOST_FACTS : PySem.W.nsIn K mainGlobals "MOST_FACTS" = some (some (.int 120 t_MOST_FACTS)))
    (k_MOST_FIGURES : PySem.W.nsIn K mainGlobals "MOST_FIGURES" = some (some (.int 30 t_MOST_FIGURES)))
    (k_DONE : PySem.W.nsIn K mainGlobals "DONE" = some (some (.str "done" t_DONE)))
    {B_BOUNDS : Addr} {es_BOUNDS : Array DictEntry} {en_BOUNDS : Nat} {tk0_BOUNDS_gate tk1_BOUNDS_gate tk0_BOUNDS_carriage tk1_BOUNDS_carriage tk0_BOUNDS_trust tk1_BOUNDS_trust tk0_BOUNDS_day tk1_BOUNDS_day tk0_BOUNDS_minute tk1_BOUNDS_minute tk0_BOUNDS_toll tk1_BOUNDS_toll tk0_BOUNDS_payment tk1_BOUNDS_payment tk0_BOUNDS_horses tk1_BOUNDS_horses tk0_BOUNDS_number : Tok}
    {t_BOUNDS_gate : Addr} {to_BOUNDS_gate : Option Addr} {tn_BOUNDS_gate : Nat} {ts_BOUNDS_gate : Array (Option Value)}
    {t_BOUNDS_carriage : Addr} {to_BOUNDS_carriage : Option Addr} {tn_BOUNDS_carriage : Nat} {ts_BOUNDS_carriage : Array (Option Value)}
    {t_BOUNDS_trust : Addr} {to_BOUNDS_trust : Option Addr} {tn_BOUNDS_trust : Nat} {ts_BOUNDS_trust : Array (Option Value)}
    {t_BOUNDS_day : Addr} {to_BOUNDS_day : Option Addr} {tn_BOUNDS_day : Nat} {ts_BOUNDS_day : Array (Option Value)}
    {t_BOUNDS_minute : Addr} {to_BOUNDS_minute : Option Addr} {tn_BOUNDS_minute : Nat} {ts_BOUNDS_minute : Array (Option Value)}
    {t_BOUNDS_toll : Addr} {to_BOUNDS_toll : Option Addr} {tn_BOUNDS_toll : Nat} {ts_BOUNDS_toll : Array (Option Value)}
    {t_BOUNDS_payment : Addr} {to_BOUNDS_payment : Option Addr} {tn_BOUNDS_payment : Nat} {ts_BOUNDS_payment : Array (Option Value)}
    {t_BOUNDS_horses : Addr} {to_BOUNDS_horses : Option Addr} {tn_BOUNDS_horses : Nat} {ts_BOUNDS_horses : Array (Option Value)}
    {t_BOUNDS_number : Addr} {to_BOUNDS_number : Option Addr} {tn_BOUNDS_number : Nat} {ts_BOUNDS_number : Array (Option Value)}
    (a_BOUNDS : PySem.W.nsIn K mainGlobals "BOUNDS" = some (some (.ref B_BOUNDS)))
    (ld_BOUNDS : K.lookup B_BOUNDS = some ⟨.type "dict", none, .dict es_BOUNDS en_BOUNDS, #[]⟩)
    (kl_BOUNDS : PySem.W.KeysLit w.params es_BOUNDS.toList)
    (ek_BOUNDS_gate : PySem.W.nsIn K B_BOUNDS "gate" = some (some (.ref t_BOUNDS_gate)))
    (lt_BOUNDS_gate : K.lookup t_BOUNDS_gate = some ⟨.type "tuple", to_BOUNDS_gate, .seq #[.int 0 tk0_BOUNDS_gate, .int 7 tk1_BOUNDS_gate] tn_BOUNDS_gate, ts_BOUNDS_gate⟩)
    (ek_BOUNDS_carriage : PySem.W.nsIn K B_BOUNDS "carriage" = some (some (.ref t_BOUNDS_carriage)))
    (lt_BOUNDS_carriage : K.lookup t_BOUNDS_carriage = some ⟨.type "tuple", to_BOUNDS_carriage, .seq #[.int 0 tk0_BOUNDS_carriage, .int 9 tk1_BOUNDS_carriage] tn_BOUNDS_carriage, ts_BOUNDS_carriage⟩)
    (ek_BOUNDS_trust : PySem.W.nsIn K B_BOUNDS "trust" = some (some (.ref t_BOUNDS_trust)))
    (lt_BOUNDS_trust : K.lookup t_BOUNDS_trust = some ⟨.type "tuple", to_BOUNDS_trust, .seq #[.int 0 tk0_BOUNDS_trust, .int 3 tk1_BOUNDS_trust] tn_BOUNDS_trust, ts_BOUNDS_trust⟩)
    (ek_BOUNDS_day : PySem.W.nsIn K B_BOUNDS "day" = some (some (.ref t_BOUNDS_day)))
    (lt_BOUNDS_day : K.lookup t_BOUNDS_day = some ⟨.type "tuple", to_BOUNDS_day, .seq #[.int 0 tk0_BOUNDS_day, .int 999 tk1_BOUNDS_day] tn_BOUNDS_day, ts_BOUNDS_day⟩)
    (ek_BOUNDS_minute : PySem.W.nsIn K B_BOUNDS "minute" = some (some (.ref t_BOUNDS_minute)))
    (lt_BOUNDS_minute : K.lookup t_BOUNDS_minute = some ⟨.type "tuple", to_BOUNDS_minute, .seq #[.int 0 tk0_BOUNDS_minute, .int 1439 tk1_BOUNDS_minute] tn_BOUNDS_minute, ts_BOUNDS_minute⟩)
    (ek_BOUNDS_toll : PySem.W.nsIn K B_BOUNDS "toll" = some (some (.ref t_BOUNDS_toll)))
    (lt_BOUNDS_toll : K.lookup t_BOUNDS_toll = some ⟨.type "tuple", to_BOUNDS_toll, .seq #[.int 0 tk0_BOUNDS_toll, .int 48 tk1_BOUNDS_toll] tn_BOUNDS_toll, ts_BOUNDS_toll⟩)
    (ek_BOUNDS_payment : PySem.W.nsIn K B_BOUNDS "payment" = some (some (.ref t_BOUNDS_payment)))
    (lt_BOUNDS_payment : K.lookup t_BOUNDS_payment = some ⟨.type "tuple", to_BOUNDS_payment, .seq #[.int 0 tk0_BOUNDS_payment, .int 100000 tk1_BOUNDS_payment] tn_BOUNDS_payment, ts_BOUNDS_payment⟩)
    (ek_BOUNDS_horses : PySem.W.nsIn K B_BOUNDS "horses" = some (some (.ref t_BOUNDS_horses)))
    (lt_BOUNDS_horses : K.lookup t_BOUNDS_horses = some ⟨.type "tuple", to_BOUNDS_horses, .seq #[.int 1 tk0_BOUNDS_horses, .int 8 tk1_BOUNDS_horses] tn_BOUNDS_horses, ts_BOUNDS_horses⟩)
    (ek_BOUNDS_number : PySem.W.nsIn K B_BOUNDS "number" = some (some (.ref t_BOUNDS_number)))
    (lt_BOUNDS_number : K.lookup t_BOUNDS_number = some ⟨.type "tuple", to_BOUNDS_number, .seq #[.int 1 tk0_BOUNDS_number, .none] tn_BOUNDS_number, ts_BOUNDS_number⟩)
    {B_SHAPES : Addr} {es_SHAPES : Array DictEntry} {en_SHAPES : Nat} {tk0_SHAPES_toll tk1_SHAPES_toll tk2_SHAPES_toll tk0_SHAPES_board tk1_SHAPES_board tk2_SHAPES_board tk0_SHAPES_trust tk1_SHAPES_trust tk2_SHAPES_trust tk0_SHAPES_folk tk1_SHAPES_folk tk2_SHAPES_folk tk0_SHAPES_bargain tk1_SHAPES_bargain tk2_SHAPES_bargain tk3_SHAPES_bargain tk0_SHAPES_pass tk1_SHAPES_pass tk2_SHAPES_pass tk3_SHAPES_pass tk4_SHAPES_pass tk0_SHAPES_lost tk1_SHAPES_lost tk0_SHAPES_paid tk1_SHAPES_paid tk2_SHAPES_paid : Tok}
    {t_SHAPES_toll : Addr} {to_SHAPES_toll : Option Addr} {tn_SHAPES_toll : Nat} {ts_SHAPES_toll : Array (Option Value)}
    {t_SHAPES_board : Addr} {to_SHAPES_board : Option Addr} {tn_SHAPES_board : Nat} {ts_SHAPES_board : Array (Option Value)}
    {t_SHAPES_trust : Addr} {to_SHAPES_trust : Option Addr} {tn_SHAPES_trust : Nat} {ts_SHAPES_trust : Array (Option Value)}
    {t_SHAPES_folk : Addr} {to_SHAPES_folk : Option Addr} {tn_SHAPES_folk : Nat} {ts_SHAPES_folk : Array (Option Value)}
    {t_SHAPES_bargain : Addr} {to_SHAPES_bargain : Option Addr} {tn_SHAPES_bargain : Nat} {ts_SHAPES_bargain : Array (Option Value)}
    {t_SHAPES_pass : Addr} {to_SHAPES_pass : Option Addr} {tn_SHAPES_pass : Nat} {ts_SHAPES_pass : Array (Option Value)}
    {t_SHAPES_lost : Addr} {to_SHAPES_lost : Option Addr} {tn_SHAPES_lost : Nat} {ts_SHAPES_lost : Array (Option Value)}
    {t_SHAPES_paid : Addr} {to_SHAPES_paid : Option Addr} {tn_SHAPES_paid : Nat} {ts_SHAPES_paid : Array (Option Value)}
    (a_SHAPES : PySem.W.nsIn K mainGlobals "SHAPES" = some (some (.ref B_SHAPES)))
    (ld_SHAPES : K.lookup B_SHAPES = some ⟨.type "dict", none, .dict es_SHAPES en_SHAPES, #[]⟩)
    (kl_SHAPES : PySem.W.KeysLit w.params es_SHAPES.toList)
    (ek_SHAPES_toll : PySem.W.nsIn K B_SHAPES "toll" = some (some (.ref t_SHAPES_toll)))
    (lt_SHAPES_toll : K.lookup t_SHAPES_toll = some ⟨.type "tuple", to_SHAPES_toll, .seq #[.str "gate" tk0_SHAPES_toll, .str "day" tk1_SHAPES_toll, .str "toll" tk2_SHAPES_toll] tn_SHAPES_toll, ts_SHAPES_toll⟩)
    (ek_SHAPES_board : PySem.W.nsIn K B_SHAPES "board" = some (some (.ref t_SHAPES_board)))
    (lt_SHAPES_board : K.lookup t_SHAPES_board = some ⟨.type "tuple", to_SHAPES_board, .seq #[.str "gate" tk0_SHAPES_board, .str "day" tk1_SHAPES_board, .str "gates" tk2_SHAPES_board] tn_SHAPES_board, ts_SHAPES_board⟩)
    (ek_SHAPES_trust : PySem.W.nsIn K B_SHAPES "trust" = some (some (.ref t_SHAPES_trust)))
    (lt_SHAPES_trust : K.lookup t_SHAPES_trust = some ⟨.type "tuple", to_SHAPES_trust, .seq #[.str "gate" tk0_SHAPES_trust, .str "day" tk1_SHAPES_trust, .str "trust" tk2_SHAPES_trust] tn_SHAPES_trust, ts_SHAPES_trust⟩)
    (ek_SHAPES_folk : PySem.W.nsIn K B_SHAPES "folk" = some (some (.ref t_SHAPES_folk)))
    (lt_SHAPES_folk : K.lookup t_SHAPES_folk = some ⟨.type "tuple", to_SHAPES_folk, .seq #[.str "carriage" tk0_SHAPES_folk, .str "day" tk1_SHAPES_folk, .str "day" tk2_SHAPES_folk] tn_SHAPES_folk, ts_SHAPES_folk⟩)
    (ek_SHAPES_bargain : PySem.W.nsIn K B_SHAPES "bargain" = some (some (.ref t_SHAPES_bargain)))
    (lt_SHAPES_bargain : K.lookup t_SHAPES_bargain = some ⟨.type "tuple", to_SHAPES_bargain, .seq #[.str "gate" tk0_SHAPES_bargain, .str "carriage" tk1_SHAPES_bargain, .str "day" tk2_SHAPES_bargain, .str "day" tk3_SHAPES_bargain] tn_SHAPES_bargain, ts_SHAPES_bargain⟩)
    (ek_SHAPES_pass : PySem.W.nsIn K B_SHAPES "pass" = some (some (.ref t_SHAPES_pass)))
    (lt_SHAPES_pass : K.lookup t_SHAPES_pass = some ⟨.type "tuple", to_SHAPES_pass, .seq #[.str "day" tk0_SHAPES_pass, .str "minute" tk1_SHAPES_pass, .str "gate" tk2_SHAPES_pass, .str "carriage" tk3_SHAPES_pass, .str "horses" tk4_SHAPES_pass] tn_SHAPES_pass, ts_SHAPES_pass⟩)
    (ek_SHAPES_lost : PySem.W.nsIn K B_SHAPES "lost" = some (some (.ref t_SHAPES_lost)))
    (lt_SHAPES_lost : K.lookup t_SHAPES_lost = some ⟨.type "tuple", to_SHAPES_lost, .seq #[.str "number" tk0_SHAPES_lost, .str "minute" tk1_SHAPES_lost] tn_SHAPES_lost, ts_SHAPES_lost⟩)
    (ek_SHAPES_paid : PySem.W.nsIn K B_SHAPES "paid" = some (some (.ref t_SHAPES_paid)))
    (lt_SHAPES_paid : K.lookup t_SHAPES_paid = some ⟨.type "tuple", to_SHAPES_paid, .seq #[.str "carriage" tk0_SHAPES_paid, .str "day" tk1_SHAPES_paid, .str "payment" tk2_SHAPES_paid] tn_SHAPES_paid, ts_SHAPES_paid⟩)
    (lo_SHAPES : (B_SHAPES == sysModules) = false)
    (em0_SHAPES : PySem.W.nsIn K B_SHAPES "" = some none)
    (em1_SHAPES : PySem.W.nsIn K B_SHAPES "Pass" = some none)
    (em2_SHAPES : PySem.W.nsIn K B_SHAPES "tolls" = some none)
    (em3_SHAPES : PySem.W.nsIn K B_SHAPES "gate" = some none)
    (em4_SHAPES : PySem.W.nsIn K B_SHAPES "pass " = some none)
    {B_ANSWERS : Addr} {es_ANSWERS : Array DictEntry} {en_ANSWERS : Nat}
    (a_ANSWERS : PySem.W.nsIn K mainGlobals "ANSWERS" = some (some (.ref B_ANSWERS)))
    (ld_ANSWERS : K.lookup B_ANSWERS = some ⟨.type "dict", none, .dict es_ANSWERS en_ANSWERS, #[]⟩)
    (kl_ANSWERS : PySem.W.KeysLit w.params es_ANSWERS.toList)
    (lo_ANSWERS : (B_ANSWERS == sysModules) = false)
    (ek_ANSWERS_strike : PySem.W.nsIn K B_ANSWERS "strike" = some (some (.ref f9)))
    (ek_ANSWERS_undo : PySem.W.nsIn K B_ANSWERS "undo" = some (some (.ref f10)))
    (ek_ANSWERS_redo : PySem.W.nsIn K B_ANSWERS "redo" = some (some (.ref f11)))
    (ek_ANSWERS_row : PySem.W.nsIn K B_ANSWERS "row" = some (some (.ref f12)))
    (ek_ANSWERS_why : PySem.W.nsIn K B_ANSWERS "why" = some (some (.ref f13)))
    (ek_ANSWERS_owes : PySem.W.nsIn K B_ANSWERS "owes" = some (some (.ref f14)))
    (ek_ANSWERS_trusts : PySem.W.nsIn K B_ANSWERS "trusts" = some (some (.ref f15)))
    (em0_ANSWERS : PySem.W.nsIn K B_ANSWERS "toll" = some none)
    (em1_ANSWERS : PySem.W.nsIn K B_ANSWERS "board" = some none)
    (em2_ANSWERS : PySem.W.nsIn K B_ANSWERS "trust" = some none)
    (em3_ANSWERS : PySem.W.nsIn K B_ANSWERS "folk" = some none)
    (em4_ANSWERS : PySem.W.nsIn K B_ANSWERS "bargain" = some none)
    (em5_ANSWERS : PySem.W.nsIn K B_ANSWERS "pass" = some none)
    (em6_ANSWERS : PySem.W.nsIn K B_ANSWERS "lost" = some none)
    (em7_ANSWERS : PySem.W.nsIn K B_ANSWERS "paid" = some none)
    {B_COUNTS : Addr} {es_COUNTS : Array DictEntry} {en_COUNTS : Nat} {tk_COUNTS_strike tk_COUNTS_undo tk_COUNTS_redo tk_COUNTS_row tk_COUNTS_why tk_COUNTS_owes tk_COUNTS_trusts : Tok}
    (a_COUNTS : PySem.W.nsIn K mainGlobals "COUNTS" = some (some (.ref B_COUNTS)))
    (ld_COUNTS : K.lookup B_COUNTS = some ⟨.type "dict", none, .dict es_COUNTS en_COUNTS, #[]⟩)
    (kl_COUNTS : PySem.W.KeysLit w.params es_COUNTS.toList)
    (lo_COUNTS : (B_COUNTS == sysModules) = false)
    (ek_COUNTS_strike : PySem.W.nsIn K B_COUNTS "strike" = some (some (.int 1 tk_COUNTS_strike)))
    (ek_COUNTS_undo : PySem.W.nsIn K B_COUNTS "undo" = some (some (.int 0 tk_COUNTS_undo)))
    (ek_COUNTS_redo : PySem.W.nsIn K B_COUNTS "redo" = some (some (.int 0 tk_COUNTS_redo)))
    (ek_COUNTS_row : PySem.W.nsIn K B_COUNTS "row" = some (some (.int 1 tk_COUNTS_row)))
    (ek_COUNTS_why : PySem.W.nsIn K B_COUNTS "why" = some (some (.int 1 tk_COUNTS_why)))
    (ek_COUNTS_owes : PySem.W.nsIn K B_COUNTS "owes" = some (some (.int 2 tk_COUNTS_owes)))
    (ek_COUNTS_trusts : PySem.W.nsIn K B_COUNTS "trusts" = some (some (.int 1 tk_COUNTS_trusts)))
    (kk_SHAPES : es_SHAPES.toList.map (fun e => keyS e.key) = (["toll", "board", "trust", "folk", "bargain", "pass", "lost", "paid"] : List Str).map some)
    (kk_ANSWERS : es_ANSWERS.toList.map (fun e => keyS e.key) = (["strike", "undo", "redo", "row", "why", "owes", "trusts"] : List Str).map some)
    (z_super : PySem.W.nsIn K mainGlobals "super" = some none)
    (htop : (l.prog.main.scope.names.lookup ("super" : Str)).isSome = false)
    (xst : PySem.W.nsIn K cStatics "thirdparty.any" = some none)
    (xsp : PySem.W.specialIn K (.builtin "object.__class__") "__get__" = some (some (.builtin "getset_descriptor.__get__")))
    (xtk : PySem.W.takesIn K (.builtin "object.__class__") = some true)
    {C_PikeError : Addr}
    (a_PikeError : PySem.W.nsIn K mainGlobals "PikeError" = some (some (.ref C_PikeError)))
    {C_Missing : Addr}
    (a_Missing : PySem.W.nsIn K mainGlobals "Missing" = some (some (.ref C_Missing)))
    {C_BadFact : Addr}
    (a_BadFact : PySem.W.nsIn K mainGlobals "BadFact" = some (some (.ref C_BadFact)))
    {C_NoFact : Addr}
    (a_NoFact : PySem.W.nsIn K mainGlobals "NoFact" = some (some (.ref C_NoFact)))
    {C_Other : Addr}
    (a_Other : PySem.W.nsIn K mainGlobals "Other" = some (some (.ref C_Other)))
    {C_Full : Addr}
    (a_Full : PySem.W.nsIn K mainGlobals "Full" = some (some (.ref C_Full)))
    {C_Nothing : Addr}
    (a_Nothing : PySem.W.nsIn K mainGlobals "Nothing" = some (some (.ref C_Nothing)))
    {f_c_PikeError_init cda_c_PikeError_init cc_c_PikeError_init : Addr} {od_c_PikeError_init od2_c_PikeError_init od3_c_PikeError_init an_c_PikeError_init : Option Addr} {sl_c_PikeError_init sl2_c_PikeError_init sl3_c_PikeError_init : Array (Option Value)} {oc_c_PikeError_init oc2_c_PikeError_init oc3_c_PikeError_init kV_c_PikeError_init dc_c_PikeError_init pm_c_PikeError_init ct_c_PikeError_init : Value} {vs_c_PikeError_init : Array Value} {fl_c_PikeError_init : Str} {tf_c_PikeError_init : Tok}
    (at_c_PikeError_init : PySem.W.findIn K (.ref C_PikeError) "__init__" = some (some (.ref f_c_PikeError_init)))
    (lk_c_PikeError_init : K.lookup f_c_PikeError_init = some ⟨oc_c_PikeError_init, od_c_PikeError_init, .func (PySem.W.ksFn "__init__" "PikeError.__init__" (defArgs s_c_PikeError_init) (defBody s_c_PikeError_init) (defScope s_c_PikeError_init) .none kV_c_PikeError_init dc_c_PikeError_init pm_c_PikeError_init an_c_PikeError_init (.ref cda_c_PikeError_init) ct_c_PikeError_init cc_c_PikeError_init), sl_c_PikeError_init⟩)
    (cdk_c_PikeError_init : PySem.W.codeIn K (.ref cda_c_PikeError_init) "PikeError.__init__" = true)
    (kf_c_PikeError_init : PySem.W.keepIn K (.ref f_c_PikeError_init) = true)
    (tyf_c_PikeError_init : PySem.W.typeIn K (.ref f_c_PikeError_init) = some (.type "function"))
    (fnf_c_PikeError_init : PySem.W.fnIn K f_c_PikeError_init = true)
    (lc_c_PikeError_init : K.lookup cc_c_PikeError_init = some ⟨oc2_c_PikeError_init, od2_c_PikeError_init, .cell (some (.ref C_PikeError)), sl2_c_PikeError_init⟩)
    (ld_c_PikeError_init : K.lookup cda_c_PikeError_init = some ⟨oc3_c_PikeError_init, od3_c_PikeError_init, .fields vs_c_PikeError_init, sl3_c_PikeError_init⟩)
    (hv_c_PikeError_init : vs_c_PikeError_init[2]? = some (.str fl_c_PikeError_init tf_c_PikeError_init))
    (hf_c_PikeError_init : ((l.prog.main.file : Str) == fl_c_PikeError_init) = true)
    {f_c_Missing_init cda_c_Missing_init cc_c_Missing_init : Addr} {od_c_Missing_init od2_c_Missing_init od3_c_Missing_init an_c_Missing_init : Option Addr} {sl_c_Missing_init sl2_c_Missing_init sl3_c_Missing_init : Array (Option Value)} {oc_c_Missing_init oc2_c_Missing_init oc3_c_Missing_init kV_c_Missing_init dc_c_Missing_init pm_c_Missing_init ct_c_Missing_init : Value} {vs_c_Missing_init : Array Value} {fl_c_Missing_init : Str} {tf_c_Missing_init : Tok}
    (at_c_Missing_init : PySem.W.findIn K (.ref C_Missing) "__init__" = some (some (.ref f_c_Missing_init)))
    (lk_c_Missing_init : K.lookup f_c_Missing_init = some ⟨oc_c_Missing_init, od_c_Missing_init, .func (PySem.W.ksFn "__init__" "Missing.__init__" (defArgs s_c_Missing_init) (defBody s_c_Missing_init) (defScope s_c_Missing_init) .none kV_c_Missing_init dc_c_Missing_init pm_c_Missing_init an_c_Missing_init (.ref cda_c_Missing_init) ct_c_Missing_init cc_c_Missing_init), sl_c_Missing_init⟩)
    (cdk_c_Missing_init : PySem.W.codeIn K (.ref cda_c_Missing_init) "Missing.__init__" = true)
    (kf_c_Missing_init : PySem.W.keepIn K (.ref f_c_Missing_init) = true)
    (tyf_c_Missing_init : PySem.W.typeIn K (.ref f_c_Missing_init) = some (.type "function"))
    (fnf_c_Missing_init : PySem.W.fnIn K f_c_Missing_init = true)
    (lc_c_Missing_init : K.lookup cc_c_Missing_init = some ⟨oc2_c_Missing_init, od2_c_Missing_init, .cell (some (.ref C_Missing)), sl2_c_Missing_init⟩)
    (ld_c_Missing_init : K.lookup cda_c_Missing_init = some ⟨oc3_c_Missing_init, od3_c_Missing_init, .fields vs_c_Missing_init, sl3_c_Missing_init⟩)
    (hv_c_Missing_init : vs_c_Missing_init[2]? = some (.str fl_c_Missing_init tf_c_Missing_init))
    (hf_c_Missing_init : ((l.prog.main.file : Str) == fl_c_Missing_init) = true)
    {f_c_BadFact_init cda_c_BadFact_init cc_c_BadFact_init : Addr} {od_c_BadFact_init od2_c_BadFact_init od3_c_BadFact_init an_c_BadFact_init : Option Addr} {sl_c_BadFact_init sl2_c_BadFact_init sl3_c_BadFact_init : Array (Option Value)} {oc_c_BadFact_init oc2_c_BadFact_init oc3_c_BadFact_init kV_c_BadFact_init dc_c_BadFact_init pm_c_BadFact_init ct_c_BadFact_init : Value} {vs_c_BadFact_init : Array Value} {fl_c_BadFact_init : Str} {tf_c_BadFact_init : Tok}
    (at_c_BadFact_init : PySem.W.findIn K (.ref C_BadFact) "__init__" = some (some (.ref f_c_BadFact_init)))
    (lk_c_BadFact_init : K.lookup f_c_BadFact_init = some ⟨oc_c_BadFact_init, od_c_BadFact_init, .func (PySem.W.ksFn "__init__" "BadFact.__init__" (defArgs s_c_BadFact_init) (defBody s_c_BadFact_init) (defScope s_c_BadFact_init) .none kV_c_BadFact_init dc_c_BadFact_init pm_c_BadFact_init an_c_BadFact_init (.ref cda_c_BadFact_init) ct_c_BadFact_init cc_c_BadFact_init), sl_c_BadFact_init⟩)
    (cdk_c_BadFact_init : PySem.W.codeIn K (.ref cda_c_BadFact_init) "BadFact.__init__" = true)
    (kf_c_BadFact_init : PySem.W.keepIn K (.ref f_c_BadFact_init) = true)
    (tyf_c_BadFact_init : PySem.W.typeIn K (.ref f_c_BadFact_init) = some (.type "function"))
    (fnf_c_BadFact_init : PySem.W.fnIn K f_c_BadFact_init = true)
    (lc_c_BadFact_init : K.lookup cc_c_BadFact_init = some ⟨oc2_c_BadFact_init, od2_c_BadFact_init, .cell (some (.ref C_BadFact)), sl2_c_BadFact_init⟩)
    (ld_c_BadFact_init : K.lookup cda_c_BadFact_init = some ⟨oc3_c_BadFact_init, od3_c_BadFact_init, .fields vs_c_BadFact_init, sl3_c_BadFact_init⟩)
    (hv_c_BadFact_init : vs_c_BadFact_init[2]? = some (.str fl_c_BadFact_init tf_c_BadFact_init))
    (hf_c_BadFact_init : ((l.prog.main.file : Str) == fl_c_BadFact_init) = true)
    {nm_BadFact q_BadFact : Str} {N_BadFact : Addr} {bs_BadFact bm_BadFact sub_BadFact : List Value} {sn_BadFact : List Str} {ab_BadFact : Bool} {col_BadFact : Option Bool} {dd_BadFact : Option Addr} {k0_BadFact k1_BadFact k2_BadFact k3_BadFact k5_BadFact : Option Value} {tn_BadFact : Tok}
    (cl_BadFact : K.lookup C_BadFact = some (excClassObj nm_BadFact q_BadFact C_BadFact N_BadFact bs_BadFact bm_BadFact true sn_BadFact sub_BadFact ab_BadFact col_BadFact dd_BadFact k0_BadFact k1_BadFact k2_BadFact k3_BadFact k5_BadFact "ValueError.__new__"))
    (rf_BadFact : PySem.ZEX.refsX false bm_BadFact = true)
    (kn_BadFact : k2_BadFact = some (.str "BadFact" tn_BadFact))
    (sa_BadFact : PySem.W.findIn K (.ref C_BadFact) "__setattr__" = some (some (.builtin "object.__setattr__")))
    (ex_BadFact : PySem.W.subIn K (.ref C_BadFact) (.type "BaseException") = some true)
    (ty_BadFact : PySem.W.typeIn K (.ref C_BadFact) = some (.type "type"))
    (kp_BadFact : PySem.W.keepIn K (.ref C_BadFact) = true)
    (ga_BadFact : PySem.W.findIn K (.ref C_BadFact) "__getattribute__" = some (some (.builtin "BaseException.__getattribute__")))
    (gg_BadFact : PySem.W.findIn K (.ref C_BadFact) "__getattr__" = some none)
    (ic_BadFact : PySem.W.isClsIn K C_BadFact = true)
    (ca_BadFact : PySem.W.findIn K (.ref C_BadFact) "__class__" = some (some (.builtin "object.__class__")))
    (ob_BadFact : PySem.W.mroIn K C_BadFact (.type "object") = some true)
    (cn_BadFact : PySem.W.findCls K (.ref C_BadFact) (.type "type") "__name__" = some (.get (.builtin "getset_descriptor.__get__") (.builtin "type.__name__") (.ref C_BadFact) (.type "type")))
    (icb_BadFact : PySem.W.isClsIn K C_PikeError = true)
    (mr_BadFact : PySem.W.mroIn K C_BadFact (.ref C_PikeError) = some true)
    (si_BadFact : PySem.W.ks_superIn K C_BadFact C_PikeError "__init__" = some (some (.builtin "ValueError.__init__")))
    (sb_BadFact : PySem.W.subIn K (.ref C_BadFact) (.type "ValueError") = some true)
    (noc_BadFact : PySem.W.findIn K (.ref C_BadFact) "called" = some none)
    (hd_BadFact : PySem.W.hasDictIn K C_BadFact = true)
    (ss_BadFact : PySem.W.subIn K (.ref C_BadFact) (.ref C_BadFact) = some true)
    (ini_BadFact : PySem.W.findIn K (.ref C_BadFact) "__init__" = some (some (.ref f_c_BadFact_init)))
    (mrs_BadFact : PySem.W.mroIn K C_BadFact (.ref C_BadFact) = some true)
    (sos_BadFact : PySem.W.ks_superIn K C_BadFact C_BadFact "__init__" = some (some (.ref f_c_PikeError_init)))
    (nof_BadFact : PySem.W.findIn K (.ref C_BadFact) "place" = some none)
    {nm_NoFact q_NoFact : Str} {N_NoFact : Addr} {bs_NoFact bm_NoFact sub_NoFact : List Value} {sn_NoFact : List Str} {ab_NoFact : Bool} {col_NoFact : Option Bool} {dd_NoFact : Option Addr} {k0_NoFact k1_NoFact k2_NoFact k3_NoFact k5_NoFact : Option Value} {tn_NoFact : Tok}
    (cl_NoFact : K.lookup C_NoFact = some (excClassObj nm_NoFact q_NoFact C_NoFact N_NoFact bs_NoFact bm_NoFact true sn_NoFact sub_NoFact ab_NoFact col_NoFact dd_NoFact k0_NoFact k1_NoFact k2_NoFact k3_NoFact k5_NoFact "LookupError.__new__"))
    (rf_NoFact : PySem.ZEX.refsX true bm_NoFact = true)
    (kn_NoFact : k2_NoFact = some (.str "NoFact" tn_NoFact))
    (sa_NoFact : PySem.W.findIn K (.ref C_NoFact) "__setattr__" = some (some (.builtin "object.__setattr__")))
    (ex_NoFact : PySem.W.subIn K (.ref C_NoFact) (.type "BaseException") = some true)
    (ty_NoFact : PySem.W.typeIn K (.ref C_NoFact) = some (.type "type"))
    (kp_NoFact : PySem.W.keepIn K (.ref C_NoFact) = true)
    (ga_NoFact : PySem.W.findIn K (.ref C_NoFact) "__getattribute__" = some (some (.builtin "BaseException.__getattribute__")))
    (gg_NoFact : PySem.W.findIn K (.ref C_NoFact) "__getattr__" = some none)
    (ic_NoFact : PySem.W.isClsIn K C_NoFact = true)
    (ca_NoFact : PySem.W.findIn K (.ref C_NoFact) "__class__" = some (some (.builtin "object.__class__")))
    (ob_NoFact : PySem.W.mroIn K C_NoFact (.type "object") = some true)
    (cn_NoFact : PySem.W.findCls K (.ref C_NoFact) (.type "type") "__name__" = some (.get (.builtin "getset_descriptor.__get__") (.builtin "type.__name__") (.ref C_NoFact) (.type "type")))
    (icb_NoFact : PySem.W.isClsIn K C_Missing = true)
    (mr_NoFact : PySem.W.mroIn K C_NoFact (.ref C_Missing) = some true)
    (si_NoFact : PySem.W.ks_superIn K C_NoFact C_Missing "__init__" = some (some (.builtin "KeyError.__init__")))
    (sb_NoFact : PySem.W.subIn K (.ref C_NoFact) (.type "KeyError") = some true)
    (noc_NoFact : PySem.W.findIn K (.ref C_NoFact) "called" = some none)
    (hd_NoFact : PySem.W.hasDictIn K C_NoFact = true)
    (ss_NoFact : PySem.W.subIn K (.ref C_NoFact) (.ref C_NoFact) = some true)
    (ini_NoFact : PySem.W.findIn K (.ref C_NoFact) "__init__" = some (some (.ref f_c_Missing_init)))
    (nof_NoFact : PySem.W.findIn K (.ref C_NoFact) "number" = some none)
    {nm_Other q_Other : Str} {N_Other : Addr} {bs_Other bm_Other sub_Other : List Value} {sn_Other : List Str} {ab_Other : Bool} {col_Other : Option Bool} {dd_Other : Option Addr} {k0_Other k1_Other k2_Other k3_Other k5_Other : Option Value} {tn_Other : Tok}
    (cl_Other : K.lookup C_Other = some (excClassObj nm_Other q_Other C_Other N_Other bs_Other bm_Other true sn_Other sub_Other ab_Other col_Other dd_Other k0_Other k1_Other k2_Other k3_Other k5_Other "ValueError.__new__"))
    (rf_Other : PySem.ZEX.refsX false bm_Other = true)
    (kn_Other : k2_Other = some (.str "Other" tn_Other))
    (sa_Other : PySem.W.findIn K (.ref C_Other) "__setattr__" = some (some (.builtin "object.__setattr__")))
    (ex_Other : PySem.W.subIn K (.ref C_Other) (.type "BaseException") = some true)
    (ty_Other : PySem.W.typeIn K (.ref C_Other) = some (.type "type"))
    (kp_Other : PySem.W.keepIn K (.ref C_Other) = true)
    (ga_Other : PySem.W.findIn K (.ref C_Other) "__getattribute__" = some (some (.builtin "BaseException.__getattribute__")))
    (gg_Other : PySem.W.findIn K (.ref C_Other) "__getattr__" = some none)
    (ic_Other : PySem.W.isClsIn K C_Other = true)
    (ca_Other : PySem.W.findIn K (.ref C_Other) "__class__" = some (some (.builtin "object.__class__")))
    (ob_Other : PySem.W.mroIn K C_Other (.type "object") = some true)
    (cn_Other : PySem.W.findCls K (.ref C_Other) (.type "type") "__name__" = some (.get (.builtin "getset_descriptor.__get__") (.builtin "type.__name__") (.ref C_Other) (.type "type")))
    (icb_Other : PySem.W.isClsIn K C_PikeError = true)
    (mr_Other : PySem.W.mroIn K C_Other (.ref C_PikeError) = some true)
    (si_Other : PySem.W.ks_superIn K C_Other C_PikeError "__init__" = some (some (.builtin "ValueError.__init__")))
    (sb_Other : PySem.W.subIn K (.ref C_Other) (.type "ValueError") = some true)
    (noc_Other : PySem.W.findIn K (.ref C_Other) "called" = some none)
    (hd_Other : PySem.W.hasDictIn K C_Other = true)
    (ss_Other : PySem.W.subIn K (.ref C_Other) (.ref C_Other) = some true)
    (ini_Other : PySem.W.findIn K (.ref C_Other) "__init__" = some (some (.ref f_c_PikeError_init)))
    {nm_Full q_Full : Str} {N_Full : Addr} {bs_Full bm_Full sub_Full : List Value} {sn_Full : List Str} {ab_Full : Bool} {col_Full : Option Bool} {dd_Full : Option Addr} {k0_Full k1_Full k2_Full k3_Full k5_Full : Option Value} {tn_Full : Tok}
    (cl_Full : K.lookup C_Full = some (excClassObj nm_Full q_Full C_Full N_Full bs_Full bm_Full true sn_Full sub_Full ab_Full col_Full dd_Full k0_Full k1_Full k2_Full k3_Full k5_Full "ValueError.__new__"))
    (rf_Full : PySem.ZEX.refsX false bm_Full = true)
    (kn_Full : k2_Full = some (.str "Full" tn_Full))
    (sa_Full : PySem.W.findIn K (.ref C_Full) "__setattr__" = some (some (.builtin "object.__setattr__")))
    (ex_Full : PySem.W.subIn K (.ref C_Full) (.type "BaseException") = some true)
    (ty_Full : PySem.W.typeIn K (.ref C_Full) = some (.type "type"))
    (kp_Full : PySem.W.keepIn K (.ref C_Full) = true)
    (ga_Full : PySem.W.findIn K (.ref C_Full) "__getattribute__" = some (some (.builtin "BaseException.__getattribute__")))
    (gg_Full : PySem.W.findIn K (.ref C_Full) "__getattr__" = some none)
    (ic_Full : PySem.W.isClsIn K C_Full = true)
    (ca_Full : PySem.W.findIn K (.ref C_Full) "__class__" = some (some (.builtin "object.__class__")))
    (ob_Full : PySem.W.mroIn K C_Full (.type "object") = some true)
    (cn_Full : PySem.W.findCls K (.ref C_Full) (.type "type") "__name__" = some (.get (.builtin "getset_descriptor.__get__") (.builtin "type.__name__") (.ref C_Full) (.type "type")))
    (icb_Full : PySem.W.isClsIn K C_PikeError = true)
    (mr_Full : PySem.W.mroIn K C_Full (.ref C_PikeError) = some true)
    (si_Full : PySem.W.ks_superIn K C_Full C_PikeError "__init__" = some (some (.builtin "ValueError.__init__")))
    (sb_Full : PySem.W.subIn K (.ref C_Full) (.type "ValueError") = some true)
    (noc_Full : PySem.W.findIn K (.ref C_Full) "called" = some none)
    (hd_Full : PySem.W.hasDictIn K C_Full = true)
    (ss_Full : PySem.W.subIn K (.ref C_Full) (.ref C_Full) = some true)
    (ini_Full : PySem.W.findIn K (.ref C_Full) "__init__" = some (some (.ref f_c_PikeError_init)))
    {nm_Nothing q_Nothing : Str} {N_Nothing : Addr} {bs_Nothing bm_Nothing sub_Nothing : List Value} {sn_Nothing : List Str} {ab_Nothing : Bool} {col_Nothing : Option Bool} {dd_Nothing : Option Addr} {k0_Nothing k1_Nothing k2_Nothing k3_Nothing k5_Nothing : Option Value} {tn_Nothing : Tok}
    (cl_Nothing : K.lookup C_Nothing = some (excClassObj nm_Nothing q_Nothing C_Nothing N_Nothing bs_Nothing bm_Nothing true sn_Nothing sub_Nothing ab_Nothing col_Nothing dd_Nothing k0_Nothing k1_Nothing k2_Nothing k3_Nothing k5_Nothing "ValueError.__new__"))
    (rf_Nothing : PySem.ZEX.refsX false bm_Nothing = true)
    (kn_Nothing : k2_Nothing = some (.str "Nothing" tn_Nothing))
    (sa_Nothing : PySem.W.findIn K (.ref C_Nothing) "__setattr__" = some (some (.builtin "object.__setattr__")))
    (ex_Nothing : PySem.W.subIn K (.ref C_Nothing) (.type "BaseException") = some true)
    (ty_Nothing : PySem.W.typeIn K (.ref C_Nothing) = some (.type "type"))
    (kp_Nothing : PySem.W.keepIn K (.ref C_Nothing) = true)
    (ga_Nothing : PySem.W.findIn K (.ref C_Nothing) "__getattribute__" = some (some (.builtin "BaseException.__getattribute__")))
    (gg_Nothing : PySem.W.findIn K (.ref C_Nothing) "__getattr__" = some none)
    (ic_Nothing : PySem.W.isClsIn K C_Nothing = true)
    (ca_Nothing : PySem.W.findIn K (.ref C_Nothing) "__class__" = some (some (.builtin "object.__class__")))
    (ob_Nothing : PySem.W.mroIn K C_Nothing (.type "object") = some true)
    (cn_Nothing : PySem.W.findCls K (.ref C_Nothing) (.type "type") "__name__" = some (.get (.builtin "getset_descriptor.__get__") (.builtin "type.__name__") (.ref C_Nothing) (.type "type")))
    (icb_Nothing : PySem.W.isClsIn K C_PikeError = true)
    (mr_Nothing : PySem.W.mroIn K C_Nothing (.ref C_PikeError) = some true)
    (si_Nothing : PySem.W.ks_superIn K C_Nothing C_PikeError "__init__" = some (some (.builtin "ValueError.__init__")))
    (sb_Nothing : PySem.W.subIn K (.ref C_Nothing) (.type "ValueError") = some true)
    (noc_Nothing : PySem.W.findIn K (.ref C_Nothing) "called" = some none)
    (hd_Nothing : PySem.W.hasDictIn K C_Nothing = true)
    (ss_Nothing : PySem.W.subIn K (.ref C_Nothing) (.ref C_Nothing) = some true)
    (ini_Nothing : PySem.W.findIn K (.ref C_Nothing) "__init__" = some (some (.ref f_c_PikeError_init)))
    (ex_Missing : PySem.W.subIn K (.ref C_Missing) (.type "BaseException") = some true)
    (ic_Missing : PySem.W.isClsIn K C_Missing = true)
    (ty_Missing : PySem.W.typeIn K (.ref C_Missing) = some (.type "type"))
    (ex_PikeError : PySem.W.subIn K (.ref C_PikeError) (.type "BaseException") = some true)
    (ic_PikeError : PySem.W.isClsIn K C_PikeError = true)
    (ty_PikeError : PySem.W.typeIn K (.ref C_PikeError) = some (.type "type"))
    (ssx_NoFact_PikeError : PySem.W.subIn K (.ref C_NoFact) (.ref C_PikeError) = some false)
    (ssx_BadFact_PikeError : PySem.W.subIn K (.ref C_BadFact) (.ref C_PikeError) = some true)
    (ssx_Other_PikeError : PySem.W.subIn K (.ref C_Other) (.ref C_PikeError) = some true)
    (ssx_Full_PikeError : PySem.W.subIn K (.ref C_Full) (.ref C_PikeError) = some true)
    (ssx_Nothing_PikeError : PySem.W.subIn K (.ref C_Nothing) (.ref C_PikeError) = some true)
    (ssx_NoFact_Missing : PySem.W.subIn K (.ref C_NoFact) (.ref C_Missing) = some true)
    (ssx_BadFact_Missing : PySem.W.subIn K (.ref C_BadFact) (.ref C_Missing) = some false)
    (ssx_Other_Missing : PySem.W.subIn K (.ref C_Other) (.ref C_Missing) = some false)
    (ssx_Full_Missing : PySem.W.subIn K (.ref C_Full) (.ref C_Missing) = some false)
    (ssx_Nothing_Missing : PySem.W.subIn K (.ref C_Nothing) (.ref C_Missing) = some false)
    (a_Roll : PySem.W.nsIn K mainGlobals "Roll" = some (some (.ref C_Roll)))
    (pg_Roll : PySem.W.plainGet K C_Roll Str.empty = true)
    (hd_Roll : PySem.W.hasDictIn K C_Roll = true)
    (po_Roll : PySem.W.plainOver K C_Roll = true)
    (sa_Roll : PySem.W.findIn K (.ref C_Roll) "__setattr__" = some (some (.builtin "object.__setattr__")))
    (kp_Roll : PySem.W.keepIn K (.ref C_Roll) = true)
    (mki_Roll : PySem.W.makesIn K C_Roll = true)
    (ob_Roll : PySem.W.mroIn K C_Roll (.type "object") = some true)
    (ic_Roll : PySem.W.isClsIn K C_Roll = true)
    (tm_Roll : PySem.W.typeIn K (.ref C_Roll) = some (.type "type"))
    (nfo_Roll : PySem.W.notFirst K C_Roll (.ref C_Roll) = true)
    (clo_Roll : PySem.W.findIn K (.ref C_Roll) "__class__" = some (some (.builtin "object.__class__")))
    (gto_Roll : PySem.W.specialIn K (.builtin "object.__class__") "__get__" = some (some (.builtin "getset_descriptor.__get__")))
    (tko_Roll : PySem.W.takesIn K (.builtin "object.__class__") = some true)
    (na_Roll_states : PySem.W.findIn K (.ref C_Roll) "states" = some none)
    (na_Roll_undone : PySem.W.findIn K (.ref C_Roll) "undone" = some none)
    (at_c_Roll_init : PySem.W.findIn K (.ref C_Roll) "__init__" = some (some (.ref f_c_Roll_init)))
    (fn_c_Roll_init : PySem.W.isFn K (.ref f_c_Roll_init) = true)
    (lk_c_Roll_init : K.lookup f_c_Roll_init = some ⟨oc_c_Roll_init, od_c_Roll_init, .func (PySem.W.fnOf "__init__" "Roll.__init__" (defArgs s_c_Roll_init) (defBody s_c_Roll_init) (defScope s_c_Roll_init) .none kV_c_Roll_init dc_c_Roll_init pm_c_Roll_init an_c_Roll_init cd_c_Roll_init ct_c_Roll_init), sl_c_Roll_init⟩)
    (cd_ok_c_Roll_init : PySem.W.codeIn K cd_c_Roll_init "Roll.__init__" = true)
    (kf_c_Roll_init : PySem.W.keepIn K (.ref f_c_Roll_init) = true)
    (at_c_Roll_len : PySem.W.findIn K (.ref C_Roll) "__len__" = some (some (.ref f_c_Roll_len)))
    (fn_c_Roll_len : PySem.W.isFn K (.ref f_c_Roll_len) = true)
    (lk_c_Roll_len : K.lookup f_c_Roll_len = some ⟨oc_c_Roll_len, od_c_Roll_len, .func (PySem.W.fnOf "__len__" "Roll.__len__" (defArgs s_c_Roll_len) (defBody s_c_Roll_len) (defScope s_c_Roll_len) .none kV_c_Roll_len dc_c_Roll_len pm_c_Roll_len an_c_Roll_len cd_c_Roll_len ct_c_Roll_len), sl_c_Roll_len⟩)
    (cd_ok_c_Roll_len : PySem.W.codeIn K cd_c_Roll_len "Roll.__len__" = true)
    (kf_c_Roll_len : PySem.W.keepIn K (.ref f_c_Roll_len) = true)
    (at_c_Roll_need_standing : PySem.W.findIn K (.ref C_Roll) "need_standing" = some (some (.ref f_c_Roll_need_standing)))
    (fn_c_Roll_need_standing : PySem.W.isFn K (.ref f_c_Roll_need_standing) = true)
    (lk_c_Roll_need_standing : K.lookup f_c_Roll_need_standing = some ⟨oc_c_Roll_need_standing, od_c_Roll_need_standing, .func (PySem.W.fnOf "need_standing" "Roll.need_standing" (defArgs s_c_Roll_need_standing) (defBody s_c_Roll_need_standing) (defScope s_c_Roll_need_standing) .none kV_c_Roll_need_standing dc_c_Roll_need_standing pm_c_Roll_need_standing an_c_Roll_need_standing cd_c_Roll_need_standing ct_c_Roll_need_standing), sl_c_Roll_need_standing⟩)
    (cd_ok_c_Roll_need_standing : PySem.W.codeIn K cd_c_Roll_need_standing "Roll.need_standing" = true)
    (kf_c_Roll_need_standing : PySem.W.keepIn K (.ref f_c_Roll_need_standing) = true)
    (at_c_Roll_enter : PySem.W.findIn K (.ref C_Roll) "enter" = some (some (.ref f_c_Roll_enter)))
    (fn_c_Roll_enter : PySem.W.isFn K (.ref f_c_Roll_enter) = true)
    (lk_c_Roll_enter : K.lookup f_c_Roll_enter = some ⟨oc_c_Roll_enter, od_c_Roll_enter, .func (PySem.W.fnOf "enter" "Roll.enter" (defArgs s_c_Roll_enter) (defBody s_c_Roll_enter) (defScope s_c_Roll_enter) .none kV_c_Roll_enter dc_c_Roll_enter pm_c_Roll_enter an_c_Roll_enter cd_c_Roll_enter ct_c_Roll_enter), sl_c_Roll_enter⟩)
    (cd_ok_c_Roll_enter : PySem.W.codeIn K cd_c_Roll_enter "Roll.enter" = true)
    (kf_c_Roll_enter : PySem.W.keepIn K (.ref f_c_Roll_enter) = true)
    (at_c_Roll_replace_fact : PySem.W.findIn K (.ref C_Roll) "replace_fact" = some (some (.ref f_c_Roll_replace_fact)))
    (fn_c_Roll_replace_fact : PySem.W.isFn K (.ref f_c_Roll_replace_fact) = true)
    (lk_c_Roll_replace_fact : K.lookup f_c_Roll_replace_fact = some ⟨oc_c_Roll_replace_fact, od_c_Roll_replace_fact, .func (PySem.W.fnOf "replace_fact" "Roll.replace_fact" (defArgs s_c_Roll_replace_fact) (defBody s_c_Roll_replace_fact) (defScope s_c_Roll_replace_fact) .none kV_c_Roll_replace_fact dc_c_Roll_replace_fact pm_c_Roll_replace_fact an_c_Roll_replace_fact cd_c_Roll_replace_fact ct_c_Roll_replace_fact), sl_c_Roll_replace_fact⟩)
    (cd_ok_c_Roll_replace_fact : PySem.W.codeIn K cd_c_Roll_replace_fact "Roll.replace_fact" = true)
    (kf_c_Roll_replace_fact : PySem.W.keepIn K (.ref f_c_Roll_replace_fact) = true)
    (at_c_Roll_tell : PySem.W.findIn K (.ref C_Roll) "tell" = some (some (.ref f_c_Roll_tell)))
    (fn_c_Roll_tell : PySem.W.isFn K (.ref f_c_Roll_tell) = true)
    (lk_c_Roll_tell : K.lookup f_c_Roll_tell = some ⟨oc_c_Roll_tell, od_c_Roll_tell, .func (PySem.W.fnOf "tell" "Roll.tell" (defArgs s_c_Roll_tell) (defBody s_c_Roll_tell) (defScope s_c_Roll_tell) .none kV_c_Roll_tell dc_c_Roll_tell pm_c_Roll_tell an_c_Roll_tell cd_c_Roll_tell ct_c_Roll_tell), sl_c_Roll_tell⟩)
    (cd_ok_c_Roll_tell : PySem.W.codeIn K cd_c_Roll_tell "Roll.tell" = true)
    (kf_c_Roll_tell : PySem.W.keepIn K (.ref f_c_Roll_tell) = true)
    (at_c_Roll_right : PySem.W.findIn K (.ref C_Roll) "right" = some (some (.ref f_c_Roll_right)))
    (fn_c_Roll_right : PySem.W.isFn K (.ref f_c_Roll_right) = true)
    (lk_c_Roll_right : K.lookup f_c_Roll_right = some ⟨oc_c_Roll_right, od_c_Roll_right, .func (PySem.W.fnOf "right" "Roll.right" (defArgs s_c_Roll_right) (defBody s_c_Roll_right) (defScope s_c_Roll_right) .none kV_c_Roll_right dc_c_Roll_right pm_c_Roll_right an_c_Roll_right cd_c_Roll_right ct_c_Roll_right), sl_c_Roll_right⟩)
    (cd_ok_c_Roll_right : PySem.W.codeIn K cd_c_Roll_right "Roll.right" = true)
    (kf_c_Roll_right : PySem.W.keepIn K (.ref f_c_Roll_right) = true)
    (at_c_Roll_strike : PySem.W.findIn K (.ref C_Roll) "strike" = some (some (.ref f_c_Roll_strike)))
    (fn_c_Roll_strike : PySem.W.isFn K (.ref f_c_Roll_strike) = true)
    (lk_c_Roll_strike : K.lookup f_c_Roll_strike = some ⟨oc_c_Roll_strike, od_c_Roll_strike, .func (PySem.W.fnOf "strike" "Roll.strike" (defArgs s_c_Roll_strike) (defBody s_c_Roll_strike) (defScope s_c_Roll_strike) .none kV_c_Roll_strike dc_c_Roll_strike pm_c_Roll_strike an_c_Roll_strike cd_c_Roll_strike ct_c_Roll_strike), sl_c_Roll_strike⟩)
    (cd_ok_c_Roll_strike : PySem.W.codeIn K cd_c_Roll_strike "Roll.strike" = true)
    (kf_c_Roll_strike : PySem.W.keepIn K (.ref f_c_Roll_strike) = true)
    (at_c_Roll_undo : PySem.W.findIn K (.ref C_Roll) "undo" = some (some (.ref f_c_Roll_undo)))
    (fn_c_Roll_undo : PySem.W.isFn K (.ref f_c_Roll_undo) = true)
    (lk_c_Roll_undo : K.lookup f_c_Roll_undo = some ⟨oc_c_Roll_undo, od_c_Roll_undo, .func (PySem.W.fnOf "undo" "Roll.undo" (defArgs s_c_Roll_undo) (defBody s_c_Roll_undo) (defScope s_c_Roll_undo) .none kV_c_Roll_undo dc_c_Roll_undo pm_c_Roll_undo an_c_Roll_undo cd_c_Roll_undo ct_c_Roll_undo), sl_c_Roll_undo⟩)
    (cd_ok_c_Roll_undo : PySem.W.codeIn K cd_c_Roll_undo "Roll.undo" = true)
    (kf_c_Roll_undo : PySem.W.keepIn K (.ref f_c_Roll_undo) = true)
    (at_c_Roll_redo : PySem.W.findIn K (.ref C_Roll) "redo" = some (some (.ref f_c_Roll_redo)))
    (fn_c_Roll_redo : PySem.W.isFn K (.ref f_c_Roll_redo) = true)
    (lk_c_Roll_redo : K.lookup f_c_Roll_redo = some ⟨oc_c_Roll_redo, od_c_Roll_redo, .func (PySem.W.fnOf "redo" "Roll.redo" (defArgs s_c_Roll_redo) (defBody s_c_Roll_redo) (defScope s_c_Roll_redo) .none kV_c_Roll_redo dc_c_Roll_redo pm_c_Roll_redo an_c_Roll_redo cd_c_Roll_redo ct_c_Roll_redo), sl_c_Roll_redo⟩)
    (cd_ok_c_Roll_redo : PySem.W.codeIn K cd_c_Roll_redo "Roll.redo" = true)
    (kf_c_Roll_redo : PySem.W.keepIn K (.ref f_c_Roll_redo) = true)
    (at_c_Roll_facts : PySem.W.findIn K (.ref C_Roll) "facts" = some (some (.ref f_c_Roll_facts)))
    (fn_c_Roll_facts : PySem.W.isFn K (.ref f_c_Roll_facts) = true)
    (lk_c_Roll_facts : K.lookup f_c_Roll_facts = some ⟨oc_c_Roll_facts, od_c_Roll_facts, .func (PySem.W.fnOf "facts" "Roll.facts" (defArgs s_c_Roll_facts) (defBody s_c_Roll_facts) (defScope s_c_Roll_facts) .none kV_c_Roll_facts dc_c_Roll_facts pm_c_Roll_facts an_c_Roll_facts cd_c_Roll_facts ct_c_Roll_facts), sl_c_Roll_facts⟩)
    (cd_ok_c_Roll_facts : PySem.W.codeIn K cd_c_Roll_facts "Roll.facts" = true)
    (kf_c_Roll_facts : PySem.W.keepIn K (.ref f_c_Roll_facts) = true)
    (at_c_Roll_told : PySem.W.findIn K (.ref C_Roll) "told" = some (some (.ref f_c_Roll_told)))
    (fn_c_Roll_told : PySem.W.isFn K (.ref f_c_Roll_told) = true)
    (lk_c_Roll_told : K.lookup f_c_Roll_told = some ⟨oc_c_Roll_told, od_c_Roll_told, .func (PySem.W.fnOf "told" "Roll.told" (defArgs s_c_Roll_told) (defBody s_c_Roll_told) (defScope s_c_Roll_told) .none kV_c_Roll_told dc_c_Roll_told pm_c_Roll_told an_c_Roll_told cd_c_Roll_told ct_c_Roll_told), sl_c_Roll_told⟩)
    (cd_ok_c_Roll_told : PySem.W.codeIn K cd_c_Roll_told "Roll.told" = true)
    (kf_c_Roll_told : PySem.W.keepIn K (.ref f_c_Roll_told) = true)
    (at_c_Roll_deeds : PySem.W.findIn K (.ref C_Roll) "deeds" = some (some (.ref f_c_Roll_deeds)))
    (fn_c_Roll_deeds : PySem.W.isFn K (.ref f_c_Roll_deeds) = true)
    (lk_c_Roll_deeds : K.lookup f_c_Roll_deeds = some ⟨oc_c_Roll_deeds, od_c_Roll_deeds, .func (PySem.W.fnOf "deeds" "Roll.deeds" (defArgs s_c_Roll_deeds) (defBody s_c_Roll_deeds) (defScope s_c_Roll_deeds) .none kV_c_Roll_deeds dc_c_Roll_deeds pm_c_Roll_deeds an_c_Roll_deeds cd_c_Roll_deeds ct_c_Roll_deeds), sl_c_Roll_deeds⟩)
    (cd_ok_c_Roll_deeds : PySem.W.codeIn K cd_c_Roll_deeds "Roll.deeds" = true)
    (kf_c_Roll_deeds : PySem.W.keepIn K (.ref f_c_Roll_deeds) = true)
    (at_c_Roll_twin : PySem.W.findIn K (.ref C_Roll) "twin" = some (some (.ref f_c_Roll_twin)))
    (fn_c_Roll_twin : PySem.W.isFn K (.ref f_c_Roll_twin) = true)
    (lk_c_Roll_twin : K.lookup f_c_Roll_twin = some ⟨oc_c_Roll_twin, od_c_Roll_twin, .func (PySem.W.fnOf "twin" "Roll.twin" (defArgs s_c_Roll_twin) (defBody s_c_Roll_twin) (defScope s_c_Roll_twin) .none kV_c_Roll_twin dc_c_Roll_twin pm_c_Roll_twin an_c_Roll_twin cd_c_Roll_twin ct_c_Roll_twin), sl_c_Roll_twin⟩)
    (cd_ok_c_Roll_twin : PySem.W.codeIn K cd_c_Roll_twin "Roll.twin" = true)
    (kf_c_Roll_twin : PySem.W.keepIn K (.ref f_c_Roll_twin) = true)
    (a_Desk : PySem.W.nsIn K mainGlobals "Desk" = some (some (.ref C_Desk)))
    (pg_Desk : PySem.W.plainGet K C_Desk Str.empty = true)
    (hd_Desk : PySem.W.hasDictIn K C_Desk = true)
    (po_Desk : PySem.W.plainOver K C_Desk = true)
    (sa_Desk : PySem.W.findIn K (.ref C_Desk) "__setattr__" = some (some (.builtin "object.__setattr__")))
    (kp_Desk : PySem.W.keepIn K (.ref C_Desk) = true)
    (mki_Desk : PySem.W.makesIn K C_Desk = true)
    (ob_Desk : PySem.W.mroIn K C_Desk (.type "object") = some true)
    (ic_Desk : PySem.W.isClsIn K C_Desk = true)
    (tm_Desk : PySem.W.typeIn K (.ref C_Desk) = some (.type "type"))
    (nfo_Desk : PySem.W.notFirst K C_Desk (.ref C_Desk) = true)
    (clo_Desk : PySem.W.findIn K (.ref C_Desk) "__class__" = some (some (.builtin "object.__class__")))
    (gto_Desk : PySem.W.specialIn K (.builtin "object.__class__") "__get__" = some (some (.builtin "getset_descriptor.__get__")))
    (tko_Desk : PySem.W.takesIn K (.builtin "object.__class__") = some true)
    (na_Desk_held : PySem.W.findIn K (.ref C_Desk) "held" = some none)
    (at_c_Desk_init : PySem.W.findIn K (.ref C_Desk) "__init__" = some (some (.ref f_c_Desk_init)))
    (fn_c_Desk_init : PySem.W.isFn K (.ref f_c_Desk_init) = true)
    (lk_c_Desk_init : K.lookup f_c_Desk_init = some ⟨oc_c_Desk_init, od_c_Desk_init, .func (PySem.W.fnOf "__init__" "Desk.__init__" (defArgs s_c_Desk_init) (defBody s_c_Desk_init) (defScope s_c_Desk_init) (.ref dT_c_Desk_init) kV_c_Desk_init dc_c_Desk_init pm_c_Desk_init an_c_Desk_init cd_c_Desk_init ct_c_Desk_init), sl_c_Desk_init⟩)
    (cd_ok_c_Desk_init : PySem.W.codeIn K cd_c_Desk_init "Desk.__init__" = true)
    (kf_c_Desk_init : PySem.W.keepIn K (.ref f_c_Desk_init) = true)
    (dl_c_Desk_init : K.lookup dT_c_Desk_init = some ⟨doc_c_Desk_init, dod_c_Desk_init, .seq #[.none] dn_c_Desk_init, dsl_c_Desk_init⟩)
    (at_c_Desk_say : PySem.W.findIn K (.ref C_Desk) "say" = some (some (.ref f_c_Desk_say)))
    (fn_c_Desk_say : PySem.W.isFn K (.ref f_c_Desk_say) = true)
    (lk_c_Desk_say : K.lookup f_c_Desk_say = some ⟨oc_c_Desk_say, od_c_Desk_say, .func (PySem.W.fnOf "say" "Desk.say" (defArgs s_c_Desk_say) (defBody s_c_Desk_say) (defScope s_c_Desk_say) .none kV_c_Desk_say dc_c_Desk_say pm_c_Desk_say an_c_Desk_say cd_c_Desk_say ct_c_Desk_say), sl_c_Desk_say⟩)
    (cd_ok_c_Desk_say : PySem.W.codeIn K cd_c_Desk_say "Desk.say" = true)
    (kf_c_Desk_say : PySem.W.keepIn K (.ref f_c_Desk_say) = true)
    (at_c_Desk_roll : PySem.W.findIn K (.ref C_Desk) "roll" = some (some (.ref f_c_Desk_roll)))
    (fn_c_Desk_roll : PySem.W.isFn K (.ref f_c_Desk_roll) = true)
    (lk_c_Desk_roll : K.lookup f_c_Desk_roll = some ⟨oc_c_Desk_roll, od_c_Desk_roll, .func (PySem.W.fnOf "roll" "Desk.roll" (defArgs s_c_Desk_roll) (defBody s_c_Desk_roll) (defScope s_c_Desk_roll) .none kV_c_Desk_roll dc_c_Desk_roll pm_c_Desk_roll an_c_Desk_roll cd_c_Desk_roll ct_c_Desk_roll), sl_c_Desk_roll⟩)
    (cd_ok_c_Desk_roll : PySem.W.codeIn K cd_c_Desk_roll "Desk.roll" = true)
    (kf_c_Desk_roll : PySem.W.keepIn K (.ref f_c_Desk_roll) = true)
    : ∃ fd : FuncData, (∀ (s : Shared) (v : Value), BindsTo s fd ⟨[v], []⟩ [("_law_script", v)]) ∧ ∀ base : Heap, K.In base → base.Ns mainGlobals mg → FnOk l.prog w K mg base CX0 16 fa fd ["_law_script"] (spLaw K) := by
  have e := hfa.symm.trans (PySem.W.mg_of X G aL)
  cases e
  have F0 := fun_mk (st := s_p_is_number) l0 c0 k0
  have b0 := F0.binds (ps := ["thing"]) fun _ _ _ _ _ _ us hl => match us, hl with | [_], _ => rfl
  have F1 := fun_mk (st := s_p_is_good) l1 c1 k1
  have b1 := F1.binds (ps := ["kind", "number"]) fun _ _ _ _ _ _ us hl => match us, hl with | [_, _], _ => rfl
  have F2 := fun_mk (st := s_p_are_rising) l2 c2 k2
  have b2 := F2.binds (ps := ["kind", "numbers"]) fun _ _ _ _ _ _ us hl => match us, hl with | [_, _], _ => rfl
  have F3 := fun_mk (st := s_p_need_fact) l3 c3 k3
  have b3 := F3.binds (ps := ["fact"]) fun _ _ _ _ _ _ us hl => match us, hl with | [_], _ => rfl
  have F4 := fun_mk (st := s_p_fact_text) l4 c4 k4
  have b4 := F4.binds (ps := ["fact"]) fun _ _ _ _ _ _ us hl => match us, hl with | [_], _ => rfl
  have F5 := fun_mk (st := s_p_page_of) l5 c5 k5
  have b5 := F5.binds (ps := ["roll"]) fun _ _ _ _ _ _ us hl => match us, hl with | [_], _ => rfl
  have F6 := fun_mk (st := s_p_is_number_text) l6 c6 k6
  have b6 := F6.binds (ps := ["word"]) fun _ _ _ _ _ _ us hl => match us, hl with | [_], _ => rfl
  have F7 := fun_mk (st := s_p_read_numbers) l7 c7 k7
  have b7 := F7.binds (ps := ["words"]) fun _ _ _ _ _ _ us hl => match us, hl with | [_], _ => rfl
  have F8 := fun_mk (st := s_p_read_fact) l8 c8 k8
  have b8 := F8.binds (ps := ["words"]) fun _ _ _ _ _ _ us hl => match us, hl with | [_], _ => rfl
  have F9 := fun_mk (st := s_p_strike_line) l9 c9 k9
  have b9 := F9.binds (ps := ["roll", "number"]) fun _ _ _ _ _ _ us hl => match us, hl with | [_, _], _ => rfl
  have F10 := fun_mk (st := s_p_undo_line) l10 c10 k10
  have b10 := F10.binds (ps := ["roll"]) fun _ _ _ _ _ _ us hl => match us, hl with | [_], _ => rfl
  have F11 := fun_mk (st := s_p_redo_line) l11 c11 k11
  have b11 := F11.binds (ps := ["roll"]) fun _ _ _ _ _ _ us hl => match us, hl with | [_], _ => rfl
  have F12 := fun_mk (st := s_p_row_line) l12 c12 k12
  have b12 := F12.binds (ps := ["roll", "number"]) fun _ _ _ _ _ _ us hl => match us, hl with | [_, _], _ => rfl
  have F13 := fun_mk (st := s_p_why_line) l13 c13 k13
  have b13 := F13.binds (ps := ["roll", "number"]) fun _ _ _ _ _ _ us hl => match us, hl with | [_, _], _ => rfl
  have F14 := fun_mk (st := s_p_owes_line) l14 c14 k14
  have b14 := F14.binds (ps := ["roll", "carriage", "day"]) fun _ _ _ _ _ _ us hl => match us, hl with | [_, _, _], _ => rfl
  have F15 := fun_mk (st := s_p_trusts_line) l15 c15 k15
  have b15 := F15.binds (ps := ["roll", "day"]) fun _ _ _ _ _ _ us hl => match us, hl with | [_, _], _ => rfl
  have F16 := fun_mk (st := s_p_right_line) l16 c16 k16
  have b16 := F16.binds (ps := ["roll", "words"]) fun _ _ _ _ _ _ us hl => match us, hl with | [_, _], _ => rfl
  have F17 := fun_mk (st := s_p_numbers_line) l17 c17 k17
  have b17 := F17.binds (ps := ["roll", "word", "words"]) fun _ _ _ _ _ _ us hl => match us, hl with | [_, _, _], _ => rfl
  have F18 := fun_mk (st := s_p_answer) l18 c18 k18
  have b18 := F18.binds (ps := ["roll", "words"]) fun _ _ _ _ _ _ us hl => match us, hl with | [_, _], _ => rfl
  have F19 := fun_mk (st := s_l_bag) l19 c19 k19
  have b19 := F19.binds (ps := ["_law_script"]) fun _ _ _ _ _ _ us hl => match us, hl with | [_], _ => rfl
  have F20 := fun_mk (st := s_l_pull) l20 c20 k20
  have b20 := F20.binds (ps := ["_law_bag_here", "_law_amount"]) fun _ _ _ _ _ _ us hl => match us, hl with | [_, _], _ => rfl
  have F21 := fun_mk (st := s_l_like) l21 c21 k21
  have b21 := F21.binds (ps := ["_law_found", "_law_due"]) fun _ _ _ _ _ _ us hl => match us, hl with | [_, _], _ => rfl
  have F22 := fun_mk (st := s_l_gate) l22 c22 k22
  have b22 := F22.binds (ps := ["_law_bag_here"]) fun _ _ _ _ _ _ us hl => match us, hl with | [_], _ => rfl
  have F23 := fun_mk (st := s_l_day) l23 c23 k23
  have b23 := F23.binds (ps := ["_law_bag_here"]) fun _ _ _ _ _ _ us hl => match us, hl with | [_], _ => rfl
  have F24 := fun_mk (st := s_l_board) l24 c24 k24
  have b24 := F24.binds (ps := ["_law_bag_here"]) fun _ _ _ _ _ _ us hl => match us, hl with | [_], _ => rfl
  have F25 := fun_mk (st := s_l_passing) l25 c25 k25
  have b25 := F25.binds (ps := ["_law_bag_here"]) fun _ _ _ _ _ _ us hl => match us, hl with | [_], _ => rfl
  have F26 := fun_mk (st := s_l_stretch) l26 c26 k26
  have b26 := F26.binds (ps := ["_law_bag_here"]) fun _ _ _ _ _ _ us hl => match us, hl with | [_], _ => rfl
  have F27 := fun_mk (st := s_l_fact) l27 c27 k27
  have b27 := F27.binds (ps := ["_law_bag_here", "_law_amount"]) fun _ _ _ _ _ _ us hl => match us, hl with | [_, _], _ => rfl
  have F28 := fun_mk (st := s_l_text) l28 c28 k28
  have b28 := F28.binds (ps := ["_law_fact_here"]) fun _ _ _ _ _ _ us hl => match us, hl with | [_], _ => rfl
  have F29 := fun_mk (st := s_l_number_read) l29 c29 k29
  have b29 := F29.binds (ps := ["_law_word"]) fun _ _ _ _ _ _ us hl => match us, hl with | [_], _ => rfl
  have F30 := fun_mk (st := s_l_fact_read) l30 c30 k30
  have b30 := F30.binds (ps := ["_law_words"]) fun _ _ _ _ _ _ us hl => match us, hl with | [_], _ => rfl
  have F31 := fun_mk (st := s_l_words_bent) l31 c31 k31
  have b31 := F31.binds (ps := ["_law_bag_here", "_law_row"]) fun _ _ _ _ _ _ us hl => match us, hl with | [_, _], _ => rfl
  have F32 := fun_mk (st := s_l_sign) l32 c32 k32
  have b32 := F32.binds (ps := ["_law_bag_here"]) fun _ _ _ _ _ _ us hl => match us, hl with | [_], _ => rfl
  have F33 := fun_mk (st := s_l_text_bent) l33 c33 k33
  have b33 := F33.binds (ps := ["_law_bag_here", "_law_text_here"]) fun _ _ _ _ _ _ us hl => match us, hl with | [_, _], _ => rfl
  have F34 := fun_mk (st := s_l_is_line) l34 c34 k34
  have b34 := F34.binds (ps := ["_law_line"]) fun _ _ _ _ _ _ us hl => match us, hl with | [_], _ => rfl
  have F_c_Roll_init := fun_mk (st := s_c_Roll_init) lk_c_Roll_init cd_ok_c_Roll_init kf_c_Roll_init
  have b_c_Roll_init := F_c_Roll_init.binds (ps := ["self"]) fun _ _ _ _ _ _ us hl => match us, hl with | [_], _ => rfl
  have F_c_Roll_len := fun_mk (st := s_c_Roll_len) lk_c_Roll_len cd_ok_c_Roll_len kf_c_Roll_len
  have b_c_Roll_len := F_c_Roll_len.binds (ps := ["self"]) fun _ _ _ _ _ _ us hl => match us, hl with | [_], _ => rfl
  have F_c_Roll_need_standing := fun_mk (st := s_c_Roll_need_standing) lk_c_Roll_need_standing cd_ok_c_Roll_need_standing kf_c_Roll_need_standing
  have b_c_Roll_need_standing := F_c_Roll_need_standing.binds (ps := ["self", "number"]) fun _ _ _ _ _ _ us hl => match us, hl with | [_, _], _ => rfl
  have F_c_Roll_enter := fun_mk (st := s_c_Roll_enter) lk_c_Roll_enter cd_ok_c_Roll_enter kf_c_Roll_enter
  have b_c_Roll_enter := F_c_Roll_enter.binds (ps := ["self", "state"]) fun _ _ _ _ _ _ us hl => match us, hl with | [_, _], _ => rfl
  have F_c_Roll_replace_fact := fun_mk (st := s_c_Roll_replace_fact) lk_c_Roll_replace_fact cd_ok_c_Roll_replace_fact kf_c_Roll_replace_fact
  have b_c_Roll_replace_fact := F_c_Roll_replace_fact.binds (ps := ["self", "number", "fact"]) fun _ _ _ _ _ _ us hl => match us, hl with | [_, _, _], _ => rfl
  have F_c_Roll_tell := fun_mk (st := s_c_Roll_tell) lk_c_Roll_tell cd_ok_c_Roll_tell kf_c_Roll_tell
  have b_c_Roll_tell := F_c_Roll_tell.binds (ps := ["self", "fact"]) fun _ _ _ _ _ _ us hl => match us, hl with | [_, _], _ => rfl
  have F_c_Roll_right := fun_mk (st := s_c_Roll_right) lk_c_Roll_right cd_ok_c_Roll_right kf_c_Roll_right
  have b_c_Roll_right := F_c_Roll_right.binds (ps := ["self", "number", "fact"]) fun _ _ _ _ _ _ us hl => match us, hl with | [_, _, _], _ => rfl
  have F_c_Roll_strike := fun_mk (st := s_c_Roll_strike) lk_c_Roll_strike cd_ok_c_Roll_strike kf_c_Roll_strike
  have b_c_Roll_strike := F_c_Roll_strike.binds (ps := ["self", "number"]) fun _ _ _ _ _ _ us hl => match us, hl with | [_, _], _ => rfl
  have F_c_Roll_undo := fun_mk (st := s_c_Roll_undo) lk_c_Roll_undo cd_ok_c_Roll_undo kf_c_Roll_undo
  have b_c_Roll_undo := F_c_Roll_undo.binds (ps := ["self"]) fun _ _ _ _ _ _ us hl => match us, hl with | [_], _ => rfl
  have F_c_Roll_redo := fun_mk (st := s_c_Roll_redo) lk_c_Roll_redo cd_ok_c_Roll_redo kf_c_Roll_redo
  have b_c_Roll_redo := F_c_Roll_redo.binds (ps := ["self"]) fun _ _ _ _ _ _ us hl => match us, hl with | [_], _ => rfl
  have F_c_Roll_facts := fun_mk (st := s_c_Roll_facts) lk_c_Roll_facts cd_ok_c_Roll_facts kf_c_Roll_facts
  have b_c_Roll_facts := F_c_Roll_facts.binds (ps := ["self"]) fun _ _ _ _ _ _ us hl => match us, hl with | [_], _ => rfl
  have F_c_Roll_told := fun_mk (st := s_c_Roll_told) lk_c_Roll_told cd_ok_c_Roll_told kf_c_Roll_told
  have b_c_Roll_told := F_c_Roll_told.binds (ps := ["self"]) fun _ _ _ _ _ _ us hl => match us, hl with | [_], _ => rfl
  have F_c_Roll_deeds := fun_mk (st := s_c_Roll_deeds) lk_c_Roll_deeds cd_ok_c_Roll_deeds kf_c_Roll_deeds
  have b_c_Roll_deeds := F_c_Roll_deeds.binds (ps := ["self"]) fun _ _ _ _ _ _ us hl => match us, hl with | [_], _ => rfl
  have F_c_Roll_twin := fun_mk (st := s_c_Roll_twin) lk_c_Roll_twin cd_ok_c_Roll_twin kf_c_Roll_twin
  have b_c_Roll_twin := F_c_Roll_twin.binds (ps := ["self"]) fun _ _ _ _ _ _ us hl => match us, hl with | [_], _ => rfl
  have F_c_Desk_say := fun_mk (st := s_c_Desk_say) lk_c_Desk_say cd_ok_c_Desk_say kf_c_Desk_say
  have b_c_Desk_say := F_c_Desk_say.binds (ps := ["self", "line"]) fun _ _ _ _ _ _ us hl => match us, hl with | [_, _], _ => rfl
  have F_c_Desk_roll := fun_mk (st := s_c_Desk_roll) lk_c_Desk_roll cd_ok_c_Desk_roll kf_c_Desk_roll
  have b_c_Desk_roll := F_c_Desk_roll.binds (ps := ["self"]) fun _ _ _ _ _ _ us hl => match us, hl with | [_], _ => rfl
  have T : Tx l.prog K mg w := {
    f_p_is_number := _, d_p_is_number := _, F_p_is_number := F0, g_p_is_number := PySem.W.mg_of X G a0, b_p_is_number := b0,
    f_p_is_good := _, d_p_is_good := _, F_p_is_good := F1, g_p_is_good := PySem.W.mg_of X G a1, b_p_is_good := b1,
    f_p_are_rising := _, d_p_are_rising := _, F_p_are_rising := F2, g_p_are_rising := PySem.W.mg_of X G a2, b_p_are_rising := b2,
    f_p_need_fact := _, d_p_need_fact := _, F_p_need_fact := F3, g_p_need_fact := PySem.W.mg_of X G a3, b_p_need_fact := b3,
    f_p_fact_text := _, d_p_fact_text := _, F_p_fact_text := F4, g_p_fact_text := PySem.W.mg_of X G a4, b_p_fact_text := b4,
    f_p_page_of := _, d_p_page_of := _, F_p_page_of := F5, g_p_page_of := PySem.W.mg_of X G a5, b_p_page_of := b5,
    f_p_is_number_text := _, d_p_is_number_text := _, F_p_is_number_text := F6, g_p_is_number_text := PySem.W.mg_of X G a6, b_p_is_number_text := b6,
    f_p_read_numbers := _, d_p_read_numbers := _, F_p_read_numbers := F7, g_p_read_numbers := PySem.W.mg_of X G a7, b_p_read_numbers := b7,
    f_p_read_fact := _, d_p_read_fact := _, F_p_read_fact := F8, g_p_read_fact := PySem.W.mg_of X G a8, b_p_read_fact := b8,
    f_p_strike_line := _, d_p_strike_line := _, F_p_strike_line := F9, g_p_strike_line := PySem.W.mg_of X G a9, b_p_strike_line := b9,
    f_p_undo_line := _, d_p_undo_line := _, F_p_undo_line := F10, g_p_undo_line := PySem.W.mg_of X G a10, b_p_undo_line := b10,
    f_p_redo_line := _, d_p_redo_line := _, F_p_redo_line := F11, g_p_redo_line := PySem.W.mg_of X G a11, b_p_redo_line := b11,
    f_p_row_line := _, d_p_row_line := _, F_p_row_line := F12, g_p_row_line := PySem.W.mg_of X G a12, b_p_row_line := b12,
    f_p_why_line := _, d_p_why_line := _, F_p_why_line := F13, g_p_why_line := PySem.W.mg_of X G a13, b_p_why_line := b13,
    f_p_owes_line := _, d_p_owes_line := _, F_p_owes_line := F14, g_p_owes_line := PySem.W.mg_of X G a14, b_p_owes_line := b14,
    f_p_trusts_line := _, d_p_trusts_line := _, F_p_trusts_line := F15, g_p_trusts_line := PySem.W.mg_of X G a15, b_p_trusts_line := b15,
    f_p_right_line := _, d_p_right_line := _, F_p_right_line := F16, g_p_right_line := PySem.W.mg_of X G a16, b_p_right_line := b16,
    f_p_numbers_line := _, d_p_numbers_line := _, F_p_numbers_line := F17, g_p_numbers_line := PySem.W.mg_of X G a17, b_p_numbers_line := b17,
    f_p_answer := _, d_p_answer := _, F_p_answer := F18, g_p_answer := PySem.W.mg_of X G a18, b_p_answer := b18,
    f_l_bag := _, d_l_bag := _, F_l_bag := F19, g_l_bag := PySem.W.mg_of X G a19, b_l_bag := b19,
    f_l_pull := _, d_l_pull := _, F_l_pull := F20, g_l_pull := PySem.W.mg_of X G a20, b_l_pull := b20,
    f_l_like := _, d_l_like := _, F_l_like := F21, g_l_like := PySem.W.mg_of X G a21, b_l_like := b21,
    f_l_gate := _, d_l_gate := _, F_l_gate := F22, g_l_gate := PySem.W.mg_of X G a22, b_l_gate := b22,
    f_l_day := _, d_l_day := _, F_l_day := F23, g_l_day := PySem.W.mg_of X G a23, b_l_day := b23,
    f_l_board := _, d_l_board := _, F_l_board := F24, g_l_board := PySem.W.mg_of X G a24, b_l_board := b24,
    f_l_passing := _, d_l_passing := _, F_l_passing := F25, g_l_passing := PySem.W.mg_of X G a25, b_l_passing := b25,
    f_l_stretch := _, d_l_stretch := _, F_l_stretch := F26, g_l_stretch := PySem.W.mg_of X G a26, b_l_stretch := b26,
    f_l_fact := _, d_l_fact := _, F_l_fact := F27, g_l_fact := PySem.W.mg_of X G a27, b_l_fact := b27,
    f_l_text := _, d_l_text := _, F_l_text := F28, g_l_text := PySem.W.mg_of X G a28, b_l_text := b28,
    f_l_number_read := _, d_l_number_read := _, F_l_number_read := F29, g_l_number_read := PySem.W.mg_of X G a29, b_l_number_read := b29,
    f_l_fact_read := _, d_l_fact_read := _, F_l_fact_read := F30, g_l_fact_read := PySem.W.mg_of X G a30, b_l_fact_read := b30,
    f_l_words_bent := _, d_l_words_bent := _, F_l_words_bent := F31, g_l_words_bent := PySem.W.mg_of X G a31, b_l_words_bent := b31,
    f_l_sign := _, d_l_sign := _, F_l_sign := F32, g_l_sign := PySem.W.mg_of X G a32, b_l_sign := b32,
    f_l_text_bent := _, d_l_text_bent := _, F_l_text_bent := F33, g_l_text_bent := PySem.W.mg_of X G a33, b_l_text_bent := b33,
    f_l_is_line := _, d_l_is_line := _, F_l_is_line := F34, g_l_is_line := PySem.W.mg_of X G a34, b_l_is_line := b34,
    z_len := PySem.W.mg_none_of X G z_len,
    z_isinstance := PySem.W.mg_none_of X G z_isinstance,
    z_tuple := PySem.W.mg_none_of X G z_tuple,
    z_list := PySem.W.mg_none_of X G z_list,
    z_bool := PySem.W.mg_none_of X G z_bool,
    z_range := PySem.W.mg_none_of X G z_range,
    z_int := PySem.W.mg_none_of X G z_int,
    z_set := PySem.W.mg_none_of X G z_set,
    z_sorted := PySem.W.mg_none_of X G z_sorted,
    z_all := PySem.W.mg_none_of X G z_all,
    z_enumerate := PySem.W.mg_none_of X G z_enumerate,
    z_str := PySem.W.mg_none_of X G z_str,
    z_dict := PySem.W.mg_none_of X G z_dict,
    z_min := PySem.W.mg_none_of X G z_min,
    t_MOST_FACTS := _, k_MOST_FACTS := PySem.W.mg_of X G k_MOST_FACTS,
    t_MOST_FIGURES := _, k_MOST_FIGURES := PySem.W.mg_of X G k_MOST_FIGURES,
    t_DONE := _, k_DONE := PySem.W.mg_of X G k_DONE,
    B_BOUNDS := _, g_BOUNDS := PySem.W.mg_of X G a_BOUNDS,
    t_BOUNDS_gate := _, kd_BOUNDS_gate := ⟨_, _, _, ld_BOUNDS, kl_BOUNDS, ek_BOUNDS_gate, rfl⟩, kt_BOUNDS_gate := .inr ⟨_, _, _, lt_BOUNDS_gate, rfl, rfl, (show 2 ≤ sizeLine from sz (by decide)), (.cons ⟨_, rfl⟩ (.cons ⟨_, rfl⟩ .nil))⟩,
    t_BOUNDS_carriage := _, kd_BOUNDS_carriage := ⟨_, _, _, ld_BOUNDS, kl_BOUNDS, ek_BOUNDS_carriage, rfl⟩, kt_BOUNDS_carriage := .inr ⟨_, _, _, lt_BOUNDS_carriage, rfl, rfl, (show 2 ≤ sizeLine from sz (by decide)), (.cons ⟨_, rfl⟩ (.cons ⟨_, rfl⟩ .nil))⟩,
    t_BOUNDS_trust := _, kd_BOUNDS_trust := ⟨_, _, _, ld_BOUNDS, kl_BOUNDS, ek_BOUNDS_trust, rfl⟩, kt_BOUNDS_trust := .inr ⟨_, _, _, lt_BOUNDS_trust, rfl, rfl, (show 2 ≤ sizeLine from sz (by decide)), (.cons ⟨_, rfl⟩ (.cons ⟨_, rfl⟩ .nil))⟩,
    t_BOUNDS_day := _, kd_BOUNDS_day := ⟨_, _, _, ld_BOUNDS, kl_BOUNDS, ek_BOUNDS_day, rfl⟩, kt_BOUNDS_day := .inr ⟨_, _, _, lt_BOUNDS_day, rfl, rfl, (show 2 ≤ sizeLine from sz (by decide)), (.cons ⟨_, rfl⟩ (.cons ⟨_, rfl⟩ .nil))⟩,
    t_BOUNDS_minute := _, kd_BOUNDS_minute := ⟨_, _, _, ld_BOUNDS, kl_BOUNDS, ek_BOUNDS_minute, rfl⟩, kt_BOUNDS_minute := .inr ⟨_, _, _, lt_BOUNDS_minute, rfl, rfl, (show 2 ≤ sizeLine from sz (by decide)), (.cons ⟨_, rfl⟩ (.cons ⟨_, rfl⟩ .nil))⟩,
    t_BOUNDS_toll := _, kd_BOUNDS_toll := ⟨_, _, _, ld_BOUNDS, kl_BOUNDS, ek_BOUNDS_toll, rfl⟩, kt_BOUNDS_toll := .inr ⟨_, _, _, lt_BOUNDS_toll, rfl, rfl, (show 2 ≤ sizeLine from sz (by decide)), (.cons ⟨_, rfl⟩ (.cons ⟨_, rfl⟩ .nil))⟩,
    t_BOUNDS_payment := _, kd_BOUNDS_payment := ⟨_, _, _, ld_BOUNDS, kl_BOUNDS, ek_BOUNDS_payment, rfl⟩, kt_BOUNDS_payment := .inr ⟨_, _, _, lt_BOUNDS_payment, rfl, rfl, (show 2 ≤ sizeLine from sz (by decide)), (.cons ⟨_, rfl⟩ (.cons ⟨_, rfl⟩ .nil))⟩,
    t_BOUNDS_horses := _, kd_BOUNDS_horses := ⟨_, _, _, ld_BOUNDS, kl_BOUNDS, ek_BOUNDS_horses, rfl⟩, kt_BOUNDS_horses := .inr ⟨_, _, _, lt_BOUNDS_horses, rfl, rfl, (show 2 ≤ sizeLine from sz (by decide)), (.cons ⟨_, rfl⟩ (.cons ⟨_, rfl⟩ .nil))⟩,
    t_BOUNDS_number := _, kd_BOUNDS_number := ⟨_, _, _, ld_BOUNDS, kl_BOUNDS, ek_BOUNDS_number, rfl⟩, kt_BOUNDS_number := .inr ⟨_, _, _, lt_BOUNDS_number, rfl, rfl, (show 2 ≤ sizeLine from sz (by decide)), (.cons ⟨_, rfl⟩ (.cons rfl .nil))⟩,
    B_SHAPES := _, g_SHAPES := PySem.W.mg_of X G a_SHAPES,
    t_SHAPES_toll := _, kd_SHAPES_toll := ⟨_, _, _, ld_SHAPES, kl_SHAPES, ek_SHAPES_toll, rfl⟩, kt_SHAPES_toll := .inr ⟨_, _, _, lt_SHAPES_toll, rfl, rfl, (show 3 ≤ sizeLine from sz (by decide)), (.cons ⟨_, rfl⟩ (.cons ⟨_, rfl⟩ (.cons ⟨_, rfl⟩ .nil)))⟩,
    t_SHAPES_board := _, kd_SHAPES_board := ⟨_, _, _, ld_SHAPES, kl_SHAPES, ek_SHAPES_board, rfl⟩, kt_SHAPES_board := .inr ⟨_, _, _, lt_SHAPES_board, rfl, rfl, (show 3 ≤ sizeLine from sz (by decide)), (.cons ⟨_, rfl⟩ (.cons ⟨_, rfl⟩ (.cons ⟨_, rfl⟩ .nil)))⟩,
    t_SHAPES_trust := _, kd_SHAPES_trust := ⟨_, _, _, ld_SHAPES, kl_SHAPES, ek_SHAPES_trust, rfl⟩, kt_SHAPES_trust := .inr ⟨_, _, _, lt_SHAPES_trust, rfl, rfl, (show 3 ≤ sizeLine from sz (by decide)), (.cons ⟨_, rfl⟩ (.cons ⟨_, rfl⟩ (.cons ⟨_, rfl⟩ .nil)))⟩,
    t_SHAPES_folk := _, kd_SHAPES_folk := ⟨_, _, _, ld_SHAPES, kl_SHAPES, ek_SHAPES_folk, rfl⟩, kt_SHAPES_folk := .inr ⟨_, _, _, lt_SHAPES_folk, rfl, rfl, (show 3 ≤ sizeLine from sz (by decide)), (.cons ⟨_, rfl⟩ (.cons ⟨_, rfl⟩ (.cons ⟨_, rfl⟩ .nil)))⟩,
    t_SHAPES_bargain := _, kd_SHAPES_bargain := ⟨_, _, _, ld_SHAPES, kl_SHAPES, ek_SHAPES_bargain, rfl⟩, kt_SHAPES_bargain := .inr ⟨_, _, _, lt_SHAPES_bargain, rfl, rfl, (show 4 ≤ sizeLine from sz (by decide)), (.cons ⟨_, rfl⟩ (.cons ⟨_, rfl⟩ (.cons ⟨_, rfl⟩ (.cons ⟨_, rfl⟩ .nil))))⟩,
    t_SHAPES_pass := _, kd_SHAPES_pass := ⟨_, _, _, ld_SHAPES, kl_SHAPES, ek_SHAPES_pass, rfl⟩, kt_SHAPES_pass := .inr ⟨_, _, _, lt_SHAPES_pass, rfl, rfl, (show 5 ≤ sizeLine from sz (by decide)), (.cons ⟨_, rfl⟩ (.cons ⟨_, rfl⟩ (.cons ⟨_, rfl⟩ (.cons ⟨_, rfl⟩ (.cons ⟨_, rfl⟩ .nil)))))⟩,
    t_SHAPES_lost := _, kd_SHAPES_lost := ⟨_, _, _, ld_SHAPES, kl_SHAPES, ek_SHAPES_lost, rfl⟩, kt_SHAPES_lost := .inr ⟨_, _, _, lt_SHAPES_lost, rfl, rfl, (show 2 ≤ sizeLine from sz (by decide)), (.cons ⟨_, rfl⟩ (.cons ⟨_, rfl⟩ .nil))⟩,
    t_SHAPES_paid := _, kd_SHAPES_paid := ⟨_, _, _, ld_SHAPES, kl_SHAPES, ek_SHAPES_paid, rfl⟩, kt_SHAPES_paid := .inr ⟨_, _, _, lt_SHAPES_paid, rfl, rfl, (show 3 ≤ sizeLine from sz (by decide)), (.cons ⟨_, rfl⟩ (.cons ⟨_, rfl⟩ (.cons ⟨_, rfl⟩ .nil)))⟩,
    dic_SHAPES := ⟨_, _, ld_SHAPES, kl_SHAPES, lo_SHAPES⟩,
    ms0_SHAPES := ⟨_, _, ld_SHAPES, kl_SHAPES, lo_SHAPES, em0_SHAPES⟩,
    ms1_SHAPES := ⟨_, _, ld_SHAPES, kl_SHAPES, lo_SHAPES, em1_SHAPES⟩,
    ms2_SHAPES := ⟨_, _, ld_SHAPES, kl_SHAPES, lo_SHAPES, em2_SHAPES⟩,
    ms3_SHAPES := ⟨_, _, ld_SHAPES, kl_SHAPES, lo_SHAPES, em3_SHAPES⟩,
    ms4_SHAPES := ⟨_, _, ld_SHAPES, kl_SHAPES, lo_SHAPES, em4_SHAPES⟩,
    B_ANSWERS := _, g_ANSWERS := PySem.W.mg_of X G a_ANSWERS,
    kd_ANSWERS_strike := ⟨_, _, _, ld_ANSWERS, kl_ANSWERS, ek_ANSWERS_strike, rfl⟩,
    kd_ANSWERS_undo := ⟨_, _, _, ld_ANSWERS, kl_ANSWERS, ek_ANSWERS_undo, rfl⟩,
    kd_ANSWERS_redo := ⟨_, _, _, ld_ANSWERS, kl_ANSWERS, ek_ANSWERS_redo, rfl⟩,
    kd_ANSWERS_row := ⟨_, _, _, ld_ANSWERS, kl_ANSWERS, ek_ANSWERS_row, rfl⟩,
    kd_ANSWERS_why := ⟨_, _, _, ld_ANSWERS, kl_ANSWERS, ek_ANSWERS_why, rfl⟩,
    kd_ANSWERS_owes := ⟨_, _, _, ld_ANSWERS, kl_ANSWERS, ek_ANSWERS_owes, rfl⟩,
    kd_ANSWERS_trusts := ⟨_, _, _, ld_ANSWERS, kl_ANSWERS, ek_ANSWERS_trusts, rfl⟩,
    dic_ANSWERS := ⟨_, _, ld_ANSWERS, kl_ANSWERS, lo_ANSWERS⟩,
    ms0_ANSWERS := ⟨_, _, ld_ANSWERS, kl_ANSWERS, lo_ANSWERS, em0_ANSWERS⟩,
    ms1_ANSWERS := ⟨_, _, ld_ANSWERS, kl_ANSWERS, lo_ANSWERS, em1_ANSWERS⟩,
    ms2_ANSWERS := ⟨_, _, ld_ANSWERS, kl_ANSWERS, lo_ANSWERS, em2_ANSWERS⟩,
    ms3_ANSWERS := ⟨_, _, ld_ANSWERS, kl_ANSWERS, lo_ANSWERS, em3_ANSWERS⟩,
    ms4_ANSWERS := ⟨_, _, ld_ANSWERS, kl_ANSWERS, lo_ANSWERS, em4_ANSWERS⟩,
    ms5_ANSWERS := ⟨_, _, ld_ANSWERS, kl_ANSWERS, lo_ANSWERS, em5_ANSWERS⟩,
    ms6_ANSWERS := ⟨_, _, ld_ANSWERS, kl_ANSWERS, lo_ANSWERS, em6_ANSWERS⟩,
    ms7_ANSWERS := ⟨_, _, ld_ANSWERS, kl_ANSWERS, lo_ANSWERS, em7_ANSWERS⟩,
    B_COUNTS := _, g_COUNTS := PySem.W.mg_of X G a_COUNTS,
    kd_COUNTS_strike := ⟨_, _, _, ld_COUNTS, kl_COUNTS, ek_COUNTS_strike, ⟨_, rfl⟩⟩,
    kd_COUNTS_undo := ⟨_, _, _, ld_COUNTS, kl_COUNTS, ek_COUNTS_undo, ⟨_, rfl⟩⟩,
    kd_COUNTS_redo := ⟨_, _, _, ld_COUNTS, kl_COUNTS, ek_COUNTS_redo, ⟨_, rfl⟩⟩,
    kd_COUNTS_row := ⟨_, _, _, ld_COUNTS, kl_COUNTS, ek_COUNTS_row, ⟨_, rfl⟩⟩,
    kd_COUNTS_why := ⟨_, _, _, ld_COUNTS, kl_COUNTS, ek_COUNTS_why, ⟨_, rfl⟩⟩,
    kd_COUNTS_owes := ⟨_, _, _, ld_COUNTS, kl_COUNTS, ek_COUNTS_owes, ⟨_, rfl⟩⟩,
    kd_COUNTS_trusts := ⟨_, _, _, ld_COUNTS, kl_COUNTS, ek_COUNTS_trusts, ⟨_, rfl⟩⟩,
    dic_COUNTS := ⟨_, _, ld_COUNTS, kl_COUNTS, lo_COUNTS⟩,
    ka_SHAPES := fun z hz => ⟨_, _, ld_SHAPES, kl_SHAPES, lo_SHAPES, miss_of ld_SHAPES kk_SHAPES hz⟩,
    ka_ANSWERS := fun z hz => ⟨_, _, ld_ANSWERS, kl_ANSWERS, lo_ANSWERS, miss_of ld_ANSWERS kk_ANSWERS hz⟩,
    C_PikeError := _, g_PikeError := PySem.W.mg_of X G a_PikeError,
    C_Missing := _, g_Missing := PySem.W.mg_of X G a_Missing,
    C_BadFact := _, g_BadFact := PySem.W.mg_of X G a_BadFact,
    C_NoFact := _, g_NoFact := PySem.W.mg_of X G a_NoFact,
    C_Other := _, g_Other := PySem.W.mg_of X G a_Other,
    C_Full := _, g_Full := PySem.W.mg_of X G a_Full,
    C_Nothing := _, g_Nothing := PySem.W.mg_of X G a_Nothing,
    f_c_PikeError_init := _, d_c_PikeError_init := _, cda_c_PikeError_init := _, cc_c_PikeError_init := _, FS_c_PikeError_init := (⟨⟨_, _, _, _, _, _, _, _, rfl, lk_c_PikeError_init, cdk_c_PikeError_init⟩, ⟨_, _, _, lc_c_PikeError_init⟩, ⟨_, _, _, _, _, _, ld_c_PikeError_init, hv_c_PikeError_init, hf_c_PikeError_init⟩, kf_c_PikeError_init, tyf_c_PikeError_init, fnf_c_PikeError_init, htop, PySem.W.mg_none_of X G z_super⟩ : FunS l.prog K mg "__init__" "PikeError.__init__" s_c_PikeError_init f_c_PikeError_init _ cda_c_PikeError_init cc_c_PikeError_init C_PikeError), b_c_PikeError_init := FunS.binds (ps := ["self", "reason"]) (⟨⟨_, _, _, _, _, _, _, _, rfl, lk_c_PikeError_init, cdk_c_PikeError_init⟩, ⟨_, _, _, lc_c_PikeError_init⟩, ⟨_, _, _, _, _, _, ld_c_PikeError_init, hv_c_PikeError_init, hf_c_PikeError_init⟩, kf_c_PikeError_init, tyf_c_PikeError_init, fnf_c_PikeError_init, htop, PySem.W.mg_none_of X G z_super⟩ : FunS l.prog K mg "__init__" "PikeError.__init__" s_c_PikeError_init f_c_PikeError_init _ cda_c_PikeError_init cc_c_PikeError_init C_PikeError) (fun _ _ _ _ _ us hl => match us, hl with | [_, _], _ => rfl),
    f_c_Missing_init := _, d_c_Missing_init := _, cda_c_Missing_init := _, cc_c_Missing_init := _, FS_c_Missing_init := (⟨⟨_, _, _, _, _, _, _, _, rfl, lk_c_Missing_init, cdk_c_Missing_init⟩, ⟨_, _, _, lc_c_Missing_init⟩, ⟨_, _, _, _, _, _, ld_c_Missing_init, hv_c_Missing_init, hf_c_Missing_init⟩, kf_c_Missing_init, tyf_c_Missing_init, fnf_c_Missing_init, htop, PySem.W.mg_none_of X G z_super⟩ : FunS l.prog K mg "__init__" "Missing.__init__" s_c_Missing_init f_c_Missing_init _ cda_c_Missing_init cc_c_Missing_init C_Missing), b_c_Missing_init := FunS.binds (ps := ["self", "number"]) (⟨⟨_, _, _, _, _, _, _, _, rfl, lk_c_Missing_init, cdk_c_Missing_init⟩, ⟨_, _, _, lc_c_Missing_init⟩, ⟨_, _, _, _, _, _, ld_c_Missing_init, hv_c_Missing_init, hf_c_Missing_init⟩, kf_c_Missing_init, tyf_c_Missing_init, fnf_c_Missing_init, htop, PySem.W.mg_none_of X G z_super⟩ : FunS l.prog K mg "__init__" "Missing.__init__" s_c_Missing_init f_c_Missing_init _ cda_c_Missing_init cc_c_Missing_init C_Missing) (fun _ _ _ _ _ us hl => match us, hl with | [_, _], _ => rfl),
    f_c_BadFact_init := _, d_c_BadFact_init := _, cda_c_BadFact_init := _, cc_c_BadFact_init := _, FS_c_BadFact_init := (⟨⟨_, _, _, _, _, _, _, _, rfl, lk_c_BadFact_init, cdk_c_BadFact_init⟩, ⟨_, _, _, lc_c_BadFact_init⟩, ⟨_, _, _, _, _, _, ld_c_BadFact_init, hv_c_BadFact_init, hf_c_BadFact_init⟩, kf_c_BadFact_init, tyf_c_BadFact_init, fnf_c_BadFact_init, htop, PySem.W.mg_none_of X G z_super⟩ : FunS l.prog K mg "__init__" "BadFact.__init__" s_c_BadFact_init f_c_BadFact_init _ cda_c_BadFact_init cc_c_BadFact_init C_BadFact), b_c_BadFact_init := FunS.binds (ps := ["self", "place"]) (⟨⟨_, _, _, _, _, _, _, _, rfl, lk_c_BadFact_init, cdk_c_BadFact_init⟩, ⟨_, _, _, lc_c_BadFact_init⟩, ⟨_, _, _, _, _, _, ld_c_BadFact_init, hv_c_BadFact_init, hf_c_BadFact_init⟩, kf_c_BadFact_init, tyf_c_BadFact_init, fnf_c_BadFact_init, htop, PySem.W.mg_none_of X G z_super⟩ : FunS l.prog K mg "__init__" "BadFact.__init__" s_c_BadFact_init f_c_BadFact_init _ cda_c_BadFact_init cc_c_BadFact_init C_BadFact) (fun _ _ _ _ _ us hl => match us, hl with | [_, _], _ => rfl),
    pk_BadFact := ⟨⟨⟨_, _, _, _, _, _, _, _, _, _, _, _, _, _, _, cl_BadFact, rf_BadFact⟩, sa_BadFact, ex_BadFact, ty_BadFact, kp_BadFact⟩, ⟨ga_BadFact, gg_BadFact, ex_BadFact, ic_BadFact, ca_BadFact, xsp, xtk, ob_BadFact, xst, ty_BadFact, cn_BadFact, ⟨_, nameIn_of cl_BadFact kn_BadFact⟩⟩, ⟨xst, ic_BadFact, icb_BadFact, mr_BadFact⟩, si_BadFact, sb_BadFact, noc_BadFact⟩,
    in_BadFact := ini_BadFact,
    sc_BadFact := ⟨xst, ic_BadFact, ic_BadFact, mrs_BadFact⟩, so_BadFact := sos_BadFact,
    no_BadFact := nof_BadFact,
    e_BadFact := exm_self ex_BadFact ic_BadFact ty_BadFact ss_BadFact, xf_BadFact := ⟨ga_BadFact, gg_BadFact, ex_BadFact, hd_BadFact⟩,
    pk_NoFact := ⟨⟨⟨_, _, _, _, _, _, _, _, _, _, _, _, _, _, _, cl_NoFact, rf_NoFact⟩, sa_NoFact, ex_NoFact, ty_NoFact, kp_NoFact⟩, ⟨ga_NoFact, gg_NoFact, ex_NoFact, ic_NoFact, ca_NoFact, xsp, xtk, ob_NoFact, xst, ty_NoFact, cn_NoFact, ⟨_, nameIn_of cl_NoFact kn_NoFact⟩⟩, ⟨xst, ic_NoFact, icb_NoFact, mr_NoFact⟩, si_NoFact, sb_NoFact, noc_NoFact⟩,
    in_NoFact := ini_NoFact,
    no_NoFact := nof_NoFact,
    e_NoFact := exm_self ex_NoFact ic_NoFact ty_NoFact ss_NoFact, xf_NoFact := ⟨ga_NoFact, gg_NoFact, ex_NoFact, hd_NoFact⟩,
    pk_Other := ⟨⟨⟨_, _, _, _, _, _, _, _, _, _, _, _, _, _, _, cl_Other, rf_Other⟩, sa_Other, ex_Other, ty_Other, kp_Other⟩, ⟨ga_Other, gg_Other, ex_Other, ic_Other, ca_Other, xsp, xtk, ob_Other, xst, ty_Other, cn_Other, ⟨_, nameIn_of cl_Other kn_Other⟩⟩, ⟨xst, ic_Other, icb_Other, mr_Other⟩, si_Other, sb_Other, noc_Other⟩,
    in_Other := ini_Other,
    e_Other := exm_self ex_Other ic_Other ty_Other ss_Other, xf_Other := ⟨ga_Other, gg_Other, ex_Other, hd_Other⟩,
    pk_Full := ⟨⟨⟨_, _, _, _, _, _, _, _, _, _, _, _, _, _, _, cl_Full, rf_Full⟩, sa_Full, ex_Full, ty_Full, kp_Full⟩, ⟨ga_Full, gg_Full, ex_Full, ic_Full, ca_Full, xsp, xtk, ob_Full, xst, ty_Full, cn_Full, ⟨_, nameIn_of cl_Full kn_Full⟩⟩, ⟨xst, ic_Full, icb_Full, mr_Full⟩, si_Full, sb_Full, noc_Full⟩,
    in_Full := ini_Full,
    e_Full := exm_self ex_Full ic_Full ty_Full ss_Full, xf_Full := ⟨ga_Full, gg_Full, ex_Full, hd_Full⟩,
    pk_Nothing := ⟨⟨⟨_, _, _, _, _, _, _, _, _, _, _, _, _, _, _, cl_Nothing, rf_Nothing⟩, sa_Nothing, ex_Nothing, ty_Nothing, kp_Nothing⟩, ⟨ga_Nothing, gg_Nothing, ex_Nothing, ic_Nothing, ca_Nothing, xsp, xtk, ob_Nothing, xst, ty_Nothing, cn_Nothing, ⟨_, nameIn_of cl_Nothing kn_Nothing⟩⟩, ⟨xst, ic_Nothing, icb_Nothing, mr_Nothing⟩, si_Nothing, sb_Nothing, noc_Nothing⟩,
    in_Nothing := ini_Nothing,
    e_Nothing := exm_self ex_Nothing ic_Nothing ty_Nothing ss_Nothing, xf_Nothing := ⟨ga_Nothing, gg_Nothing, ex_Nothing, hd_Nothing⟩,
    e_NoFact_PikeError := exm_sub ex_PikeError ic_PikeError ty_PikeError ssx_NoFact_PikeError,
    e_BadFact_PikeError := exm_sub ex_PikeError ic_PikeError ty_PikeError ssx_BadFact_PikeError,
    e_Other_PikeError := exm_sub ex_PikeError ic_PikeError ty_PikeError ssx_Other_PikeError,
    e_Full_PikeError := exm_sub ex_PikeError ic_PikeError ty_PikeError ssx_Full_PikeError,
    e_Nothing_PikeError := exm_sub ex_PikeError ic_PikeError ty_PikeError ssx_Nothing_PikeError,
    e_NoFact_Missing := exm_sub ex_Missing ic_Missing ty_Missing ssx_NoFact_Missing,
    e_BadFact_Missing := exm_sub ex_Missing ic_Missing ty_Missing ssx_BadFact_Missing,
    e_Other_Missing := exm_sub ex_Missing ic_Missing ty_Missing ssx_Other_Missing,
    e_Full_Missing := exm_sub ex_Missing ic_Missing ty_Missing ssx_Full_Missing,
    e_Nothing_Missing := exm_sub ex_Missing ic_Missing ty_Missing ssx_Nothing_Missing,
    C_Roll := _, g_Roll := PySem.W.mg_of X G a_Roll, cls_Roll := ⟨pg_Roll, hd_Roll, po_Roll, sa_Roll⟩,
    f_c_Roll_init := _, d_c_Roll_init := _, F_c_Roll_init := F_c_Roll_init, b_c_Roll_init := b_c_Roll_init,
    at_c_Roll_init := at_c_Roll_init, fn_c_Roll_init := fn_c_Roll_init,
    mk_Roll := ⟨mki_Roll, at_c_Roll_init, fn_c_Roll_init, kp_Roll⟩,
    f_c_Roll_len := _, d_c_Roll_len := _, F_c_Roll_len := F_c_Roll_len, b_c_Roll_len := b_c_Roll_len,
    at_c_Roll_len := at_c_Roll_len, fn_c_Roll_len := fn_c_Roll_len,
    f_c_Roll_need_standing := _, d_c_Roll_need_standing := _, F_c_Roll_need_standing := F_c_Roll_need_standing, b_c_Roll_need_standing := b_c_Roll_need_standing,
    at_c_Roll_need_standing := at_c_Roll_need_standing, fn_c_Roll_need_standing := fn_c_Roll_need_standing,
    f_c_Roll_enter := _, d_c_Roll_enter := _, F_c_Roll_enter := F_c_Roll_enter, b_c_Roll_enter := b_c_Roll_enter,
    at_c_Roll_enter := at_c_Roll_enter, fn_c_Roll_enter := fn_c_Roll_enter,
    f_c_Roll_replace_fact := _, d_c_Roll_replace_fact := _, F_c_Roll_replace_fact := F_c_Roll_replace_fact, b_c_Roll_replace_fact := b_c_Roll_replace_fact,
    at_c_Roll_replace_fact := at_c_Roll_replace_fact, fn_c_Roll_replace_fact := fn_c_Roll_replace_fact,
    f_c_Roll_tell := _, d_c_Roll_tell := _, F_c_Roll_tell := F_c_Roll_tell, b_c_Roll_tell := b_c_Roll_tell,
    at_c_Roll_tell := at_c_Roll_tell, fn_c_Roll_tell := fn_c_Roll_tell,
    f_c_Roll_right := _, d_c_Roll_right := _, F_c_Roll_right := F_c_Roll_right, b_c_Roll_right := b_c_Roll_right,
    at_c_Roll_right := at_c_Roll_right, fn_c_Roll_right := fn_c_Roll_right,
    f_c_Roll_strike := _, d_c_Roll_strike := _, F_c_Roll_strike := F_c_Roll_strike, b_c_Roll_strike := b_c_Roll_strike,
    at_c_Roll_strike := at_c_Roll_strike, fn_c_Roll_strike := fn_c_Roll_strike,
    f_c_Roll_undo := _, d_c_Roll_undo := _, F_c_Roll_undo := F_c_Roll_undo, b_c_Roll_undo := b_c_Roll_undo,
    at_c_Roll_undo := at_c_Roll_undo, fn_c_Roll_undo := fn_c_Roll_undo,
    f_c_Roll_redo := _, d_c_Roll_redo := _, F_c_Roll_redo := F_c_Roll_redo, b_c_Roll_redo := b_c_Roll_redo,
    at_c_Roll_redo := at_c_Roll_redo, fn_c_Roll_redo := fn_c_Roll_redo,
    f_c_Roll_facts := _, d_c_Roll_facts := _, F_c_Roll_facts := F_c_Roll_facts, b_c_Roll_facts := b_c_Roll_facts,
    at_c_Roll_facts := at_c_Roll_facts, fn_c_Roll_facts := fn_c_Roll_facts,
    f_c_Roll_told := _, d_c_Roll_told := _, F_c_Roll_told := F_c_Roll_told, b_c_Roll_told := b_c_Roll_told,
    at_c_Roll_told := at_c_Roll_told, fn_c_Roll_told := fn_c_Roll_told,
    f_c_Roll_deeds := _, d_c_Roll_deeds := _, F_c_Roll_deeds := F_c_Roll_deeds, b_c_Roll_deeds := b_c_Roll_deeds,
    at_c_Roll_deeds := at_c_Roll_deeds, fn_c_Roll_deeds := fn_c_Roll_deeds,
    f_c_Roll_twin := _, d_c_Roll_twin := _, F_c_Roll_twin := F_c_Roll_twin, b_c_Roll_twin := b_c_Roll_twin,
    at_c_Roll_twin := at_c_Roll_twin, fn_c_Roll_twin := fn_c_Roll_twin,
    na_Roll_states := na_Roll_states,
    na_Roll_undone := na_Roll_undone,
    ty_Roll := fun e => .base (.ins e ⟨pg_Roll, hd_Roll, po_Roll, sa_Roll⟩ clo_Roll gto_Roll tko_Roll ob_Roll), ko_Roll := Z.kit_self, nf_Roll := nfo_Roll,
    C_Desk := _, g_Desk := PySem.W.mg_of X G a_Desk, cls_Desk := ⟨pg_Desk, hd_Desk, po_Desk, sa_Desk⟩,
    f_c_Desk_init := _, d_c_Desk_init := _, F_c_Desk_init := ⟨⟨_, _, _, _, _, _, _, _, _, _, rfl, lk_c_Desk_init, cd_ok_c_Desk_init, .inr ⟨by simp, _, _, [.none], _, rfl, dl_c_Desk_init, rfl, (.cons rfl .nil)⟩, .inl rfl⟩, kf_c_Desk_init⟩,
    at_c_Desk_init := at_c_Desk_init, fn_c_Desk_init := fn_c_Desk_init,
    mk_Desk := ⟨mki_Desk, at_c_Desk_init, fn_c_Desk_init, kp_Desk⟩,
    f_c_Desk_say := _, d_c_Desk_say := _, F_c_Desk_say := F_c_Desk_say, b_c_Desk_say := b_c_Desk_say,
    at_c_Desk_say := at_c_Desk_say, fn_c_Desk_say := fn_c_Desk_say,
    f_c_Desk_roll := _, d_c_Desk_roll := _, F_c_Desk_roll := F_c_Desk_roll, b_c_Desk_roll := b_c_Desk_roll,
    at_c_Desk_roll := at_c_Desk_roll, fn_c_Desk_roll := fn_c_Desk_roll,
    na_Desk_held := na_Desk_held,
    ty_Desk := fun e => .base (.ins e ⟨pg_Desk, hd_Desk, po_Desk, sa_Desk⟩ clo_Desk gto_Desk tko_Desk ob_Desk), ko_Desk := Z.kit_self, nf_Desk := nfo_Desk }
  exact ⟨_, fun s v => .of_eq rfl, fun base _ _ => ok_law T (fun_mk (st := s_law) lL cL kL)⟩
theorem walk {l : PySem.W.OpenLaw} {q : Program} {loose : List Str} {XP : (Str → Option Value) → Heap → Prop} {YP : World → Heap → Prop} {d : DefRec} {K : Params → PySem.W.Frag} (hn : l.most = some 63) (hdf : d.params.defaults = [])
    (hY : ∀ (w : World) (h : Heap), YP w h → (K w.params).In h)
    (F : ∀ (w : World) (mg : Str → Option Value) (fa : Addr) (h : Heap), (K w.params).In h → h.Ns mainGlobals mg → mg d.name = some (.ref fa) →
      ∃ fd : FuncData, (∀ (s : Shared) (u : Value), BindsTo s fd ⟨[u], []⟩ [("_law_script", u)]) ∧ ∀ base : Heap, (K w.params).In base → base.Ns mainGlobals mg → FnOk l.prog w (K w.params) mg base CX0 16 fa fd ["_law_script"] (spLaw (K w.params))) :
    PySem.W.WalkO q loose XP YP l.row.toRowW d [] (fun f vs => PySem.call f vs) :=
  L2.walk_of (n := 63) (k := 16) (x := "_law_script") (CX := fun _ => CX0) (sp := fun w => spLaw (K w.params)) hn (by decide) hdf ⟨rfl, by decide, by decide⟩ hY F (fun _ _ a ns hl _ hS => ⟨a, ns, rfl, hS, hl, fun _ => rfl⟩) fun _ _ _ _ _ z => z
end Q
open PySem PySem.W PyProof.Rows in
set_option maxRecDepth 100000 in
set_option maxHeartbeats 0 in
theorem PySem.Challenge.cw_pikeroll_k34_lines_that_a_desk_knows_not_holds : PySem.Challenge.rw_pikeroll_k34_lines_that_a_desk_knows_not.Holds := by
  w_on; o_law
  refine HdK.head_k (r := Q.HR) (q := Q.hq) (H := PySem.W.kHook Q.hcap.heap_1 Q.HAS Q.hek) (loose := Q.hnames) (d := HandSHeadRun.topDef Q.HR.prog 93) (kwd := []) rfl "special-get-raises" (by kernel_rfl) (fun s => by kernel_rfl) Q.hrun0 Q.hrun1 (by kernel_rfl) (by kernel_rfl) (by kernel_rfl) (by rfl) (by first | assumption | decide +kernel) (by decide +kernel) ⟨rfl, rfl, rfl, rfl, rfl, by decide +kernel⟩ ?hw ?hc
  (case hw => w_witness2)
  k_fill
  refine Q.walk (l := PySem.Challenge.rw_pikeroll_k34_lines_that_a_desk_knows_not) rfl rfl (fun w h Y => PySem.W.kIn_of Y) ?F
  case F =>
    intro w mg fa h KX G hmg
    refine' Q.all_mk KX G hmg ?a0 ?l0 ?c0 ?k0 ?a1 ?l1 ?c1 ?k1 ?a2 ?l2 ?c2 ?k2 ?a3 ?l3 ?c3 ?k3 ?a4 ?l4 ?c4 ?k4 ?a5 ?l5 ?c5 ?k5 ?a6 ?l6 ?c6 ?k6 ?a7 ?l7 ?c7 ?k7 ?a8 ?l8 ?c8 ?k8 ?a9 ?l9 ?c9 ?k9 ?a10 ?l10 ?c10 ?k10 ?a11 ?l11 ?c11 ?k11 ?a12 ?l12 ?c12 ?k12 ?a13 ?l13 ?c13 ?k13 ?a14 ?l14 ?c14 ?k14 ?a15 ?l15 ?c15 ?k15 ?a16 ?l16 ?c16 ?k16 ?a17 ?l17 ?c17 ?k17 ?a18 ?l18 ?c18 ?k18 ?a19 ?l19 ?c19 ?k19 ?a20 ?l20 ?c20 ?k20 ?a21 ?l21 ?c21 ?k21 ?a22 ?l22 ?c22 ?k22 ?a23 ?l23 ?c23 ?k23 ?a24 ?l24 ?c24 ?k24 ?a25 ?l25 ?c25 ?k25 ?a26 ?l26 ?c26 ?k26 ?a27 ?l27 ?c27 ?k27 ?a28 ?l28 ?c28 ?k28 ?a29 ?l29 ?c29 ?k29 ?a30 ?l30 ?c30 ?k30 ?a31 ?l31 ?c31 ?k31 ?a32 ?l32 ?c32 ?k32 ?a33 ?l33 ?c33 ?k33 ?a34 ?l34 ?c34 ?k34 ?aL ?lL ?cL ?kL ?z_len ?z_isinstance ?z_tuple ?z_list ?z_bool ?z_range ?z_int ?z_set ?z_sorted ?z_all ?z_enumerate ?z_str ?z_dict ?z_min ?k_MOST_FACTS ?k_MOST_FIGURES ?k_DONE ?a_BOUNDS ?ld_BOUNDS ?kl_BOUNDS ?ek_BOUNDS_gate ?lt_BOUNDS_gate ?ek_BOUNDS_carriage ?lt_BOUNDS_carriage ?ek_BOUNDS_trust ?lt_BOUNDS_trust ?ek_BOUNDS_day ?lt_BOUNDS_day ?ek_BOUNDS_minute ?lt_BOUNDS_minute ?ek_BOUNDS_toll ?lt_BOUNDS_toll ?ek_BOUNDS_payment ?lt_BOUNDS_payment ?ek_BOUNDS_horses ?lt_BOUNDS_horses ?ek_BOUNDS_number ?lt_BOUNDS_number ?a_SHAPES ?ld_SHAPES ?kl_SHAPES ?ek_SHAPES_toll ?lt_SHAPES_toll ?ek_SHAPES_board ?lt_SHAPES_board ?ek_SHAPES_trust ?lt_SHAPES_trust ?ek_SHAPES_folk ?lt_SHAPES_folk ?ek_SHAPES_bargain ?lt_SHAPES_bargain ?ek_SHAPES_pass ?lt_SHAPES_pass ?ek_SHAPES_lost ?lt_SHAPES_lost ?ek_SHAPES_paid ?lt_SHAPES_paid ?lo_SHAPES ?em0_SHAPES ?em1_SHAPES ?em2_SHAPES ?em3_SHAPES ?em4_SHAPES ?a_ANSWERS ?ld_ANSWERS ?kl_ANSWERS ?lo_ANSWERS ?ek_ANSWERS_strike ?ek_ANSWERS_undo ?ek_ANSWERS_redo ?ek_ANSWERS_row ?ek_ANSWERS_why ?ek_ANSWERS_owes ?ek_ANSWERS_trusts ?em0_ANSWERS ?em1_ANSWERS ?em2_ANSWERS ?em3_ANSWERS ?em4_ANSWERS ?em5_ANSWERS ?em6_ANSWERS ?em7_ANSWERS ?a_COUNTS ?ld_COUNTS ?kl_COUNTS ?lo_COUNTS ?ek_COUNTS_strike ?ek_COUNTS_undo ?ek_COUNTS_redo ?ek_COUNTS_row ?ek_COUNTS_why ?ek_COUNTS_owes ?ek_COUNTS_trusts ?kk_SHAPES ?kk_ANSWERS ?z_super ?htop ?xst ?xsp ?xtk ?a_PikeError ?a_Missing ?a_BadFact ?a_NoFact ?a_Other ?a_Full ?a_Nothing ?at_c_PikeError_init ?lk_c_PikeError_init ?cdk_c_PikeError_init ?kf_c_PikeError_init ?tyf_c_PikeError_init ?fnf_c_PikeError_init ?lc_c_PikeError_init ?ld_c_PikeError_init ?hv_c_PikeError_init ?hf_c_PikeError_init ?at_c_Missing_init ?lk_c_Missing_init ?cdk_c_Missing_init ?kf_c_Missing_init ?tyf_c_Missing_init ?fnf_c_Missing_init ?lc_c_Missing_init ?ld_c_Missing_init ?hv_c_Missing_init ?hf_c_Missing_init ?at_c_BadFact_init ?lk_c_BadFact_init ?cdk_c_BadFact_init ?kf_c_BadFact_init ?tyf_c_BadFact_init ?fnf_c_BadFact_init ?lc_c_BadFact_init ?ld_c_BadFact_init ?hv_c_BadFact_init ?hf_c_BadFact_init ?cl_BadFact ?rf_BadFact ?kn_BadFact ?sa_BadFact ?ex_BadFact ?ty_BadFact ?kp_BadFact ?ga_BadFact ?gg_BadFact ?ic_BadFact ?ca_BadFact ?ob_BadFact ?cn_BadFact ?icb_BadFact ?mr_BadFact ?si_BadFact ?sb_BadFact ?noc_BadFact ?hd_BadFact ?ss_BadFact ?ini_BadFact ?mrs_BadFact ?sos_BadFact ?nof_BadFact ?cl_NoFact ?rf_NoFact ?kn_NoFact ?sa_NoFact ?ex_NoFact ?ty_NoFact ?kp_NoFact ?ga_NoFact ?gg_NoFact ?ic_NoFact ?ca_NoFact ?ob_NoFact ?cn_NoFact ?icb_NoFact ?mr_NoFact ?si_NoFact ?sb_NoFact ?noc_NoFact ?hd_NoFact ?ss_NoFact ?ini_NoFact ?nof_NoFact ?cl_Other ?rf_Other ?kn_Other ?sa_Other ?ex_Other ?ty_Other ?kp_Other ?ga_Other ?gg_Other ?ic_Other ?ca_Other ?ob_Other ?cn_Other ?icb_Other ?mr_Other ?si_Other ?sb_Other ?noc_Other ?hd_Other ?ss_Other ?ini_Other ?cl_Full ?rf_Full ?kn_Full ?sa_Full ?ex_Full ?ty_Full ?kp_Full ?ga_Full ?gg_Full ?ic_Full ?ca_Full ?ob_Full ?cn_Full ?icb_Full ?mr_Full ?si_Full ?sb_Full ?noc_Full ?hd_Full ?ss_Full ?ini_Full ?cl_Nothing ?rf_Nothing ?kn_Nothing ?sa_Nothing ?ex_Nothing ?ty_Nothing ?kp_Nothing ?ga_Nothing ?gg_Nothing ?ic_Nothing ?ca_Nothing ?ob_Nothing ?cn_Nothing ?icb_Nothing ?mr_Nothing ?si_Nothing ?sb_Nothing ?noc_Nothing ?hd_Nothing ?ss_Nothing ?ini_Nothing ?ex_Missing ?ic_Missing ?ty_Missing ?ex_PikeError ?ic_PikeError ?ty_PikeError ?ssx_NoFact_PikeError ?ssx_BadFact_PikeError ?ssx_Other_PikeError ?ssx_Full_PikeError ?ssx_Nothing_PikeError ?ssx_NoFact_Missing ?ssx_BadFact_Missing ?ssx_Other_Missing ?ssx_Full_Missing ?ssx_Nothing_Missing ?a_Roll ?pg_Roll ?hd_Roll ?po_Roll ?sa_Roll ?kp_Roll ?mki_Roll ?ob_Roll ?ic_Roll ?tm_Roll ?nfo_Roll ?clo_Roll ?gto_Roll ?tko_Roll ?na_Roll_states ?na_Roll_undone ?at_c_Roll_init ?fn_c_Roll_init ?lk_c_Roll_init ?cd_ok_c_Roll_init ?kf_c_Roll_init ?at_c_Roll_len ?fn_c_Roll_len ?lk_c_Roll_len ?cd_ok_c_Roll_len ?kf_c_Roll_len ?at_c_Roll_need_standing ?fn_c_Roll_need_standing ?lk_c_Roll_need_standing ?cd_ok_c_Roll_need_standing ?kf_c_Roll_need_standing ?at_c_Roll_enter ?fn_c_Roll_enter ?lk_c_Roll_enter ?cd_ok_c_Roll_enter ?kf_c_Roll_enter ?at_c_Roll_replace_fact ?fn_c_Roll_replace_fact ?lk_c_Roll_replace_fact ?cd_ok_c_Roll_replace_fact ?kf_c_Roll_replace_fact ?at_c_Roll_tell ?fn_c_Roll_tell ?lk_c_Roll_tell ?cd_ok_c_Roll_tell ?kf_c_Roll_tell ?at_c_Roll_right ?fn_c_Roll_right ?lk_c_Roll_right ?cd_ok_c_Roll_right ?kf_c_Roll_right ?at_c_Roll_strike ?fn_c_Roll_strike ?lk_c_Roll_strike ?cd_ok_c_Roll_strike ?kf_c_Roll_strike ?at_c_Roll_undo ?fn_c_Roll_undo ?lk_c_Roll_undo ?cd_ok_c_Roll_undo ?kf_c_Roll_undo ?at_c_Roll_redo ?fn_c_Roll_redo ?lk_c_Roll_redo ?cd_ok_c_Roll_redo ?kf_c_Roll_redo ?at_c_Roll_facts ?fn_c_Roll_facts ?lk_c_Roll_facts ?cd_ok_c_Roll_facts ?kf_c_Roll_facts ?at_c_Roll_told ?fn_c_Roll_told ?lk_c_Roll_told ?cd_ok_c_Roll_told ?kf_c_Roll_told ?at_c_Roll_deeds ?fn_c_Roll_deeds ?lk_c_Roll_deeds ?cd_ok_c_Roll_deeds ?kf_c_Roll_deeds ?at_c_Roll_twin ?fn_c_Roll_twin ?lk_c_Roll_twin ?cd_ok_c_Roll_twin ?kf_c_Roll_twin ?a_Desk ?pg_Desk ?hd_Desk ?po_Desk ?sa_Desk ?kp_Desk ?mki_Desk ?ob_Desk ?ic_Desk ?tm_Desk ?nfo_Desk ?clo_Desk ?gto_Desk ?tko_Desk ?na_Desk_held ?at_c_Desk_init ?fn_c_Desk_init ?lk_c_Desk_init ?cd_ok_c_Desk_init ?kf_c_Desk_init ?dl_c_Desk_init ?at_c_Desk_say ?fn_c_Desk_say ?lk_c_Desk_say ?cd_ok_c_Desk_say ?kf_c_Desk_say ?at_c_Desk_roll ?fn_c_Desk_roll ?lk_c_Desk_roll ?cd_ok_c_Desk_roll ?kf_c_Desk_roll
    (case a0 => k_is)
    (case l0 => k_is)
    (case c0 => k_is)
    (case k0 => k_is)
    (case a1 => k_is)
    (case l1 => k_is)
    (case c1 => k_is)
    (case k1 => k_is)
    (case a2 => k_is)
    (case l2 => k_is)
    (case c2 => k_is)
    (case k2 => k_is)
    (case a3 => k_is)
    (case l3 => k_is)
    (case c3 => k_is)
    (case k3 => k_is)
    (case a4 => k_is)
    (case l4 => k_is)
    (case c4 => k_is)
    (case k4 => k_is)
    (case a5 => k_is)
    (case l5 => k_is)
    (case c5 => k_is)
    (case k5 => k_is)
    (case a6 => k_is)
    (case l6 => k_is)
    (case c6 => k_is)
    (case k6 => k_is)
    (case a7 => k_is)
    (case l7 => k_is)
    (case c7 => k_is)
    (case k7 => k_is)
    (case a8 => k_is)
    (case l8 => k_is)
    (case c8 => k_is)
    (case k8 => k_is)
    (case a9 => k_is)
    (case l9 => k_is)
    (case c9 => k_is)
    (case k9 => k_is)
    (case a10 => k_is)
    (case l10 => k_is)
    (case c10 => k_is)
    (case k10 => k_is)
    (case a11 => k_is)
    (case l11 => k_is)
    (case c11 => k_is)
    (case k11 => k_is)
    (case a12 => k_is)
    (case l12 => k_is)
    (case c12 => k_is)
    (case k12 => k_is)
    (case a13 => k_is)
    (case l13 => k_is)
    (case c13 => k_is)
    (case k13 => k_is)
    (case a14 => k_is)
    (case l14 => k_is)
    (case c14 => k_is)
    (case k14 => k_is)
    (case a15 => k_is)
    (case l15 => k_is)
    (case c15 => k_is)
    (case k15 => k_is)
    (case a16 => k_is)
    (case l16 => k_is)
    (case c16 => k_is)
    (case k16 => k_is)
    (case a17 => k_is)
    (case l17 => k_is)
    (case c17 => k_is)
    (case k17 => k_is)
    (case a18 => k_is)
    (case l18 => k_is)
    (case c18 => k_is)
    (case k18 => k_is)
    (case a19 => k_is)
    (case l19 => k_is)
    (case c19 => k_is)
    (case k19 => k_is)
    (case a20 => k_is)
    (case l20 => k_is)
    (case c20 => k_is)
    (case k20 => k_is)
    (case a21 => k_is)
    (case l21 => k_is)
    (case c21 => k_is)
    (case k21 => k_is)
    (case a22 => k_is)
    (case l22 => k_is)
    (case c22 => k_is)
    (case k22 => k_is)
    (case a23 => k_is)
    (case l23 => k_is)
    (case c23 => k_is)
    (case k23 => k_is)
    (case a24 => k_is)
    (case l24 => k_is)
    (case c24 => k_is)
    (case k24 => k_is)
    (case a25 => k_is)
    (case l25 => k_is)
    (case c25 => k_is)
    (case k25 => k_is)
    (case a26 => k_is)
    (case l26 => k_is)
    (case c26 => k_is)
    (case k26 => k_is)
    (case a27 => k_is)
    (case l27 => k_is)
    (case c27 => k_is)
    (case k27 => k_is)
    (case a28 => k_is)
    (case l28 => k_is)
    (case c28 => k_is)
    (case k28 => k_is)
    (case a29 => k_is)
    (case l29 => k_is)
    (case c29 => k_is)
    (case k29 => k_is)
    (case a30 => k_is)
    (case l30 => k_is)
    (case c30 => k_is)
    (case k30 => k_is)
    (case a31 => k_is)
    (case l31 => k_is)
    (case c31 => k_is)
    (case k31 => k_is)
    (case a32 => k_is)
    (case l32 => k_is)
    (case c32 => k_is)
    (case k32 => k_is)
    (case a33 => k_is)
    (case l33 => k_is)
    (case c33 => k_is)
    (case k33 => k_is)
    (case a34 => k_is)
    (case l34 => k_is)
    (case c34 => k_is)
    (case k34 => k_is)
    (case aL => k_is)
    (case lL => k_is)
    (case cL => k_is)
    (case kL => k_is)
    (case z_len => k_is)
    (case z_isinstance => k_is)
    (case z_tuple => k_is)
    (case z_list => k_is)
    (case z_bool => k_is)
    (case z_range => k_is)
    (case z_int => k_is)
    (case z_set => k_is)
    (case z_sorted => k_is)
    (case z_all => k_is)
    (case z_enumerate => k_is)
    (case z_str => k_is)
    (case z_dict => k_is)
    (case z_min => k_is)
    (case k_MOST_FACTS => k_is)
    (case k_MOST_FIGURES => k_is)
    (case k_DONE => k_is)
    (case a_BOUNDS => k_is)
    (case ld_BOUNDS => k_is)
    (case kl_BOUNDS => k_keys)
    (case ek_BOUNDS_gate => k_is)
    (case lt_BOUNDS_gate => k_is)
    (case ek_BOUNDS_carriage => k_is)
    (case lt_BOUNDS_carriage => k_is)
    (case ek_BOUNDS_trust => k_is)
    (case lt_BOUNDS_trust => k_is)
    (case ek_BOUNDS_day => k_is)
    (case lt_BOUNDS_day => k_is)
    (case ek_BOUNDS_minute => k_is)
    (case lt_BOUNDS_minute => k_is)
    (case ek_BOUNDS_toll => k_is)
    (case lt_BOUNDS_toll => k_is)
    (case ek_BOUNDS_payment => k_is)
    (case lt_BOUNDS_payment => k_is)
    (case ek_BOUNDS_horses => k_is)
    (case lt_BOUNDS_horses => k_is)
    (case ek_BOUNDS_number => k_is)
    (case lt_BOUNDS_number => k_is)
    (case a_SHAPES => k_is)
    (case ld_SHAPES => k_is)
    (case kl_SHAPES => k_keys)
    (case ek_SHAPES_toll => k_is)
    (case lt_SHAPES_toll => k_is)
    (case ek_SHAPES_board => k_is)
    (case lt_SHAPES_board => k_is)
    (case ek_SHAPES_trust => k_is)
    (case lt_SHAPES_trust => k_is)
    (case ek_SHAPES_folk => k_is)
    (case lt_SHAPES_folk => k_is)
    (case ek_SHAPES_bargain => k_is)
    (case lt_SHAPES_bargain => k_is)
    (case ek_SHAPES_pass => k_is)
    (case lt_SHAPES_pass => k_is)
    (case ek_SHAPES_lost => k_is)
    (case lt_SHAPES_lost => k_is)
    (case ek_SHAPES_paid => k_is)
    (case lt_SHAPES_paid => k_is)
    (case lo_SHAPES => first | rfl | decide +kernel)
    (case em0_SHAPES => k_is)
    (case em1_SHAPES => k_is)
    (case em2_SHAPES => k_is)
    (case em3_SHAPES => k_is)
    (case em4_SHAPES => k_is)
    (case a_ANSWERS => k_is)
    (case ld_ANSWERS => k_is)
    (case kl_ANSWERS => k_keys)
    (case lo_ANSWERS => first | rfl | decide +kernel)
    (case ek_ANSWERS_strike => k_is)
    (case ek_ANSWERS_undo => k_is)
    (case ek_ANSWERS_redo => k_is)
    (case ek_ANSWERS_row => k_is)
    (case ek_ANSWERS_why => k_is)
    (case ek_ANSWERS_owes => k_is)
    (case ek_ANSWERS_trusts => k_is)
    (case em0_ANSWERS => k_is)
    (case em1_ANSWERS => k_is)
    (case em2_ANSWERS => k_is)
    (case em3_ANSWERS => k_is)
    (case em4_ANSWERS => k_is)
    (case em5_ANSWERS => k_is)
    (case em6_ANSWERS => k_is)
    (case em7_ANSWERS => k_is)
    (case a_COUNTS => k_is)
    (case ld_COUNTS => k_is)
    (case kl_COUNTS => k_keys)
    (case lo_COUNTS => first | rfl | decide +kernel)
    (case ek_COUNTS_strike => k_is)
    (case ek_COUNTS_undo => k_is)
    (case ek_COUNTS_redo => k_is)
    (case ek_COUNTS_row => k_is)
    (case ek_COUNTS_why => k_is)
    (case ek_COUNTS_owes => k_is)
    (case ek_COUNTS_trusts => k_is)
    (case kk_SHAPES => first | rfl | decide +kernel)
    (case kk_ANSWERS => first | rfl | decide +kernel)
    (case z_super => k_is)
    (case htop => first | rfl | decide +kernel)
    (case xst => k_is)
    (case xsp => k_is)
    (case xtk => k_is)
    (case a_PikeError => k_is)
    (case a_Missing => k_is)
    (case a_BadFact => k_is)
    (case a_NoFact => k_is)
    (case a_Other => k_is)
    (case a_Full => k_is)
    (case a_Nothing => k_is)
    (case at_c_PikeError_init => k_is)
    (case lk_c_PikeError_init => k_is)
    (case cdk_c_PikeError_init => k_is)
    (case kf_c_PikeError_init => k_is)
    (case tyf_c_PikeError_init => k_is)
    (case fnf_c_PikeError_init => k_is)
    (case lc_c_PikeError_init => k_is)
    (case ld_c_PikeError_init => k_is)
    (case hv_c_PikeError_init => rfl)
    (case hf_c_PikeError_init => first | rfl | decide +kernel)
    (case at_c_Missing_init => k_is)
    (case lk_c_Missing_init => k_is)
    (case cdk_c_Missing_init => k_is)
    (case kf_c_Missing_init => k_is)
    (case tyf_c_Missing_init => k_is)
    (case fnf_c_Missing_init => k_is)
    (case lc_c_Missing_init => k_is)
    (case ld_c_Missing_init => k_is)
    (case hv_c_Missing_init => rfl)
    (case hf_c_Missing_init => first | rfl | decide +kernel)
    (case at_c_BadFact_init => k_is)
    (case lk_c_BadFact_init => k_is)
    (case cdk_c_BadFact_init => k_is)
    (case kf_c_BadFact_init => k_is)
    (case tyf_c_BadFact_init => k_is)
    (case fnf_c_BadFact_init => k_is)
    (case lc_c_BadFact_init => k_is)
    (case ld_c_BadFact_init => k_is)
    (case hv_c_BadFact_init => rfl)
    (case hf_c_BadFact_init => first | rfl | decide +kernel)
    (case cl_BadFact => k_is)
    (case rf_BadFact => decide +kernel)
    (case kn_BadFact => rfl)
    (case sa_BadFact => k_is)
    (case ex_BadFact => k_is)
    (case ty_BadFact => k_is)
    (case kp_BadFact => k_is)
    (case ga_BadFact => k_is)
    (case gg_BadFact => k_is)
    (case ic_BadFact => k_is)
    (case ca_BadFact => k_is)
    (case ob_BadFact => k_is)
    (case cn_BadFact => k_is)
    (case icb_BadFact => k_is)
    (case mr_BadFact => k_is)
    (case si_BadFact => ks_is)
    (case sb_BadFact => k_is)
    (case noc_BadFact => k_is)
    (case hd_BadFact => k_is)
    (case ss_BadFact => first | rfl | k_is)
    (case ini_BadFact => k_is)
    (case mrs_BadFact => k_is)
    (case sos_BadFact => ks_is)
    (case nof_BadFact => k_is)
    (case cl_NoFact => k_is)
    (case rf_NoFact => decide +kernel)
    (case kn_NoFact => rfl)
    (case sa_NoFact => k_is)
    (case ex_NoFact => k_is)
    (case ty_NoFact => k_is)
    (case kp_NoFact => k_is)
    (case ga_NoFact => k_is)
    (case gg_NoFact => k_is)
    (case ic_NoFact => k_is)
    (case ca_NoFact => k_is)
    (case ob_NoFact => k_is)
    (case cn_NoFact => k_is)
    (case icb_NoFact => k_is)
    (case mr_NoFact => k_is)
    (case si_NoFact => ks_is)
    (case sb_NoFact => k_is)
    (case noc_NoFact => k_is)
    (case hd_NoFact => k_is)
    (case ss_NoFact => first | rfl | k_is)
    (case ini_NoFact => k_is)
    (case nof_NoFact => k_is)
    (case cl_Other => k_is)
    (case rf_Other => decide +kernel)
    (case kn_Other => rfl)
    (case sa_Other => k_is)
    (case ex_Other => k_is)
    (case ty_Other => k_is)
    (case kp_Other => k_is)
    (case ga_Other => k_is)
    (case gg_Other => k_is)
    (case ic_Other => k_is)
    (case ca_Other => k_is)
    (case ob_Other => k_is)
    (case cn_Other => k_is)
    (case icb_Other => k_is)
    (case mr_Other => k_is)
    (case si_Other => ks_is)
    (case sb_Other => k_is)
    (case noc_Other => k_is)
    (case hd_Other => k_is)
    (case ss_Other => first | rfl | k_is)
    (case ini_Other => k_is)
    (case cl_Full => k_is)
    (case rf_Full => decide +kernel)
    (case kn_Full => rfl)
    (case sa_Full => k_is)
    (case ex_Full => k_is)
    (case ty_Full => k_is)
    (case kp_Full => k_is)
    (case ga_Full => k_is)
    (case gg_Full => k_is)
    (case ic_Full => k_is)
    (case ca_Full => k_is)
    (case ob_Full => k_is)
    (case cn_Full => k_is)
    (case icb_Full => k_is)
    (case mr_Full => k_is)
    (case si_Full => ks_is)
    (case sb_Full => k_is)
    (case noc_Full => k_is)
    (case hd_Full => k_is)
    (case ss_Full => first | rfl | k_is)
    (case ini_Full => k_is)
    (case cl_Nothing => k_is)
    (case rf_Nothing => decide +kernel)
    (case kn_Nothing => rfl)
    (case sa_Nothing => k_is)
    (case ex_Nothing => k_is)
    (case ty_Nothing => k_is)
    (case kp_Nothing => k_is)
    (case ga_Nothing => k_is)
    (case gg_Nothing => k_is)
    (case ic_Nothing => k_is)
    (case ca_Nothing => k_is)
    (case ob_Nothing => k_is)
    (case cn_Nothing => k_is)
    (case icb_Nothing => k_is)
    (case mr_Nothing => k_is)
    (case si_Nothing => ks_is)
    (case sb_Nothing => k_is)
    (case noc_Nothing => k_is)
    (case hd_Nothing => k_is)
    (case ss_Nothing => first | rfl | k_is)
    (case ini_Nothing => k_is)
    (case ex_Missing => k_is)
    (case ic_Missing => k_is)
    (case ty_Missing => k_is)
    (case ex_PikeError => k_is)
    (case ic_PikeError => k_is)
    (case ty_PikeError => k_is)
    (case ssx_NoFact_PikeError => k_is)
    (case ssx_BadFact_PikeError => k_is)
    (case ssx_Other_PikeError => k_is)
    (case ssx_Full_PikeError => k_is)
    (case ssx_Nothing_PikeError => k_is)
    (case ssx_NoFact_Missing => k_is)
    (case ssx_BadFact_Missing => k_is)
    (case ssx_Other_Missing => k_is)
    (case ssx_Full_Missing => k_is)
    (case ssx_Nothing_Missing => k_is)
    (case a_Roll => k_is)
    (case pg_Roll => k_is)
    (case hd_Roll => k_is)
    (case po_Roll => k_is)
    (case sa_Roll => k_is)
    (case kp_Roll => k_is)
    (case mki_Roll => k_is)
    (case ob_Roll => k_is)
    (case ic_Roll => k_is)
    (case tm_Roll => k_is)
    (case nfo_Roll => k_is)
    (case clo_Roll => k_is)
    (case gto_Roll => k_is)
    (case tko_Roll => k_is)
    (case na_Roll_states => k_is)
    (case na_Roll_undone => k_is)
    (case at_c_Roll_init => k_is)
    (case fn_c_Roll_init => k_is)
    (case lk_c_Roll_init => k_is)
    (case cd_ok_c_Roll_init => k_is)
    (case kf_c_Roll_init => k_is)
    (case at_c_Roll_len => k_is)
    (case fn_c_Roll_len => k_is)
    (case lk_c_Roll_len => k_is)
    (case cd_ok_c_Roll_len => k_is)
    (case kf_c_Roll_len => k_is)
    (case at_c_Roll_need_standing => k_is)
    (case fn_c_Roll_need_standing => k_is)
    (case lk_c_Roll_need_standing => k_is)
    (case cd_ok_c_Roll_need_standing => k_is)
    (case kf_c_Roll_need_standing => k_is)
    (case at_c_Roll_enter => k_is)
    (case fn_c_Roll_enter => k_is)
    (case lk_c_Roll_enter => k_is)
    (case cd_ok_c_Roll_enter => k_is)
    (case kf_c_Roll_enter => k_is)
    (case at_c_Roll_replace_fact => k_is)
    (case fn_c_Roll_replace_fact => k_is)
    (case lk_c_Roll_replace_fact => k_is)
    (case cd_ok_c_Roll_replace_fact => k_is)
    (case kf_c_Roll_replace_fact => k_is)
    (case at_c_Roll_tell => k_is)
    (case fn_c_Roll_tell => k_is)
    (case lk_c_Roll_tell => k_is)
    (case cd_ok_c_Roll_tell => k_is)
    (case kf_c_Roll_tell => k_is)
    (case at_c_Roll_right => k_is)
    (case fn_c_Roll_right => k_is)
    (case lk_c_Roll_right => k_is)
    (case cd_ok_c_Roll_right => k_is)
    (case kf_c_Roll_right => k_is)
    (case at_c_Roll_strike => k_is)
    (case fn_c_Roll_strike => k_is)
    (case lk_c_Roll_strike => k_is)
    (case cd_ok_c_Roll_strike => k_is)
    (case kf_c_Roll_strike => k_is)
    (case at_c_Roll_undo => k_is)
    (case fn_c_Roll_undo => k_is)
    (case lk_c_Roll_undo => k_is)
    (case cd_ok_c_Roll_undo => k_is)
    (case kf_c_Roll_undo => k_is)
    (case at_c_Roll_redo => k_is)
    (case fn_c_Roll_redo => k_is)
    (case lk_c_Roll_redo => k_is)
    (case cd_ok_c_Roll_redo => k_is)
    (case kf_c_Roll_redo => k_is)
    (case at_c_Roll_facts => k_is)
    (case fn_c_Roll_facts => k_is)
    (case lk_c_Roll_facts => k_is)
    (case cd_ok_c_Roll_facts => k_is)
    (case kf_c_Roll_facts => k_is)
    (case at_c_Roll_told => k_is)
    (case fn_c_Roll_told => k_is)
    (case lk_c_Roll_told => k_is)
    (case cd_ok_c_Roll_told => k_is)
    (case kf_c_Roll_told => k_is)
    (case at_c_Roll_deeds => k_is)
    (case fn_c_Roll_deeds => k_is)
    (case lk_c_Roll_deeds => k_is)
    (case cd_ok_c_Roll_deeds => k_is)
    (case kf_c_Roll_deeds => k_is)
    (case at_c_Roll_twin => k_is)
    (case fn_c_Roll_twin => k_is)
    (case lk_c_Roll_twin => k_is)
    (case cd_ok_c_Roll_twin => k_is)
    (case kf_c_Roll_twin => k_is)
    (case a_Desk => k_is)
    (case pg_Desk => k_is)
    (case hd_Desk => k_is)
    (case po_Desk => k_is)
    (case sa_Desk => k_is)
    (case kp_Desk => k_is)
    (case mki_Desk => k_is)
    (case ob_Desk => k_is)
    (case ic_Desk => k_is)
    (case tm_Desk => k_is)
    (case nfo_Desk => k_is)
    (case clo_Desk => k_is)
    (case gto_Desk => k_is)
    (case tko_Desk => k_is)
    (case na_Desk_held => k_is)
    (case at_c_Desk_init => k_is)
    (case fn_c_Desk_init => k_is)
    (case lk_c_Desk_init => k_is)
    (case cd_ok_c_Desk_init => k_is)
    (case kf_c_Desk_init => k_is)
    (case dl_c_Desk_init => k_is)
    (case at_c_Desk_say => k_is)
    (case fn_c_Desk_say => k_is)
    (case lk_c_Desk_say => k_is)
    (case cd_ok_c_Desk_say => k_is)
    (case kf_c_Desk_say => k_is)
    (case at_c_Desk_roll => k_is)
    (case fn_c_Desk_roll => k_is)
    (case lk_c_Desk_roll => k_is)
    (case cd_ok_c_Desk_roll => k_is)
    (case kf_c_Desk_roll => k_is)
#print axioms PySem.Challenge.cw_pikeroll_k34_lines_that_a_desk_knows_not_holds
